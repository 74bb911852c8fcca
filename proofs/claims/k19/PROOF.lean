import PyProof.Rows.All
import Wide.All
import OpenK.AllK
import Wide.FinOn
import PySem.Challenge.RW_callbells_k19_whole_lower_ranks_do_not_m
import KE.KStateDown
import KE.GoesEnum
import HandS.ForExc
import HandS.ForMost
import HandS.Defaults
import HandS.More
import HandS.Star
import HandS.IsInst
import HandS.DictComp
import HandS.Property
import HandS.ClsMeth
import HandS.Walk
import HandS.Sort
import HandS.SortOrd
import HandS.SortRule
import HandS.Codes
import HandS.Head0
import HandS.Head1
import HandS.Head2
import HandS.HeadEnd
import HandS.HeadHook1
import HandS.HeadHook2
import HandS.HeadHook3
import HandS.HeadNt
import HandS.StrMore
import HandS.Deep
import HandS.DeepEq
import HandS.Flow
import HandS.TupAny
import HandS.Conv
set_option Elab.async false
set_option linter.all false
set_option maxRecDepth 100000
set_option maxHeartbeats 0
/-! own rules: in and [] by an own class, enumerate over a tuple, an item for an augmented store -/
namespace Cb
open PySem PySem.Spec PyProof.Rows L2
section
variable {X : Cx} {CX : CXT} {k : Nat} {C f : Addr} {fd : FuncData} {ps : List Str} {sp : Sp} {E : XK}

/-- the promise of a method at an object, called by an operator -/
def rOwnB (C : Addr) (sp : Sp) (E : XK) (g : Bool → Bool) : R2 := fun x y H Q =>
  ∃ a dx fs, y = .ref a ∧ H a = some (.ins C dx fs) ∧ sp [.ref a, x] H (fun v H' => ∃ b, v = .bl b ∧ Q (.bl (g b)) H') E
def rOwnI (C : Addr) (sp : Sp) (E : XK) : R2 := fun x y H Q => ∃ a dx fs, x = .ref a ∧ H a = some (.ins C dx fs) ∧ sp [.ref a, y] H Q E

theorem op_inOwn (F : FnOk X.prog X.w X.K X.mg X.base CX k f fd ps sp) (hr : Room k X.A) (hb : Binds X.K fd ps []) (hx : Passes CX X E)
    (hs : PySem.W.findIn X.K (.ref C) "__contains__" = some (some (.ref f))) (hf : PySem.W.isFn X.K (.ref f) = true) : OpR X (compareOp .In) (rOwnB C sp E id) := by
  intro pins s σ H x y v u Q I rx ry h
  obtain ⟨a, dx, fs, rfl, ha, hq⟩ := h
  cases ry
  obtain ⟨_, J0, _⟩ := ins_get I.hok ha
  obtain ⟨_, J, _⟩ := J0.look
  obtain ⟨m, hF⟩ := I.fr
  refine PySem.W.in_K hF I.ok.mod.kin J hs hf ?_
  refine thn (run_fn (us := [.ref a, v]) (vs := [.ref a, x]) F hr hb (.nil : Vals [] []) hx I (.cons rfl (.cons rx .nil)) hq) fun w s1 z => ?_
  obtain ⟨r, H1, I1, rw1, b, rfl, q⟩ := z
  cases rw1
  exact wpAny_truthy_bool ⟨.bl b, H1, I1, rfl, q⟩
theorem op_ninOwn (F : FnOk X.prog X.w X.K X.mg X.base CX k f fd ps sp) (hr : Room k X.A) (hb : Binds X.K fd ps []) (hx : Passes CX X E)
    (hs : PySem.W.findIn X.K (.ref C) "__contains__" = some (some (.ref f))) (hf : PySem.W.isFn X.K (.ref f) = true) : OpR X (compareOp .NotIn) (rOwnB C sp E not) := by
  intro pins s σ H x y v u Q I rx ry h
  obtain ⟨a, dx, fs, rfl, ha, hq⟩ := h
  cases ry
  obtain ⟨_, J0, _⟩ := ins_get I.hok ha
  obtain ⟨_, J, _⟩ := J0.look
  obtain ⟨m, hF⟩ := I.fr
  refine PySem.W.notIn_K hF I.ok.mod.kin J hs hf ?_
  refine thn (run_fn (us := [.ref a, v]) (vs := [.ref a, x]) F hr hb (.nil : Vals [] []) hx I (.cons rfl (.cons rx .nil)) hq) fun w s1 z => ?_
  obtain ⟨r, H1, I1, rw1, b, rfl, q⟩ := z
  cases rw1
  exact wpAny_truthy_bool ⟨.bl (!b), H1, I1, rfl, q⟩
theorem get_own (F : FnOk X.prog X.w X.K X.mg X.base CX k f fd ps sp) (hr : Room k X.A) (hb : Binds X.K fd ps []) (hx : Passes CX X E) (hq0 : PySem.W.noSeq X.K C = true)
    (hs : PySem.W.findIn X.K (.ref C) "__getitem__" = some (some (.ref f))) (hf : PySem.W.isFn X.K (.ref f) = true) : PGet X (rOwnI C sp E) := by
  intro pins s σ H x y v u Q I rx ry h
  obtain ⟨a, dx, fs, rfl, ha, hq⟩ := h
  cases rx
  obtain ⟨_, J0, _⟩ := ins_get I.hok ha
  obtain ⟨_, J, _⟩ := J0.look
  obtain ⟨m, hF⟩ := I.fr
  refine PySem.W.getItem_K hF I.ok.mod.kin J hq0 hs hf ?_
  exact run_fn (us := [.ref a, u]) (vs := [.ref a, y]) F hr hb (.nil : Vals [] []) hx I (.cons rfl (.cons ry .nil)) hq

theorem pe_ixOwn {a b : Expr} {ta tb : TE} {pos : Pos} (F : FnOk X.prog X.w X.K X.mg X.base CX k f fd ps sp) (hr : Room (k + 1) X.A) (hb : Binds X.K fd ps []) (hx : Passes CX X E)
    (hs : PySem.W.findIn X.K (.ref C) "__getitem__" = some (some (.ref f))) (hf : PySem.W.isFn X.K (.ref f) = true) (hfn : PySem.W.fnIn X.K f = true) (ha : PE X a ta) (hi : PE X b tb)
    (hsl : ∀ o i, subscripted b true o i = runValue (.builtin "lifetime.subscript" ⟨[o, i], []⟩) := by intro _ _; rfl) : PE X (.Subscript a b pos) (tOp (rOwnI C sp E) ta tb) := by
  refine ⟨fun pins s0 σ H0 Q I0 h => ?_⟩
  refine Subscript_ (binT ha hi I0 h fun v u s x y H I rx ry hq1 => ?_)
  obtain ⟨a, dx, fs, rfl, hA, hq⟩ := hq1
  cases rx
  obtain ⟨_, J0, _⟩ := ins_get I.hok hA
  obtain ⟨_, J, _⟩ := J0.look
  obtain ⟨m, hF⟩ := I.fr
  refine PySem.W.sub_K hF I.ok.mod.kin J hs hfn hf ?_ (hsl _ _)
  have r2 : Vals [V.ref a, y] [Value.ref a, u] := .cons rfl (.cons ry .nil)
  have hl : ([Value.ref a, u] : List Value).length = ps.length := F.len _ _ _ _ hq
  have bt := hb s [Value.ref a, u] I.kIn (by simpa using hl)
  rw [List.append_nil] at bt
  refine wpAny_call (codeAny_mono (F.run X.A.in1 X.stack s H ⟨[.ref a, u], []⟩ _ _ Q E hr.in1 I.env0.in1 bt r2 hq) fun r s' z => ?_)
  cases r with
  | error e => exact hx pins σ H s e s' I z
  | ok fl => cases fl with
    | ret w => exact I.after z
    | _ => exact False.elim z
end
end Cb

namespace Cb
open PySem PySem.Spec PyProof.Rows L2
open Sem (wp)
/-! enumerate over a tuple -/
abbrev itO (t : Addr) : Obj := { cls := .type "tuple_iterator", data := .fields #[.ref t, .int 0 0] }
abbrev enO (i : Addr) : Obj := { cls := .type "enumerate", data := .fields #[.none, .bool false, .ref i, rawInt 0, .none, .none] }
theorem newT (t : Addr) (its : Array Value) :
    Meets (Builtin.«enumerate.__new__» ⟨[.type "enumerate", .ref t], []⟩) (fun _ R s => s.heap.IsTuple t its ∧ R (.ok (.ret (.ref (s.heap.push (itO t)).objs.size)))
        { s with heap := (s.heap.push (itO t)).push (enO s.heap.objs.size) }) := by
  refine .of_wp fun prog w A R s h => ?_
  obtain ⟨hp, g, d, tk, os⟩ := s
  obtain ⟨h1, h⟩ := h
  have sub0 := sub_enumerate
  have q1 : ∀ {A' : Around} {E : Value → Shared → Prop} {Q : Value → Shared → Prop}, Q (.ref hp.objs.size) ⟨hp.push (itO t), g, d, tk, os⟩ → wpAny (model prog w) A' (pyIter (.ref t)) Q E ⟨hp, g, d, tk, os⟩ :=
    fun q => (begins_tuple t its).iter prog w _ _ ⟨hp, g, d, tk, os⟩ _ h1 q
  wp_walk using q1
  refine wpAny_stack_any fun st => wpAny_pure ?_
  split
  · rename_i c _ _ _ _ _
    cases (c == Value.type "enumerate") <;> (wp_walk using q1; exact ⟨_, rfl, h⟩)
  · wp_walk using q1
    exact ⟨_, rfl, h⟩
section
variable {prog : Program} {w : World} {A : Around} {E : Value → Shared → Prop} {s : Shared}
theorem call_enumT {t : Addr} {its : Array Value} {Q : Value → Shared → Prop} (hL : s.heap.IsTuple t its)
    (h : ∀ h', IsEnum h' (s.heap.objs.size + 1) s.heap.objs.size 0 .none → h'.IsTupleIter s.heap.objs.size t 0 → h'.objs.size = s.heap.objs.size + 2 →
      (∀ b o, s.heap.get? b = some o → h'.get? b = some o) → Q (.ref (s.heap.objs.size + 1)) { s with heap := h' }) :
    wpAny (model prog w) A (call (.type "enumerate") [.ref t]) Q E s := by
  refine callType_new F.called_enumerate (by decide) (F.typeCall_enumerate_1 _) (F.newCall_enumerate_1 _) (fun obj => F.args_object_init_2 obj _) F.entry_enumerate_new (newT t its) ⟨hL, ?_⟩
  have hz : (s.heap.push (itO t)).objs.size = s.heap.objs.size + 1 := Heap.size_push ..
  show _ ∧ _
  rw [hz]
  have he : IsEnum ((s.heap.push (itO t)).push (enO s.heap.objs.size)) (s.heap.objs.size + 1) s.heap.objs.size 0 .none := by
    have z := Heap.get?_push_size (s.heap.push (itO t)) (o := enO s.heap.objs.size) rfl
    rw [hz] at z
    exact z
  exact ⟨⟨_, he, rfl⟩, h _ he ⟨_, Heap.get?_push_of_some _ (Heap.get?_push_size _ rfl), rfl, rfl⟩ (by rw [Heap.size_push, hz]) fun b o x => Heap.get?_push_of_some _ (Heap.get?_push_of_some _ x)⟩
end
/-- the tuple at a, each item in a new pair -/
def Iet (K : PySem.W.Frag) (a : Addr) : It :=
  ⟨fun i H => ∃ (xs : List V) (x : V), SqT K H a xs ∧ xs[i]? = some x,
   fun i H v H' => ∃ T x, v = .ref T ∧ H T = none ∧ H' = upd H T (.tup [.int (i : Nat), x]) ∧ ∀ xs, SqT K H a xs → xs[i]? = some x,
   fun i H => ∃ xs : List V, SqT K H a xs ∧ xs.length ≤ i⟩
theorem turn_enumT {P : Program} {w : World} {K : PySem.W.Frag} {elts : List Expr} {kk : Nat} {tpos : Pos} (a e it : Addr) :
    Turn P w K (.Tuple elts kk tpos) (Iet K a) [e, it] e (fun i h => (∃ old, IsEnum h e it ((i : Nat) : Int) old) ∧ h.IsTupleIter it a i ∧ e ≠ it) where
  mem := by simp
  obj := fun i h st b hb => by
    obtain ⟨⟨old, he⟩, ⟨o, ho, hc, hd⟩, _⟩ := st
    rcases List.mem_cons.mp hb with z | z
    · subst z
      exact ⟨_, he, fun v q => nomatch q⟩
    · rw [List.mem_singleton.mp z]
      exact ⟨o, ho, fun v q => by rw [hd] at q; cases q⟩
  keep := fun i h h' st k => by
    obtain ⟨⟨old, he⟩, hi, hne⟩ := st
    exact ⟨⟨old, k e (by simp) _ he⟩, hi.at fun o q => k it (by simp) o q, hne⟩
  item := by
    intro X hP hw hK hc i pins s σ H E I hf st hg
    subst hP hw hK
    obtain ⟨⟨old, he⟩, hit, hne⟩ := st
    obtain ⟨xs, x, hq, hx⟩ := hg
    obtain ⟨its, rv, p, hz⟩ := I.tuple hq
    have pT : s.heap.IsTuple a its.toArray := p
    obtain ⟨u, hu, ru⟩ := rv.get hx
    have hel : e < s.heap.objs.size := Heap.lt_size he
    have hil : it < s.heap.objs.size := by
      obtain ⟨_, q, _⟩ := hit
      exact Heap.lt_size q
    obtain ⟨ot, hot, hct, _⟩ := id pT
    have nea : e ≠ a := by
      rintro rfl
      rw [he] at hot
      have z := Option.some.inj hot
      rw [← z] at hct
      injection hct with z3
      exact absurd z3 (by decide)
    have nia : a ≠ it := by
      rintro rfl
      obtain ⟨o2, ho2, hc2, _⟩ := id hit
      rw [ho2] at hot
      have z := Option.some.inj hot
      rw [z, hct] at hc2
      injection hc2 with z3
      exact absurd z3 (by decide)
    have D := Draws.tuple (prog := X.prog) (w := X.w) (A := X.A.in1) (by exact I.ok.hd hc) it a nia its.toArray
    have hlt : i < its.toArray.size := by
      have z := (List.getElem?_eq_some_iff.mp hu).1
      simpa using z
    refine wpAny_pyNext_enum_itemD D he ⟨hit, pT⟩ hlt hne (by simp [hne, nea]) fun y h' tk hy ho hit' hT hsz hk => ?_
    have ey : y = u := by
      have z : its[i]? = some y := by simpa using hy
      exact Option.some.inj (z.symm.trans hu)
    subst ey
    refine ⟨_, rfl, wpAny_letOwnedTupleGo_enum (s := { s with heap := h', toks := tk + 1 }) ho fun h'' he' sb => ?_⟩
    have hT2 : h''.get? s.heap.objs.size = some { cls := .type "tuple", data := .seq #[.int i tk, y] } := (sb.2 _ (Nat.ne_of_gt hel)).trans hT
    have new : ObjOk X.prog X.w (upd H s.heap.objs.size (.tup [.int (i : Nat), x])) h'' s.heap.objs.size (.tup [.int (i : Nat), x]) :=
      ⟨by show 2 ≤ sizeLine; decide, [.int i tk, y], .cons ⟨_, rfl⟩ (.cons ru .nil), ⟨_, hT2, rfl, _, rfl⟩⟩
    have I1 : Inv X pins σ (upd H s.heap.objs.size (.tup [.int (i : Nat), x])) { s with heap := h'', toks := tk + 1 } := by
      refine I.turnedNew (ch := [e, it]) (fun b ob hb q => ?_) hf (Nat.le_refl _) new
      have b1 : b ≠ e := fun z => hb (by simp [z])
      have b2 : b ≠ it := fun z => hb (by simp [z])
      exact (sb.2 b b1).trans (hk b ob b1 b2 q)
    refine ⟨.ref s.heap.objs.size, _, I1, rfl, ⟨_, x, rfl, I.hok.fresh (Nat.le_refl _), rfl, fun ys hy => by rw [I.tuple_inj hy hq]; exact hx⟩, ⟨⟨y, ?_⟩, hit'.1.at fun o q => (sb.2 it (Ne.symm hne)).trans q, hne⟩, fun b hb => ?_⟩
    · rw [show ((i + 1 : Nat) : Int) = (i : Int) + 1 by omega]
      exact he'
    · have hb' : b < s.heap.objs.size := by
        rcases List.mem_cons.mp hb with z | z
        · rw [z]
          exact hel
        · rw [List.mem_singleton.mp z]
          exact hil
      rw [upd_ne (Nat.ne_of_lt hb')]
      exact (hf b hb).1
  done := by
    intro X hP hw hK hc i pins s σ H E I hf st hg
    subst hP hw hK
    obtain ⟨⟨old, he⟩, hit, hne⟩ := st
    obtain ⟨xs, hq, hx⟩ := hg
    obtain ⟨its, rv, p, hz⟩ := I.tuple hq
    have pT : s.heap.IsTuple a its.toArray := p
    obtain ⟨f0, f1, f2, f3, f4, f5⟩ := hf it (by simp)
    obtain ⟨ot, hot, hct, _⟩ := id pT
    have nia : a ≠ it := by
      rintro rfl
      obtain ⟨o2, ho2, hc2, _⟩ := id hit
      rw [ho2] at hot
      have z := Option.some.inj hot
      rw [z, hct] at hc2
      injection hc2 with z3
      exact absurd z3 (by decide)
    have hT : s.TypeIs (.ref e) "enumerate" := ⟨_, he, rfl⟩
    have hlen : its.toArray.size ≤ i := by
      have z := rv.length
      simp
      omega
    unfold pyNext
    refine wpAny_bind (wpAny_attempt (wpAny_callSpecial?_slot (name := Str.ofString "__next__") hT F.slot_enumerate_next (wpAny_call_entry F.slot_enumerate_next hT F.entry_enumerate_next ?_ (F.args_enumerate_next_1 _))))
    show wpAny _ _ (field (.ref e) 2 >>= _) _ _ _
    refine wpAny_bind (wpAny_field he rfl (x := .ref it) rfl ?_)
    refine wpAny_bind (wpAny_nextOf_tuple_end (A := X.A.in1) (by exact I.ok.hd hc) hit pT (by simpa using hlen) fun h' x he' hx' => ?_)
    obtain ⟨o, ho, hc'⟩ := hx'
    refine wpAny_bind (wpAny_isInstance (T := "StopIteration") (b := true) ⟨o, ho, hc'⟩ isSubtype_stop ?_)
    exact wpAny_pure ⟨rfl, I.turned (t' := s.toks) (fun b o hb q => he' b o hb q) f0 f1 f3 f4 f5⟩
  self := fun A i s Q E st h => let ⟨⟨_, he⟩, _⟩ := st; wpAny_pyIter_enum he h
def iEnumT (K : PySem.W.Frag) (ta : TA) : TI := fun σ H R => ta σ H fun vs H1 => ∃ a xs, vs = [.ref a] ∧ SqT K H1 a xs ∧ R (Iet K a) H1
theorem pi_enumT {X : Cx} {e : Expr} {ta : TA} {p pos tpos : Pos} {elts : List Expr} {kk : Nat} (hg : Gl X "enumerate") (hm : X.mg "enumerate" = none) (ha : PA X [e] ta)
    (hs : starEach [e] X.env = [(false, eval e X.env)] := by rfl) : PI X (.Tuple elts kk tpos) (.Call (.Name "enumerate" p) [e] [] pos) (iEnumT X.K ta) := by
  refine ⟨fun pins s σ H R I h => ?_⟩
  refine Call_ (ld_blt I hg hm boot_enumerate (PyProof.Rows.callWith_type1 (thn (ha.run pos pins s σ H _ I h) fun us s1 z => ?_) hs rfl))
  obtain ⟨vs, H1, I1, r1, a, xs, ex, hq, q⟩ := z
  subst ex
  cases r1 with
  | cons r rr =>
    cases rr
    cases r
    obtain ⟨its, rv, p', hz⟩ := I1.tuple hq
    have pT : s1.heap.IsTuple a its.toArray := p'
    refine call_enumT pT fun h' he hit hsz hk => wpAny_pyIter_enum he ?_
    have I2 : Inv X pins σ H1 { s1 with heap := h' } := I1.kept (t' := s1.toks) hk
    refine ⟨s1.heap.objs.size + 1, [s1.heap.objs.size + 1, s1.heap.objs.size], _, _, H1, rfl, I2, turn_enumT a (s1.heap.objs.size + 1) s1.heap.objs.size, ⟨⟨.none, he⟩, hit, Nat.succ_ne_self _⟩, fun b hb => ?_, q⟩
    have hle : s1.heap.objs.size ≤ b := by
      rcases List.mem_cons.mp hb with y | y
      · exact y ▸ Nat.le_succ _
      · exact Nat.le_of_eq (List.mem_singleton.mp y).symm
    exact I1.fpOk hle (I1.hok.fresh hle)
theorem walk_enumT {K : PySem.W.Frag} {a : Addr} {xs : List V} : Walk (Iet K a) xs.length (fun H => SqT K H a xs) (YPair (fun i => some (.int (i : Nat))) (fun i => xs[i]?)) := by
  refine ⟨fun i _ hi q => ⟨xs, xs[i], q, by simp [hi]⟩, fun _ q => ⟨xs, q, Nat.le_refl _⟩, fun i H v H' _ q y => ?_⟩
  obtain ⟨T, x, y1, y2, y3, y4⟩ := y
  exact ⟨T, _, x, y1, y2, y3, rfl, y4 xs q⟩
/-- a dict comprehension over a walk -/
theorem dc_it {J : It} {n : Nat} {G : Hp → Prop} {Y : Nat → Hp → V → Hp → Prop} (w : Walk J n G Y) {g : TG} {tt : TT} {tk tv : TE} {vs : List Nat} {σ : L2.St} {H1 : Hp} {D : Addr} {Qd : Hp → Prop}
    (Pv : Nat → Hp → Prop) (h0 : Pv 0 (upd H1 D (.dK []))) (hG : ∀ i H, i ≤ n → Pv i H → G H)
    (hs : ∀ i x H H', i < n → Pv i H → Y i H x H' → g x (wipe σ vs) H' fun σ2 H2 => wipe σ2 vs = wipe σ vs ∧ tt σ2 H2 fun b H3 =>
      if b = true then tk σ2 H3 fun y H4 => tv σ2 H4 fun z H5 => ∃ kvs k, y = kV k ∧ H5 D = some (.dK kvs) ∧ kvs.length < sizeLine ∧ Pv (i + 1) (upd H5 D (.dK (putK kvs k z))) else Pv (i + 1) H3)
    (hd : ∀ H, Pv n H → Qd H) :
    ∃ W : Nat → Nat → Hp → Prop, (∃ m, W 0 m (upd H1 D (.dK []))) ∧ ∀ i m H, W i m H →
      (J.stop i H ∧ Qd H) ∨ (J.go i H ∧ ∃ Nx : Hp → Prop, (∀ H', Nx H' → ∃ m', m' < m ∧ W (i + 1) m' H') ∧ ∀ x H', J.yld i H x H' → g x (wipe σ vs) H' fun σ2 H2 => wipe σ2 vs = wipe σ vs ∧ tt σ2 H2 fun b H3 =>
        if b = true then tk σ2 H3 fun y H4 => tv σ2 H4 fun z H5 => ∃ kvs k, y = kV k ∧ H5 D = some (.dK kvs) ∧ kvs.length < sizeLine ∧ Nx (upd H5 D (.dK (putK kvs k z))) else Nx H3) := by
  refine ⟨fun i m H => m = n - i ∧ i ≤ n ∧ Pv i H, ⟨n, by simp, Nat.zero_le _, h0⟩, ?_⟩
  rintro i m H ⟨rfl, hi, p⟩
  have q := hG i H hi p
  rcases Nat.lt_or_ge i n with hlt | hge
  · exact .inr ⟨w.goes i H hlt q, Pv (i + 1), fun H' p' => ⟨n - (i + 1), by omega, rfl, hlt, p'⟩, fun x H' y => hs i x H H' hlt p (w.yields i H x H' hlt q y)⟩
  · obtain rfl : i = n := by omega
    exact .inl ⟨w.stops H q, hd H p⟩
/-- an item, for an augmented store -/
theorem get_list {X : Cx} : PGet X (fun x y H Q => ∃ p xs j v, x = .ref p ∧ y = .int (j : Nat) ∧ SqL X.K H p xs ∧ xs[j]? = some v ∧ Q v H) := by
  intro pins s σ H x y v u Q I rx ry h
  obtain ⟨p, xs, j, z, rfl, rfl, hq, he, q⟩ := h
  cases rx
  obtain ⟨t, rfl⟩ := ry
  obtain ⟨its, r, pl, hz⟩ := I.list hq
  obtain ⟨w, ew, rw'⟩ := r.get he
  have hj : j < its.length := (List.getElem?_eq_some_iff.mp ew).1
  have h63 := line63
  have hl := r.length
  exact wpAny_getItem_list pl.isList (by omega) (by omega) (by simpa using ew) ⟨z, H, I, rw', q⟩
end Cb

/-! sorted of pairs of an int and a text -/
namespace Cb
open PySem PySem.Spec PyProof.Rows L2
def strLt (x y : Str) : Bool := decide (x.cps.toList < y.cps.toList)
def lexIS (p q : Int × Str) : Bool := if p.1 = q.1 then strLt p.2 q.2 else decide (p.1 < q.1)
theorem strLt_asym {x y : Str} (h : strLt x y = true) : strLt y x = false := by
  have a : x.cps.toList < y.cps.toList := of_decide_eq_true h
  exact decide_eq_false (List.lt_asymm a)
theorem strLt_tr {x y z : Str} (h1 : strLt y x = false) (h2 : strLt z y = false) : strLt z x = false := by
  have a : ¬ y.cps.toList < x.cps.toList := of_decide_eq_false h1
  have b : ¬ z.cps.toList < y.cps.toList := of_decide_eq_false h2
  exact decide_eq_false (List.not_lt.mpr (List.le_trans (List.not_lt.mp a) (List.not_lt.mp b)))
theorem lexIS_swo {α : Type} (k : α → Int × Str) : SrtO.Swo fun v u => lexIS (k v) (k u) := by
  refine ⟨fun x y h => ?_, fun x y z h1 h2 => ?_⟩
  · unfold lexIS at h ⊢
    by_cases e : (k x).1 = (k y).1
    · rw [if_pos e] at h
      rw [if_pos e.symm]
      exact strLt_asym h
    · rw [if_neg e, decide_eq_true_eq] at h
      rw [if_neg (Ne.symm e), decide_eq_false_iff_not]
      omega
  · unfold lexIS at h1 h2 ⊢
    by_cases e1 : (k y).1 = (k x).1
    · rw [if_pos e1] at h1
      by_cases e2 : (k z).1 = (k y).1
      · rw [if_pos e2] at h2
        rw [if_pos (e2.trans e1)]
        exact strLt_tr h1 h2
      · rw [if_neg e2, decide_eq_false_iff_not] at h2
        rw [if_neg (by omega), decide_eq_false_iff_not]
        omega
    · rw [if_neg e1, decide_eq_false_iff_not] at h1
      by_cases e2 : (k z).1 = (k y).1
      · rw [if_neg (by omega), decide_eq_false_iff_not]
        omega
      · rw [if_neg e2, decide_eq_false_iff_not] at h2
        rw [if_neg (by omega), decide_eq_false_iff_not]
        omega
def IsIS (h : Heap) (v : Value) (x : Int) (y : Str) : Prop := ∃ a o t u n, v = .ref a ∧ h.get? a = some o ∧ o.cls = .type "tuple" ∧ o.data = .seq #[.int x t, .str y u] n
theorem IsIS.keeps {h h' : Heap} {v : Value} {x : Int} {y : Str} (p : IsIS h v x y) (k : ∀ b o, h.get? b = some o → o.cls = .type "tuple" → h'.get? b = some o) : IsIS h' v x y := by
  obtain ⟨a, o, t, u, n, e, ho, hc, hd⟩ := p
  exact ⟨a, o, t, u, n, e, k _ _ ho hc, hc, hd⟩
section
variable {prog : Program} {w : World} {A : Around} {E : Value → Shared → Prop} {s : Shared}
theorem cmp_IS {vs : List Value} {k : Value → Int × Str} (hp : ∀ v ∈ vs, IsIS s.heap v (k v).1 (k v).2) : SrtO.Cmp prog w A s (tuples' true) (fun p => p.1 ∈ vs) (SrtO.lt2 fun v u => lexIS (k v) (k u)) := by
  intro p q hm hm'
  have g1 := hp _ hm
  have g2 := hp _ hm'
  show wpAny (model prog w) A (keyLt' (tuples' true) p.1 q.1) (fun r s' => s' = s ∧ r = lexIS (k p.1) (k q.1)) (fun _ _ => False) s
  generalize k p.1 = kp at g1 ⊢
  generalize k q.1 = kq at g2 ⊢
  obtain ⟨x, y⟩ := kp
  obtain ⟨x', y'⟩ := kq
  obtain ⟨a, o, t, u, n, e, ho, hc, hd⟩ := g1
  obtain ⟨a', o', t', u', n', e', ho', hc', hd'⟩ := g2
  rw [e, e']
  refine PySem.W.kat_lt ho hd ho' hd' ?_
  show PySem.W.KatLex prog w A true (decide (2 < 2)) _ [(.int x t, .int x' t'), (.str y u, .str y' u')] 0 s
  refine PySem.W.kat_cons (SeqAt.EqAt.int_int x t x' t' prog w _ _ ?_)
  refine PySem.W.kat_go (fun e1 => ?_) (fun e1 => ?_)
  · obtain rfl : x = x' := by simpa using e1
    refine PySem.W.kat_yes (PySem.W.kat_cons (wpAny_eqBool_str ?_))
    refine PySem.W.kat_go (fun e2 => ?_) (fun e2 => ?_)
    · obtain rfl : y = y' := of_decide_eq_true e2
      refine PySem.W.kat_yes (PySem.W.kat_nil ⟨rfl, ?_⟩)
      unfold lexIS strLt
      rw [if_pos rfl]
      exact (decide_eq_false (List.lt_irrefl _)).symm
    · refine PySem.W.kat_no (PySem.W.kat_one _ _ (PyProof.Rows.lt_str ?_))
      refine (show s = s ∧ decide (y.cps.toList < y'.cps.toList) = _ from ⟨rfl, ?_⟩)
      unfold lexIS strLt
      exact (if_pos rfl).symm
  · have ex : ¬ x = x' := by simpa using e1
    refine PySem.W.kat_no (oneLt_int ⟨rfl, ?_⟩)
    unfold lexIS
    exact (if_neg ex).symm
theorem firsts_IS {h : Heap} : ∀ {vs : List Value}, (∀ v ∈ vs, ∃ x y, IsIS h v x y) → ∃ fs, PySem.W.KatTups h vs fs ∧ fs.length = vs.length ∧ ∀ f ∈ fs, ∃ x t, f = Value.int x t
  | [], _ => ⟨[], .nil, rfl, fun _ z => nomatch z⟩
  | v :: vs, hv => by
    obtain ⟨x, y, a, o, t, u, n, rfl, ho, hc, hd⟩ := hv v List.mem_cons_self
    obtain ⟨fs, f1, f2, f3⟩ := firsts_IS (vs := vs) fun z hz => hv z (List.mem_cons_of_mem _ hz)
    refine ⟨.int x t :: fs, .cons ho hc hd rfl f1, by simp [f2], fun f hf => ?_⟩
    rcases List.mem_cons.mp hf with z | z
    · exact ⟨x, t, z⟩
    · exact f3 f z
theorem sortable_IS {a : Addr} {vs : List Value} {k : Value → Int × Str} (h0 : 0 < vs.length) (hp : ∀ v ∈ vs, IsIS s.heap v (k v).1 (k v).2) (ha : ∀ o, s.heap.get? a = some o → o.cls ≠ .type "tuple") :
    SrtO.SortableO prog w A s a vs fun v u => lexIS (k v) (k u) := by
  intro h' keep
  have hp' : ∀ v ∈ vs, IsIS h' v (k v).1 (k v).2 := fun v hm => (hp v hm).keeps fun b o e c => keep b o (fun z => ha o (z ▸ e) c) e
  obtain ⟨fs, f1, f2, f3⟩ := firsts_IS fun v hm => ⟨_, _, hp' v hm⟩
  refine ⟨tuples' true, fun Q E hq => ?_, cmp_IS hp'⟩
  refine PySem.W.kat_kind (T := .type "int") f1 (by omega) (fun f hm => ?_) (by rfl) ?_
  · obtain ⟨x, t, rfl⟩ := f3 f hm
    exact PySem.W.Looks.now
  · rw [show (Value.type "int" != Value.type "tuple") = true by first | decide +kernel | rfl]
    exact hq
theorem sorted_IS {l : Addr} {vs : List Value} {k : Value → Int × Str} {Q : Value → Shared → Prop} (hl : s.heap.IsList l vs.toArray) (hz : vs.length ≤ sizeLine) (hp : ∀ v ∈ vs, IsIS s.heap v (k v).1 (k v).2)
    (h : ∀ (h' : Heap) (d : Addr) (out : List Value), SrtO.Srtd (fun v u => lexIS (k v) (k u)) out → SrtO.Stb (fun v u => lexIS (k v) (k u)) out vs → (∀ b o, s.heap.get? b = some o → h'.get? b = some o) → s.heap.objs.size ≤ d →
      (∃ n, h'.get? d = some (seqObj "list" out.toArray n)) → Q (.ref d) { s with heap := h' }) : wpAny (model prog w) A (call (.builtin "sorted") [.ref l]) Q E s := by
  refine SrtO.sorted_ord (lexIS_swo k) hl hz (fun h2 h₁ a ha kk => ?_) fun out hs hb => h _ _ out hs hb (fun b o e => sortedAll_old e) (Nat.le_succ _) (sortedAll_at s.heap vs out.toArray)
  refine sortable_IS (s := { s with heap := h₁ }) (by omega) (fun v hm => (hp v hm).keeps fun b o e _ => (kk b o e).2) fun o e => ?_
  cases (show some o = some (seqObj "list" vs.toArray 0) from e.symm.trans ha)
  intro c
  exact absurd (Value.type.inj c) (by decide)
end
/-- sorted(xs), xs a list of pairs of an int and a text -/
def rSortIS (K : PySem.W.Frag) : List V → Hp → VK → Prop := fun vs H Q => ∃ (a : Addr) (xs : List V) (k : V → Int × Str), vs = [V.ref a] ∧ SqL K H a xs ∧ (∀ x ∈ xs, ∃ t, x = V.ref t ∧ H t = some (.tup [.int (k x).1, .str (k x).2])) ∧
  ∀ ys p, SrtO.Srtd (fun v u => lexIS (k v) (k u)) ys → SrtO.Stb (fun v u => lexIS (k v) (k u)) ys xs → H p = none → Q (.ref p) (upd H p (.lst ys))
theorem cr_sortIS {X : Cx} : CallR X (.builtin "sorted") (rSortIS X.K) := by
  intro pins s σ H vs us Q I r h
  obtain ⟨a, xs, k, rfl, hs, hx, q⟩ := h
  obtain ⟨its, rv, hl, hz⟩ := I.list hs
  obtain ⟨u, rfl, ru⟩ := vals1 r
  obtain rfl : u = Value.ref a := ru
  obtain ⟨e1, e2⟩ := refs_back rv fun x m => by
    obtain ⟨t, e, _⟩ := hx x m
    exact ⟨t, e⟩
  have hzz : its.length ≤ sizeLine := by
    rw [← rv.length]
    exact hz
  refine sorted_IS (k := fun u => k (backV u)) hl.isList hzz (fun v hv => ?_) fun h' d out o1 o2 kp hd hn => ?_
  · obtain ⟨t, rfl⟩ := e2 v hv
    have hm : V.ref t ∈ xs := by
      rw [e1]
      exact List.mem_map.mpr ⟨_, hv, rfl⟩
    obtain ⟨t', e, ht⟩ := hx _ hm
    cases e
    obtain ⟨_, its2, r2, o, ho, hc, n, hd⟩ := I.hok _ _ ht
    obtain ⟨u1, u2, rfl, ri, rj⟩ := vals2 r2
    obtain ⟨t1, rfl⟩ := ri
    obtain ⟨t2, rfl⟩ := rj
    exact ⟨t, o, t1, t2, n, rfl, ho, hc, hd⟩
  · have h3 : ∀ u ∈ out, ∃ a, u = Value.ref a := fun u hu => e2 u (o2.perm.mem_iff.mp hu)
    obtain ⟨n, hn⟩ := hn
    have hb : SrtO.Stb (fun v u => lexIS (k v) (k u)) (out.map backV) xs := by
      rw [e1]
      exact SrtO.Stb.map (lexIS_swo k) backV o2
    have hlen : (out.map backV).length ≤ sizeLine := by
      rw [hb.len]
      exact hz
    exact ⟨.ref d, upd H d (.lst (out.map backV)), I.laid (t' := s.toks) kp hd ⟨hlen, out, n, vals_back h3, hn⟩, rfl, q _ d (SrtO.srtd_map o1) hb (I.hok.fresh hd)⟩
end Cb

namespace Cb
open PySem PySem.Spec PyProof.Rows L2
section
variable {prog : Program} {w : World} {A : Around} {E : Value → Shared → Prop} {s : Shared}
theorem sumT_raw {t : Addr} {its : List Value} {ns : List Int} {Q : Value → Shared → Prop} (hh : A.handled = none) (hl : s.heap.IsTuple t its.toArray) (hi : ∀ (i : Nat) v, its[i]? = some v → ∃ tk, v = Value.int (ns.getD i 0) tk) (hn : its.length = ns.length)
    (h : ∀ h' tk t', (∀ b o, s.heap.get? b = some o → h'.get? b = some o) → Q (.int ns.sum t') { s with heap := h', toks := tk }) : wpAny (model prog w) A (call (.builtin "sum") [.ref t]) Q E s := by
  have ht : t < s.heap.objs.size := by
    obtain ⟨o, ho, _⟩ := hl
    exact Heap.lt_size ho
  refine call_sum_walkG (wpAny_pyIter_tuple hl ⟨s.heap.objs.size, _, _, _, _, _, fun i => ns.getD i 0, rfl, Walks.tuple (by simpa using hh) _ t (Nat.ne_of_lt ht) its.toArray, ⟨?_, ?_⟩, ?_, ?_, ?_⟩)
  · exact ⟨_, Heap.get?_push_size _ rfl, rfl, rfl⟩
  · exact hl.at fun o q => Heap.get?_push_of_some _ q
  · intro b hb
    show b < (s.heap.push _).objs.size
    rw [Heap.size_push]
    rcases List.mem_cons.mp hb with z | z
    · rw [z]
      exact Nat.lt_succ_self _
    · rw [List.mem_singleton.mp z]
      exact Nat.lt_succ_of_lt ht
  · intro i v e
    exact hi i v (by simpa using e)
  · intro h' tk t' k
    have e : preSum (fun i => ns.getD i 0) its.toArray.size = ns.sum := by
      rw [preSum_getD]
      simp [hn]
    rw [e]
    refine h h' tk t' fun b o hb => k b o ?_ ?_
    · exact fun z => Nat.ne_of_lt (Heap.lt_size hb) (List.mem_singleton.mp z)
    · exact Heap.get?_push_of_some _ hb
end
def rSumT (K : PySem.W.Frag) : List V → Hp → VK → Prop := fun vs H Q => ∃ (a : Addr) (ns : List Int), vs = [V.ref a] ∧ SqT K H a (ns.map V.int) ∧ Q (.int ns.sum) H
theorem cr_sumT {X : Cx} (hc : X.calm = true) : CallR X (.builtin "sum") (rSumT X.K) := by
  intro pins s σ H vs us Q I r h
  obtain ⟨a, ns, rfl, hs, q⟩ := h
  obtain ⟨its, rv, p, hz⟩ := I.tuple hs
  obtain ⟨u, rfl, ru⟩ := vals1 r
  obtain rfl : u = Value.ref a := ru
  have hlen : its.length = ns.length := by
    have := rv.length
    simpa using this.symm
  refine sumT_raw (I.ok.hd hc) p (fun i v hv => ?_) hlen fun h' tk t' k => ⟨.int ns.sum, H, I.kept k, ⟨t', rfl⟩, q⟩
  have hi : i < ns.length := by
    rw [← hlen]
    exact (List.getElem?_eq_some_iff.mp hv).1
  have hx : (ns.map V.int)[i]? = some (.int (ns.getD i 0)) := by simp [hi]
  obtain ⟨u, hu, tk, ru⟩ := rv.get hx
  exact ⟨tk, (Option.some.inj (hv.symm.trans hu)).trans ru⟩
end Cb

/-! own heaps: what is owned, what stays -/
namespace Cb
open PySem PySem.Spec PyProof.Rows L2
theorem same_new {H H1 : Hp} {p : Addr} {o : HO} (e : Same H H1) (h : H1 p = none) : Same H (upd H1 p o) := fun b u q => by
  have z := e b u q
  rw [upd_ne (ne_of_none z h)]
  exact z
theorem same_mut {H H1 : Hp} {p : Addr} {o : HO} (e : Same H H1) (h : H p = none) : Same H (upd H1 p o) := fun b u q => by
  rw [upd_ne (ne_of_none q h)]
  exact e b u q
theorem Same.rd {H H' : Hp} {a : Addr} {u : HO} (e : Same H H') (h : Rd H a u) : Rd H' a u := h.elim (fun h => .inl (e _ _ h)) fun ⟨o, h⟩ => .inr ⟨o, e _ _ h⟩
theorem Same.tup {K : PySem.W.Frag} {H H' : Hp} {a : Addr} {xs : List V} (e : Same H H') (h : SqT K H a xs) : SqT K H' a xs := h.elim (fun h => .inl (Same.rd e h)) .inr
theorem t_of {K : PySem.W.Frag} {H : Hp} {a : Addr} {xs : List V} (h : H a = some (.tup xs)) : SqT K H a xs := .inl (.inl h)
theorem l_of {K : PySem.W.Frag} {H : Hp} {a : Addr} {xs : List V} (h : H a = some (.lst xs)) : SqL K H a xs := .inl (.inl h)
theorem sqt_inj {K : PySem.W.Frag} {H : Hp} {a : Addr} {xs ys : List V} (h : H a = some (.tup xs)) (h' : H a = some (.tup ys)) : xs = ys := by
  rw [h] at h'
  injection h' with e
  injection e

/-! ### isinstance by type names -/
def rIs (K : PySem.W.Frag) : List V → Hp → VK → Prop := fun xs H Q => ∃ (x : V) (b a : String) (r : Bool), xs = [x, .ty b] ∧ TyX K H x (.type a) ∧ kitB a b = some r ∧ Q (.bl r) H
theorem call_is {X : Cx} : CallR X (.builtin "isinstance") (rIs X.K) := by
  intro pins s σ H xs us Q I r h
  obtain ⟨x, b, a, z, rfl, ty, e, q⟩ := h
  exact call_isi pins s σ H _ us Q I r ⟨x, .ty b, .type a, .type b, z, rfl, .ty b, ty, kit_ty e, q⟩
section
variable {K : PySem.W.Frag} {H : Hp}
theorem ty_int {i : Int} : TyX K H (.int i) (.type "int") := .base (.int i)
theorem ty_str {x : Str} : TyX K H (.str x) (.type "str") := .base (.str x)
theorem ty_tup {a : Addr} {xs : List V} (h : SqT K H a xs) : TyX K H (.ref a) (.type "tuple") := by
  rcases h with (h | ⟨o, h⟩) | ⟨o, _, _, e, c, _⟩
  · exact .base (.tup h)
  · exact .fTuple h
  · exact .kTuple e c
theorem kb1 : kitB "int" "int" = some true := by decide +kernel
theorem kb2 : kitB "int" "bool" = some false := by decide +kernel
theorem kb3 : kitB "str" "str" = some true := by decide +kernel
theorem kb4 : kitB "tuple" "tuple" = some true := by decide +kernel
theorem kb5 : kitB "str" "int" = some false := by decide +kernel
end

/-! ### owned cells over what stays -/
def Cells (H : Hp) : List (Addr × HO) → Prop
  | [] => True
  | e :: r => H e.1 = some e.2 ∧ Cells H r
def adrs (L : List (Addr × HO)) : List Addr := L.map (·.1)
/-- K0: what stays as it is; L: what is owned, and may change -/
structure Sep (K0 H : Hp) (L : List (Addr × HO)) : Prop where
  ext : Same K0 H
  nd : (adrs L).Nodup
  fr : ∀ a ∈ adrs L, K0 a = none
  cs : Cells H L
theorem Cells.mem {H : Hp} : ∀ {L : List (Addr × HO)}, Cells H L → ∀ e ∈ L, H e.1 = some e.2
  | _ :: _, c, e, m => by
    rcases List.mem_cons.mp m with z | z
    · exact z ▸ c.1
    · exact Cells.mem c.2 e z
theorem Cells.of {H : Hp} : ∀ {L : List (Addr × HO)}, (∀ e ∈ L, H e.1 = some e.2) → Cells H L
  | [], _ => True.intro
  | e :: _, h => ⟨h e List.mem_cons_self, Cells.of fun x m => h x (List.mem_cons_of_mem _ m)⟩
theorem Sep.nil {H : Hp} : Sep H H [] := ⟨Same.refl H, List.nodup_nil, (fun _ m => nomatch m), True.intro⟩
theorem Sep.at_ {K0 H : Hp} {L : List (Addr × HO)} (s : Sep K0 H L) {a : Addr} {o : HO} (m : (a, o) ∈ L) : H a = some o := s.cs.mem _ m
/-- a store at an owned cell -/
theorem Sep.put {K0 H : Hp} {L1 L2 : List (Addr × HO)} {a : Addr} {o o' : HO} (s : Sep K0 H (L1 ++ (a, o) :: L2)) : Sep K0 (upd H a o') (L1 ++ (a, o') :: L2) := by
  have ea : adrs (L1 ++ (a, o') :: L2) = adrs (L1 ++ (a, o) :: L2) := by simp [adrs]
  have ha : K0 a = none := s.fr a (by simp [adrs])
  refine ⟨same_mut s.ext ha, ea ▸ s.nd, ea ▸ s.fr, Cells.of fun e m => ?_⟩
  have nd : (adrs (L1 ++ (a, o) :: L2)).Nodup := s.nd
  simp only [adrs, List.map_append, List.map_cons, List.nodup_append, List.nodup_cons] at nd
  rcases List.mem_append.mp m with z | z
  · have ne : e.1 ≠ a := nd.2.2 e.1 (List.mem_map_of_mem z) a List.mem_cons_self
    rw [upd_ne ne]
    exact s.cs.mem e (List.mem_append_left _ z)
  · rcases List.mem_cons.mp z with z | z
    · subst z
      exact upd_same
    · have ne : e.1 ≠ a := fun q => nd.2.1.1 (q ▸ List.mem_map_of_mem z)
      rw [upd_ne ne]
      exact s.cs.mem e (List.mem_append_right _ (List.mem_cons_of_mem _ z))
theorem Sep.free {K0 H : Hp} {L : List (Addr × HO)} (s : Sep K0 H L) {p : Addr} (h : H p = none) : K0 p = none ∧ p ∉ adrs L := by
  refine ⟨Same.free s.ext h, fun m => ?_⟩
  obtain ⟨e, me, rfl⟩ := List.mem_map.mp m
  rw [s.cs.mem e me] at h
  cases h
theorem Sep.cells_new {K0 H : Hp} {L : List (Addr × HO)} (s : Sep K0 H L) {p : Addr} {o : HO} (h : H p = none) : Cells (upd H p o) L := by
  refine Cells.of fun e m => ?_
  rw [upd_ne (ne_of_none (s.cs.mem e m) h)]
  exact s.cs.mem e m
/-- a new thing that nobody asks for -/
theorem Sep.drop {K0 H : Hp} {L : List (Addr × HO)} (s : Sep K0 H L) {p : Addr} {o : HO} (h : H p = none) : Sep K0 (upd H p o) L := ⟨same_new s.ext h, s.nd, s.fr, s.cells_new h⟩
/-- .. that stays as it is -/
theorem Sep.keep {K0 H : Hp} {L : List (Addr × HO)} (s : Sep K0 H L) {p : Addr} {o : HO} (h : H p = none) : Sep (upd K0 p o) (upd H p o) L := by
  obtain ⟨h0, hm⟩ := s.free h
  refine ⟨fun b u q => ?_, s.nd, fun a ma => ?_, s.cells_new h⟩
  · by_cases e : b = p
    · subst e
      rw [upd_same] at q ⊢
      exact q
    · rw [upd_ne e] at q ⊢
      exact s.ext b u q
  · have ne : a ≠ p := fun q => hm (q ▸ ma)
    rw [upd_ne ne]
    exact s.fr a ma
/-- .. that is owned -/
theorem Sep.own {K0 H : Hp} {L : List (Addr × HO)} (s : Sep K0 H L) {p : Addr} {o : HO} (h : H p = none) : Sep K0 (upd H p o) ((p, o) :: L) := by
  obtain ⟨h0, hm⟩ := s.free h
  refine ⟨same_new s.ext h, List.nodup_cons.mpr ⟨hm, s.nd⟩, fun a ma => ?_, upd_same, s.cells_new h⟩
  rcases List.mem_cons.mp ma with z | z
  · exact z ▸ h0
  · exact s.fr a z
theorem Sep.perm {K0 H : Hp} {L M : List (Addr × HO)} (s : Sep K0 H L) (p : M.Perm L) : Sep K0 H M :=
  ⟨s.ext, (List.Perm.nodup_iff (p.map (Prod.fst : Addr × HO → Addr))).mpr s.nd, fun a m => s.fr a ((p.map (Prod.fst : Addr × HO → Addr)).mem_iff.mp m), Cells.of fun e m => s.cs.mem e (p.mem_iff.mp m)⟩
theorem Sep.weak {K0 H : Hp} {L M : List (Addr × HO)} (s : Sep K0 H (L ++ M)) : Sep K0 H L :=
  ⟨s.ext, (List.nodup_append.mp (by have z := s.nd; unfold adrs at z; rw [List.map_append] at z; exact z)).1, fun a m => s.fr a (by unfold adrs at m ⊢; rw [List.map_append]; exact List.mem_append_left _ m), Cells.of fun e m => s.cs.mem e (List.mem_append_left _ m)⟩
/-- all but the owned -/
noncomputable def less (H : Hp) (L : List (Addr × HO)) : Hp := fun a => if a ∈ adrs L then none else H a
theorem less_in {H : Hp} {L : List (Addr × HO)} {a : Addr} (m : a ∈ adrs L) : less H L a = none := if_pos m
theorem less_out {H : Hp} {L : List (Addr × HO)} {a : Addr} (m : a ∉ adrs L) : less H L a = H a := if_neg m
theorem Sep.rebase {K0 H : Hp} {L : List (Addr × HO)} (s : Sep K0 H L) : Sep (less H L) H L ∧ Same K0 (less H L) := by
  refine ⟨⟨fun b o q => ?_, s.nd, fun a m => less_in m, s.cs⟩, fun b o q => ?_⟩
  · by_cases m : b ∈ adrs L
    · rw [less_in m] at q
      cases q
    · rwa [less_out m] at q
  · rw [less_out fun m => by rw [s.fr b m] at q; cases q]
    exact s.ext b o q
/-- a part of what is owned, handed to a callee; what it hands back -/
theorem Sep.part {K0 H : Hp} {L M : List (Addr × HO)} (s : Sep K0 H (L ++ M)) : Sep (less H L) H L ∧ Same K0 (less H L) := s.weak.rebase
theorem Sep.back {K0 H H' K1 : Hp} {L M L2 : List (Addr × HO)} (s : Sep K0 H (L ++ M)) (g : Same (less H L) K1) (t : Sep K1 H' L2) : Sep K0 H' (L2 ++ M) := by
  have nd : (adrs L ++ adrs M).Nodup := by
    have z := s.nd
    unfold adrs at z ⊢
    rw [List.map_append] at z
    exact z
  obtain ⟨n1, n2, n3⟩ := List.nodup_append.mp nd
  have keepM : ∀ e ∈ M, K1 e.1 = some e.2 := fun e m => by
    refine g _ _ ?_
    rw [less_out fun q => n3 _ q _ (List.mem_map_of_mem m) rfl]
    exact s.cs.mem e (List.mem_append_right _ m)
  have ext : Same K0 K1 := fun b o q => g b o (s.part.2 b o q)
  refine ⟨fun b o q => t.ext b o (ext b o q), ?_, fun a m => ?_, Cells.of fun e m => ?_⟩
  · unfold adrs
    rw [List.map_append]
    refine List.nodup_append.mpr ⟨t.nd, n2, fun a ma b mb q => ?_⟩
    subst q
    obtain ⟨e, me, rfl⟩ := List.mem_map.mp mb
    have z := t.fr _ ma
    rw [keepM e me] at z
    cases z
  · unfold adrs at m
    rw [List.map_append] at m
    rcases List.mem_append.mp m with z | z
    · have h1 := t.fr a z
      cases q : K0 a with
      | none => rfl
      | some o =>
        rw [ext a o q] at h1
        cases h1
    · exact s.fr a (by unfold adrs; rw [List.map_append]; exact List.mem_append_right _ z)
  · rcases List.mem_append.mp m with z | z
    · exact t.cs.mem e z
    · exact t.ext _ _ (keepM e z)
end Cb

namespace Cb
open PySem PySem.Spec PyProof.Rows L2

def top (i : Nat) : Stmt := PySem.Challenge.pw_callbells_k19_whole_lower_ranks_do_not_m.main.body.getD i (.Pass ⟨0, 0, 0, 0⟩)
abbrev s_is_integer : Stmt := top 15
abbrev s_is_letters : Stmt := top 17
abbrev s_is_name : Stmt := top 18
abbrev s_is_line : Stmt := top 19
abbrev s_is_work : Stmt := top 20
abbrev s_is_step : Stmt := top 21
abbrev s_spoilt_named : Stmt := top 22
abbrev s_spoilt_line : Stmt := top 23
abbrev s_spoilt_work : Stmt := top 24
abbrev s_spoilt_handler : Stmt := top 25
abbrev s_check_setup : Stmt := top 28
abbrev s_put_changed : Stmt := top 30
abbrev s_law_taken : Stmt := top 45
abbrev s_law : Stmt := top 49
abbrev s_law_mixed : Stmt := top 47
abbrev s_law_plain : Stmt := top 48
abbrev s_law_alike : Stmt := top 46
abbrev s_Setup_init : Stmt := inClass (top 27) 3
abbrev s_Setup_contains : Stmt := inClass (top 27) 6
abbrev s_Setup_getitem : Stmt := inClass (top 27) 7
abbrev s_Setup_order : Stmt := inClass (top 27) 13
abbrev s_Setup_works : Stmt := inClass (top 27) 12
abbrev s_Board_init : Stmt := inClass (top 32) 0
abbrev s_Board_check_line : Stmt := inClass (top 32) 3
abbrev s_Board_is_edge : Stmt := inClass (top 32) 4
abbrev s_Board_ring : Stmt := inClass (top 32) 5
abbrev s_Board_begin : Stmt := inClass (top 32) 12
abbrev s_Board_end : Stmt := inClass (top 32) 13
abbrev s_Board_waits : Stmt := inClass (top 32) 17
abbrev s_Board_waiting_lines : Stmt := inClass (top 32) 18
abbrev s_Board_is_enabled : Stmt := inClass (top 32) 15
abbrev s_Board_ready_lines : Stmt := inClass (top 32) 19
abbrev s_WorkQueue_init : Stmt := inClass (top 34) 0
abbrev s_WorkQueue_rows : Stmt := inClass (top 34) 2
abbrev s_WorkQueue_is_empty : Stmt := inClass (top 34) 3
abbrev s_WorkQueue_put : Stmt := inClass (top 34) 4
abbrev s_WorkQueue_spend : Stmt := inClass (top 34) 6
abbrev s_Processor_init : Stmt := inClass (top 40) 0
abbrev s_Processor_take : Stmt := inClass (top 40) 2
abbrev s_Processor_go_on : Stmt := inClass (top 40) 3
abbrev s_Processor_call_rows : Stmt := inClass (top 40) 5
abbrev s_Processor_spent_ticks : Stmt := inClass (top 40) 8
abbrev s_Processor_lets_by : Stmt := inClass (top 40) 12
abbrev s_Processor_present_step : Stmt := inClass (top 40) 13
abbrev s_Processor_passes_flag : Stmt := inClass (top 40) 14
abbrev s_Processor_takes_no_tick : Stmt := inClass (top 40) 15
abbrev s_Processor_act : Stmt := inClass (top 40) 16
abbrev s_Processor_go_through : Stmt := inClass (top 40) 17
abbrev s_Processor_spend : Stmt := inClass (top 40) 18
abbrev s_Processor_spend_beside_calls : Stmt := inClass (top 40) 19
abbrev s_Single_init : Stmt := inClass (top 43) 0
abbrev s_Single_ring : Stmt := inClass (top 43) 9
abbrev s_Single_tick : Stmt := inClass (top 43) 15
abbrev s_Single_calls : Stmt := inClass (top 43) 19
abbrev s_Single_spent : Stmt := inClass (top 43) 25
def prA (C f : Str) (K : PySem.W.Frag) : Addr := match PySem.W.findIn K (.ref (He.ga K C)) f with
  | some (some (.ref p)) => (match PySem.W.recIn K p "property" with
    | some (.ref g :: _) => g
    | _ => 0)
  | _ => 0
abbrev aC (x : Str) (K : PySem.W.Frag) : Addr := He.ga K x
def argL : List (Str × He.Dv) := [("run", .str "ticks"), ("ring", .str "line"), ("quiet", .str "level"), ("mask", .str "line"), ("unmask", .str "line"), ("set", .str "flag"), ("clear", .str "flag"), ("await", .str "flag"), ("bar", .str "bar"), ("later", .str "work")]
def tupAtB (K : PySem.W.Frag) (a : Addr) (vs : List He.Dv) : Bool := match K.lookup a with
  | some ⟨.type c, _, .seq its _, _⟩ => decide (c = "tuple") && (decide (its.size ≤ sizeLine) && He.relAll (vs.map (He.Dv.v K)) its.toList)
  | _ => false
theorem tupAtB_ok {K : PySem.W.Frag} {a : Addr} {vs : List He.Dv} (h : tupAtB K a vs = true) (H : Hp) : SqT K H a (vs.map (He.Dv.v K)) := by
  unfold tupAtB at h
  cases q : K.lookup a with
  | none =>
    rw [q] at h
    cases h
  | some o =>
    obtain ⟨oc, od, dt, osl⟩ := o
    rw [q] at h
    cases oc with
    | type c =>
      cases dt with
      | seq its n =>
        obtain ⟨h1, h2⟩ := He.ba (show (decide (c = "tuple") && (decide (its.size ≤ sizeLine) && He.relAll (vs.map (He.Dv.v K)) its.toList)) = true from h)
        obtain ⟨h3, h4⟩ := He.ba h2
        exact .inr ⟨_, its, n, q, congrArg Value.type (of_decide_eq_true h1), rfl, of_decide_eq_true h3, He.relAll_ok h4⟩
      | _ => cases h
    | _ => cases dt <;> cases h
theorem int_rel {mg : Str → Option Value} {x : Str} {i : Int} (h : ∃ t, mg x = some (.int i t)) : ∃ u, mg x = some u ∧ RelV (.int i) u := let ⟨t, e⟩ := h; ⟨_, e, t, rfl⟩
def propB (K : PySem.W.Frag) (C f : Str) : Bool := match PySem.W.findIn K (.ref (aC C K)) f with
  | some (some (.ref p)) => He.eqO (PySem.W.specialIn K (.ref p) "__get__") (some (some (.builtin "property.__get__"))) && (decide (PySem.W.takesIn K (.ref p) = some true) && (match PySem.W.recIn K p "property" with
    | some (.ref g :: _) => decide (g = prA C f K)
    | _ => false))
  | _ => false
theorem propB_ok {K : PySem.W.Frag} {C f : Str} (h : propB K C f = true) : ∃ p, PropOf K (aC C K) f p (prA C f K) := by
  unfold propB at h
  cases e : PySem.W.findIn K (.ref (aC C K)) f with
  | none => rw [e] at h; cases h
  | some r => cases r with
    | none => rw [e] at h; cases h
    | some v => cases v with
      | ref p =>
        rw [e] at h
        obtain ⟨h1, h⟩ := He.ba h
        obtain ⟨h2, h3⟩ := He.ba h
        refine ⟨p, e, He.eqO_ok h1, of_decide_eq_true h2, ?_⟩
        cases q : PySem.W.recIn K p "property" with
        | none => rw [q] at h3; cases h3
        | some l => cases l with
          | nil => rw [q] at h3; cases h3
          | cons g r => cases g with
            | ref g =>
              rw [q] at h3
              exact ⟨r, by rw [show g = prA C f K from of_decide_eq_true h3]⟩
            | _ => rw [q] at h3; cases h3
      | _ => rw [e] at h; cases h
def creadB (K : PySem.W.Frag) (C : Addr) : Bool := PySem.W.readsIn K C (.type "type") && He.eqO (PySem.W.specialIn K (.ref C) "__getattribute__") (some (some (.builtin "type.__getattribute__")))
theorem creadB_ok {K : PySem.W.Frag} {C : Addr} (h : creadB K C = true) : ClX.CRead K C (.type "type") := ⟨(He.ba h).1, He.eqO_ok (He.ba h).2⟩
def cvalB (K : PySem.W.Frag) (C : Addr) (f : Str) (i : Int) : Bool := match PySem.W.findCls K (.ref C) (.type "type") f with
  | some (.val (.int j _)) => decide (j = i)
  | _ => false
theorem cvalB_ok {K : PySem.W.Frag} {C : Addr} {f : Str} {i : Int} (h : cvalB K C f i = true) : ∃ u, ClX.CVal K C (.type "type") f (.int i) u := by
  unfold cvalB at h
  split at h
  · rename_i j t e
    obtain rfl : j = i := of_decide_eq_true h
    exact ⟨_, e, t, rfl⟩
  · cases h
structure Txt (K : PySem.W.Frag) (mg : Str → Option Value) : Prop where
  n_len : mg "len" = none
  n_isinstance : mg "isinstance" = none
  n_enumerate : mg "enumerate" = none
  n_range : mg "range" = none
  n_tuple : mg "tuple" = none
  n_list : mg "list" = none
  n_dict : mg "dict" = none
  n_sorted : mg "sorted" = none
  n_all : mg "all" = none
  n_sum : mg "sum" = none
  n_max : mg "max" = none
  n_int : mg "int" = none
  n_bool : mg "bool" = none
  n_str : mg "str" = none
  n_min : mg "min" = none
  n_set : mg "set" = none
  k_MAX_LETTERS : ∃ u, mg "MAX_LETTERS" = some u ∧ RelV (.int 8) u
  k_MAX_RANK : ∃ u, mg "MAX_RANK" = some u ∧ RelV (.int 9) u
  k_MAX_STEPS : ∃ u, mg "MAX_STEPS" = some u ∧ RelV (.int 8) u
  k_MAX_TICKS : ∃ u, mg "MAX_TICKS" = some u ∧ RelV (.int 99) u
  k_CALLED : ∃ u, mg "CALLED" = some u ∧ RelV (.int 0) u
  k_SPUN : ∃ u, mg "SPUN" = some u ∧ RelV (.int 1) u
  k_WORKED : ∃ u, mg "WORKED" = some u ∧ RelV (.int 2) u
  k_IDLE : ∃ u, mg "IDLE" = some u ∧ RelV (.int 3) u
  k_MOST_TICKS : ∃ u, mg "MOST_TICKS" = some u ∧ RelV (.int 10000) u
  k_KINDS : ∃ u, mg "KINDS" = some u ∧ RelV (.ref (He.ga K "KINDS")) u
  v_KINDS : ∀ H, SqT K H (He.ga K "KINDS") [.str "edge", .str "level"]
  k_ARGUMENTS : ∃ u, mg "ARGUMENTS" = some u ∧ RelV (.ref (He.ga K "ARGUMENTS")) u
  v_ARGUMENTS : He.valsB K (He.ga K "ARGUMENTS") argL = true
  f_is_integer : mg "is_integer" = some (.ref (He.ga K "is_integer"))
  f_is_letters : mg "is_letters" = some (.ref (He.ga K "is_letters"))
  f_is_name : mg "is_name" = some (.ref (He.ga K "is_name"))
  f_is_line : mg "is_line" = some (.ref (He.ga K "is_line"))
  f_is_work : mg "is_work" = some (.ref (He.ga K "is_work"))
  f_is_step : mg "is_step" = some (.ref (He.ga K "is_step"))
  f_spoilt_named : mg "spoilt_named" = some (.ref (He.ga K "spoilt_named"))
  f_spoilt_line : mg "spoilt_line" = some (.ref (He.ga K "spoilt_line"))
  f_spoilt_work : mg "spoilt_work" = some (.ref (He.ga K "spoilt_work"))
  f_spoilt_handler : mg "spoilt_handler" = some (.ref (He.ga K "spoilt_handler"))
  f_check_setup : mg "check_setup" = some (.ref (He.ga K "check_setup"))
  f_put_changed : mg "put_changed" = some (.ref (He.ga K "put_changed"))
  f__law_taken : mg "_law_taken" = some (.ref (He.ga K "_law_taken"))
  f_law : mg "law" = some (.ref (He.ga K "law"))
  f__law_mixed : mg "_law_mixed" = some (.ref (He.ga K "_law_mixed"))
  f__law_plain : mg "_law_plain" = some (.ref (He.ga K "_law_plain"))
  f__law_alike : mg "_law_alike" = some (.ref (He.ga K "_law_alike"))
  g_Setup : mg "Setup" = some (.ref (aC "Setup" K))
  cl_Setup : Cls K (aC "Setup" K)
  mk_Setup : Mk K (aC "Setup" K) (He.ma K (aC "Setup" K) "__init__")
  t_Setup_lines : NoAttr K (aC "Setup" K) "_lines"
  t_Setup_works : NoAttr K (aC "Setup" K) "_works"
  t_Setup_by_name : NoAttr K (aC "Setup" K) "_by_name"
  t_Setup_order : NoAttr K (aC "Setup" K) "_order"
  g_Board : mg "Board" = some (.ref (aC "Board" K))
  cl_Board : Cls K (aC "Board" K)
  mk_Board : Mk K (aC "Board" K) (He.ma K (aC "Board" K) "__init__")
  t_Board_setup : NoAttr K (aC "Board" K) "_setup"
  t_Board_rung : NoAttr K (aC "Board" K) "_rung"
  t_Board_disabled : NoAttr K (aC "Board" K) "_disabled"
  t_Board_under_way : NoAttr K (aC "Board" K) "_under_way"
  t_Board_flags : NoAttr K (aC "Board" K) "_flags"
  t_Board_merges : NoAttr K (aC "Board" K) "_merges"
  g_WorkQueue : mg "WorkQueue" = some (.ref (aC "WorkQueue" K))
  cl_WorkQueue : Cls K (aC "WorkQueue" K)
  mk_WorkQueue : Mk K (aC "WorkQueue" K) (He.ma K (aC "WorkQueue" K) "__init__")
  t_WorkQueue_ranks : NoAttr K (aC "WorkQueue" K) "_ranks"
  t_WorkQueue_lengths : NoAttr K (aC "WorkQueue" K) "_lengths"
  t_WorkQueue_rows : NoAttr K (aC "WorkQueue" K) "_rows"
  g_Processor : mg "Processor" = some (.ref (aC "Processor" K))
  cl_Processor : Cls K (aC "Processor" K)
  mk_Processor : Mk K (aC "Processor" K) (He.ma K (aC "Processor" K) "__init__")
  t_Processor_setup : NoAttr K (aC "Processor" K) "_setup"
  t_Processor_board : NoAttr K (aC "Processor" K) "_board"
  t_Processor_bar : NoAttr K (aC "Processor" K) "_bar"
  t_Processor_stack : NoAttr K (aC "Processor" K) "_stack"
  t_Processor_jobs : NoAttr K (aC "Processor" K) "_jobs"
  t_Processor_counts : NoAttr K (aC "Processor" K) "_counts"
  g_Single : mg "Single" = some (.ref (aC "Single" K))
  cl_Single : Cls K (aC "Single" K)
  mk_Single : Mk K (aC "Single" K) (He.ma K (aC "Single" K) "__init__")
  t_Single_setup : NoAttr K (aC "Single" K) "_setup"
  t_Single_board : NoAttr K (aC "Single" K) "_board"
  t_Single_processor : NoAttr K (aC "Single" K) "_processor"
  t_Single_now : NoAttr K (aC "Single" K) "_now"
  m_Setup_contains : Meth K (aC "Setup" K) "__contains__" (He.ma K (aC "Setup" K) "__contains__")
  m_Setup_getitem : Meth K (aC "Setup" K) "__getitem__" (He.ma K (aC "Setup" K) "__getitem__")
  m_Board_check_line : Meth K (aC "Board" K) "_check_line" (He.ma K (aC "Board" K) "_check_line")
  m_Board_is_edge : Meth K (aC "Board" K) "_is_edge" (He.ma K (aC "Board" K) "_is_edge")
  m_Board_ring : Meth K (aC "Board" K) "ring" (He.ma K (aC "Board" K) "ring")
  m_Board_begin : Meth K (aC "Board" K) "begin" (He.ma K (aC "Board" K) "begin")
  m_Board_end : Meth K (aC "Board" K) "end" (He.ma K (aC "Board" K) "end")
  m_Board_waits : Meth K (aC "Board" K) "waits" (He.ma K (aC "Board" K) "waits")
  m_Board_waiting_lines : Meth K (aC "Board" K) "waiting_lines" (He.ma K (aC "Board" K) "waiting_lines")
  m_Board_is_enabled : Meth K (aC "Board" K) "is_enabled" (He.ma K (aC "Board" K) "is_enabled")
  m_Board_ready_lines : Meth K (aC "Board" K) "ready_lines" (He.ma K (aC "Board" K) "ready_lines")
  m_WorkQueue_rows : Meth K (aC "WorkQueue" K) "rows" (He.ma K (aC "WorkQueue" K) "rows")
  m_WorkQueue_is_empty : Meth K (aC "WorkQueue" K) "is_empty" (He.ma K (aC "WorkQueue" K) "is_empty")
  m_WorkQueue_put : Meth K (aC "WorkQueue" K) "put" (He.ma K (aC "WorkQueue" K) "put")
  m_WorkQueue_spend : Meth K (aC "WorkQueue" K) "spend" (He.ma K (aC "WorkQueue" K) "spend")
  m_Processor_take : Meth K (aC "Processor" K) "take" (He.ma K (aC "Processor" K) "take")
  m_Processor_go_on : Meth K (aC "Processor" K) "go_on" (He.ma K (aC "Processor" K) "go_on")
  m_Processor_call_rows : Meth K (aC "Processor" K) "call_rows" (He.ma K (aC "Processor" K) "call_rows")
  m_Processor_spent_ticks : Meth K (aC "Processor" K) "spent_ticks" (He.ma K (aC "Processor" K) "spent_ticks")
  m_Processor_lets_by : Meth K (aC "Processor" K) "_lets_by" (He.ma K (aC "Processor" K) "_lets_by")
  m_Processor_present_step : Meth K (aC "Processor" K) "_present_step" (He.ma K (aC "Processor" K) "_present_step")
  m_Processor_passes_flag : Meth K (aC "Processor" K) "_passes_flag" (He.ma K (aC "Processor" K) "_passes_flag")
  m_Processor_takes_no_tick : Meth K (aC "Processor" K) "_takes_no_tick" (He.ma K (aC "Processor" K) "_takes_no_tick")
  m_Processor_act : Meth K (aC "Processor" K) "_act" (He.ma K (aC "Processor" K) "_act")
  m_Processor_go_through : Meth K (aC "Processor" K) "_go_through" (He.ma K (aC "Processor" K) "_go_through")
  m_Processor_spend : Meth K (aC "Processor" K) "_spend" (He.ma K (aC "Processor" K) "_spend")
  m_Processor_spend_beside_calls : Meth K (aC "Processor" K) "_spend_beside_calls" (He.ma K (aC "Processor" K) "_spend_beside_calls")
  m_Single_ring : Meth K (aC "Single" K) "ring" (He.ma K (aC "Single" K) "ring")
  m_Single_tick : Meth K (aC "Single" K) "tick" (He.ma K (aC "Single" K) "tick")
  p_Setup_order : ∃ p, PropOf K (aC "Setup" K) "order" p (prA "Setup" "order" K)
  p_Setup_works : ∃ p, PropOf K (aC "Setup" K) "works" p (prA "Setup" "works" K)
  p_Single_calls : ∃ p, PropOf K (aC "Single" K) "calls" p (prA "Single" "calls" K)
  p_Single_spent : ∃ p, PropOf K (aC "Single" K) "spent" p (prA "Single" "spent" K)
  r_Setup : ClX.CRead K (aC "Setup" K) (.type "type")
  c_Setup_MAX_LINES : ∃ u, ClX.CVal K (aC "Setup" K) (.type "type") "MAX_LINES" (.int 12) u
  c_Setup_MAX_WORKS : ∃ u, ClX.CVal K (aC "Setup" K) (.type "type") "MAX_WORKS" (.int 8) u
  c_Setup_MAX_FLAG : ∃ u, ClX.CVal K (aC "Setup" K) (.type "type") "MAX_FLAG" (.int 7) u
  d_Setup : ∀ H, SqT K H (He.dflAt ("Setup", some "__init__") 0 K) []
  i_getitem : PySem.W.fnIn K (He.ma K (aC "Setup" K) "__getitem__") = true
def exL (K : PySem.W.Frag) : List Bool := [(He.Fa.free "len").ok K,
  (He.Fa.free "isinstance").ok K,
  (He.Fa.free "enumerate").ok K,
  (He.Fa.free "range").ok K,
  (He.Fa.free "tuple").ok K,
  (He.Fa.free "list").ok K,
  (He.Fa.free "dict").ok K,
  (He.Fa.free "sorted").ok K,
  (He.Fa.free "all").ok K,
  (He.Fa.free "sum").ok K,
  (He.Fa.free "max").ok K,
  (He.Fa.free "int").ok K,
  (He.Fa.free "bool").ok K,
  (He.Fa.free "str").ok K,
  (He.Fa.free "min").ok K,
  (He.Fa.free "set").ok K,
  (He.Fa.int "MAX_LETTERS" 8).ok K,
  (He.Fa.int "MAX_RANK" 9).ok K,
  (He.Fa.int "MAX_STEPS" 8).ok K,
  (He.Fa.int "MAX_TICKS" 99).ok K,
  (He.Fa.int "CALLED" 0).ok K,
  (He.Fa.int "SPUN" 1).ok K,
  (He.Fa.int "WORKED" 2).ok K,
  (He.Fa.int "IDLE" 3).ok K,
  (He.Fa.int "MOST_TICKS" 10000).ok K,
  (He.Fa.glo "KINDS").ok K,
  He.tupB K "KINDS" [.str "edge", .str "level"],
  (He.Fa.glo "ARGUMENTS").ok K,
  He.valsB K (He.ga K "ARGUMENTS") argL,
  (He.Fa.glo "is_integer").ok K,
  (He.Fa.glo "is_letters").ok K,
  (He.Fa.glo "is_name").ok K,
  (He.Fa.glo "is_line").ok K,
  (He.Fa.glo "is_work").ok K,
  (He.Fa.glo "is_step").ok K,
  (He.Fa.glo "spoilt_named").ok K,
  (He.Fa.glo "spoilt_line").ok K,
  (He.Fa.glo "spoilt_work").ok K,
  (He.Fa.glo "spoilt_handler").ok K,
  (He.Fa.glo "check_setup").ok K,
  (He.Fa.glo "put_changed").ok K,
  (He.Fa.glo "_law_taken").ok K,
  (He.Fa.glo "law").ok K,
  (He.Fa.glo "_law_mixed").ok K,
  (He.Fa.glo "_law_plain").ok K,
  (He.Fa.glo "_law_alike").ok K,
  (He.Fa.glo "Setup").ok K,
  (He.Fa.cls "Setup").ok K,
  (He.Fa.mkr "Setup").ok K,
  (He.Fa.noat "Setup" "_lines").ok K,
  (He.Fa.noat "Setup" "_works").ok K,
  (He.Fa.noat "Setup" "_by_name").ok K,
  (He.Fa.noat "Setup" "_order").ok K,
  (He.Fa.glo "Board").ok K,
  (He.Fa.cls "Board").ok K,
  (He.Fa.mkr "Board").ok K,
  (He.Fa.noat "Board" "_setup").ok K,
  (He.Fa.noat "Board" "_rung").ok K,
  (He.Fa.noat "Board" "_disabled").ok K,
  (He.Fa.noat "Board" "_under_way").ok K,
  (He.Fa.noat "Board" "_flags").ok K,
  (He.Fa.noat "Board" "_merges").ok K,
  (He.Fa.glo "WorkQueue").ok K,
  (He.Fa.cls "WorkQueue").ok K,
  (He.Fa.mkr "WorkQueue").ok K,
  (He.Fa.noat "WorkQueue" "_ranks").ok K,
  (He.Fa.noat "WorkQueue" "_lengths").ok K,
  (He.Fa.noat "WorkQueue" "_rows").ok K,
  (He.Fa.glo "Processor").ok K,
  (He.Fa.cls "Processor").ok K,
  (He.Fa.mkr "Processor").ok K,
  (He.Fa.noat "Processor" "_setup").ok K,
  (He.Fa.noat "Processor" "_board").ok K,
  (He.Fa.noat "Processor" "_bar").ok K,
  (He.Fa.noat "Processor" "_stack").ok K,
  (He.Fa.noat "Processor" "_jobs").ok K,
  (He.Fa.noat "Processor" "_counts").ok K,
  (He.Fa.glo "Single").ok K,
  (He.Fa.cls "Single").ok K,
  (He.Fa.mkr "Single").ok K,
  (He.Fa.noat "Single" "_setup").ok K,
  (He.Fa.noat "Single" "_board").ok K,
  (He.Fa.noat "Single" "_processor").ok K,
  (He.Fa.noat "Single" "_now").ok K,
  (He.Fa.meth "Setup" "__contains__").ok K,
  (He.Fa.meth "Setup" "__getitem__").ok K,
  (He.Fa.meth "Board" "_check_line").ok K,
  (He.Fa.meth "Board" "_is_edge").ok K,
  (He.Fa.meth "Board" "ring").ok K,
  (He.Fa.meth "Board" "begin").ok K,
  (He.Fa.meth "Board" "end").ok K,
  (He.Fa.meth "Board" "waits").ok K,
  (He.Fa.meth "Board" "waiting_lines").ok K,
  (He.Fa.meth "Board" "is_enabled").ok K,
  (He.Fa.meth "Board" "ready_lines").ok K,
  (He.Fa.meth "WorkQueue" "rows").ok K,
  (He.Fa.meth "WorkQueue" "is_empty").ok K,
  (He.Fa.meth "WorkQueue" "put").ok K,
  (He.Fa.meth "WorkQueue" "spend").ok K,
  (He.Fa.meth "Processor" "take").ok K,
  (He.Fa.meth "Processor" "go_on").ok K,
  (He.Fa.meth "Processor" "call_rows").ok K,
  (He.Fa.meth "Processor" "spent_ticks").ok K,
  (He.Fa.meth "Processor" "_lets_by").ok K,
  (He.Fa.meth "Processor" "_present_step").ok K,
  (He.Fa.meth "Processor" "_passes_flag").ok K,
  (He.Fa.meth "Processor" "_takes_no_tick").ok K,
  (He.Fa.meth "Processor" "_act").ok K,
  (He.Fa.meth "Processor" "_go_through").ok K,
  (He.Fa.meth "Processor" "_spend").ok K,
  (He.Fa.meth "Processor" "_spend_beside_calls").ok K,
  (He.Fa.meth "Single" "ring").ok K,
  (He.Fa.meth "Single" "tick").ok K,
  propB K "Setup" "order",
  propB K "Setup" "works",
  propB K "Single" "calls",
  propB K "Single" "spent",
  creadB K (aC "Setup" K),
  cvalB K (aC "Setup" K) "MAX_LINES" 12,
  cvalB K (aC "Setup" K) "MAX_WORKS" 8,
  cvalB K (aC "Setup" K) "MAX_FLAG" 7,
  tupAtB K (He.dflAt ("Setup", some "__init__") 0 K) [],
  PySem.W.fnIn K (He.ma K (aC "Setup" K) "__getitem__")]
def exM (K : PySem.W.Frag) : Bool := (exL K).all id
theorem ex_at {K : PySem.W.Frag} (h : exM K = true) (i : Nat) {b : Bool} (e : (exL K)[i]? = some b := by rfl) : b = true := List.all_eq_true.mp h b (List.mem_of_getElem? e)
theorem txt_of {K : PySem.W.Frag} {mg : Str → Option Value} {hp : Heap} (X : K.In hp) (G : hp.Ns mainGlobals mg) (h0 : exM K = true) : Txt K mg where
  n_len := have h := ex_at h0 0; He.free_ok X G h
  n_isinstance := have h := ex_at h0 1; He.free_ok X G h
  n_enumerate := have h := ex_at h0 2; He.free_ok X G h
  n_range := have h := ex_at h0 3; He.free_ok X G h
  n_tuple := have h := ex_at h0 4; He.free_ok X G h
  n_list := have h := ex_at h0 5; He.free_ok X G h
  n_dict := have h := ex_at h0 6; He.free_ok X G h
  n_sorted := have h := ex_at h0 7; He.free_ok X G h
  n_all := have h := ex_at h0 8; He.free_ok X G h
  n_sum := have h := ex_at h0 9; He.free_ok X G h
  n_max := have h := ex_at h0 10; He.free_ok X G h
  n_int := have h := ex_at h0 11; He.free_ok X G h
  n_bool := have h := ex_at h0 12; He.free_ok X G h
  n_str := have h := ex_at h0 13; He.free_ok X G h
  n_min := have h := ex_at h0 14; He.free_ok X G h
  n_set := have h := ex_at h0 15; He.free_ok X G h
  k_MAX_LETTERS := have h := ex_at h0 16; int_rel (He.int_ok X G h)
  k_MAX_RANK := have h := ex_at h0 17; int_rel (He.int_ok X G h)
  k_MAX_STEPS := have h := ex_at h0 18; int_rel (He.int_ok X G h)
  k_MAX_TICKS := have h := ex_at h0 19; int_rel (He.int_ok X G h)
  k_CALLED := have h := ex_at h0 20; int_rel (He.int_ok X G h)
  k_SPUN := have h := ex_at h0 21; int_rel (He.int_ok X G h)
  k_WORKED := have h := ex_at h0 22; int_rel (He.int_ok X G h)
  k_IDLE := have h := ex_at h0 23; int_rel (He.int_ok X G h)
  k_MOST_TICKS := have h := ex_at h0 24; int_rel (He.int_ok X G h)
  k_KINDS := have h := ex_at h0 25; ⟨_, He.glo_ok X G h, rfl⟩
  v_KINDS := have h := ex_at h0 26; He.tupB_ok h
  k_ARGUMENTS := have h := ex_at h0 27; ⟨_, He.glo_ok X G h, rfl⟩
  v_ARGUMENTS := have h := ex_at h0 28; h
  f_is_integer := have h := ex_at h0 29; He.glo_ok X G h
  f_is_letters := have h := ex_at h0 30; He.glo_ok X G h
  f_is_name := have h := ex_at h0 31; He.glo_ok X G h
  f_is_line := have h := ex_at h0 32; He.glo_ok X G h
  f_is_work := have h := ex_at h0 33; He.glo_ok X G h
  f_is_step := have h := ex_at h0 34; He.glo_ok X G h
  f_spoilt_named := have h := ex_at h0 35; He.glo_ok X G h
  f_spoilt_line := have h := ex_at h0 36; He.glo_ok X G h
  f_spoilt_work := have h := ex_at h0 37; He.glo_ok X G h
  f_spoilt_handler := have h := ex_at h0 38; He.glo_ok X G h
  f_check_setup := have h := ex_at h0 39; He.glo_ok X G h
  f_put_changed := have h := ex_at h0 40; He.glo_ok X G h
  f__law_taken := have h := ex_at h0 41; He.glo_ok X G h
  f_law := have h := ex_at h0 42; He.glo_ok X G h
  f__law_mixed := have h := ex_at h0 43; He.glo_ok X G h
  f__law_plain := have h := ex_at h0 44; He.glo_ok X G h
  f__law_alike := have h := ex_at h0 45; He.glo_ok X G h
  g_Setup := have h := ex_at h0 46; He.glo_ok X G h
  cl_Setup := have h := ex_at h0 47; He.cls_ok h
  mk_Setup := have h := ex_at h0 48; He.mkr_ok h
  t_Setup_lines := have h := ex_at h0 49; He.noat_ok h
  t_Setup_works := have h := ex_at h0 50; He.noat_ok h
  t_Setup_by_name := have h := ex_at h0 51; He.noat_ok h
  t_Setup_order := have h := ex_at h0 52; He.noat_ok h
  g_Board := have h := ex_at h0 53; He.glo_ok X G h
  cl_Board := have h := ex_at h0 54; He.cls_ok h
  mk_Board := have h := ex_at h0 55; He.mkr_ok h
  t_Board_setup := have h := ex_at h0 56; He.noat_ok h
  t_Board_rung := have h := ex_at h0 57; He.noat_ok h
  t_Board_disabled := have h := ex_at h0 58; He.noat_ok h
  t_Board_under_way := have h := ex_at h0 59; He.noat_ok h
  t_Board_flags := have h := ex_at h0 60; He.noat_ok h
  t_Board_merges := have h := ex_at h0 61; He.noat_ok h
  g_WorkQueue := have h := ex_at h0 62; He.glo_ok X G h
  cl_WorkQueue := have h := ex_at h0 63; He.cls_ok h
  mk_WorkQueue := have h := ex_at h0 64; He.mkr_ok h
  t_WorkQueue_ranks := have h := ex_at h0 65; He.noat_ok h
  t_WorkQueue_lengths := have h := ex_at h0 66; He.noat_ok h
  t_WorkQueue_rows := have h := ex_at h0 67; He.noat_ok h
  g_Processor := have h := ex_at h0 68; He.glo_ok X G h
  cl_Processor := have h := ex_at h0 69; He.cls_ok h
  mk_Processor := have h := ex_at h0 70; He.mkr_ok h
  t_Processor_setup := have h := ex_at h0 71; He.noat_ok h
  t_Processor_board := have h := ex_at h0 72; He.noat_ok h
  t_Processor_bar := have h := ex_at h0 73; He.noat_ok h
  t_Processor_stack := have h := ex_at h0 74; He.noat_ok h
  t_Processor_jobs := have h := ex_at h0 75; He.noat_ok h
  t_Processor_counts := have h := ex_at h0 76; He.noat_ok h
  g_Single := have h := ex_at h0 77; He.glo_ok X G h
  cl_Single := have h := ex_at h0 78; He.cls_ok h
  mk_Single := have h := ex_at h0 79; He.mkr_ok h
  t_Single_setup := have h := ex_at h0 80; He.noat_ok h
  t_Single_board := have h := ex_at h0 81; He.noat_ok h
  t_Single_processor := have h := ex_at h0 82; He.noat_ok h
  t_Single_now := have h := ex_at h0 83; He.noat_ok h
  m_Setup_contains := have h := ex_at h0 84; He.meth_ok h
  m_Setup_getitem := have h := ex_at h0 85; He.meth_ok h
  m_Board_check_line := have h := ex_at h0 86; He.meth_ok h
  m_Board_is_edge := have h := ex_at h0 87; He.meth_ok h
  m_Board_ring := have h := ex_at h0 88; He.meth_ok h
  m_Board_begin := have h := ex_at h0 89; He.meth_ok h
  m_Board_end := have h := ex_at h0 90; He.meth_ok h
  m_Board_waits := have h := ex_at h0 91; He.meth_ok h
  m_Board_waiting_lines := have h := ex_at h0 92; He.meth_ok h
  m_Board_is_enabled := have h := ex_at h0 93; He.meth_ok h
  m_Board_ready_lines := have h := ex_at h0 94; He.meth_ok h
  m_WorkQueue_rows := have h := ex_at h0 95; He.meth_ok h
  m_WorkQueue_is_empty := have h := ex_at h0 96; He.meth_ok h
  m_WorkQueue_put := have h := ex_at h0 97; He.meth_ok h
  m_WorkQueue_spend := have h := ex_at h0 98; He.meth_ok h
  m_Processor_take := have h := ex_at h0 99; He.meth_ok h
  m_Processor_go_on := have h := ex_at h0 100; He.meth_ok h
  m_Processor_call_rows := have h := ex_at h0 101; He.meth_ok h
  m_Processor_spent_ticks := have h := ex_at h0 102; He.meth_ok h
  m_Processor_lets_by := have h := ex_at h0 103; He.meth_ok h
  m_Processor_present_step := have h := ex_at h0 104; He.meth_ok h
  m_Processor_passes_flag := have h := ex_at h0 105; He.meth_ok h
  m_Processor_takes_no_tick := have h := ex_at h0 106; He.meth_ok h
  m_Processor_act := have h := ex_at h0 107; He.meth_ok h
  m_Processor_go_through := have h := ex_at h0 108; He.meth_ok h
  m_Processor_spend := have h := ex_at h0 109; He.meth_ok h
  m_Processor_spend_beside_calls := have h := ex_at h0 110; He.meth_ok h
  m_Single_ring := have h := ex_at h0 111; He.meth_ok h
  m_Single_tick := have h := ex_at h0 112; He.meth_ok h
  p_Setup_order := have h := ex_at h0 113; propB_ok h
  p_Setup_works := have h := ex_at h0 114; propB_ok h
  p_Single_calls := have h := ex_at h0 115; propB_ok h
  p_Single_spent := have h := ex_at h0 116; propB_ok h
  r_Setup := have h := ex_at h0 117; creadB_ok h
  c_Setup_MAX_LINES := have h := ex_at h0 118; cvalB_ok h
  c_Setup_MAX_WORKS := have h := ex_at h0 119; cvalB_ok h
  c_Setup_MAX_FLAG := have h := ex_at h0 120; cvalB_ok h
  d_Setup := have h := ex_at h0 121; tupAtB_ok h
  i_getitem := have h := ex_at h0 122; h
structure FnP (P : Program) (w : World) (K : PySem.W.Frag) (mg : Str → Option Value) (base : Heap) (k : Nat) (f : Addr) (sp : Sp) : Prop where
  ex : ∃ (fd : FuncData) (ps : List Str), FnOk P w K mg base CX0 k f fd ps sp ∧ Binds K fd ps []
theorem fun_c8 {K : PySem.W.Frag} {x qual : Str} {st : Stmt} {f : Addr} {fd : FuncData} {dvs : List V} {kws : List (Str × V)} (F : FunD K x qual (C8.fnArgs st) (C8.fnBody st) (C8.fnScope st) dvs kws f fd) : C8.Fun K x qual st f fd := by
  obtain ⟨oc, od, dV, kV, doc, pm, an, cdv, ct, osl, e, l, c, _⟩ := F.ex
  exact ⟨oc, od, dV, kV, doc, pm, an, cdv, ct, osl, e, l, c⟩
theorem fnP_mk {P : Program} {w : World} {K : PySem.W.Frag} {mg : Str → Option Value} {base : Heap} {m qual : Str} {st : Stmt} {f : Addr} {fd : FuncData} {N ps : List Str} {k : Nat} {sp : Sp} (F : C8.Fun K m qual st f fd) (b : Binds K fd ps []) (S : FnScope N ps (C8.fnScope st))
    (len : ∀ vs H Q E, sp vs H Q E → vs.length = ps.length)
    (hbody : ∀ (cdv : Value) (A : Around) (outer : List Env) (s : Shared) (H : Hp) (vs : List V) (Q : VK) (E : XK), Room k (A.deeper (envOfC qual (C8.fnScope st) s.heap.objs.size f cdv)) → sp vs H Q E →
      ∃ t, PSs (cxOf CX0 P w K mg base N qual (C8.fnScope st) f cdv A outer s H E).nox (C8.fnBody st) t ∧ t { nx := fun _ H' => Q .non H', rt := Q } (start N vs) H) : FnP P w K mg base (k + 1) f sp :=
  ⟨fd, ps, C8.fn0 F S len hbody, b⟩
end Cb

namespace Cb
open PySem PySem.Spec PyProof.Rows L2
abbrev AlM : Type := (Bool × List He5.FnW) × List (Option (List (Option (Str × Int))))
def obsM (ex : PySem.W.Frag → Bool) (fn : List He5.DefA) (ts : List He.Tab) (K : PySem.W.Frag) : AlM := ((ex K && fn.all fun d => d.ok K, fn.map fun d => He5.fnA K (d.at_ K)), ts.map fun t => He.dicW K (t.1 K))
def valM (fn : List He5.DefA) (ts : List He.Tab) (w : World) : AlM := ((true, fn.map He5.DefA.val), ts.map fun t => some (He.keysIn w.params t.2))
def SaysM (ex : PySem.W.Frag → Bool) (fn : List He5.DefA) (ts : List He.Tab) (w : World) (K : PySem.W.Frag) : Prop := obsM ex fn ts K = valM fn ts w
def asL : List Addr := List.range 1100
def obsMG (n : Nat) (ex : PySem.W.Frag → Bool) (fn : List He5.DefA) (ts : List He.Tab) (g : Addr → Option Obj) : AlM := obsM ex fn ts (He.frG g asL)
def hookM (n : Nat) (ex : PySem.W.Frag → Bool) (fn : List He5.DefA) (ts : List He.Tab) : PySem.W.Hook where
  α := AlM
  obs := fun s => obsMG n ex fn ts s.heap.get?
  val := fun w => valM fn ts w
  says := fun w h => ∃ K : PySem.W.Frag, K.In h ∧ SaysM ex fn ts w K
  of := fun _ _ e => ⟨_, He.frG_in, e⟩
  keeps := fun _ _ _ ⟨K, hK, c⟩ k => ⟨K, PySem.W.Frag.In.keeps hK k, c⟩
theorem obsMG_eq {n : Nat} {ex : PySem.W.Frag → Bool} {fn : List He5.DefA} {ts : List He.Tab} {g : Addr → Option Obj} {s : Shared} (h : ∀ a, g a = s.heap.get? a) : obsMG n ex fn ts g = (hookM n ex fn ts).obs s := by
  have e : g = s.heap.get? := funext h
  rw [e] <;> rfl
section
variable {ex : PySem.W.Frag → Bool} {fn : List He5.DefA} {ts : List He.Tab} {w : World} {K : PySem.W.Frag}
theorem SaysM.exok (c : SaysM ex fn ts w K) : ex K = true := (He.ba (show (ex K && fn.all fun d => d.ok K) = true from congrArg (fun z : AlM => z.1.1) c)).1
theorem SaysM.def_ (c : SaysM ex fn ts w K) (i : Nat) {d : He5.DefA} (h : fn[i]? = some d := by rfl) : ∃ fd, FunD K d.name d.qual d.params d.body d.scope (d.dvs K) (d.kws K) (d.at_ K) fd := by
  have c2 := (He.ba (show (ex K && fn.all fun d => d.ok K) = true from congrArg (fun z : AlM => z.1.1) c)).2
  have e : fn.map (fun d => He5.fnA K (d.at_ K)) = fn.map He5.DefA.val := congrArg (fun z : AlM => z.1.2) c
  have e2 : (fn.map fun d => He5.fnA K (d.at_ K))[i]? = (fn.map He5.DefA.val)[i]? := by rw [e]
  rw [List.getElem?_map, List.getElem?_map, h] at e2
  exact He5.DefA.funD (Option.some.inj e2) (List.all_eq_true.mp c2 d (List.mem_of_getElem? h))
theorem SaysM.tab (c : SaysM ex fn ts w K) (i : Nat) {t : He.Tab} (h : ts[i]? = some t := by rfl) : ∃ es n, KDict K w (t.1 K) es n := by
  have e : ts.map (fun t => He.dicW K (t.1 K)) = ts.map fun t => some (He.keysIn w.params t.2) := congrArg (fun z : AlM => z.2) c
  have e2 : (ts.map fun t => He.dicW K (t.1 K))[i]? = (ts.map fun t => some (He.keysIn w.params t.2))[i]? := by rw [e]
  rw [List.getElem?_map, List.getElem?_map, h] at e2
  exact He.dicW_ok (Option.some.inj e2)
end

def D_is_integer : He5.DefA := ⟨fun K => He.ga K "is_integer", "is_integer", "is_integer", C8.fnArgs s_is_integer, C8.fnBody s_is_integer, C8.fnScope s_is_integer, [], []⟩
def D_is_letters : He5.DefA := ⟨fun K => He.ga K "is_letters", "is_letters", "is_letters", C8.fnArgs s_is_letters, C8.fnBody s_is_letters, C8.fnScope s_is_letters, [], []⟩
def D_is_name : He5.DefA := ⟨fun K => He.ga K "is_name", "is_name", "is_name", C8.fnArgs s_is_name, C8.fnBody s_is_name, C8.fnScope s_is_name, [], []⟩
def D_is_line : He5.DefA := ⟨fun K => He.ga K "is_line", "is_line", "is_line", C8.fnArgs s_is_line, C8.fnBody s_is_line, C8.fnScope s_is_line, [], []⟩
def D_is_work : He5.DefA := ⟨fun K => He.ga K "is_work", "is_work", "is_work", C8.fnArgs s_is_work, C8.fnBody s_is_work, C8.fnScope s_is_work, [], []⟩
def D_is_step : He5.DefA := ⟨fun K => He.ga K "is_step", "is_step", "is_step", C8.fnArgs s_is_step, C8.fnBody s_is_step, C8.fnScope s_is_step, [], []⟩
def D_spoilt_named : He5.DefA := ⟨fun K => He.ga K "spoilt_named", "spoilt_named", "spoilt_named", C8.fnArgs s_spoilt_named, C8.fnBody s_spoilt_named, C8.fnScope s_spoilt_named, [], []⟩
def D_spoilt_line : He5.DefA := ⟨fun K => He.ga K "spoilt_line", "spoilt_line", "spoilt_line", C8.fnArgs s_spoilt_line, C8.fnBody s_spoilt_line, C8.fnScope s_spoilt_line, [], []⟩
def D_spoilt_work : He5.DefA := ⟨fun K => He.ga K "spoilt_work", "spoilt_work", "spoilt_work", C8.fnArgs s_spoilt_work, C8.fnBody s_spoilt_work, C8.fnScope s_spoilt_work, [], []⟩
def D_spoilt_handler : He5.DefA := ⟨fun K => He.ga K "spoilt_handler", "spoilt_handler", "spoilt_handler", C8.fnArgs s_spoilt_handler, C8.fnBody s_spoilt_handler, C8.fnScope s_spoilt_handler, [], []⟩
def D_Setup_init : He5.DefA := ⟨fun K => He.ma K (He.ga K "Setup") "__init__", "__init__", "Setup.__init__", C8.fnArgs s_Setup_init, C8.fnBody s_Setup_init, C8.fnScope s_Setup_init, [.adr (He.dflAt ("Setup", some "__init__") 0)], []⟩
def D_Setup_contains : He5.DefA := ⟨fun K => He.ma K (He.ga K "Setup") "__contains__", "__contains__", "Setup.__contains__", C8.fnArgs s_Setup_contains, C8.fnBody s_Setup_contains, C8.fnScope s_Setup_contains, [], []⟩
def D_Setup_getitem : He5.DefA := ⟨fun K => He.ma K (He.ga K "Setup") "__getitem__", "__getitem__", "Setup.__getitem__", C8.fnArgs s_Setup_getitem, C8.fnBody s_Setup_getitem, C8.fnScope s_Setup_getitem, [], []⟩
def D_Setup_works : He5.DefA := ⟨prA "Setup" "works", "works", "Setup.works", C8.fnArgs s_Setup_works, C8.fnBody s_Setup_works, C8.fnScope s_Setup_works, [], []⟩
def D_Setup_order : He5.DefA := ⟨prA "Setup" "order", "order", "Setup.order", C8.fnArgs s_Setup_order, C8.fnBody s_Setup_order, C8.fnScope s_Setup_order, [], []⟩
def D_check_setup : He5.DefA := ⟨fun K => He.ga K "check_setup", "check_setup", "check_setup", C8.fnArgs s_check_setup, C8.fnBody s_check_setup, C8.fnScope s_check_setup, [], []⟩
def D_put_changed : He5.DefA := ⟨fun K => He.ga K "put_changed", "put_changed", "put_changed", C8.fnArgs s_put_changed, C8.fnBody s_put_changed, C8.fnScope s_put_changed, [], []⟩
def D_Board_init : He5.DefA := ⟨fun K => He.ma K (He.ga K "Board") "__init__", "__init__", "Board.__init__", C8.fnArgs s_Board_init, C8.fnBody s_Board_init, C8.fnScope s_Board_init, [], []⟩
def D_Board_check_line : He5.DefA := ⟨fun K => He.ma K (He.ga K "Board") "_check_line", "_check_line", "Board._check_line", C8.fnArgs s_Board_check_line, C8.fnBody s_Board_check_line, C8.fnScope s_Board_check_line, [], []⟩
def D_Board_is_edge : He5.DefA := ⟨fun K => He.ma K (He.ga K "Board") "_is_edge", "_is_edge", "Board._is_edge", C8.fnArgs s_Board_is_edge, C8.fnBody s_Board_is_edge, C8.fnScope s_Board_is_edge, [], []⟩
def D_Board_ring : He5.DefA := ⟨fun K => He.ma K (He.ga K "Board") "ring", "ring", "Board.ring", C8.fnArgs s_Board_ring, C8.fnBody s_Board_ring, C8.fnScope s_Board_ring, [], []⟩
def D_Board_begin : He5.DefA := ⟨fun K => He.ma K (He.ga K "Board") "begin", "begin", "Board.begin", C8.fnArgs s_Board_begin, C8.fnBody s_Board_begin, C8.fnScope s_Board_begin, [], []⟩
def D_Board_end : He5.DefA := ⟨fun K => He.ma K (He.ga K "Board") "end", "end", "Board.end", C8.fnArgs s_Board_end, C8.fnBody s_Board_end, C8.fnScope s_Board_end, [], []⟩
def D_Board_is_enabled : He5.DefA := ⟨fun K => He.ma K (He.ga K "Board") "is_enabled", "is_enabled", "Board.is_enabled", C8.fnArgs s_Board_is_enabled, C8.fnBody s_Board_is_enabled, C8.fnScope s_Board_is_enabled, [], []⟩
def D_Board_waits : He5.DefA := ⟨fun K => He.ma K (He.ga K "Board") "waits", "waits", "Board.waits", C8.fnArgs s_Board_waits, C8.fnBody s_Board_waits, C8.fnScope s_Board_waits, [], []⟩
def D_Board_waiting_lines : He5.DefA := ⟨fun K => He.ma K (He.ga K "Board") "waiting_lines", "waiting_lines", "Board.waiting_lines", C8.fnArgs s_Board_waiting_lines, C8.fnBody s_Board_waiting_lines, C8.fnScope s_Board_waiting_lines, [], []⟩
def D_Board_ready_lines : He5.DefA := ⟨fun K => He.ma K (He.ga K "Board") "ready_lines", "ready_lines", "Board.ready_lines", C8.fnArgs s_Board_ready_lines, C8.fnBody s_Board_ready_lines, C8.fnScope s_Board_ready_lines, [], []⟩
def D_WorkQueue_init : He5.DefA := ⟨fun K => He.ma K (He.ga K "WorkQueue") "__init__", "__init__", "WorkQueue.__init__", C8.fnArgs s_WorkQueue_init, C8.fnBody s_WorkQueue_init, C8.fnScope s_WorkQueue_init, [], []⟩
def D_WorkQueue_rows : He5.DefA := ⟨fun K => He.ma K (He.ga K "WorkQueue") "rows", "rows", "WorkQueue.rows", C8.fnArgs s_WorkQueue_rows, C8.fnBody s_WorkQueue_rows, C8.fnScope s_WorkQueue_rows, [], []⟩
def D_WorkQueue_is_empty : He5.DefA := ⟨fun K => He.ma K (He.ga K "WorkQueue") "is_empty", "is_empty", "WorkQueue.is_empty", C8.fnArgs s_WorkQueue_is_empty, C8.fnBody s_WorkQueue_is_empty, C8.fnScope s_WorkQueue_is_empty, [], []⟩
def D_WorkQueue_put : He5.DefA := ⟨fun K => He.ma K (He.ga K "WorkQueue") "put", "put", "WorkQueue.put", C8.fnArgs s_WorkQueue_put, C8.fnBody s_WorkQueue_put, C8.fnScope s_WorkQueue_put, [.int 0], []⟩
def D_WorkQueue_spend : He5.DefA := ⟨fun K => He.ma K (He.ga K "WorkQueue") "spend", "spend", "WorkQueue.spend", C8.fnArgs s_WorkQueue_spend, C8.fnBody s_WorkQueue_spend, C8.fnScope s_WorkQueue_spend, [], []⟩
def D_Processor_init : He5.DefA := ⟨fun K => He.ma K (He.ga K "Processor") "__init__", "__init__", "Processor.__init__", C8.fnArgs s_Processor_init, C8.fnBody s_Processor_init, C8.fnScope s_Processor_init, [], []⟩
def D_Processor_take : He5.DefA := ⟨fun K => He.ma K (He.ga K "Processor") "take", "take", "Processor.take", C8.fnArgs s_Processor_take, C8.fnBody s_Processor_take, C8.fnScope s_Processor_take, [], []⟩
def D_Processor_go_on : He5.DefA := ⟨fun K => He.ma K (He.ga K "Processor") "go_on", "go_on", "Processor.go_on", C8.fnArgs s_Processor_go_on, C8.fnBody s_Processor_go_on, C8.fnScope s_Processor_go_on, [], []⟩
def D_Processor_call_rows : He5.DefA := ⟨fun K => He.ma K (He.ga K "Processor") "call_rows", "call_rows", "Processor.call_rows", C8.fnArgs s_Processor_call_rows, C8.fnBody s_Processor_call_rows, C8.fnScope s_Processor_call_rows, [], []⟩
def D_Processor_spent_ticks : He5.DefA := ⟨fun K => He.ma K (He.ga K "Processor") "spent_ticks", "spent_ticks", "Processor.spent_ticks", C8.fnArgs s_Processor_spent_ticks, C8.fnBody s_Processor_spent_ticks, C8.fnScope s_Processor_spent_ticks, [], []⟩
def D_Processor_lets_by : He5.DefA := ⟨fun K => He.ma K (He.ga K "Processor") "_lets_by", "_lets_by", "Processor._lets_by", C8.fnArgs s_Processor_lets_by, C8.fnBody s_Processor_lets_by, C8.fnScope s_Processor_lets_by, [], []⟩
def D_Processor_present_step : He5.DefA := ⟨fun K => He.ma K (He.ga K "Processor") "_present_step", "_present_step", "Processor._present_step", C8.fnArgs s_Processor_present_step, C8.fnBody s_Processor_present_step, C8.fnScope s_Processor_present_step, [], []⟩
def D_Processor_passes_flag : He5.DefA := ⟨fun K => He.ma K (He.ga K "Processor") "_passes_flag", "_passes_flag", "Processor._passes_flag", C8.fnArgs s_Processor_passes_flag, C8.fnBody s_Processor_passes_flag, C8.fnScope s_Processor_passes_flag, [], []⟩
def D_Processor_takes_no_tick : He5.DefA := ⟨fun K => He.ma K (He.ga K "Processor") "_takes_no_tick", "_takes_no_tick", "Processor._takes_no_tick", C8.fnArgs s_Processor_takes_no_tick, C8.fnBody s_Processor_takes_no_tick, C8.fnScope s_Processor_takes_no_tick, [], []⟩
def D_Processor_act : He5.DefA := ⟨fun K => He.ma K (He.ga K "Processor") "_act", "_act", "Processor._act", C8.fnArgs s_Processor_act, C8.fnBody s_Processor_act, C8.fnScope s_Processor_act, [], []⟩
def D_Processor_go_through : He5.DefA := ⟨fun K => He.ma K (He.ga K "Processor") "_go_through", "_go_through", "Processor._go_through", C8.fnArgs s_Processor_go_through, C8.fnBody s_Processor_go_through, C8.fnScope s_Processor_go_through, [], []⟩
def D_Processor_spend : He5.DefA := ⟨fun K => He.ma K (He.ga K "Processor") "_spend", "_spend", "Processor._spend", C8.fnArgs s_Processor_spend, C8.fnBody s_Processor_spend, C8.fnScope s_Processor_spend, [], []⟩
def D_Processor_spend_beside_calls : He5.DefA := ⟨fun K => He.ma K (He.ga K "Processor") "_spend_beside_calls", "_spend_beside_calls", "Processor._spend_beside_calls", C8.fnArgs s_Processor_spend_beside_calls, C8.fnBody s_Processor_spend_beside_calls, C8.fnScope s_Processor_spend_beside_calls, [], []⟩
def D_Single_init : He5.DefA := ⟨fun K => He.ma K (He.ga K "Single") "__init__", "__init__", "Single.__init__", C8.fnArgs s_Single_init, C8.fnBody s_Single_init, C8.fnScope s_Single_init, [], []⟩
def D_Single_ring : He5.DefA := ⟨fun K => He.ma K (He.ga K "Single") "ring", "ring", "Single.ring", C8.fnArgs s_Single_ring, C8.fnBody s_Single_ring, C8.fnScope s_Single_ring, [], []⟩
def D_Single_tick : He5.DefA := ⟨fun K => He.ma K (He.ga K "Single") "tick", "tick", "Single.tick", C8.fnArgs s_Single_tick, C8.fnBody s_Single_tick, C8.fnScope s_Single_tick, [], []⟩
def D_Single_calls : He5.DefA := ⟨prA "Single" "calls", "calls", "Single.calls", C8.fnArgs s_Single_calls, C8.fnBody s_Single_calls, C8.fnScope s_Single_calls, [], []⟩
def D_Single_spent : He5.DefA := ⟨prA "Single" "spent", "spent", "Single.spent", C8.fnArgs s_Single_spent, C8.fnBody s_Single_spent, C8.fnScope s_Single_spent, [], []⟩
def D_law_taken : He5.DefA := ⟨fun K => He.ga K "_law_taken", "_law_taken", "_law_taken", C8.fnArgs s_law_taken, C8.fnBody s_law_taken, C8.fnScope s_law_taken, [], []⟩
def D_law_alike : He5.DefA := ⟨fun K => He.ga K "_law_alike", "_law_alike", "_law_alike", C8.fnArgs s_law_alike, C8.fnBody s_law_alike, C8.fnScope s_law_alike, [], []⟩
def D_law_mixed : He5.DefA := ⟨fun K => He.ga K "_law_mixed", "_law_mixed", "_law_mixed", C8.fnArgs s_law_mixed, C8.fnBody s_law_mixed, C8.fnScope s_law_mixed, [], []⟩
def D_law_plain : He5.DefA := ⟨fun K => He.ga K "_law_plain", "_law_plain", "_law_plain", C8.fnArgs s_law_plain, C8.fnBody s_law_plain, C8.fnScope s_law_plain, [], []⟩
def D_law : He5.DefA := ⟨fun K => He.ga K "law", "law", "law", C8.fnArgs s_law, C8.fnBody s_law, C8.fnScope s_law, [], []⟩
def fn : List He5.DefA := [D_is_integer, D_is_letters, D_is_name, D_is_line, D_is_work, D_is_step, D_spoilt_named, D_spoilt_line, D_spoilt_work, D_spoilt_handler, D_Setup_init, D_Setup_contains, D_Setup_getitem, D_Setup_works, D_Setup_order, D_check_setup, D_put_changed, D_Board_init, D_Board_check_line, D_Board_is_edge, D_Board_ring, D_Board_begin, D_Board_end, D_Board_is_enabled, D_Board_waits, D_Board_waiting_lines, D_Board_ready_lines, D_WorkQueue_init, D_WorkQueue_rows, D_WorkQueue_is_empty, D_WorkQueue_put, D_WorkQueue_spend, D_Processor_init, D_Processor_take, D_Processor_go_on, D_Processor_call_rows, D_Processor_spent_ticks, D_Processor_lets_by, D_Processor_present_step, D_Processor_passes_flag, D_Processor_takes_no_tick, D_Processor_act, D_Processor_go_through, D_Processor_spend, D_Processor_spend_beside_calls, D_Single_init, D_Single_ring, D_Single_tick, D_Single_calls, D_Single_spent, D_law_taken, D_law_alike, D_law_mixed, D_law_plain, D_law]
def tsM : List He.Tab := [(fun K => He.ga K "ARGUMENTS", ["run", "ring", "quiet", "mask", "unmask", "set", "clear", "await", "bar", "later"])]
def nm0 : List Str := [("_wall" : Str), ("BellError" : Str), ("InvalidSetup" : Str), ("UnknownLine" : Str), ("NotLevel" : Str), ("InvalidNumber" : Str), ("InvalidFlag" : Str), ("KINDS" : Str), ("MAX_LETTERS" : Str), ("MAX_RANK" : Str), ("MAX_STEPS" : Str), ("MAX_TICKS" : Str), ("ARGUMENTS" : Str), ("is_integer" : Str), ("check_number" : Str), ("is_letters" : Str), ("is_name" : Str), ("is_line" : Str), ("is_work" : Str), ("is_step" : Str), ("spoilt_named" : Str), ("spoilt_line" : Str), ("spoilt_work" : Str), ("spoilt_handler" : Str), ("Setup" : Str), ("check_setup" : Str), ("put_changed" : Str), ("check_flag" : Str), ("Board" : Str), ("WorkQueue" : Str), ("CALLED" : Str), ("SPUN" : Str), ("WORKED" : Str), ("IDLE" : Str), ("Processor" : Str)]
def nm1 : List Str := [("MOST_TICKS" : Str), ("Single" : Str), ("_law_taken" : Str), ("_law_alike" : Str), ("_law_mixed" : Str), ("_law_plain" : Str)]
def nms : List Str := nm0 ++ nm1
def fnp1 : List He5.DefA := [D_is_integer, D_is_letters, D_is_name, D_is_line, D_is_work, D_is_step, D_spoilt_named, D_spoilt_line, D_spoilt_work, D_spoilt_handler, D_Setup_init, D_Setup_contains, D_Setup_getitem, D_Setup_works, D_Setup_order, D_check_setup, D_put_changed, D_Board_init, D_Board_check_line, D_Board_is_edge, D_Board_ring, D_Board_begin, D_Board_end, D_Board_is_enabled, D_Board_waits, D_Board_waiting_lines, D_Board_ready_lines, D_WorkQueue_init]
def fnp2 : List He5.DefA := [D_WorkQueue_rows, D_WorkQueue_is_empty, D_WorkQueue_put, D_WorkQueue_spend, D_Processor_init, D_Processor_take, D_Processor_go_on, D_Processor_call_rows, D_Processor_spent_ticks, D_Processor_lets_by, D_Processor_present_step, D_Processor_passes_flag, D_Processor_takes_no_tick, D_Processor_act, D_Processor_go_through, D_Processor_spend, D_Processor_spend_beside_calls, D_Single_init, D_Single_ring, D_Single_tick, D_Single_calls, D_Single_spent, D_law_taken, D_law_alike, D_law_mixed, D_law_plain, D_law]
abbrev R : PySem.W.OpenRow := PySem.W.OpenLaw.row PySem.Challenge.rw_callbells_k19_whole_lower_ranks_do_not_m
def obG (ex : PySem.W.Frag → Bool) (fn : List He5.DefA) (ts : List He.Tab) (s : PySem.W.SharedT) : AlM := obsMG 5 ex fn ts (HandSHeadRun.getT s)
abbrev hk : PySem.W.Hook := hookM 5 exM fn tsM
abbrev ob : PySem.W.SharedT → AlM := obG exM fn tsM
theorem cast_fn {ex : PySem.W.Frag → Bool} {f g : List He5.DefA} {ts : List He.Tab} {r : PySem.W.OpenRow} {q : Program} {M : Nat} {loose : List PySem.Str} {w : World} (e : f = g) (z : HandSHeadRun.RunEq r q (hookM 5 ex g ts) (obG ex g ts) M loose w) : HandSHeadRun.RunEq r q (hookM 5 ex f ts) (obG ex f ts) M loose w := by
  subst e
  exact z
theorem fn_eq : fn = ((([] : List He5.DefA) ++ fnp1) ++ fnp2) := rfl
theorem ob_eq (s : PySem.W.SharedT) : ob s = hk.obs s.abs := obsMG_eq (HandSHeadRun.getT_eq s)
theorem obs_join {ex : PySem.W.Frag → Bool} {f1 f2 : List He5.DefA} {ts : List He.Tab} {w : World} {K : PySem.W.Frag} (h1 : obsM ex f1 ts K = valM f1 ts w) (h2 : obsM (fun _ => true) f2 [] K = valM f2 [] w) : obsM ex (f1 ++ f2) ts K = valM (f1 ++ f2) ts w := by
  have a : (ex K && f1.all fun d => d.ok K) = true := congrArg (fun z : AlM => z.1.1) h1
  have a2 : f1.map (fun d => He5.fnA K (d.at_ K)) = f1.map He5.DefA.val := congrArg (fun z : AlM => z.1.2) h1
  have b := congrArg (fun z : AlM => z.2) h1
  have c : (true && f2.all fun d => d.ok K) = true := congrArg (fun z : AlM => z.1.1) h2
  have d : f2.map (fun d => He5.fnA K (d.at_ K)) = f2.map He5.DefA.val := congrArg (fun z : AlM => z.1.2) h2
  rw [Bool.true_and] at c
  refine Prod.ext (Prod.ext ?_ ?_) b
  · show (ex K && (f1 ++ f2).all fun d => d.ok K) = true
    rw [List.all_append, ← Bool.and_assoc, a, c]
    rfl
  · show (f1 ++ f2).map (fun d => He5.fnA K (d.at_ K)) = (f1 ++ f2).map He5.DefA.val
    rw [List.map_append, List.map_append, a2, d]
theorem join {ex : PySem.W.Frag → Bool} {f1 f2 : List He5.DefA} {ts : List He.Tab} {r : PySem.W.OpenRow} {q : Program} {M : Nat} {loose : List PySem.Str} {w : World} (z1 : HandSHeadRun.RunEq r q (hookM 5 ex f1 ts) (obG ex f1 ts) M loose w) (z2 : HandSHeadRun.RunEq r q (hookM 5 (fun _ => true) f2 []) (obG (fun _ => true) f2 []) M loose w) : HandSHeadRun.RunEq r q (hookM 5 ex (f1 ++ f2) ts) (obG ex (f1 ++ f2) ts) M loose w := by
  intro os
  have a := z1 os
  have b := z2 os
  revert a b
  generalize HandSHeadRun.endF (HandSHeadRun.stepQ (HandSHeadRun.denQ HandSHeadRun.tabQ) r.prog w) M r.prog w os = X
  intro a b
  cases X with
  | none => cases a
  | some s =>
    have a := Option.some.inj a
    have b := Option.some.inj b
    have a1 := congrArg Prod.fst a
    have a2 := congrArg (fun z => z.2.1) a
    have a3 := congrArg (fun z => z.2.2) a
    have b3 := congrArg (fun z => z.2.2) b
    refine congrArg some (Prod.ext a1 (Prod.ext a2 ?_))
    exact obs_join a3 b3
theorem run_f0 (w : World) : HandSHeadRun.RunEq R (PySem.W.view R.prog [49]) (hookM 5 exM [] tsM) (obG exM [] tsM) 30000 nms (w.withFollow "special-get-raises" false) := by
  intro os
  kernel_rfl
theorem run_f1 (w : World) : HandSHeadRun.RunEq R (PySem.W.view R.prog [49]) (hookM 5 (fun _ => true) fnp1 []) (obG (fun _ => true) fnp1 []) 30000 nms (w.withFollow "special-get-raises" false) := by
  intro os
  kernel_rfl
theorem run_f2 (w : World) : HandSHeadRun.RunEq R (PySem.W.view R.prog [49]) (hookM 5 (fun _ => true) fnp2 []) (obG (fun _ => true) fnp2 []) 30000 nms (w.withFollow "special-get-raises" false) := by
  intro os
  kernel_rfl
theorem run_f (w : World) : HandSHeadRun.RunEq R (PySem.W.view R.prog [49]) (hookM 5 exM fn tsM) (obG exM fn tsM) 30000 nms (w.withFollow "special-get-raises" false) := cast_fn fn_eq (join (join (run_f0 w) (run_f1 w)) (run_f2 w))
theorem run_t0 (w : World) : HandSHeadRun.RunEq R (PySem.W.view R.prog [49]) (hookM 5 exM [] tsM) (obG exM [] tsM) 30000 nms (w.withFollow "special-get-raises" true) := by
  intro os
  kernel_rfl
theorem run_t1 (w : World) : HandSHeadRun.RunEq R (PySem.W.view R.prog [49]) (hookM 5 (fun _ => true) fnp1 []) (obG (fun _ => true) fnp1 []) 30000 nms (w.withFollow "special-get-raises" true) := by
  intro os
  kernel_rfl
theorem run_t2 (w : World) : HandSHeadRun.RunEq R (PySem.W.view R.prog [49]) (hookM 5 (fun _ => true) fnp2 []) (obG (fun _ => true) fnp2 []) 30000 nms (w.withFollow "special-get-raises" true) := by
  intro os
  kernel_rfl
theorem run_t (w : World) : HandSHeadRun.RunEq R (PySem.W.view R.prog [49]) (hookM 5 exM fn tsM) (obG exM fn tsM) 30000 nms (w.withFollow "special-get-raises" true) := cast_fn fn_eq (join (join (run_t0 w) (run_t1 w)) (run_t2 w))
theorem run (w : World) : HandSHeadRun.RunEq R (PySem.W.view R.prog [49]) hk ob 30000 nms w :=
  PySem.W.byRow2 "special-get-raises" (P := fun w => HandSHeadRun.RunEq R (PySem.W.view R.prog [49]) hk ob 30000 nms w) run_f run_t w
end Cb

namespace Cb
open PySem PySem.Spec PyProof.Rows L2
def letters (x : Str) : Bool := Txt.isascii x && (Txt.isalpha x && Txt.islower x)
def nameOk (x : Str) : Prop := x.length ≤ 8 ∧ letters x = true
def kindS (b : Bool) : Str := if b then "level" else "edge"
def sp_is_integer : Sp := fun vs H Q _ => ∃ i lo hi : Int, vs = [.int i, .int lo, .int hi] ∧ Q (.bl (decide (lo ≤ i) && decide (i ≤ hi))) H
def sp_is_letters : Sp := fun vs H Q _ => ∃ x : Str, vs = [.str x] ∧ Q (.bl (letters x)) H
def sp_is_name : Sp := fun vs H Q _ => ∃ x : Str, vs = [.str x] ∧ x.length ≤ sizeLine ∧ Q (.bl (decide ((x.length : Int) ≤ 8) && letters x)) H
inductive SD where
  | run (n : Int)
  | later (w : Str)
def SD.word : SD → Str
  | run _ => "run"
  | later _ => "later"
def SD.arg : SD → V
  | run n => .int n
  | later w => .str w
def StepOk (ws : List Str) : SD → Prop
  | .run n => 1 ≤ n ∧ n ≤ 99
  | .later w => w ∈ ws
/-- a line at v: its name, level or edge, rank, steps -/
structure LineD where
  name : Str
  lvl : Bool
  rank : Int
  steps : List SD
structure WorkD where
  name : Str
  rank : Int
  ticks : Int
def StepAt (K : PySem.W.Frag) (H : Hp) (v : V) (s : SD) : Prop := ∃ a, v = .ref a ∧ SqT K H a [.str s.word, s.arg]
def LineAt (K : PySem.W.Frag) (H : Hp) (v : V) (l : LineD) : Prop := ∃ a h hs, v = .ref a ∧ SqT K H a [.str l.name, .str (kindS l.lvl), .int l.rank, .ref h] ∧ SqT K H h hs ∧ Paired (StepAt K H) hs l.steps
def WorkAt (K : PySem.W.Frag) (H : Hp) (v : V) (w : WorkD) : Prop := ∃ a, v = .ref a ∧ SqT K H a [.str w.name, .int w.rank, .int w.ticks]
structure LineOk (l : LineD) : Prop where
  nm : nameOk l.name
  r1 : 1 ≤ l.rank
  r9 : l.rank ≤ 9
  s1 : 1 ≤ l.steps.length
  s8 : l.steps.length ≤ 8
structure WorkOk (w : WorkD) : Prop where
  nm : nameOk w.name
  r1 : 1 ≤ w.rank
  r9 : w.rank ≤ 9
  t1 : 1 ≤ w.ticks
  t99 : w.ticks ≤ 99
def sp_is_line (K : PySem.W.Frag) : Sp := fun vs H Q _ => ∃ (v : V) (l : LineD), vs = [v] ∧ LineAt K H v l ∧ LineOk l ∧ Q (.bl true) H
def sp_is_work (K : PySem.W.Frag) : Sp := fun vs H Q _ => ∃ (v : V) (l : WorkD), vs = [v] ∧ WorkAt K H v l ∧ WorkOk l ∧ Q (.bl true) H
section
variable {P : Program} {w : World} {K : PySem.W.Frag} {mg : Str → Option Value} {base : Heap}
theorem small8 {n : Nat} (h : n ≤ 8) : n ≤ sizeLine := Nat.le_trans h (by decide)
theorem andT {a b : Bool} (h1 : a = true) (h2 : b = true) : (a && b) = true := by rw [h1, h2]; rfl

abbrev N_is_integer : List Str := ["value", "low", "high"]
theorem sc_is_integer : FnScope N_is_integer ["value", "low", "high"] (C8.fnScope s_is_integer) := C8.fnScope_by (by decide +kernel)
theorem ok_is_integer {fd : FuncData} (T : Txt K mg) (F : FunD K "is_integer" "is_integer" (C8.fnArgs s_is_integer) (C8.fnBody s_is_integer) (C8.fnScope s_is_integer) [] [] (He.ga K "is_integer") fd) :
    C8.Cal P w K mg base 1 "is_integer" sp_is_integer [] := by
  refine C8.cal0 (ds := []) ⟨fun_c8 F, T.f_is_integer, F.kp⟩ (F.bindsN fun _ _ _ _ _ _ us hl => match us, hl with | [_, _, _], _ => rfl) .nil sc_is_integer (fun vs H Q E h => ?_) (fun cdv A outer s H vs Q E hr h => ?_)
  · obtain ⟨_, _, _, rfl, _⟩ := h
    rfl
  · have nd := sc_is_integer.nd
    have hu := hu_of hr
    obtain ⟨i, lo, hi, rfl, q⟩ := h
    refine ⟨_, (pss_one (ps_ret (pe_and (pe_callB call_is (by rfl) T.n_isinstance (by decide +kernel) (pa_cons (pv 0) (pa_cons (pe_bltn (v := .ty "int") rfl T.n_int (by decide +kernel) rfl) pa_nil))) (pe_and (pe_not (pe_callB call_is (by rfl) T.n_isinstance (by decide +kernel) (pa_cons (pv 0) (pa_cons (pe_bltn (v := .ty "bool") rfl T.n_bool (by decide +kernel) rfl) pa_nil)))) (pe_one (pe_chain op_le op_le (pv 1) (pv 0) (pv 2))))))), ?_⟩
    refine ⟨_, rfl, _, _, _, _, rfl, ty_int, kb1, true, rfl, iteT ?_⟩
    refine ⟨_, rfl, _, _, _, _, rfl, ty_int, kb2, false, rfl, true, rfl, iteT ?_⟩
    refine ⟨_, rfl, _, rfl, _, _, rfl, rfl, _, rfl, ?_⟩
    cases e1 : decide (lo ≤ i) with
    | true =>
      rw [e1] at q
      refine iteT ⟨_, rfl, _, _, rfl, rfl, ?_⟩
      rw [Bool.true_and] at q
      exact q
    | false =>
      rw [e1, Bool.false_and] at q
      exact iteF q
abbrev N_is_letters : List Str := ["word"]
theorem sc_is_letters : FnScope N_is_letters ["word"] (C8.fnScope s_is_letters) := C8.fnScope_by (by decide +kernel)
theorem ok_is_letters {fd : FuncData} (T : Txt K mg) (F : FunD K "is_letters" "is_letters" (C8.fnArgs s_is_letters) (C8.fnBody s_is_letters) (C8.fnScope s_is_letters) [] [] (He.ga K "is_letters") fd) :
    C8.Cal P w K mg base 1 "is_letters" sp_is_letters [] := by
  refine C8.cal0 (ds := []) ⟨fun_c8 F, T.f_is_letters, F.kp⟩ (F.bindsN fun _ _ _ _ _ _ us hl => match us, hl with | [_], _ => rfl) .nil sc_is_letters (fun vs H Q E h => ?_) (fun cdv A outer s H vs Q E hr h => ?_)
  · obtain ⟨_, rfl, _⟩ := h
    rfl
  · have nd := sc_is_letters.nd
    have hu := hu_of hr
    obtain ⟨x, rfl, q⟩ := h
    refine ⟨_, (pss_one (ps_ret (pe_and (pe_bm0 PySem.F.plainAttrs_str PySem.F.slot_str_isascii PySem.F.type_str_isascii mt_isascii (pv 0)) (pe_and (pe_bm0 PySem.F.plainAttrs_str PySem.F.slot_str_isalpha PySem.F.type_str_isalpha mt_isalpha (pv 0)) (pe_one (pe_bm0 PySem.F.plainAttrs_str PySem.F.slot_str_islower PySem.F.type_str_islower mt_islower (pv 0))))))), ?_⟩
    refine ⟨_, rfl, rfl, _, rfl, rfl, True.intro, _, rfl, ?_⟩
    unfold letters at q
    cases e1 : Txt.isascii x with
    | false =>
      rw [e1, Bool.false_and] at q
      exact iteF q
    | true =>
      rw [e1, Bool.true_and] at q
      refine iteT ⟨_, rfl, rfl, _, rfl, rfl, True.intro, _, rfl, ?_⟩
      cases e2 : Txt.isalpha x with
      | false =>
        rw [e2, Bool.false_and] at q
        exact iteF q
      | true =>
        rw [e2, Bool.true_and] at q
        exact iteT ⟨_, rfl, rfl, _, rfl, rfl, True.intro, q⟩
abbrev N_is_name : List Str := ["value"]
theorem sc_is_name : FnScope N_is_name ["value"] (C8.fnScope s_is_name) := C8.fnScope_by (by decide +kernel)
theorem ok_is_name {fd : FuncData} (T : Txt K mg) (F : FunD K "is_name" "is_name" (C8.fnArgs s_is_name) (C8.fnBody s_is_name) (C8.fnScope s_is_name) [] [] (He.ga K "is_name") fd) (c_is_letters : C8.Cal P w K mg base 1 "is_letters" sp_is_letters []) :
    C8.Cal P w K mg base 2 "is_name" sp_is_name [] := by
  refine C8.cal0 (ds := []) ⟨fun_c8 F, T.f_is_name, F.kp⟩ (F.bindsN fun _ _ _ _ _ _ us hl => match us, hl with | [_], _ => rfl) .nil sc_is_name (fun vs H Q E h => ?_) (fun cdv A outer s H vs Q E hr h => ?_)
  · obtain ⟨_, rfl, _⟩ := h
    rfl
  · have nd := sc_is_name.nd
    have hu := hu_of hr
    obtain ⟨x, rfl, hz, q⟩ := h
    refine ⟨_, (pss_one (ps_ret (pe_and (pe_callB call_is (by rfl) T.n_isinstance (by decide +kernel) (pa_cons (pv 0) (pa_cons (pe_bltn (v := .ty "str") rfl T.n_str (by decide +kernel) rfl) pa_nil))) (pe_and (pe_cmpR op_le (pe_callB call_len_str (by rfl) T.n_len (by decide +kernel) (pa_cons (pv 0) pa_nil)) (C8.pe_gc rfl T.k_MAX_LETTERS) (nomark _)) (pe_one (C8.pe_c c_is_letters hr (by decide) rfl (pa_cons (pv 0) pa_nil))))))), ?_⟩
    refine ⟨_, rfl, _, _, _, _, rfl, ty_str, kb3, true, rfl, iteT ?_⟩
    refine ⟨_, rfl, _, rfl, hz, _, _, rfl, rfl, _, rfl, ?_⟩
    cases e1 : decide ((x.length : Int) ≤ 8) with
    | false =>
      rw [e1, Bool.false_and] at q
      exact iteF q
    | true =>
      rw [e1, Bool.true_and] at q
      exact iteT ⟨_, rfl, _, rfl, q⟩
end
end Cb

namespace Cb
open PySem PySem.Spec PyProof.Rows L2
section
theorem flat_strs (ws : List Str) : (ws.map V.str).all flatV = true := by simp [flatV]
theorem inV_strs {ws : List Str} {x : Str} (h : x ∈ ws) : inV (.str x) (ws.map V.str) = true := by
  unfold inV
  exact List.any_eq_true.mpr ⟨_, List.mem_map_of_mem h, by simp [eqV]⟩
theorem inV_not {ws : List Str} {x : Str} (h : x ∉ ws) : inV (.str x) (ws.map V.str) = false := by
  unfold inV
  refine List.any_eq_false.mpr fun y m => ?_
  obtain ⟨z, hz, rfl⟩ := List.mem_map.mp m
  simp only [eqV, beq_iff_eq]
  exact fun e => h (e ▸ hz)
@[reducible] def sp_is_step (K : PySem.W.Frag) : Sp := fun vs H Q _ => ∃ (v kd : V) (p : Addr) (mf : V) (st : SD) (ws : List Str), vs = [v, kd, .ref p, mf] ∧ StepAt K H v st ∧ SqL K H p (ws.map V.str) ∧ StepOk ws st ∧ Q (.bl true) H
variable {P : Program} {w : World} {K : PySem.W.Frag} {mg : Str → Option Value} {base : Heap}

abbrev N_is_line : List Str := ["line", "name", "kind", "rank", "handler"]
theorem sc_is_line : FnScope N_is_line ["line"] (C8.fnScope s_is_line) := C8.fnScope_by (by decide +kernel)
theorem ok_is_line {fd : FuncData} (T : Txt K mg) (F : FunD K "is_line" "is_line" (C8.fnArgs s_is_line) (C8.fnBody s_is_line) (C8.fnScope s_is_line) [] [] (He.ga K "is_line") fd) (c_is_integer : C8.Cal P w K mg base 1 "is_integer" sp_is_integer []) (c_is_name : C8.Cal P w K mg base 2 "is_name" sp_is_name []) :
    C8.Cal P w K mg base 3 "is_line" (sp_is_line K) [] := by
  refine C8.cal0 (ds := []) ⟨fun_c8 F, T.f_is_line, F.kp⟩ (F.bindsN fun _ _ _ _ _ _ us hl => match us, hl with | [_], _ => rfl) .nil sc_is_line (fun vs H Q E h => ?_) (fun cdv A outer s H vs Q E hr h => ?_)
  · obtain ⟨_, _, rfl, _⟩ := h
    rfl
  · have nd := sc_is_line.nd
    have hu := hu_of hr
    obtain ⟨v, l, rfl, ⟨a, g, hs, rfl, hl, hh, hp⟩, ok, q⟩ := h
    refine ⟨_, (pss_cons (ps_if (PW.pt (pw_or (pt_not (pt_val (pe_callB call_is (by rfl) T.n_isinstance (by decide +kernel) (pa_cons (pv 0) (pa_cons (pe_bltn (v := .ty "tuple") rfl T.n_tuple (by decide +kernel) rfl) pa_nil))))) (pw_or1 (pt_cmpR op_ne (pe_callB call_len_seq (by rfl) T.n_len (by decide +kernel) (pa_cons (pv 0) pa_nil)) pe_int (nomark _))))) (pss_one (ps_ret pe_bl)) pss_nil)
      (pss_cons (ps_asg (pv 0) (pg_tup rfl (pgs_cons (pg_name (i := 1) nd rfl (Or.inl rfl)) (pgs_cons (pg_name (i := 2) nd rfl (Or.inl rfl)) (pgs_cons (pg_name (i := 3) nd rfl (Or.inl rfl)) (pgs_cons (pg_name (i := 4) nd rfl (Or.inl rfl)) pgs_nil))))))
      (pss_cons (ps_if (PW.pt (pw_or (pt_not (pt_val (C8.pe_c c_is_name hr (by decide) rfl (pa_cons (pv 1) pa_nil)))) (pw_or (pt_cmpR op_notIn_seq (pv 2) (C8.pe_gc rfl T.k_KINDS) (by rfl)) (pw_or1 (pt_not (pt_val (C8.pe_c c_is_integer hr (by decide) rfl (pa_cons (pv 3) (pa_cons pe_int (pa_cons (C8.pe_gc rfl T.k_MAX_RANK) pa_nil)))))))))) (pss_one (ps_ret pe_bl)) pss_nil)
      (pss_one (ps_ret (pe_and (pe_callB call_is (by rfl) T.n_isinstance (by decide +kernel) (pa_cons (pv 4) (pa_cons (pe_bltn (v := .ty "tuple") rfl T.n_tuple (by decide +kernel) rfl) pa_nil))) (pe_one (pe_chain op_le op_le pe_int (pe_callB call_len_seq (by rfl) T.n_len (by decide +kernel) (pa_cons (pv 4) pa_nil)) (C8.pe_gc rfl T.k_MAX_STEPS))))))))), ?_⟩
    refine ⟨_, rfl, _, _, _, _, rfl, ty_tup hl, kb4, true, rfl, iteF ?_⟩
    refine ⟨_, rfl, _, _, rfl, .inr hl, rfl, false, rfl, iteF ?_⟩
    refine ⟨_, rfl, _, _, rfl, hl, rfl, _, _, rfl, _, _, rfl, _, _, rfl, _, _, rfl, rfl, ?_⟩
    refine ⟨_, rfl, l.name, rfl, small8 ok.nm.1, true, congrArg V.bl (andT (decide_eq_true (by have := ok.nm.1; omega)) ok.nm.2), iteF ?_⟩
    refine ⟨_, rfl, _, _, rfl, .inr (T.v_KINDS _), rfl, rfl, false, ?_, iteF ?_⟩
    · cases l.lvl <;> rfl
    refine ⟨_, rfl, _, _, _, rfl, true, congrArg V.bl (andT (decide_eq_true ok.r1) (decide_eq_true ok.r9)), iteF ?_⟩
    exact ⟨_, rfl, _, _, _, _, rfl, ty_tup hh, kb4, true, rfl, iteT ⟨_, rfl, _, _, rfl, .inr hh, _, _, rfl, rfl, true, congrArg V.bl (decide_eq_true (by have := ok.s1; have := hp.length; omega)), iteT ⟨_, _, rfl, rfl, (congrArg (fun b => Q (.bl b) H) (decide_eq_true (by have := ok.s8; have := hp.length; omega))).mpr q⟩⟩⟩
abbrev N_is_work : List Str := ["work", "name", "rank", "ticks"]
theorem sc_is_work : FnScope N_is_work ["work"] (C8.fnScope s_is_work) := C8.fnScope_by (by decide +kernel)
theorem ok_is_work {fd : FuncData} (T : Txt K mg) (F : FunD K "is_work" "is_work" (C8.fnArgs s_is_work) (C8.fnBody s_is_work) (C8.fnScope s_is_work) [] [] (He.ga K "is_work") fd) (c_is_integer : C8.Cal P w K mg base 1 "is_integer" sp_is_integer []) (c_is_name : C8.Cal P w K mg base 2 "is_name" sp_is_name []) :
    C8.Cal P w K mg base 3 "is_work" (sp_is_work K) [] := by
  refine C8.cal0 (ds := []) ⟨fun_c8 F, T.f_is_work, F.kp⟩ (F.bindsN fun _ _ _ _ _ _ us hl => match us, hl with | [_], _ => rfl) .nil sc_is_work (fun vs H Q E h => ?_) (fun cdv A outer s H vs Q E hr h => ?_)
  · obtain ⟨_, _, rfl, _⟩ := h
    rfl
  · have nd := sc_is_work.nd
    have hu := hu_of hr
    obtain ⟨v, l, rfl, ⟨a, rfl, hl⟩, ok, q⟩ := h
    refine ⟨_, (pss_cons (ps_if (PW.pt (pw_or (pt_not (pt_val (pe_callB call_is (by rfl) T.n_isinstance (by decide +kernel) (pa_cons (pv 0) (pa_cons (pe_bltn (v := .ty "tuple") rfl T.n_tuple (by decide +kernel) rfl) pa_nil))))) (pw_or1 (pt_cmpR op_ne (pe_callB call_len_seq (by rfl) T.n_len (by decide +kernel) (pa_cons (pv 0) pa_nil)) pe_int (nomark _))))) (pss_one (ps_ret pe_bl)) pss_nil)
      (pss_cons (ps_asg (pv 0) (pg_tup rfl (pgs_cons (pg_name (i := 1) nd rfl (Or.inl rfl)) (pgs_cons (pg_name (i := 2) nd rfl (Or.inl rfl)) (pgs_cons (pg_name (i := 3) nd rfl (Or.inl rfl)) pgs_nil)))))
      (pss_one (ps_ret (pe_and (C8.pe_c c_is_name hr (by decide) rfl (pa_cons (pv 1) pa_nil)) (pe_and (C8.pe_c c_is_integer hr (by decide) rfl (pa_cons (pv 2) (pa_cons pe_int (pa_cons (C8.pe_gc rfl T.k_MAX_RANK) pa_nil)))) (pe_one (C8.pe_c c_is_integer hr (by decide) rfl (pa_cons (pv 3) (pa_cons pe_int (pa_cons (C8.pe_gc rfl T.k_MAX_TICKS) pa_nil))))))))))), ?_⟩
    refine ⟨_, rfl, _, _, _, _, rfl, ty_tup hl, kb4, true, rfl, iteF ?_⟩
    refine ⟨_, rfl, _, _, rfl, .inr hl, rfl, false, rfl, iteF ?_⟩
    refine ⟨_, rfl, _, _, rfl, hl, rfl, _, _, rfl, _, _, rfl, _, _, rfl, rfl, ?_⟩
    refine ⟨_, rfl, l.name, rfl, small8 ok.nm.1, true, congrArg V.bl (andT (decide_eq_true (by have := ok.nm.1; omega)) ok.nm.2), iteT ?_⟩
    refine ⟨_, rfl, _, _, _, rfl, true, congrArg V.bl (andT (decide_eq_true ok.r1) (decide_eq_true ok.r9)), iteT ?_⟩
    exact ⟨_, rfl, _, _, _, rfl, (congrArg (fun b => Q (.bl b) H) (andT (decide_eq_true ok.t1) (decide_eq_true ok.t99))).mpr q⟩
abbrev N_is_step : List Str := ["step", "kinds", "works", "max_flag", "word", "what", "asked"]
theorem sc_is_step : FnScope N_is_step ["step", "kinds", "works", "max_flag"] (C8.fnScope s_is_step) := C8.fnScope_by (by decide +kernel)
theorem ok_is_step {fd : FuncData} (T : Txt K mg) (F : FunD K "is_step" "is_step" (C8.fnArgs s_is_step) (C8.fnBody s_is_step) (C8.fnScope s_is_step) [] [] (He.ga K "is_step") fd) (c_is_integer : C8.Cal P w K mg base 1 "is_integer" sp_is_integer []) {es : Array DictEntry} {nn : Nat} (D : KDict K w (He.ga K "ARGUMENTS") es nn) :
    C8.Cal P w K mg base 3 "is_step" (sp_is_step K) [] := by
  refine C8.cal0 (ds := []) ⟨fun_c8 F, T.f_is_step, F.kp⟩ (F.bindsN fun _ _ _ _ _ _ us hl => match us, hl with | [_, _, _, _], _ => rfl) .nil sc_is_step (fun vs H Q E h => ?_) (fun cdv A outer s H vs Q E hr h => ?_)
  · obtain ⟨_, _, _, _, _, _, rfl, _⟩ := h
    rfl
  · have nd := sc_is_step.nd
    have hu := hu_of hr
    obtain ⟨v, kd, p, mf, st, ws, rfl, ⟨a, rfl, hl⟩, hw, ok, q⟩ := h
    refine ⟨_, (pss_cons (ps_if (PW.pt (pw_or (pt_not (pt_val (pe_callB call_is (by rfl) T.n_isinstance (by decide +kernel) (pa_cons (pv 0) (pa_cons (pe_bltn (v := .ty "tuple") rfl T.n_tuple (by decide +kernel) rfl) pa_nil))))) (pw_or1 (pt_cmpR op_ne (pe_callB call_len_seq (by rfl) T.n_len (by decide +kernel) (pa_cons (pv 0) pa_nil)) pe_int (nomark _))))) (pss_one (ps_ret pe_bl)) pss_nil)
      (pss_cons (ps_asg (pv 0) (pg_tup rfl (pgs_cons (pg_name (i := 4) nd rfl (Or.inl rfl)) (pgs_cons (pg_name (i := 5) nd rfl (Or.inl rfl)) pgs_nil))))
      (pss_cons (ps_if (PW.pt (pw_or (pt_not (pt_val (pe_callB call_is (by rfl) T.n_isinstance (by decide +kernel) (pa_cons (pv 4) (pa_cons (pe_bltn (v := .ty "str") rfl T.n_str (by decide +kernel) rfl) pa_nil))))) (pw_or1 (pt_cmpR (op_notIn_kd D) (pv 4) (C8.pe_gc rfl T.k_ARGUMENTS) (by rfl))))) (pss_one (ps_ret pe_bl)) pss_nil)
      (pss_cons (ps_set (i := 6) nd rfl (Or.inl rfl) (pe_ix ix_kdict (C8.pe_gc rfl T.k_ARGUMENTS) (pv 4) (fun _ _ => rfl)))
      (pss_cons (ps_if (pt_cmpR op_eq (pv 6) pe_str (nomark _)) (pss_one (ps_ret (C8.pe_c c_is_integer hr (by decide) rfl (pa_cons (pv 5) (pa_cons pe_int (pa_cons (C8.pe_gc rfl T.k_MAX_TICKS) pa_nil)))))) pss_nil)
      (pss_cons (ps_if (pt_cmpR op_eq (pv 6) pe_str (nomark _)) (pss_one (ps_ret (C8.pe_c c_is_integer hr (by decide) rfl (pa_cons (pv 5) (pa_cons pe_int (pa_cons (pv 3) pa_nil)))))) pss_nil)
      (pss_cons (ps_if (pt_cmpR op_eq (pv 6) pe_str (nomark _)) (pss_one (ps_ret (C8.pe_c c_is_integer hr (by decide) rfl (pa_cons (pv 5) (pa_cons pe_int (pa_cons (C8.pe_gc rfl T.k_MAX_RANK) pa_nil)))))) pss_nil)
      (pss_cons (ps_if (pt_not (pt_val (pe_callB call_is (by rfl) T.n_isinstance (by decide +kernel) (pa_cons (pv 5) (pa_cons (pe_bltn (v := .ty "str") rfl T.n_str (by decide +kernel) rfl) pa_nil))))) (pss_one (ps_ret pe_bl)) pss_nil)
      (pss_cons (ps_if (pt_cmpR op_eq (pv 6) pe_str (nomark _)) (pss_one (ps_ret (pe_cmpR op_in_seq (pv 5) (pv 2) (by rfl)))) pss_nil)
      (pss_one (ps_ret (pe_and (pe_cmp (pc_din hu (pv 5) (pv 1)) rfl) (pe_one (pe_or (pe_cmpR op_eq (pv 6) pe_str (nomark _)) (pe_one (pe_cmpR op_eq (pe_dget hu (pv 1) (pv 5) (fun _ _ => rfl)) (pv 6) (nomark _))))))))))))))))), ?_⟩
    refine ⟨_, rfl, _, _, _, _, rfl, ty_tup hl, kb4, true, rfl, iteF ?_⟩
    refine ⟨_, rfl, _, _, rfl, .inr hl, rfl, false, rfl, iteF ?_⟩
    refine ⟨_, rfl, _, _, rfl, hl, rfl, _, _, rfl, _, _, rfl, rfl, ?_⟩
    refine ⟨_, rfl, _, _, _, _, rfl, ty_str, kb3, true, rfl, iteF ?_⟩
    cases st with
    | run n =>
      obtain ⟨u, hu1, hu2⟩ := He.valsB_ok T.v_ARGUMENTS (q := ("run", .str "ticks")) (List.mem_of_getElem? (i := 0) rfl)
      refine ⟨_, rfl, _, _, rfl, rfl, hu1, false, rfl, iteF ?_⟩
      refine ⟨_, rfl, _, _, _, rfl, rfl, ⟨_, _, u, D.at_, D.lit, hu1, hu2⟩, ?_⟩
      exact ⟨_, rfl, rfl, true, rfl, iteT ⟨_, rfl, _, _, _, rfl, (congrArg (fun b => Q (.bl b) H) (andT (decide_eq_true ok.1) (decide_eq_true ok.2))).mpr q⟩⟩
    | later x =>
      obtain ⟨u, hu1, hu2⟩ := He.valsB_ok T.v_ARGUMENTS (q := ("later", .str "work")) (List.mem_of_getElem? (i := 9) rfl)
      refine ⟨_, rfl, _, _, rfl, rfl, hu1, false, rfl, iteF ?_⟩
      refine ⟨_, rfl, _, _, _, rfl, rfl, ⟨_, _, u, D.at_, D.lit, hu1, hu2⟩, ?_⟩
      refine ⟨_, rfl, rfl, false, rfl, iteF ?_⟩
      refine ⟨_, rfl, rfl, false, rfl, iteF ?_⟩
      refine ⟨_, rfl, rfl, false, rfl, iteF ?_⟩
      refine ⟨_, rfl, _, _, _, _, rfl, ty_str, kb3, true, rfl, iteF ?_⟩
      refine ⟨_, rfl, rfl, true, rfl, iteT ?_⟩
      exact ⟨_, rfl, _, rfl, _, _, rfl, .inl hw, rfl, flat_strs ws, (congrArg (fun b => Q (.bl b) H) (inV_strs ok)).mpr q⟩
end
end Cb

namespace Cb
open PySem PySem.Spec PyProof.Rows L2

theorem pget {α β : Type} {F : α → β → Prop} : ∀ {l₁ : List α} {l₂ : List β}, Paired F l₁ l₂ → ∀ {i : Nat} {a : α}, l₁[i]? = some a → ∃ b, l₂[i]? = some b ∧ F a b
  | _, _, .nil, i, a, h => by simp at h
  | _, _, .cons f p, 0, a, h => ⟨_, rfl, by simp at h; exact h ▸ f⟩
  | _, _, .cons f p, i + 1, a, h => by
    simp at h
    simpa using pget p h
theorem pgetr {α β : Type} {F : α → β → Prop} : ∀ {l₁ : List α} {l₂ : List β}, Paired F l₁ l₂ → ∀ {i : Nat} {b : β}, l₂[i]? = some b → ∃ a, l₁[i]? = some a ∧ F a b
  | _, _, .nil, i, a, h => by simp at h
  | _, _, .cons f p, 0, a, h => ⟨_, rfl, by simp at h; exact h ▸ f⟩
  | _, _, .cons f p, i + 1, a, h => by
    simp at h
    simpa using pgetr p h
theorem StepAt.up {K : PySem.W.Frag} {H H' : Hp} {v : V} {s : SD} (e : Same H H') (h : StepAt K H v s) : StepAt K H' v s := h.elim fun a h => ⟨a, h.1, Same.tup e h.2⟩
theorem LineAt.up {K : PySem.W.Frag} {H H' : Hp} {v : V} {s : LineD} (e : Same H H') (h : LineAt K H v s) : LineAt K H' v s := by
  obtain ⟨a, g, hs, rfl, h1, h2, h3⟩ := h
  exact ⟨a, g, hs, rfl, Same.tup e h1, Same.tup e h2, h3.mono fun _ _ z => StepAt.up e z⟩
theorem WorkAt.up {K : PySem.W.Frag} {H H' : Hp} {v : V} {s : WorkD} (e : Same H H') (h : WorkAt K H v s) : WorkAt K H' v s := h.elim fun a h => ⟨a, h.1, Same.tup e h.2⟩
theorem take_snoc {α : Type} {l : List α} {i : Nat} {x : α} (h : l[i]? = some x) : l.take (i + 1) = l.take i ++ [x] := by
  rw [List.take_add_one, h]
  rfl
theorem nodup_take {α : Type} {l : List α} (h : l.Nodup) {i : Nat} {x : α} (hx : l[i]? = some x) : x ∉ l.take i := by
  intro m
  obtain ⟨j, hj, e⟩ := List.mem_iff_getElem.mp m
  have hj2 : j < i := by simp at hj; omega
  have hi : i < l.length := by
    rcases Nat.lt_or_ge i l.length with z | z
    · exact z
    · rw [List.getElem?_eq_none z] at hx; cases hx
  rw [List.getElem?_eq_getElem hi] at hx
  have e1 : l[j]'(by omega) = l[i] := by
    rw [List.getElem_take] at e
    exact e.trans (Option.some.inj hx).symm
  exact absurd ((List.getElem_inj h).mp e1) (by omega)
structure LinesAt (K : PySem.W.Frag) (H : Hp) (a : Addr) (ls : List LineD) : Prop where
  ex : ∃ xs, SqT K H a xs ∧ Paired (LineAt K H) xs ls
structure WorksAt (K : PySem.W.Frag) (H : Hp) (a : Addr) (ls : List WorkD) : Prop where
  ex : ∃ xs, SqT K H a xs ∧ Paired (WorkAt K H) xs ls
theorem LinesAt.up {K : PySem.W.Frag} {H H' : Hp} {a : Addr} {s : List LineD} (e : Same H H') (h : LinesAt K H a s) : LinesAt K H' a s := h.ex.elim fun xs h => ⟨xs, Same.tup e h.1, h.2.mono fun _ _ z => LineAt.up e z⟩
theorem WorksAt.up {K : PySem.W.Frag} {H H' : Hp} {a : Addr} {s : List WorkD} (e : Same H H') (h : WorksAt K H a s) : WorksAt K H' a s := h.ex.elim fun xs h => ⟨xs, Same.tup e h.1, h.2.mono fun _ _ z => WorkAt.up e z⟩
structure LsOk (ls : List LineD) : Prop where
  ok : ∀ l ∈ ls, LineOk l
  nd : (ls.map (·.name)).Nodup
  ne : ls ≠ []
  le : ls.length ≤ 12
structure WsOk (ls : List WorkD) : Prop where
  ok : ∀ l ∈ ls, WorkOk l
  nd : (ls.map (·.name)).Nodup
  le : ls.length ≤ 8
def names (ls : List LineD) : List V := ls.map fun l => .str l.name
def wnames (ls : List WorkD) : List V := ls.map fun l => .str l.name
theorem Sep.c0 {K0 H : Hp} {L : List (Addr × HO)} {a : Addr} {o : HO} (s : Sep K0 H ((a, o) :: L)) : H a = some o := s.cs.1
theorem Sep.c1 {K0 H : Hp} {L : List (Addr × HO)} {a : Addr} {o : HO} {e1 : Addr × HO} (s : Sep K0 H (e1 :: (a, o) :: L)) : H a = some o := s.cs.2.1
theorem flat_strs2 (ls : List LineD) : (names ls).all flatV = true := by simp [names, flatV]
theorem flat_strs3 (ls : List WorkD) : (wnames ls).all flatV = true := by simp [wnames, flatV]
theorem inV_nms {ls : List LineD} (h : (ls.map (·.name)).Nodup) {i : Nat} {l : LineD} (hl : ls[i]? = some l) : inV (.str l.name) (names (ls.take i)) = false := by
  have e : names (ls.take i) = ((ls.map (·.name)).take i).map V.str := by simp [names, List.map_take, Function.comp_def]
  rw [e]
  exact inV_not (nodup_take h (by simp [hl]))
theorem inV_wnms {ls : List WorkD} (h : (ls.map (·.name)).Nodup) {i : Nat} {l : WorkD} (hl : ls[i]? = some l) : inV (.str l.name) (wnames (ls.take i)) = false := by
  have e : wnames (ls.take i) = ((ls.map (·.name)).take i).map V.str := by simp [wnames, List.map_take, Function.comp_def]
  rw [e]
  exact inV_not (nodup_take h (by simp [hl]))
theorem atIn {α : Type} {l : List α} {n : Nat} {v : α} (h : l[n]? = some v) : atI l (n : Nat) = some v := by
  have hn : n < l.length := by
    rcases Nat.lt_or_ge n l.length with z | z
    · exact z
    · rw [List.getElem?_eq_none z] at h; cases h
  unfold atI ixN
  rw [if_pos (by omega), if_pos (by omega)]
  simpa using h
theorem atI0 {v : V} {l : List V} : atI (v :: l) 0 = some v := by simp [atI, ixN]
theorem Same.tr {A B C : Hp} (h : Same A B) (g : Same B C) : Same A C := fun b o z => g b o (h b o z)
theorem sml {n m : Nat} (h : n ≤ m) (hm : m < 4096) : n < sizeLine := Nat.lt_of_lt_of_le (Nat.lt_of_le_of_lt h hm) (by decide)
theorem Sep.put0 {K0 H : Hp} {L : List (Addr × HO)} {a : Addr} {o o' : HO} (s : Sep K0 H ((a, o) :: L)) : Sep K0 (upd H a o') ((a, o') :: L) := Sep.put (L1 := []) s
def NmAt (K : PySem.W.Frag) (H : Hp) (v : V) (n : Str) : Prop := ∃ t l, v = .ref t ∧ SqT K H t (.str n :: l)
theorem NmAt.up {K : PySem.W.Frag} {H H' : Hp} {v : V} {s : Str} (e : Same H H') (h : NmAt K H v s) : NmAt K H' v s := h.elim fun a h => h.elim fun l h => ⟨a, l, h.1, Same.tup e h.2⟩
theorem nm_of {K : PySem.W.Frag} {H : Hp} : ∀ {xs : List V} {ls : List LineD}, Paired (LineAt K H) xs ls → Paired (NmAt K H) xs (ls.map (·.name))
  | _, _, .nil => .nil
  | _, _, .cons ⟨a, h, hs, e, h1, _⟩ p => .cons ⟨a, _, e, h1⟩ (nm_of p)
theorem nw_of {K : PySem.W.Frag} {H : Hp} : ∀ {xs : List V} {ls : List WorkD}, Paired (WorkAt K H) xs ls → Paired (NmAt K H) xs (ls.map (·.name))
  | _, _, .nil => .nil
  | _, _, .cons ⟨a, e, h1⟩ p => .cons ⟨a, _, e, h1⟩ (nw_of p)
def sp_spoilt_named (K : PySem.W.Frag) : Sp := fun vs H Q _ => ∃ (a f : Addr) (m : Int) (xs : List V) (ns : List Str), vs = [.ref a, .int m, .ref f] ∧ SqT K H a xs ∧ H f = some (.lst (List.replicate xs.length (.bl true))) ∧ Paired (NmAt K H) xs ns ∧ ns.Nodup ∧ ns.length ≤ 12 ∧ (ns.length : Int) ≤ m ∧ ∀ H', Same H H' → Q .non H'
def sp_spoilt_line (K : PySem.W.Frag) : Sp := fun vs H Q _ => ∃ (a : Addr) (ls : List LineD), vs = [.ref a, .int 12] ∧ LinesAt K H a ls ∧ LsOk ls ∧ ∀ H', Same H H' → Q .non H'
def sp_spoilt_work (K : PySem.W.Frag) : Sp := fun vs H Q _ => ∃ (a : Addr) (ls : List WorkD), vs = [.ref a, .int 8] ∧ WorksAt K H a ls ∧ WsOk ls ∧ ∀ H', Same H H' → Q .non H'

section
variable {P : Program} {w : World} {K : PySem.W.Frag} {mg : Str → Option Value} {base : Heap}

abbrev N_spoilt_named : List Str := ["rows", "most", "forms", "names", "at", "row"]
theorem sc_spoilt_named : FnScope N_spoilt_named ["rows", "most", "forms"] (C8.fnScope s_spoilt_named) := C8.fnScope_by (by decide +kernel)
theorem ok_spoilt_named {fd : FuncData} (T : Txt K mg) (F : FunD K "spoilt_named" "spoilt_named" (C8.fnArgs s_spoilt_named) (C8.fnBody s_spoilt_named) (C8.fnScope s_spoilt_named) [] [] (He.ga K "spoilt_named") fd) :
    C8.Cal P w K mg base 1 "spoilt_named" (sp_spoilt_named K) [] := by
  refine C8.cal0 (ds := []) ⟨fun_c8 F, T.f_spoilt_named, F.kp⟩ (F.bindsN fun _ _ _ _ _ _ us hl => match us, hl with | [_, _, _], _ => rfl) .nil sc_spoilt_named (fun vs H Q E h => ?_) (fun cdv A outer s H vs Q E hr h => ?_)
  · obtain ⟨_, _, _, _, _, rfl, _⟩ := h
    rfl
  · have nd := sc_spoilt_named.nd
    have hu := hu_of hr
    obtain ⟨a, f, m, xs, ns, rfl, hs, hfm, hp, ndl, l12, lm, q⟩ := h
    refine ⟨_, (pss_cons (ps_set (i := 3) nd rfl (Or.inl rfl) (pe_lst pa_nil))
      (pss_cons (ps_for PassesOwn.never rfl (pi_enumT (by rfl) T.n_enumerate (pa_cons (pv 0) pa_nil)) (pg_tup rfl (pgs_cons (pg_name (i := 4) nd rfl (Or.inl rfl)) (pgs_cons (pg_name (i := 5) nd rfl (Or.inl rfl)) pgs_nil))) (pss_cons (ps_if (PW.pt (pw_or (pt_cmpR op_eq (pv 4) (pv 1) (nomark _)) (pw_or (pt_not (pt_val (pe_ix (ix_list : IxR _ (rIxL K)) (pv 2) (pv 4) (fun _ _ => rfl)))) (pw_or1 (pt_cmpR op_in_seq (pe_ix ix_tup (pv 5) pe_int (fun _ _ => rfl)) (pv 3) (by rfl)))))) (pss_one (ps_ret (pv 4))) pss_nil)
      (pss_one (ps_expr (pe_bm PySem.F.plainAttrs_list PySem.F.slot_list_append PySem.F.type_list_append mt_append (pv 3) (pa_cons (pe_ix ix_tup (pv 5) pe_int (fun _ _ => rfl)) pa_nil))))))
      (pss_one (ps_ret pe_non)))), ?_⟩
    have hlen := hp.length
    refine ⟨Nat.zero_le _, fun p hfree => ?_⟩
    refine ⟨_, rfl, _, _, rfl, Same.tup (same_new (Same.refl H) hfree) hs, ?_⟩
    refine for_it (walk_enumT (xs := xs)) (fun i σ H' => ∃ x y, σ = [some (.ref a), some (.int m), some (.ref f), some (.ref p), x, y] ∧ Sep H H' [(p, .lst ((ns.take i).map V.str))]) ⟨_, _, rfl, Sep.nil.own hfree⟩ ?_ ?_ ?_
    · rintro i σ H' _ ⟨x, y, _, sp⟩
      exact Same.tup sp.ext hs
    · rintro i v σ H1 H2 hi ⟨x, y, rfl, sp⟩ ⟨t, v1, v2, rfl, hf, rfl, e1, e2⟩
      obtain rfl := Option.some.inj e1
      have hi2 : i < xs.length := (List.getElem?_eq_some_iff.mp e2).1
      obtain ⟨l, hl, hL⟩ := pget hp e2
      have sp2 := sp.drop (o := .tup [.int (i : Nat), v2]) hf
      have hpc := sp2.c0
      refine ⟨_, _, rfl, t_of upd_same, rfl, _, _, rfl, _, _, rfl, rfl, ?_⟩
      refine ⟨_, rfl, _, rfl, rfl, false, congrArg V.bl (decide_eq_false (by intro e; injection e; omega)), iteF ?_⟩
      refine ⟨_, rfl, _, rfl, _, _, _, _, rfl, rfl, l_of (sp2.ext _ _ hfm), atIn (by rw [List.getElem?_replicate, if_pos hi2]), true, rfl, iteF ?_⟩
      obtain ⟨t2, ll, rfl, hb⟩ := NmAt.up sp2.ext hL
      refine ⟨_, rfl, _, _, _, _, rfl, rfl, hb, atI0, _, rfl, _, _, rfl, .inl (l_of hpc), rfl, flat_strs _, false, congrArg V.bl (inV_not (nodup_take ndl hl)), iteF ?_⟩
      refine ⟨_, rfl, .inl ⟨rfl, _, .inl (.inl hpc)⟩, _, rfl, _, _, _, _, rfl, rfl, hb, atI0, _, _, _, rfl, rfl, hpc, ?_, ?_⟩
      · exact sml (m := 12) (by rw [List.length_map, List.length_take]; omega) (by decide)
      · refine ⟨_, _, rfl, ?_⟩
        rw [take_snoc hl, List.map_append]
        exact sp2.put0
    · rintro σ H' ⟨x, y, rfl, sp⟩
      exact q H' sp.ext
abbrev N_spoilt_line : List Str := ["lines", "most", "line"]
theorem sc_spoilt_line : FnScope N_spoilt_line ["lines", "most"] (C8.fnScope s_spoilt_line) := C8.fnScope_by (by decide +kernel)
theorem ok_spoilt_line {fd : FuncData} (T : Txt K mg) (F : FunD K "spoilt_line" "spoilt_line" (C8.fnArgs s_spoilt_line) (C8.fnBody s_spoilt_line) (C8.fnScope s_spoilt_line) [] [] (He.ga K "spoilt_line") fd) (c_is_line : C8.Cal P w K mg base 3 "is_line" (sp_is_line K) []) (c_spoilt_named : C8.Cal P w K mg base 1 "spoilt_named" (sp_spoilt_named K) []) :
    C8.Cal P w K mg base 4 "spoilt_line" (sp_spoilt_line K) [] := by
  refine C8.cal0 (ds := []) ⟨fun_c8 F, T.f_spoilt_line, F.kp⟩ (F.bindsN fun _ _ _ _ _ _ us hl => match us, hl with | [_, _], _ => rfl) .nil sc_spoilt_line (fun vs H Q E h => ?_) (fun cdv A outer s H vs Q E hr h => ?_)
  · obtain ⟨_, _, rfl, _⟩ := h
    rfl
  · have nd := sc_spoilt_line.nd
    have hu := hu_of hr
    obtain ⟨a, ls, rfl, hl, ok, q⟩ := h
    refine ⟨_, (pss_cons (ps_if (PW.pt (pw_or (pt_not (pt_val (pe_callB call_is (by rfl) T.n_isinstance (by decide +kernel) (pa_cons (pv 0) (pa_cons (pe_bltn (v := .ty "tuple") rfl T.n_tuple (by decide +kernel) rfl) pa_nil))))) (pw_or1 (pt_not (pt_truth (pv 0) (by intro _; rfl)))))) (pss_one (ps_ret pe_int)) pss_nil)
      (pss_one (ps_ret (C8.pe_c c_spoilt_named hr (by decide) rfl (pa_cons (pv 0) (pa_cons (pv 1) (pa_cons (pe_lc (own := [("line", 2)]) rfl nd (pi_tup (pv 0)) (blkOk_by (own := [("line", 2)]) (N := N_spoilt_line) (sc := (C8.fnScope s_spoilt_line)) (by decide +kernel)) (fun _ _ _ _ _ => (pg_name (i := 2) nd rfl (Or.inl rfl))) (fun _ _ _ _ _ => pts_nil) (fun _ _ _ _ _ => (C8.pe_c c_is_line hr (by decide) rfl (pa_cons (pv 2) pa_nil)))) pa_nil))))))), ?_⟩
    obtain ⟨xs, hs, hp⟩ := hl
    have hlen := hp.length
    refine ⟨_, rfl, _, _, _, _, rfl, ty_tup hs, kb4, true, rfl, iteF ?_⟩
    refine ⟨_, rfl, true, .inr (.inl ⟨_, hs, by
      cases xs with
      | nil => cases ls with
        | nil => exact absurd rfl ok.ne
        | cons _ _ => simp at hlen
      | cons _ _ => rfl⟩), iteF ?_⟩
    refine ⟨_, rfl, _, rfl, _, rfl, _, rfl, ⟨_, hs⟩, fun D hD => ?_⟩
    refine lc_it (walk_tup (xs := xs)) (fun i H' => Sep H H' [(D, .lst (List.replicate i (.bl true)))]) (Sep.nil.own hD) ?_ ?_ ?_
    · rintro i H' _ sp
      exact Same.tup sp.ext hs
    · rintro i v H1 H2 hi sp ⟨rfl, e2⟩
      obtain ⟨l, hl, hL⟩ := pget hp e2
      refine ⟨rfl, _, rfl, v, l, rfl, LineAt.up sp.ext hL, ok.ok l (List.mem_of_getElem? hl), _, sp.c0, ?_, ?_⟩
      · exact sml (m := 12) (by have := ok.le; rw [List.length_replicate]; omega) (by decide)
      · rw [List.replicate_succ']
        exact sp.put0
    rintro H1 sp
    have le := ok.le
    exact ⟨a, D, 12, xs, ls.map (·.name), rfl, Same.tup sp.ext hs, sp.c0, nm_of (hp.mono fun _ _ z => LineAt.up sp.ext z), ok.nd, by rw [List.length_map]; omega, by rw [List.length_map]; omega, fun H' g => q H' (Same.tr sp.ext g)⟩
abbrev N_spoilt_work : List Str := ["works", "most", "work"]
theorem sc_spoilt_work : FnScope N_spoilt_work ["works", "most"] (C8.fnScope s_spoilt_work) := C8.fnScope_by (by decide +kernel)
theorem ok_spoilt_work {fd : FuncData} (T : Txt K mg) (F : FunD K "spoilt_work" "spoilt_work" (C8.fnArgs s_spoilt_work) (C8.fnBody s_spoilt_work) (C8.fnScope s_spoilt_work) [] [] (He.ga K "spoilt_work") fd) (c_is_work : C8.Cal P w K mg base 3 "is_work" (sp_is_work K) []) (c_spoilt_named : C8.Cal P w K mg base 1 "spoilt_named" (sp_spoilt_named K) []) :
    C8.Cal P w K mg base 4 "spoilt_work" (sp_spoilt_work K) [] := by
  refine C8.cal0 (ds := []) ⟨fun_c8 F, T.f_spoilt_work, F.kp⟩ (F.bindsN fun _ _ _ _ _ _ us hl => match us, hl with | [_, _], _ => rfl) .nil sc_spoilt_work (fun vs H Q E h => ?_) (fun cdv A outer s H vs Q E hr h => ?_)
  · obtain ⟨_, _, rfl, _⟩ := h
    rfl
  · have nd := sc_spoilt_work.nd
    have hu := hu_of hr
    obtain ⟨a, ls, rfl, hl, ok, q⟩ := h
    refine ⟨_, (pss_cons (ps_if (pt_not (pt_val (pe_callB call_is (by rfl) T.n_isinstance (by decide +kernel) (pa_cons (pv 0) (pa_cons (pe_bltn (v := .ty "tuple") rfl T.n_tuple (by decide +kernel) rfl) pa_nil))))) (pss_one (ps_ret pe_int)) pss_nil)
      (pss_one (ps_ret (C8.pe_c c_spoilt_named hr (by decide) rfl (pa_cons (pv 0) (pa_cons (pv 1) (pa_cons (pe_lc (own := [("work", 2)]) rfl nd (pi_tup (pv 0)) (blkOk_by (own := [("work", 2)]) (N := N_spoilt_work) (sc := (C8.fnScope s_spoilt_work)) (by decide +kernel)) (fun _ _ _ _ _ => (pg_name (i := 2) nd rfl (Or.inl rfl))) (fun _ _ _ _ _ => pts_nil) (fun _ _ _ _ _ => (C8.pe_c c_is_work hr (by decide) rfl (pa_cons (pv 2) pa_nil)))) pa_nil))))))), ?_⟩
    obtain ⟨xs, hs, hp⟩ := hl
    have hlen := hp.length
    refine ⟨_, rfl, _, _, _, _, rfl, ty_tup hs, kb4, true, rfl, iteF ?_⟩
    refine ⟨_, rfl, _, rfl, _, rfl, _, rfl, ⟨_, hs⟩, fun D hD => ?_⟩
    refine lc_it (walk_tup (xs := xs)) (fun i H' => Sep H H' [(D, .lst (List.replicate i (.bl true)))]) (Sep.nil.own hD) ?_ ?_ ?_
    · rintro i H' _ sp
      exact Same.tup sp.ext hs
    · rintro i v H1 H2 hi sp ⟨rfl, e2⟩
      obtain ⟨l, hl, hL⟩ := pget hp e2
      refine ⟨rfl, _, rfl, v, l, rfl, WorkAt.up sp.ext hL, ok.ok l (List.mem_of_getElem? hl), _, sp.c0, ?_, ?_⟩
      · exact sml (m := 12) (by have := ok.le; rw [List.length_replicate]; omega) (by decide)
      · rw [List.replicate_succ']
        exact sp.put0
    rintro H1 sp
    have le := ok.le
    exact ⟨a, D, 8, xs, ls.map (·.name), rfl, Same.tup sp.ext hs, sp.c0, nw_of (hp.mono fun _ _ z => WorkAt.up sp.ext z), ok.nd, by rw [List.length_map]; omega, by rw [List.length_map]; omega, fun H' g => q H' (Same.tr sp.ext g)⟩
end
end Cb

namespace Cb
open PySem PySem.Spec PyProof.Rows L2

theorem Sep.tail {K0 H : Hp} {L : List (Addr × HO)} {e : Addr × HO} (s : Sep K0 H (e :: L)) : Sep K0 H L := ⟨s.ext, (List.nodup_cons.mp s.nd).2, fun a m => s.fr a (List.mem_cons_of_mem _ m), s.cs.2⟩
theorem putK_le (kvs : List (Key × V)) (k : Key) (v : V) : (putK kvs k v).length ≤ kvs.length + 1 := by
  unfold putK
  split <;> simp
def AllOk (ls : List LineD) (ws : List WorkD) : Prop := ∀ l ∈ ls, ∀ s ∈ l.steps, StepOk (ws.map (·.name)) s
def sp_spoilt_handler (K : PySem.W.Frag) : Sp := fun vs H Q _ => ∃ (a b : Addr) (ls : List LineD) (ws : List WorkD), vs = [.ref a, .ref b, .int 7] ∧ LinesAt K H a ls ∧ WorksAt K H b ws ∧ LsOk ls ∧ WsOk ws ∧ AllOk ls ws ∧ ∀ H', Same H H' → Q .non H'
def sp_check_setup (K : PySem.W.Frag) : Sp := fun vs H Q _ => ∃ (a b : Addr) (ls : List LineD) (ws : List WorkD), vs = [.ref a, .ref b] ∧ LinesAt K H a ls ∧ WorksAt K H b ws ∧ LsOk ls ∧ WsOk ws ∧ AllOk ls ws ∧ ∀ H', Same H H' → Q .non H'
theorem sm {n m : Nat} (h : n ≤ m) (hm : m < 4096) : n < sizeLine := Nat.lt_of_lt_of_le (Nat.lt_of_le_of_lt h hm) (by decide)

section
variable {P : Program} {w : World} {K : PySem.W.Frag} {mg : Str → Option Value} {base : Heap}

abbrev N_spoilt_handler : List Str := ["lines", "works", "max_flag", "kinds", "line", "names", "work", "at", "step"]
theorem sc_spoilt_handler : FnScope N_spoilt_handler ["lines", "works", "max_flag"] (C8.fnScope s_spoilt_handler) := C8.fnScope_by (by decide +kernel)
theorem ok_spoilt_handler {fd : FuncData} (T : Txt K mg) (F : FunD K "spoilt_handler" "spoilt_handler" (C8.fnArgs s_spoilt_handler) (C8.fnBody s_spoilt_handler) (C8.fnScope s_spoilt_handler) [] [] (He.ga K "spoilt_handler") fd) (c_is_step : C8.Cal P w K mg base 3 "is_step" (sp_is_step K) []) :
    C8.Cal P w K mg base 4 "spoilt_handler" (sp_spoilt_handler K) [] := by
  refine C8.cal0 (ds := []) ⟨fun_c8 F, T.f_spoilt_handler, F.kp⟩ (F.bindsN fun _ _ _ _ _ _ us hl => match us, hl with | [_, _, _], _ => rfl) .nil sc_spoilt_handler (fun vs H Q E h => ?_) (fun cdv A outer s H vs Q E hr h => ?_)
  · obtain ⟨_, _, _, _, rfl, _⟩ := h
    rfl
  · have nd := sc_spoilt_handler.nd
    have hu := hu_of hr
    obtain ⟨a, b, ls, ws, rfl, ⟨xs, hs, hp⟩, ⟨ys, ht, hr2⟩, ok, okw, oks, q⟩ := h
    refine ⟨_, (pss_cons (ps_set (i := 3) nd rfl (Or.inr rfl) (pe_dc (own := [("line", 4)]) rfl nd (pi_tup (pv 0)) (blkOk_by (own := [("line", 4)]) (N := N_spoilt_handler) (sc := (C8.fnScope s_spoilt_handler)) (by decide +kernel)) (fun _ _ _ _ _ => (pg_name (i := 4) nd rfl (Or.inl rfl))) (fun _ _ _ _ _ => pts_nil) (fun _ _ _ _ _ => (pe_ix (ix_tup : IxR _ (rIxT K)) (pv 4) pe_int (fun _ _ => rfl))) (fun _ _ _ _ _ => (pe_ix (ix_tup : IxR _ (rIxT K)) (pv 4) pe_int (fun _ _ => rfl)))))
      (pss_cons (ps_set (i := 5) nd rfl (Or.inr rfl) (pe_lc (own := [("work", 6)]) rfl nd (pi_tup (pv 1)) (blkOk_by (own := [("work", 6)]) (N := N_spoilt_handler) (sc := (C8.fnScope s_spoilt_handler)) (by decide +kernel)) (fun _ _ _ _ _ => (pg_name (i := 6) nd rfl (Or.inl rfl))) (fun _ _ _ _ _ => pts_nil) (fun _ _ _ _ _ => (pe_ix (ix_tup : IxR _ (rIxT K)) (pv 6) pe_int (fun _ _ => rfl)))))
      (pss_cons (ps_for PassesOwn.never rfl (pi_enumT (by rfl) T.n_enumerate (pa_cons (pv 0) pa_nil)) (pg_tup rfl (pgs_cons (pg_name (i := 7) nd rfl (Or.inl rfl)) (pgs_cons (pg_name (i := 4) nd rfl (Or.inl rfl)) pgs_nil))) (pss_one (ps_if (pt_not (pt_val (pe_callB (cr_all rfl) (by rfl) T.n_all (by decide +kernel) (pa_cons (pe_lc (own := [("step", 8)]) rfl nd (pi_tup (pe_ix ix_tup (pv 4) pe_int (fun _ _ => rfl))) (blkOk_by (own := [("step", 8)]) (N := N_spoilt_handler) (sc := (C8.fnScope s_spoilt_handler)) (by decide +kernel)) (fun _ _ _ _ _ => (pg_name (i := 8) nd rfl (Or.inl rfl))) (fun _ _ _ _ _ => pts_nil) (fun _ _ _ _ _ => (C8.pe_c c_is_step hr (by decide) rfl (pa_cons (pv 8) (pa_cons (pv 3) (pa_cons (pv 5) (pa_cons (pv 2) pa_nil))))))) pa_nil)))) (pss_one (ps_ret (pv 7))) pss_nil)))
      (pss_one (ps_ret pe_non))))), ?_⟩
    
    have hlen := hp.length
    have hlenw := hr2.length
    refine ⟨_, rfl, _, rfl, ⟨_, hs⟩, fun D hD => ?_⟩
    refine dc_it (walk_tup (xs := xs)) (fun i H' => ∃ kvs, kvs.length ≤ i ∧ Sep H H' [(D, .dK kvs)]) ⟨[], Nat.le_refl _, Sep.nil.own hD⟩ ?_ ?_ ?_
    · rintro i H' _ ⟨_, _, sp⟩
      exact Same.tup sp.ext hs
    · rintro i v H1 H2 hi ⟨kvs, hk, sp⟩ ⟨rfl, e2⟩
      obtain ⟨l, hl, hL⟩ := pget hp e2
      obtain ⟨c, g, hs2, rfl, hb, _⟩ := LineAt.up sp.ext hL
      refine ⟨rfl, ⟨_, rfl, _, _, _, _, rfl, rfl, hb, rfl, _, rfl, _, _, _, _, rfl, rfl, hb, rfl, kvs, .inr l.name, rfl, sp.c0, ?_, ?_⟩⟩
      · exact sm (m := 12) (by have := ok.le; omega) (by decide)
      · exact ⟨_, Nat.le_trans (putK_le _ _ _) (by omega), sp.put0⟩
    rintro H1 ⟨kvs, hk, sp⟩
    refine ⟨_, rfl, _, rfl, ⟨_, Same.tup sp.ext ht⟩, fun D2 hD2 => ?_⟩
    refine lc_it (walk_tup (xs := ys)) (fun i H' => Sep H H' [(D2, .lst (wnames (ws.take i))), (D, .dK kvs)]) (sp.own hD2) ?_ ?_ ?_
    · rintro i H' _ sp
      exact Same.tup sp.ext ht
    · rintro i v H1 H2 hi sp ⟨rfl, e2⟩
      obtain ⟨l, hl, hL⟩ := pget hr2 e2
      obtain ⟨c, rfl, hb⟩ := WorkAt.up sp.ext hL
      refine ⟨rfl, ⟨_, rfl, _, _, _, _, rfl, rfl, hb, rfl, _, sp.c0, ?_, ?_⟩⟩
      · exact sm (m := 12) (by have := okw.le; simp [wnames]; omega) (by decide)
      · rw [take_snoc hl]
        unfold wnames
        rw [List.map_append]
        exact sp.put0
    rintro H2 sp2
    refine ⟨_, rfl, _, _, rfl, Same.tup sp2.ext hs, ?_⟩
    rw [show ws.take ys.length = ws by rw [hlenw]; exact List.take_length] at sp2
    refine for_it (walk_enumT (xs := xs)) (fun i σ H' => ∃ x y z u, σ = [some (.ref a), some (.ref b), some (.int 7), some (.ref D), x, some (.ref D2), u, y, z] ∧ Sep H H' [(D2, .lst (wnames ws)), (D, .dK kvs)]) ⟨_, _, _, _, rfl, sp2⟩ ?_ ?_ ?_
    · rintro i σ H' _ ⟨_, _, _, _, _, sp⟩
      exact Same.tup sp.ext hs
    · rintro i v σ H1 H2 hi ⟨x, y, z, u, rfl, sp⟩ ⟨t, v1, v2, rfl, hf, rfl, e1, e2⟩
      obtain rfl := Option.some.inj e1
      obtain ⟨l, hl, hL⟩ := pget hp e2
      have sp2 := sp.drop (o := .tup [.int (i : Nat), v2]) hf
      obtain ⟨c, g, gs, rfl, hb0, hg, hst⟩ := hL
      have hb := Same.tup sp2.ext hb0
      have hlg := hst.length
      refine ⟨_, _, rfl, t_of upd_same, rfl, _, _, rfl, _, _, rfl, rfl, ?_⟩
      refine ⟨_, rfl, _, _, _, _, rfl, rfl, hb, rfl, _, rfl, ⟨_, Same.tup sp2.ext hg⟩, fun D3 hD3 => ?_⟩
      refine lc_it (walk_tup (xs := gs)) (fun i H' => Sep H H' [(D3, .lst (List.replicate i (.bl true))), (D2, .lst (wnames ws)), (D, .dK kvs)]) (sp2.own hD3) ?_ ?_ ?_
      · rintro j H' _ sp
        exact Same.tup sp.ext hg
      · rintro j v H3 H4 hj sp3 ⟨rfl, e3⟩
        obtain ⟨st, hst1, hst2⟩ := pget hst e3
        refine ⟨rfl, ⟨_, rfl, _, rfl, _, rfl, _, rfl, ?_⟩⟩
        refine ⟨_, _, _, _, st, ws.map (·.name), rfl, StepAt.up sp3.ext hst2, l_of (by have z := sp3.c1; unfold wnames at z; rw [List.map_map]; exact z), oks l (List.mem_of_getElem? hl) st (List.mem_of_getElem? hst1), _, sp3.c0, ?_, ?_⟩
        · rw [List.length_replicate]
          exact sm (m := 12) (by have := (ok.ok l (List.mem_of_getElem? hl)).s8; omega) (by decide)
        · rw [List.replicate_succ']
          exact sp3.put0
      · rintro H3 sp3
        refine ⟨_, List.replicate gs.length true, rfl, l_of (by rw [List.map_replicate]; exact sp3.c0), true, congrArg V.bl (by simp), iteF ?_⟩
        exact ⟨_, _, _, _, rfl, sp3.tail⟩
    · rintro σ H' ⟨_, _, _, _, rfl, sp⟩
      exact q H' sp.ext
abbrev N_check_setup : List Str := ["lines", "works", "at"]
theorem sc_check_setup : FnScope N_check_setup ["lines", "works"] (C8.fnScope s_check_setup) := C8.fnScope_by (by decide +kernel)
theorem ok_check_setup {fd : FuncData} (T : Txt K mg) (F : FunD K "check_setup" "check_setup" (C8.fnArgs s_check_setup) (C8.fnBody s_check_setup) (C8.fnScope s_check_setup) [] [] (He.ga K "check_setup") fd) (c_spoilt_line : C8.Cal P w K mg base 4 "spoilt_line" (sp_spoilt_line K) []) (c_spoilt_work : C8.Cal P w K mg base 4 "spoilt_work" (sp_spoilt_work K) []) (c_spoilt_handler : C8.Cal P w K mg base 4 "spoilt_handler" (sp_spoilt_handler K) []) :
    C8.Cal P w K mg base 5 "check_setup" (sp_check_setup K) [] := by
  refine C8.cal0 (ds := []) ⟨fun_c8 F, T.f_check_setup, F.kp⟩ (F.bindsN fun _ _ _ _ _ _ us hl => match us, hl with | [_, _], _ => rfl) .nil sc_check_setup (fun vs H Q E h => ?_) (fun cdv A outer s H vs Q E hr h => ?_)
  · obtain ⟨_, _, _, _, rfl, _⟩ := h
    rfl
  · have nd := sc_check_setup.nd
    have hu := hu_of hr
    obtain ⟨a, b, ls, ws, rfl, hl, hw, ok, okw, oks, q⟩ := h
    refine ⟨_, (pss_cons (ps_set (i := 2) nd rfl (Or.inl rfl) (C8.pe_c c_spoilt_line hr (by decide) rfl (pa_cons (pv 0) (pa_cons (ClX.pe_cval (pe_glob (v := .ref (aC "Setup" K)) rfl T.g_Setup rfl)) pa_nil))))
      (pss_cons (ps_if (pt_cmpR op_notN (pv 2) pe_non (nomark _)) (pss_one ps_never) pss_nil)
      (pss_cons (ps_set (i := 2) nd rfl (Or.inl rfl) (C8.pe_c c_spoilt_work hr (by decide) rfl (pa_cons (pv 1) (pa_cons (ClX.pe_cval (pe_glob (v := .ref (aC "Setup" K)) rfl T.g_Setup rfl)) pa_nil))))
      (pss_cons (ps_if (pt_cmpR op_notN (pv 2) pe_non (nomark _)) (pss_one ps_never) pss_nil)
      (pss_cons (ps_set (i := 2) nd rfl (Or.inl rfl) (C8.pe_c c_spoilt_handler hr (by decide) rfl (pa_cons (pv 0) (pa_cons (pv 1) (pa_cons (ClX.pe_cval (pe_glob (v := .ref (aC "Setup" K)) rfl T.g_Setup rfl)) pa_nil)))))
      (pss_one (ps_if (pt_cmpR op_notN (pv 2) pe_non (nomark _)) (pss_one ps_never) pss_nil))))))), ?_⟩
    
    obtain ⟨u1, c1⟩ := T.c_Setup_MAX_LINES
    obtain ⟨u2, c2⟩ := T.c_Setup_MAX_WORKS
    obtain ⟨u3, c3⟩ := T.c_Setup_MAX_FLAG
    refine ⟨_, rfl, _, _, _, _, rfl, T.r_Setup, c1, a, ls, rfl, hl, ok, fun H1 s1 => ?_⟩
    refine ⟨_, rfl, rfl, false, rfl, iteF ?_⟩
    refine ⟨_, rfl, _, _, _, _, rfl, T.r_Setup, c2, b, ws, rfl, WorksAt.up s1 hw, okw, fun H2 s2 => ?_⟩
    refine ⟨_, rfl, rfl, false, rfl, iteF ?_⟩
    refine ⟨_, rfl, _, rfl, _, _, _, _, rfl, T.r_Setup, c3, a, b, ls, ws, rfl, LinesAt.up s2 (LinesAt.up s1 hl), WorksAt.up s2 (WorksAt.up s1 hw), ok, okw, oks, fun H3 s3 => ?_⟩
    refine ⟨_, rfl, rfl, false, rfl, iteF ?_⟩
    exact q H3 fun b o z => s3 b o (s2 b o (s1 b o z))
end
end Cb

namespace Cb
open PySem PySem.Spec PyProof.Rows L2

theorem Sep.freeze {K0 H : Hp} {L : List (Addr × HO)} {a : Addr} {o : HO} (s : Sep K0 H ((a, o) :: L)) : Sep (upd K0 a o) H L := by
  have ha : K0 a = none := s.fr a List.mem_cons_self
  have n := List.nodup_cons.mp s.nd
  refine ⟨fun b u q => ?_, n.2, fun b m => ?_, s.cs.2⟩
  · by_cases e : b = a
    · subst e
      rw [upd_same] at q
      exact (Option.some.inj q) ▸ s.cs.1
    · rw [upd_ne e] at q
      exact s.ext b u q
  · have ne : b ≠ a := fun q => n.1 (q ▸ m)
    rw [upd_ne ne]
    exact s.fr b (List.mem_cons_of_mem _ m)
theorem Sep.new0 {K0 H : Hp} {L : List (Addr × HO)} {a : Addr} {o : HO} (s : Sep K0 H ((a, o) :: L)) : Same K0 (upd K0 a o) := same_new (Same.refl K0) (s.fr a List.mem_cons_self)
theorem Sep.newk {K0 H : Hp} {L : List (Addr × HO)} (s : Sep K0 H L) {p : Addr} {o : HO} (h : H p = none) : Same K0 (upd K0 p o) := same_new (Same.refl K0) (s.free h).1
theorem putK_new {kvs : List (Key × V)} {k : Key} {v : V} (h : ∀ e ∈ kvs, e.1 ≠ k) : putK kvs k v = kvs ++ [(k, v)] := by
  unfold putK
  rw [if_neg]
  simp only [List.any_eq_true, decide_eq_true_eq, not_exists, not_and]
  exact fun e m => h e m
theorem Sep.grow {K0 H H1 : Hp} {L : List (Addr × HO)} (s : Sep K0 H L) (g : Same H H1) : Sep K0 H1 L := ⟨Same.tr s.ext g, s.nd, s.fr, Cells.of fun e m => g _ _ (s.cs.mem e m)⟩
theorem Sep.swap {K0 H : Hp} {L : List (Addr × HO)} {e f : Addr × HO} (s : Sep K0 H (e :: f :: L)) : Sep K0 H (f :: e :: L) := s.perm (List.Perm.swap _ _ _)
def keyOf (K' : Hp) : V → Int × Str
  | .ref t => match K' t with
    | some (.tup [.int i, .str s]) => (i, s)
    | _ => (0, "")
  | _ => (0, "")
theorem keyOf_at {K' : Hp} {t : Addr} {i : Int} {s : Str} (h : K' t = some (.tup [.int i, .str s])) : keyOf K' (.ref t) = (i, s) := by
  unfold keyOf
  simp [h]
def RankAt (K' : Hp) (v : V) (l : LineD) : Prop := ∃ t, v = .ref t ∧ K' t = some (.tup [.int (-l.rank), .str l.name])
theorem ranked_names {K' : Hp} : ∀ {acc : List V} {ls : List LineD}, Paired (RankAt K') acc ls → acc.map (fun v => (keyOf K' v).2) = ls.map (·.name)
  | _, _, .nil => rfl
  | _, _, .cons ⟨t, e, h⟩ p => by
    subst e
    rw [List.map_cons, List.map_cons, ranked_names p, keyOf_at h]
theorem ranked_mem {K' : Hp} {acc : List V} {ls : List LineD} (p : Paired (RankAt K') acc ls) {v : V} (m : v ∈ acc) : ∃ t i s, v = .ref t ∧ K' t = some (.tup [.int i, .str s]) ∧ keyOf K' v = (i, s) := by
  obtain ⟨i, hi⟩ := List.mem_iff_getElem?.mp m
  obtain ⟨l, _, t, rfl, h⟩ := pget p hi
  exact ⟨t, _, _, rfl, h, keyOf_at h⟩
structure SetD where
  ls : List LineD
  ws : List WorkD
  order : List Str
structure SetOk (S : SetD) : Prop where
  ok : LsOk S.ls
  okw : WsOk S.ws
  all : AllOk S.ls S.ws
  perm : S.order.Perm (S.ls.map (·.name))
  srt : S.order.Pairwise fun a b => ∀ la ∈ S.ls, ∀ lb ∈ S.ls, la.name = a → lb.name = b → lb.rank ≤ la.rank
def byN (ls : List LineD) (xs : List V) : List (Key × V) := (ls.zip xs).map fun p => (.inr p.1.name, p.2)
theorem byN_at : ∀ {ls : List LineD} {xs : List V} {i : Nat} {l : LineD} {v : V}, (ls.map (·.name)).Nodup → ls[i]? = some l → xs[i]? = some v → valV (byN ls xs) (.inr l.name) = some v
  | [], _, i, _, _, _, h, _ => by simp at h
  | _ :: _, [], i, _, _, _, _, h => by simp at h
  | m :: ls, x :: xs, 0, l, v, nd, h, g => by
    simp at h g
    subst h g
    simp [byN, valV]
  | m :: ls, x :: xs, i + 1, l, v, nd, h, g => by
    simp at h g
    have nd2 := List.nodup_cons.mp nd
    have ne : m.name ≠ l.name := fun q => nd2.1 (by show m.name ∈ _; rw [q]; exact List.mem_map_of_mem (List.mem_of_getElem? h))
    have z := byN_at (xs := xs) nd2.2 h g
    unfold byN valV at z ⊢
    rw [List.zip_cons_cons, List.map_cons, List.find?_cons_of_neg (by simp [ne])]
    exact z
theorem byN_no {ls : List LineD} {xs : List V} {n : Str} (h : n ∉ ls.map (·.name)) : valV (byN ls xs) (.inr n) = none := by
  unfold valV byN
  rw [List.find?_eq_none.mpr]
  · rfl
  · intro e m
    obtain ⟨p, hp, rfl⟩ := List.mem_map.mp m
    have hp2 := (List.of_mem_zip hp).1
    simp only [decide_eq_true_eq]
    intro q
    injection q with q
    exact h (q ▸ List.mem_map_of_mem hp2)
theorem byN_snoc {ls : List LineD} {xs : List V} {i : Nat} {l : LineD} {v : V} (nd : (ls.map (·.name)).Nodup) (h : ls[i]? = some l) (g : xs[i]? = some v) : putK (byN (ls.take i) (xs.take i)) (.inr l.name) v = byN (ls.take (i + 1)) (xs.take (i + 1)) := by
  rw [putK_new, take_snoc h, take_snoc g]
  · unfold byN
    have e : (ls.take i).length = (xs.take i).length := by
      have h1 : i < ls.length := by
        rcases Nat.lt_or_ge i ls.length with z | z
        · exact z
        · rw [List.getElem?_eq_none z] at h; cases h
      have h2 : i < xs.length := by
        rcases Nat.lt_or_ge i xs.length with z | z
        · exact z
        · rw [List.getElem?_eq_none z] at g; cases g
      simp; omega
    rw [List.zip_append e]
    simp
  · intro e m q
    obtain ⟨p, hp, rfl⟩ := List.mem_map.mp m
    have hp2 := (List.of_mem_zip hp).1
    injection q with q
    have := nodup_take nd (i := i) (x := l.name) (by simp [h])
    rw [← List.map_take] at this
    exact this (q ▸ List.mem_map_of_mem hp2)
theorem ranked_key {K' : Hp} {acc : List V} {ls : List LineD} (p : Paired (RankAt K') acc ls) {v : V} (m : v ∈ acc) : ∃ l ∈ ls, keyOf K' v = (-l.rank, l.name) := by
  obtain ⟨i, hi⟩ := List.mem_iff_getElem?.mp m
  obtain ⟨l, hl, t, rfl, h⟩ := pget p hi
  exact ⟨l, List.mem_of_getElem? hl, keyOf_at h⟩
theorem nm_inj : ∀ {ls : List LineD}, (ls.map (·.name)).Nodup → ∀ {a b : LineD}, a ∈ ls → b ∈ ls → a.name = b.name → a = b
  | m :: ls, nd, a, b, ha, hb, e => by
    have n2 := List.nodup_cons.mp nd
    rcases List.mem_cons.mp ha with ea | ha
    · rcases List.mem_cons.mp hb with eb | hb
      · rw [ea, eb]
      · exact absurd (show m.name ∈ ls.map (·.name) by rw [← ea, e]; exact List.mem_map_of_mem hb) n2.1
    · rcases List.mem_cons.mp hb with eb | hb
      · exact absurd (show m.name ∈ ls.map (·.name) by rw [← eb, ← e]; exact List.mem_map_of_mem ha) n2.1
      · exact nm_inj n2.2 ha hb e
theorem srt_of {K' : Hp} {acc ys : List V} {ls : List LineD} (nd : (ls.map (·.name)).Nodup) (p : Paired (RankAt K') acc ls) (pm : ys.Perm acc) (sd : ys.Pairwise fun x y => lexIS (keyOf K' y) (keyOf K' x) = false) :
    (ys.map fun v => (keyOf K' v).2).Pairwise fun a b => ∀ la ∈ ls, ∀ lb ∈ ls, la.name = a → lb.name = b → lb.rank ≤ la.rank := by
  rw [List.pairwise_map]
  refine sd.imp_of_mem fun {x y} hx hy h la hla lb hlb ea eb => ?_
  obtain ⟨lx, hlx, kx⟩ := ranked_key p (pm.mem_iff.mp hx)
  obtain ⟨ly, hly, ky⟩ := ranked_key p (pm.mem_iff.mp hy)
  rw [kx] at ea h
  rw [ky] at eb h
  have e1 := nm_inj nd hla hlx ea
  have e2 := nm_inj nd hlb hly eb
  subst e1 e2
  unfold lexIS at h
  simp only at h
  by_cases q : -lb.rank = -la.rank
  · omega
  · rw [if_neg q] at h
    have := of_decide_eq_false h
    omega
structure SetupAt (K : PySem.W.Frag) (H : Hp) (su : Addr) (S : SetD) : Prop where
  ex : ∃ dx la wa bn oa xs, H su = some (.ins (aC "Setup" K) dx [("_lines", .ref la), ("_works", .ref wa), ("_by_name", .ref bn), ("_order", .ref oa)]) ∧ LinesAt K H la S.ls ∧ WorksAt K H wa S.ws ∧ H bn = some (.dK (byN S.ls xs)) ∧ Paired (LineAt K H) xs S.ls ∧ H oa = some (.tup (S.order.map V.str))
theorem SetupAt.up {K : PySem.W.Frag} {H H' : Hp} {v : Addr} {s : SetD} (e : Same H H') (h : SetupAt K H v s) : SetupAt K H' v s := by
  obtain ⟨dx, la, wa, bn, oa, xs, h1, h2, h3, h4, h5, h6⟩ := h
  exact ⟨dx, la, wa, bn, oa, xs, e _ _ h1, LinesAt.up e h2, WorksAt.up e h3, e _ _ h4, h5.mono fun _ _ z => LineAt.up e z, e _ _ h6⟩
def sp_Setup_init (K : PySem.W.Frag) : Sp := fun vs H Q _ => ∃ (x dx a b : Addr) (ls : List LineD) (ws : List WorkD) (K0 : Hp) (M : List (Addr × HO)), vs = [.ref x, .ref a, .ref b] ∧
  Sep K0 H ((x, .ins (aC "Setup" K) dx []) :: M) ∧ LinesAt K K0 a ls ∧ WorksAt K K0 b ws ∧ LsOk ls ∧ WsOk ws ∧ AllOk ls ws ∧
  ∀ K1 H' S, Same K0 K1 → Sep K1 H' M → SetupAt K K1 x S → S.ls = ls → S.ws = ws → SetOk S → Q .non H'
def sp_Setup_contains (K : PySem.W.Frag) : Sp := fun vs H Q _ => ∃ (su : Addr) (S : SetD) (n : Str), vs = [.ref su, .str n] ∧ SetupAt K H su S ∧ SetOk S ∧ Q (.bl (decide (n ∈ S.ls.map (·.name)))) H

section
variable {P : Program} {w : World} {K : PySem.W.Frag} {mg : Str → Option Value} {base : Heap}

abbrev N_Setup_contains : List Str := ["self", "x"]
theorem sc_Setup_contains : FnScope N_Setup_contains ["self", "x"] (C8.fnScope s_Setup_contains) := C8.fnScope_by (by decide +kernel)
theorem ok_Setup_contains {fd : FuncData} (T : Txt K mg) (F : FunD K "__contains__" "Setup.__contains__" (C8.fnArgs s_Setup_contains) (C8.fnBody s_Setup_contains) (C8.fnScope s_Setup_contains) [] [] (He.ma K (aC "Setup" K) "__contains__") fd) :
    C8.Met P w K mg base 1 (aC "Setup" K) "__contains__" (sp_Setup_contains K) [] := by
  refine C8.met0 T.cl_Setup T.m_Setup_contains (fun_c8 F) (F.bindsN fun _ _ _ _ _ _ us hl => match us, hl with | [_, _], _ => rfl) sc_Setup_contains (fun vs H Q E h => ?_) (fun cdv A outer s H vs Q E hr h => ?_)
  · obtain ⟨_, _, _, rfl, _⟩ := h
    rfl
  · have nd := sc_Setup_contains.nd
    have hu := hu_of hr
    obtain ⟨su, S, n, rfl, ⟨dx, la, wa, bn, oa, xs, h1, h2, h3, h4, h5, h6⟩, ok, q⟩ := h
    refine ⟨_, (pss_one (ps_ret (pe_and (pe_callB call_is (by rfl) T.n_isinstance (by decide +kernel) (pa_cons (pv 1) (pa_cons (pe_bltn (v := .ty "str") rfl T.n_str (by decide +kernel) rfl) pa_nil))) (pe_one (pe_cmp (pc_din hu (pv 1) (pe_fld (pv 0) rfl)) rfl))))), ?_⟩
    refine ⟨_, rfl, _, _, _, _, rfl, ty_str, kb3, true, rfl, iteT ?_⟩
    refine ⟨_, rfl, _, rfl, _, _, _, _, _, rfl, h1, T.cl_Setup, T.t_Setup_by_name, rfl, _, valV (byN S.ls xs) (.inr n), rfl, DGet.k (k := .inr n) h4, ?_⟩
    by_cases hm : n ∈ S.ls.map (·.name)
    · rw [decide_eq_true hm] at q
      obtain ⟨l, hl, rfl⟩ := List.mem_map.mp hm
      obtain ⟨i, hi⟩ := List.mem_iff_getElem?.mp hl
      obtain ⟨v, hv, _⟩ := pgetr h5 hi
      rw [byN_at ok.ok.nd hi hv]
      exact q
    · rw [decide_eq_false hm] at q
      rw [byN_no hm]
      exact q
abbrev N_Setup_init : List Str := ["self", "lines", "works", "line", "ranked", "_", "name"]
theorem sc_Setup_init : FnScope N_Setup_init ["self", "lines", "works"] (C8.fnScope s_Setup_init) := C8.fnScope_by (by decide +kernel)
theorem bind_Setup_init {K : PySem.W.Frag} {f : Addr} {fd : FuncData} {dv : V} (F : FunD K "__init__" "Setup.__init__" (C8.fnArgs s_Setup_init) (C8.fnBody s_Setup_init) (C8.fnScope s_Setup_init) [dv] [] f fd) : L2.Binds K fd ["self", "lines", "works"] [] := by
  obtain ⟨ds, hv, hb⟩ := F.binds1 (ps := ["self", "lines", "works"]) 3 1 (by simp) rfl (fun T kV doc pm an cdv ct us its h1 h2 => match us, its, h1, h2 with | [_, _, _], [_], _, _ => ⟨_, rfl, rfl⟩)
  cases hv
  exact hb
theorem fnok_Setup_init {fd : FuncData} (T : Txt K mg) {dv : V} (F : FunD K "__init__" "Setup.__init__" (C8.fnArgs s_Setup_init) (C8.fnBody s_Setup_init) (C8.fnScope s_Setup_init) [dv] [] (He.ma K (aC "Setup" K) "__init__") fd) (c_check_setup : C8.Cal P w K mg base 5 "check_setup" (sp_check_setup K) []) :
    FnOk P w K mg base C8.CX0 6 (He.ma K (aC "Setup" K) "__init__") fd ["self", "lines", "works"] (sp_Setup_init K) := by
  refine C8.fn0 (fun_c8 F) sc_Setup_init (fun vs H Q E h => ?_) (fun cdv A outer s H vs Q E hr h => ?_)
  · obtain ⟨_, _, _, _, _, _, _, _, rfl, _⟩ := h
    rfl
  · have nd := sc_Setup_init.nd
    have hu := hu_of hr
    obtain ⟨x, dx, a, b, ls, ws, K0, M, rfl, sp, hl, hw, ok, okw, oks, q⟩ := h
    refine ⟨_, (pss_cons (ps_expr (C8.pe_c c_check_setup hr (by decide) rfl (pa_cons (pv 1) (pa_cons (pv 2) pa_nil))))
      (pss_cons (ps_fld (pv 0) (pv 1) rfl)
      (pss_cons (ps_fld (pv 0) (pv 2) rfl)
      (pss_cons (ps_fld (pv 0) (pe_dc (own := [("line", 3)]) rfl nd (pi_tup (pv 1)) (blkOk_by (own := [("line", 3)]) (N := N_Setup_init) (sc := (C8.fnScope s_Setup_init)) (by decide +kernel)) (fun _ _ _ _ _ => (pg_name (i := 3) nd rfl (Or.inl rfl))) (fun _ _ _ _ _ => pts_nil) (fun _ _ _ _ _ => (pe_ix (ix_tup : IxR _ (rIxT K)) (pv 3) pe_int (fun _ _ => rfl))) (fun _ _ _ _ _ => (pv 3))) rfl)
      (pss_cons (ps_set (i := 4) nd rfl (Or.inl rfl) (pe_callB cr_sortIS (by rfl) T.n_sorted (by decide +kernel) (pa_cons (pe_lc (own := [("line", 3)]) rfl nd (pi_tup (pv 1)) (blkOk_by (own := [("line", 3)]) (N := N_Setup_init) (sc := (C8.fnScope s_Setup_init)) (by decide +kernel)) (fun _ _ _ _ _ => (pg_name (i := 3) nd rfl (Or.inl rfl))) (fun _ _ _ _ _ => pts_nil) (fun _ _ _ _ _ => (pe_tup (pa_cons (pe_un un_neg (pe_ix (ix_tup : IxR _ (rIxT K)) (pv 3) pe_int (fun _ _ => rfl))) (pa_cons (pe_ix (ix_tup : IxR _ (rIxT K)) (pv 3) pe_int (fun _ _ => rfl)) pa_nil))))) pa_nil)))
      (pss_one (ps_fld (pv 0) (pe_callTy call_tuple_of (by rfl) T.n_tuple (by decide +kernel) (pa_cons (pe_lc (own := [("_", 5), ("name", 6)]) rfl nd (pi_list (pv 4)) (blkOk_by (own := [("_", 5), ("name", 6)]) (N := N_Setup_init) (sc := (C8.fnScope s_Setup_init)) (by decide +kernel)) (fun _ _ _ _ _ => (pg_tup (n := 2) rfl (pgs_cons (pg_name (i := 5) nd rfl (Or.inl rfl)) (pgs_cons (pg_name (i := 6) nd rfl (Or.inl rfl)) pgs_nil)) : PG _ _ (gTup K 2 _))) (fun _ _ _ _ _ => pts_nil) (fun _ _ _ _ _ => (pv 6))) pa_nil)) rfl))))))), ?_⟩
    
    obtain ⟨xs, hs, hp⟩ := hl
    have hlen := hp.length
    refine ⟨_, rfl, _, rfl, a, b, ls, ws, rfl, LinesAt.up sp.ext ⟨xs, hs, hp⟩, WorksAt.up sp.ext hw, ok, okw, oks, fun H1 s1 => ?_⟩
    have sp1 := sp.grow s1
    refine ⟨_, rfl, _, rfl, _, _, _, _, rfl, sp1.c0, T.cl_Setup, T.t_Setup_lines, (by simp), ?_⟩
    have sp2 := sp1.put0 (o' := .ins (aC "Setup" K) dx [("_lines", .ref a)])
    refine ⟨_, rfl, _, rfl, _, _, _, _, rfl, sp2.c0, T.cl_Setup, T.t_Setup_works, (by simp), ?_⟩
    have sp3 := sp2.put0 (o' := .ins (aC "Setup" K) dx [("_lines", .ref a), ("_works", .ref b)])
    refine ⟨_, rfl, _, rfl, ⟨_, Same.tup sp3.ext hs⟩, fun D hD => ?_⟩
    refine dc_it (walk_tup (xs := xs)) (fun i H' => Sep K0 H' ((D, .dK (byN (ls.take i) (xs.take i))) :: (x, .ins (aC "Setup" K) dx [("_lines", .ref a), ("_works", .ref b)]) :: M)) (sp3.own hD) ?_ ?_ ?_
    · rintro i H' _ sp
      exact Same.tup sp.ext hs
    · rintro i v H1 H2 hi sp ⟨rfl, e2⟩
      obtain ⟨l, hl, hL⟩ := pget hp e2
      obtain ⟨c, g, hs2, rfl, hb, _⟩ := LineAt.up sp.ext hL
      refine ⟨rfl, ⟨_, rfl, _, _, _, _, rfl, rfl, hb, rfl, _, rfl, _, .inr l.name, rfl, sp.c0, ?_, ?_⟩⟩
      · exact sm (m := 12) (by have := ok.le; unfold byN; simp; omega) (by decide)
      · rw [byN_snoc ok.nd hl e2]
        exact sp.put0
    rintro H2 sp4
    rw [List.take_of_length_le (Nat.le_of_eq hlen.symm), List.take_of_length_le (Nat.le_refl _)] at sp4
    refine ⟨_, rfl, _, _, _, _, rfl, sp4.c1, T.cl_Setup, T.t_Setup_by_name, (by simp), ?_⟩
    have sp5 := sp4.swap.put0 (o' := .ins (aC "Setup" K) dx [("_lines", .ref a), ("_works", .ref b), ("_by_name", .ref D)])
    have sp6 := sp5.swap.freeze
    have g1 := sp5.swap.new0
    have hD1 : (upd K0 D (.dK (byN ls xs))) D = some (.dK (byN ls xs)) := upd_same
    revert sp6 g1 hD1
    generalize upd K0 D (.dK (byN ls xs)) = K1
    intro sp6 g1 hD1
    refine ⟨_, rfl, _, rfl, ⟨_, Same.tup (Same.tr g1 sp6.ext) hs⟩, fun D2 hD2 => ?_⟩
    refine lc_it (walk_tup (xs := xs)) (fun i H' => ∃ K' acc, Same K1 K' ∧ Sep K' H' ((D2, .lst acc) :: (x, .ins (aC "Setup" K) dx [("_lines", .ref a), ("_works", .ref b), ("_by_name", .ref D)]) :: M) ∧ Paired (RankAt K') acc (ls.take i)) ⟨K1, [], Same.refl _, sp6.own hD2, .nil⟩ ?_ ?_ ?_
    · rintro i H' _ ⟨K', acc, g, sp, _⟩
      exact Same.tup (Same.tr (Same.tr g1 g) sp.ext) hs
    · rintro i v H1 H2 hi ⟨K', acc, g, sp, pr⟩ ⟨rfl, e2⟩
      obtain ⟨l, hl, hL⟩ := pget hp e2
      obtain ⟨c, gg, hs2, rfl, hb, _⟩ := LineAt.up (Same.tr (Same.tr g1 g) sp.ext) hL
      refine ⟨rfl, ⟨_, rfl, _, _, _, _, rfl, rfl, hb, rfl, _, rfl, _, rfl, _, _, _, _, rfl, rfl, hb, rfl, small8 (by simp), fun t ht => ?_⟩⟩
      have z := sp.keep (o := .tup [.int (-l.rank), .str l.name]) ht
      refine ⟨_, z.c0, ?_, _, _, Same.tr g (sp.newk ht), z.put0, ?_⟩
      · exact sm (m := 12) (by have := ok.le; have := pr.length; simp at this; omega) (by decide)
      · rw [take_snoc hl]
        refine Paired.snoc (pr.mono fun v l' h => ?_) ⟨t, rfl, upd_same⟩
        obtain ⟨t', e, h⟩ := h
        exact ⟨t', e, sp.newk ht _ _ h⟩
    rintro H3 ⟨K2, acc, g2, sp7, pr⟩
    rw [List.take_of_length_le (Nat.le_of_eq hlen.symm)] at pr
    refine ⟨_, _, keyOf K2, rfl, l_of sp7.c0, fun v m => ?_, fun ys p hsd hst hpf => ?_⟩
    · obtain ⟨t, i, s, rfl, h, e⟩ := ranked_mem pr m
      exact ⟨t, rfl, by rw [e]; exact sp7.ext _ _ h⟩
    have sp8 := sp7.tail.own (o := .lst ys) hpf
    have pm := hst.perm
    have lenY : ys.length = ls.length := by rw [pm.length_eq, pr.length]
    refine ⟨_, rfl, _, rfl, ⟨_, l_of sp8.c0⟩, fun D3 hD3 => ?_⟩
    refine lc_it (walk_list (xs := ys)) (fun i H' => Sep K2 H' ((D3, .lst ((ys.take i).map fun v => .str (keyOf K2 v).2)) :: (p, .lst ys) :: (x, .ins (aC "Setup" K) dx [("_lines", .ref a), ("_works", .ref b), ("_by_name", .ref D)]) :: M)) (sp8.own hD3) ?_ ?_ ?_
    · rintro i H' _ sp
      exact l_of sp.c1
    · rintro i v H1 H2 hi sp ⟨rfl, e2⟩
      obtain ⟨t, j, s, rfl, h, e⟩ := ranked_mem pr (pm.mem_iff.mp (List.mem_of_getElem? e2))
      refine ⟨_, _, rfl, t_of (sp.ext _ _ h), rfl, _, _, rfl, _, _, rfl, rfl, ?_⟩
      refine ⟨rfl, ⟨_, rfl, _, sp.c0, ?_, ?_⟩⟩
      · exact sm (m := 12) (by have := ok.le; simp; omega) (by decide)
      · rw [take_snoc e2, List.map_append]
        have z := sp.put0 (o' := .lst (List.map (fun v => V.str (keyOf K2 v).2) (List.take i ys) ++ [V.str s]))
        simpa [e] using z
    rintro H4 sp9
    rw [List.take_of_length_le (Nat.le_refl _)] at sp9
    refine ⟨_, _, rfl, .inl ⟨l_of sp9.c0, fun oa hoa => ?_⟩⟩
    have sp10 := sp9.keep (o := .tup (ys.map fun v => .str (keyOf K2 v).2)) hoa
    have g3 := sp9.newk (o := .tup (ys.map fun v => .str (keyOf K2 v).2)) hoa
    have hoa1 : upd K2 oa (.tup (ys.map fun v => .str (keyOf K2 v).2)) oa = some (.tup (ys.map fun v => .str (keyOf K2 v).2)) := upd_same
    revert sp10 g3 hoa1
    generalize upd K2 oa (.tup (ys.map fun v => .str (keyOf K2 v).2)) = K3
    intro sp10 g3 hoa1
    have sp11 := sp10.tail.tail
    refine ⟨_, rfl, _, _, _, _, rfl, sp11.c0, T.cl_Setup, T.t_Setup_order, (by simp), ?_⟩
    have sp12 := sp11.put0 (o' := .ins (aC "Setup" K) dx [("_lines", .ref a), ("_works", .ref b), ("_by_name", .ref D), ("_order", .ref oa)])
    have g4 := sp12.new0
    have gA := Same.tr g1 (Same.tr g2 (Same.tr g3 g4))
    refine q _ _ ⟨ls, ws, ys.map fun v => (keyOf K2 v).2⟩ gA sp12.freeze ⟨dx, a, b, D, oa, xs, upd_same, LinesAt.up gA ⟨xs, hs, hp⟩, WorksAt.up gA hw, Same.tr g2 (Same.tr g3 g4) _ _ hD1, hp.mono fun _ _ z => LineAt.up gA z, ?_⟩ rfl rfl ⟨ok, okw, oks, ?_, srt_of ok.nd pr pm hsd⟩
    · have z := g4 _ _ hoa1
      simpa [Function.comp_def] using z
    · have z := pm.map (fun v => (keyOf K2 v).2)
      rw [ranked_names pr] at z
      exact z
theorem ok_Setup_init {fd : FuncData} (T : Txt K mg) {dv : V} (F : FunD K "__init__" "Setup.__init__" (C8.fnArgs s_Setup_init) (C8.fnBody s_Setup_init) (C8.fnScope s_Setup_init) [dv] [] (He.ma K (aC "Setup" K) "__init__") fd) (c_check_setup : C8.Cal P w K mg base 5 "check_setup" (sp_check_setup K) []) :
    C8.Mak P w K mg base 6 "Setup" (aC "Setup" K) (sp_Setup_init K) [] := by
  exact ⟨_, fd, _, [], T.mk_Setup, fnok_Setup_init T F c_check_setup, T.g_Setup, bind_Setup_init F, .nil⟩
theorem ok_Setup_init1 {fd : FuncData} (T : Txt K mg) {dv : V} (F : FunD K "__init__" "Setup.__init__" (C8.fnArgs s_Setup_init) (C8.fnBody s_Setup_init) (C8.fnScope s_Setup_init) [dv] [] (He.ma K (aC "Setup" K) "__init__") fd) (c_check_setup : C8.Cal P w K mg base 5 "check_setup" (sp_check_setup K) []) :
    C8.Mak P w K mg base 6 "Setup" (aC "Setup" K) (sp_Setup_init K) [dv] := by
  obtain ⟨ds, hv, hb⟩ := F.binds1 (ps := ["self", "lines", "works"]) 2 0 (by simp) rfl (fun T kV doc pm an cdv ct us its h1 h2 => match us, its, h1, h2 with | [_, _], [_], _, _ => ⟨_, rfl, rfl⟩)
  exact ⟨_, fd, _, ds, T.mk_Setup, fnok_Setup_init T F c_check_setup, T.g_Setup, hb, hv⟩
end
end Cb

namespace Cb
open PySem PySem.Spec PyProof.Rows L2
section
variable {X : Cx} {k j : Nat} {C : Addr} {sp : Sp}
theorem C_nin (M : C8.Met X.prog X.w X.K X.mg X.base k C "__contains__" sp []) (hr : Room j X.A) (hj : k ≤ j) : OpR X (compareOp .NotIn) (rOwnB C sp C8.E0 not) := by
  obtain ⟨f, fd, ps, ds, hc, hm, F, hb, hv⟩ := M.ex
  cases hv
  exact op_ninOwn F (hr.mono hj) hb (fun _ _ _ _ _ _ _ h => h.elim) hm.at_ hm.fn
theorem C_in (M : C8.Met X.prog X.w X.K X.mg X.base k C "__contains__" sp []) (hr : Room j X.A) (hj : k ≤ j) : OpR X (compareOp .In) (rOwnB C sp C8.E0 id) := by
  obtain ⟨f, fd, ps, ds, hc, hm, F, hb, hv⟩ := M.ex
  cases hv
  exact op_inOwn F (hr.mono hj) hb (fun _ _ _ _ _ _ _ h => h.elim) hm.at_ hm.fn
theorem C_ix {a b : Expr} {ta tb : TE} {pos : Pos} {f0 : Addr} (h0 : Meth X.K C "__getitem__" f0) (h1 : PySem.W.fnIn X.K f0 = true) (M : C8.Met X.prog X.w X.K X.mg X.base k C "__getitem__" sp []) (hr : Room j X.A) (hj : k + 1 ≤ j) (ha : PE X a ta) (hi : PE X b tb)
    (hsl : ∀ o i, subscripted b true o i = runValue (.builtin "lifetime.subscript" ⟨[o, i], []⟩) := by intro _ _; rfl) : PE X (.Subscript a b pos) (tOp (rOwnI C sp C8.E0) ta tb) := by
  obtain ⟨f, fd, ps, ds, hc, hm, F, hb, hv⟩ := M.ex
  cases hv
  have e : f0 = f := by
    have z := h0.at_.symm.trans hm.at_
    injection z with z
    injection z with z
    injection z
  subst e
  exact pe_ixOwn F (hr.mono hj) hb (fun _ _ _ _ _ _ _ h => h.elim) hm.at_ hm.fn h1 ha hi hsl
theorem C_prop {e : Expr} {ta : TE} {f : Str} {p g : Addr} {pos : Pos} (hp : PropOf X.K C f p g) (hc : Cls X.K C) (M : FnP X.prog X.w X.K X.mg X.base k g sp) (hr : Room j X.A) (hj : k + 1 ≤ j) (he : PE X e ta) (hb2 : attributeBase e f X.env (eval e X.env) = eval e X.env := by rfl) : PE X (.Attribute e f pos) (tProp C sp [] C8.E0 ta) := by
  obtain ⟨fd, ps, F, hb⟩ := M.ex
  exact pe_prop he hc hp F (hr.mono hj) hb .nil (fun _ _ _ _ _ _ _ h => h.elim) hb2
end
end Cb

namespace Cb
open PySem PySem.Spec PyProof.Rows L2

def sp_Setup_getitem (K : PySem.W.Frag) : Sp := fun vs H Q _ => ∃ (su : Addr) (S : SetD) (l : LineD) (K0 : Hp), vs = [.ref su, .str l.name] ∧ SetupAt K K0 su S ∧ Same K0 H ∧ SetOk S ∧ l ∈ S.ls ∧ ∀ v, LineAt K K0 v l → Q v H
def sp_Setup_order (K : PySem.W.Frag) : Sp := fun vs H Q _ => ∃ (su : Addr) (S : SetD) (K0 : Hp), vs = [.ref su] ∧ SetupAt K K0 su S ∧ Same K0 H ∧ ∀ oa, K0 oa = some (.tup (S.order.map V.str)) → Q (.ref oa) H
def SD.run? : SD → Option Int
  | .run n => some n
  | _ => none
def LineD.ticks (l : LineD) : Int := (l.steps.filterMap SD.run?).sum
def sp_Setup_ticks_of (K : PySem.W.Frag) : Sp := fun vs H Q _ => ∃ (su : Addr) (S : SetD) (l : LineD), vs = [.ref su, .str l.name] ∧ SetupAt K H su S ∧ SetOk S ∧ l ∈ S.ls ∧ ∀ H', Same H H' → Q (.int l.ticks) H'
theorem scal_str (x y : Str) : scal (.str x) (.str y) = true := rfl
theorem Sep.of (H : Hp) : Sep H H [] := Sep.nil
theorem Sep.own' {K0 H H' : Hp} {L : List (Addr × HO)} (s : Sep K0 H L) (g : Same H H') {p : Addr} {o : HO} (h : H p = none) (h' : H' p = some o) : Sep K0 H' ((p, o) :: L) := by
  obtain ⟨h0, hm⟩ := s.free h
  refine ⟨Same.tr s.ext g, List.nodup_cons.mpr ⟨hm, s.nd⟩, fun a ma => ?_, h', (s.grow g).cs⟩
  rcases List.mem_cons.mp ma with z | z
  · exact z ▸ h0
  · exact s.fr a z

section
variable {P : Program} {w : World} {K : PySem.W.Frag} {mg : Str → Option Value} {base : Heap}

abbrev N_Setup_getitem : List Str := ["self", "at"]
theorem sc_Setup_getitem : FnScope N_Setup_getitem ["self", "at"] (C8.fnScope s_Setup_getitem) := C8.fnScope_by (by decide +kernel)
theorem ok_Setup_getitem {fd : FuncData} (T : Txt K mg) (F : FunD K "__getitem__" "Setup.__getitem__" (C8.fnArgs s_Setup_getitem) (C8.fnBody s_Setup_getitem) (C8.fnScope s_Setup_getitem) [] [] (He.ma K (aC "Setup" K) "__getitem__") fd) (c_contains : C8.Met P w K mg base 1 (aC "Setup" K) "__contains__" (sp_Setup_contains K) []) :
    C8.Met P w K mg base 2 (aC "Setup" K) "__getitem__" (sp_Setup_getitem K) [] := by
  refine C8.met0 T.cl_Setup T.m_Setup_getitem (fun_c8 F) (F.bindsN fun _ _ _ _ _ _ us hl => match us, hl with | [_, _], _ => rfl) sc_Setup_getitem (fun vs H Q E h => ?_) (fun cdv A outer s H vs Q E hr h => ?_)
  · obtain ⟨_, _, _, _, rfl, _⟩ := h
    rfl
  · have nd := sc_Setup_getitem.nd
    have hu := hu_of hr
    obtain ⟨su, S, l, K0, rfl, hS0, e0, ok, hl, q⟩ := h
    refine ⟨_, (pss_cons (ps_if (pt_cmpR (C_nin c_contains hr (by decide)) (pv 1) (pv 0) (by rfl)) (pss_one ps_never) pss_nil)
      (pss_one (ps_ret (pe_dget hu (pe_fld (pv 0) rfl) (pv 1) (fun _ _ => rfl))))), ?_⟩
    have hS := SetupAt.up e0 hS0
    obtain ⟨dx, la, wa, bn, oa, xs, h1', h2, h3, h4', h5, h6⟩ := hS0
    have h1 := e0 _ _ h1'
    have h4 := e0 _ _ h4'
    refine ⟨_, rfl, _, rfl, su, dx, _, rfl, h1, ⟨su, S, _, rfl, hS, ok, _, rfl, false, by rw [decide_eq_true (List.mem_map_of_mem hl)]; rfl, iteF ?_⟩⟩
    obtain ⟨i, hi⟩ := List.mem_iff_getElem?.mp hl
    obtain ⟨v, hv, hL⟩ := pgetr h5 hi
    exact ⟨_, rfl, _, _, _, _, _, rfl, h1, T.cl_Setup, T.t_Setup_by_name, rfl, _, rfl, _, v, rfl, byN_at ok.ok.nd hi hv ▸ DGet.k (k := .inr l.name) h4, q v hL⟩
abbrev N_Setup_order : List Str := ["self"]
theorem sc_Setup_order : FnScope N_Setup_order ["self"] (C8.fnScope s_Setup_order) := C8.fnScope_by (by decide +kernel)
theorem ok_Setup_order {fd : FuncData} (T : Txt K mg) (F : FunD K "order" "Setup.order" (C8.fnArgs s_Setup_order) (C8.fnBody s_Setup_order) (C8.fnScope s_Setup_order) [] [] (prA "Setup" "order" K) fd) :
    FnP P w K mg base 1 (prA "Setup" "order" K) (sp_Setup_order K) := by
  refine fnP_mk (fun_c8 F) (F.bindsN fun _ _ _ _ _ _ us hl => match us, hl with | [_], _ => rfl) sc_Setup_order (fun vs H Q E h => ?_) (fun cdv A outer s H vs Q E hr h => ?_)
  · obtain ⟨_, _, _, rfl, _⟩ := h
    rfl
  · have nd := sc_Setup_order.nd
    have hu := hu_of hr
    obtain ⟨su, S, K0, rfl, ⟨dx, la, wa, bn, oa, xs, h1, h2, h3, h4, h5, h6⟩, sm, q⟩ := h
    refine ⟨_, (pss_one (ps_ret (pe_fld (pv 0) rfl))), ?_⟩
    exact ⟨_, rfl, _, _, _, _, _, rfl, sm _ _ h1, T.cl_Setup, T.t_Setup_order, rfl, q oa h6⟩
end
end Cb

namespace Cb
open PySem PySem.Spec PyProof.Rows L2

def bd (o : List Str) (f : Str → Bool) : List (Key × V) := o.map fun n => (.inr n, .bl (f n))
def fset (f : Str → Bool) (n : Str) (b : Bool) : Str → Bool := fun m => if m = n then b else f m
theorem bd_at {f : Str → Bool} {n : Str} : ∀ {o : List Str}, n ∈ o → valV (bd o f) (.inr n) = some (.bl (f n))
  | m :: o, h => by
    by_cases e : m = n
    · subst e
      simp [bd, valV]
    · have z := bd_at (f := f) (o := o) ((List.mem_cons.mp h).resolve_left fun q => e q.symm)
      unfold bd valV at z ⊢
      rw [List.map_cons, List.find?_cons_of_neg (by simp [e])]
      exact z
theorem putK_bd {f : Str → Bool} {n : Str} {b : Bool} {o : List Str} (h : n ∈ o) : putK (bd o f) (.inr n) (.bl b) = bd o (fset f n b) := by
  unfold putK
  rw [if_pos]
  · unfold bd fset
    rw [List.map_map]
    refine List.map_congr_left fun m _ => ?_
    by_cases e : m = n
    · subst e; simp
    · have e2 : ¬ (Sum.inr m : Key) = Sum.inr n := fun q => e (by injection q)
      simp [e, e2]
  · exact List.any_eq_true.mpr ⟨_, List.mem_map_of_mem h, by simp⟩
theorem bd_snoc {f : Str → Bool} {o : List Str} (nd : o.Nodup) {i : Nat} {n : Str} (h : o[i]? = some n) : putK (bd (o.take i) f) (.inr n) (.bl (f n)) = bd (o.take (i + 1)) f := by
  rw [take_snoc h, putK_new]
  · simp [bd]
  · intro e m q
    obtain ⟨k, hk, rfl⟩ := List.mem_map.mp m
    injection q with q
    exact nodup_take nd h (q ▸ hk)
def md (o : List Str) (f : Str → Int) : List (Key × V) := o.map fun n => (.inr n, .int (f n))
def nset (f : Str → Int) (n : Str) (b : Int) : Str → Int := fun m => if m = n then b else f m
theorem md_at {f : Str → Int} {n : Str} : ∀ {o : List Str}, n ∈ o → valV (md o f) (.inr n) = some (.int (f n))
  | m :: o, h => by
    by_cases e : m = n
    · subst e
      simp [md, valV]
    · have z := md_at (f := f) (o := o) ((List.mem_cons.mp h).resolve_left fun q => e q.symm)
      unfold md valV at z ⊢
      rw [List.map_cons, List.find?_cons_of_neg (by simp [e])]
      exact z
theorem putK_md {f : Str → Int} {n : Str} {b : Int} {o : List Str} (h : n ∈ o) : putK (md o f) (.inr n) (.int b) = md o (nset f n b) := by
  unfold putK
  rw [if_pos]
  · unfold md nset
    rw [List.map_map]
    refine List.map_congr_left fun m _ => ?_
    by_cases e : m = n
    · subst e; simp
    · have e2 : ¬ (Sum.inr m : Key) = Sum.inr n := fun q => e (by injection q)
      simp [e, e2]
  · exact List.any_eq_true.mpr ⟨_, List.mem_map_of_mem h, by simp⟩
theorem md_snoc {f : Str → Int} {o : List Str} (nd : o.Nodup) {i : Nat} {n : Str} (h : o[i]? = some n) : putK (md (o.take i) f) (.inr n) (.int (f n)) = md (o.take (i + 1)) f := by
  rw [take_snoc h, putK_new]
  · simp [md]
  · intro e m q
    obtain ⟨k, hk, rfl⟩ := List.mem_map.mp m
    injection q with q
    exact nodup_take nd h (q ▸ hk)
theorem SetOk.nd {S : SetD} (h : SetOk S) : S.order.Nodup := h.perm.nodup_iff.mpr h.ok.nd
theorem SetOk.mem {S : SetD} (h : SetOk S) {l : LineD} (m : l ∈ S.ls) : l.name ∈ S.order := h.perm.mem_iff.mpr (List.mem_map_of_mem m)
theorem SetOk.line {S : SetD} (h : SetOk S) {n : Str} (m : n ∈ S.order) : ∃ l ∈ S.ls, l.name = n := List.mem_map.mp (h.perm.mem_iff.mp m)
theorem SetOk.len {S : SetD} (h : SetOk S) : S.order.length ≤ 12 := by
  have z := h.perm.length_eq
  simp at z
  have := h.ok.le
  omega
def no : Str → Bool := fun _ => false
structure BoardAt (K : PySem.W.Frag) (H : Hp) (bo su : Addr) (S : SetD) (r u : Addr) : Prop where
  ex : ∃ dx d fl mg, H bo = some (.ins (aC "Board" K) dx [("_setup", .ref su), ("_rung", .ref r), ("_disabled", .ref d), ("_under_way", .ref u), ("_flags", .ref fl), ("_merges", .ref mg)]) ∧ H d = some (.dK (bd S.order no))
  su : SetupAt K H su S
  ok : SetOk S
  ed : ∀ l ∈ S.ls, l.lvl = false
theorem BoardAt.up {K : PySem.W.Frag} {H H' : Hp} {bo su r u : Addr} {S : SetD} (e : Same H H') (h : BoardAt K H bo su S r u) : BoardAt K H' bo su S r u := by
  obtain ⟨dx, d, fl, mg, h1, h2⟩ := h.ex
  exact ⟨⟨dx, d, fl, mg, e _ _ h1, e _ _ h2⟩, SetupAt.up e h.su, h.ok, h.ed⟩
def no0 : Str → Int := fun _ => 0
structure MgAt (K : PySem.W.Frag) (H : Hp) (bo m : Addr) : Prop where
  ex : ∃ dx su r d u fl, H bo = some (.ins (aC "Board" K) dx [("_setup", .ref su), ("_rung", .ref r), ("_disabled", .ref d), ("_under_way", .ref u), ("_flags", .ref fl), ("_merges", .ref m)])
theorem MgAt.up {K : PySem.W.Frag} {H H' : Hp} {bo m : Addr} (e : Same H H') (h : MgAt K H bo m) : MgAt K H' bo m := by
  obtain ⟨dx, su, r, d, u, fl, h1⟩ := h.ex
  exact ⟨dx, su, r, d, u, fl, e _ _ h1⟩
theorem MgAt.uniq {K : PySem.W.Frag} {H : Hp} {bo m dx su r d u fl mg : Addr} (h : MgAt K H bo m) (h1 : H bo = some (.ins (aC "Board" K) dx [("_setup", .ref su), ("_rung", .ref r), ("_disabled", .ref d), ("_under_way", .ref u), ("_flags", .ref fl), ("_merges", .ref mg)])) : mg = m := by
  obtain ⟨_, _, _, _, _, _, h2⟩ := h.ex
  rw [h1] at h2
  simp at h2
  exact h2.2.2.2.2.2.2
def ringR (b : Bool) : Str := if b = true then "merged" else "waits"
def sp_put_changed : Sp := fun vs H Q _ => ∃ (a : Addr) (n : Str) (b : Bool) (o : List Str) (f : Str → Bool), vs = [.ref a, .str n, .bl b] ∧ H a = some (.dK (bd o f)) ∧ n ∈ o ∧ o.length ≤ 12 ∧ Q (.bl (!decide (V.bl (f n) = V.bl b))) (upd H a (.dK (bd o (fset f n b))))
def sp_Board_init (K : PySem.W.Frag) : Sp := fun vs H Q _ => ∃ (x dx su : Addr) (S : SetD) (K0 : Hp) (M : List (Addr × HO)), vs = [.ref x, .ref su] ∧ Sep K0 H ((x, .ins (aC "Board" K) dx []) :: M) ∧ SetupAt K K0 su S ∧ SetOk S ∧ (∀ l ∈ S.ls, l.lvl = false) ∧
  ∀ K1 H' r u m, Same K0 K1 → BoardAt K K1 x su S r u → MgAt K K1 x m → Sep K1 H' ((r, .dK (bd S.order no)) :: (u, .dK (bd S.order no)) :: (m, .dK (md S.order no0)) :: M) → Q .non H'
def sp_Board_check_line (K : PySem.W.Frag) : Sp := fun vs H Q _ => ∃ (bo su r u : Addr) (S : SetD) (l : LineD), vs = [.ref bo, .str l.name] ∧ BoardAt K H bo su S r u ∧ l ∈ S.ls ∧ Q .non H
def sp_Board_is_edge (K : PySem.W.Frag) : Sp := fun vs H Q _ => ∃ (bo su r u : Addr) (S : SetD) (l : LineD), vs = [.ref bo, .str l.name] ∧ BoardAt K H bo su S r u ∧ l ∈ S.ls ∧ Q (.bl true) H
def sp_Board_ring (K : PySem.W.Frag) : Sp := fun vs H Q _ => ∃ (bo su r u : Addr) (S : SetD) (l : LineD) (K0 : Hp) (f : Str → Bool) (M : List (Addr × HO)) (m : Addr) (c : Str → Int), vs = [.ref bo, .str l.name] ∧ BoardAt K K0 bo su S r u ∧ MgAt K K0 bo m ∧ l ∈ S.ls ∧ Sep K0 H ((r, .dK (bd S.order f)) :: (m, .dK (md S.order c)) :: M) ∧
  ∀ H' x c', x = ringR (f l.name) → Sep K0 H' ((r, .dK (bd S.order (fset f l.name true))) :: (m, .dK (md S.order c')) :: M) → Q (.str x) H'
def sp_Board_begin (K : PySem.W.Frag) : Sp := fun vs H Q _ => ∃ (bo su r u : Addr) (S : SetD) (l : LineD) (K0 : Hp) (f g : Str → Bool) (M : List (Addr × HO)), vs = [.ref bo, .str l.name] ∧ BoardAt K K0 bo su S r u ∧ l ∈ S.ls ∧ Sep K0 H ((r, .dK (bd S.order f)) :: (u, .dK (bd S.order g)) :: M) ∧
  ∀ H', Sep K0 H' ((r, .dK (bd S.order (fset f l.name false))) :: (u, .dK (bd S.order (fset g l.name true))) :: M) → Q .non H'
def sp_Board_end (K : PySem.W.Frag) : Sp := fun vs H Q _ => ∃ (bo su r u : Addr) (S : SetD) (l : LineD) (K0 : Hp) (g : Str → Bool) (M : List (Addr × HO)), vs = [.ref bo, .str l.name] ∧ BoardAt K K0 bo su S r u ∧ l ∈ S.ls ∧ Sep K0 H ((u, .dK (bd S.order g)) :: M) ∧
  ∀ H', Sep K0 H' ((u, .dK (bd S.order (fset g l.name false))) :: M) → Q .non H'
def sp_Board_waits (K : PySem.W.Frag) : Sp := fun vs H Q _ => ∃ (bo su r u : Addr) (S : SetD) (l : LineD) (f : Str → Bool), vs = [.ref bo, .str l.name] ∧ BoardAt K H bo su S r u ∧ l ∈ S.ls ∧ H r = some (.dK (bd S.order f)) ∧ Q (.bl (f l.name)) H
def sp_Board_is_enabled (K : PySem.W.Frag) : Sp := fun vs H Q _ => ∃ (bo su r u : Addr) (S : SetD) (l : LineD), vs = [.ref bo, .str l.name] ∧ BoardAt K H bo su S r u ∧ l ∈ S.ls ∧ Q (.bl true) H
def sp_Board_waiting_lines (K : PySem.W.Frag) : Sp := fun vs H Q _ => ∃ (bo su r u : Addr) (S : SetD) (f : Str → Bool), vs = [.ref bo] ∧ BoardAt K H bo su S r u ∧ H r = some (.dK (bd S.order f)) ∧
  ∀ p H', Same H H' → H p = none → H' p = some (.lst ((S.order.filter f).map V.str)) → Q (.ref p) H'
def sp_Board_ready_lines (K : PySem.W.Frag) : Sp := fun vs H Q _ => ∃ (bo su r u : Addr) (S : SetD) (f g : Str → Bool), vs = [.ref bo] ∧ BoardAt K H bo su S r u ∧ H r = some (.dK (bd S.order f)) ∧ H u = some (.dK (bd S.order g)) ∧
  ∀ p H', Same H H' → H p = none → H' p = some (.lst (((S.order.filter f).filter fun n => !g n).map V.str)) → Q (.ref p) H'

section
variable {P : Program} {w : World} {K : PySem.W.Frag} {mg : Str → Option Value} {base : Heap}

abbrev N_put_changed : List Str := ["table", "at", "value", "was"]
theorem sc_put_changed : FnScope N_put_changed ["table", "at", "value"] (C8.fnScope s_put_changed) := C8.fnScope_by (by decide +kernel)
theorem ok_put_changed {fd : FuncData} (T : Txt K mg) (F : FunD K "put_changed" "put_changed" (C8.fnArgs s_put_changed) (C8.fnBody s_put_changed) (C8.fnScope s_put_changed) [] [] (He.ga K "put_changed") fd) :
    C8.Cal P w K mg base 1 "put_changed" sp_put_changed [] := by
  refine C8.cal0 (ds := []) ⟨fun_c8 F, T.f_put_changed, F.kp⟩ (F.bindsN fun _ _ _ _ _ _ us hl => match us, hl with | [_, _, _], _ => rfl) .nil sc_put_changed (fun vs H Q E h => ?_) (fun cdv A outer s H vs Q E hr h => ?_)
  · obtain ⟨_, _, _, _, _, rfl, _⟩ := h
    rfl
  · have nd := sc_put_changed.nd
    have hu := hu_of hr
    obtain ⟨a, n, b, o, f, rfl, ha, hn, hl, q⟩ := h
    refine ⟨_, (pss_cons (ps_set (i := 3) nd rfl (Or.inl rfl) (pe_dget hu (pv 0) (pv 1) (fun _ _ => rfl)))
      (pss_cons (ps_dput hu (pv 0) (pv 1) (pv 2) rfl)
      (pss_one (ps_ret (pe_cmpR op_ne (pv 3) (pv 2) (nomark _)))))), ?_⟩
    refine ⟨_, rfl, _, rfl, a, _, rfl, bd_at hn ▸ DGet.k (k := .inr n) ha, ?_⟩
    have dp := DPut.k (k := .inr n) (v := .bl b) ha (sm (m := 12) (by simpa [bd] using hl) (by decide))
    rw [putK_bd hn] at dp
    exact ⟨_, rfl, _, rfl, _, rfl, a, _, rfl, dp, _, rfl, _, rfl, rfl, q⟩
abbrev N_Board_check_line : List Str := ["self", "line"]
theorem sc_Board_check_line : FnScope N_Board_check_line ["self", "line"] (C8.fnScope s_Board_check_line) := C8.fnScope_by (by decide +kernel)
theorem ok_Board_check_line {fd : FuncData} (T : Txt K mg) (F : FunD K "_check_line" "Board._check_line" (C8.fnArgs s_Board_check_line) (C8.fnBody s_Board_check_line) (C8.fnScope s_Board_check_line) [] [] (He.ma K (aC "Board" K) "_check_line") fd) (c_contains : C8.Met P w K mg base 1 (aC "Setup" K) "__contains__" (sp_Setup_contains K) []) :
    C8.Met P w K mg base 2 (aC "Board" K) "_check_line" (sp_Board_check_line K) [] := by
  refine C8.met0 T.cl_Board T.m_Board_check_line (fun_c8 F) (F.bindsN fun _ _ _ _ _ _ us hl => match us, hl with | [_, _], _ => rfl) sc_Board_check_line (fun vs H Q E h => ?_) (fun cdv A outer s H vs Q E hr h => ?_)
  · obtain ⟨_, _, _, _, _, _, rfl, _⟩ := h
    rfl
  · have nd := sc_Board_check_line.nd
    have hu := hu_of hr
    obtain ⟨bo, su, r, u, S, l, rfl, B, hl, q⟩ := h
    refine ⟨_, (pss_one (ps_if (pt_cmpR (C_nin c_contains hr (by decide)) (pv 1) (pe_fld (pv 0) rfl) (by rfl)) (pss_one ps_never) pss_nil)), ?_⟩
    obtain ⟨dx, d, fl, mg, h1, h2⟩ := B.ex
    obtain ⟨dx2, _, _, _, _, _, h3, _⟩ := B.su.ex
    refine ⟨_, rfl, _, rfl, _, _, _, _, _, rfl, h1, T.cl_Board, T.t_Board_setup, rfl, su, dx2, _, rfl, h3, su, S, _, rfl, B.su, B.ok, _, rfl, false, by rw [decide_eq_true (List.mem_map_of_mem hl)]; rfl, iteF q⟩
abbrev N_Board_is_edge : List Str := ["self", "line"]
theorem sc_Board_is_edge : FnScope N_Board_is_edge ["self", "line"] (C8.fnScope s_Board_is_edge) := C8.fnScope_by (by decide +kernel)
theorem ok_Board_is_edge {fd : FuncData} (T : Txt K mg) (F : FunD K "_is_edge" "Board._is_edge" (C8.fnArgs s_Board_is_edge) (C8.fnBody s_Board_is_edge) (C8.fnScope s_Board_is_edge) [] [] (He.ma K (aC "Board" K) "_is_edge") fd) (c_getitem : C8.Met P w K mg base 2 (aC "Setup" K) "__getitem__" (sp_Setup_getitem K) []) :
    C8.Met P w K mg base 4 (aC "Board" K) "_is_edge" (sp_Board_is_edge K) [] := by
  refine C8.met0 T.cl_Board T.m_Board_is_edge (fun_c8 F) (F.bindsN fun _ _ _ _ _ _ us hl => match us, hl with | [_, _], _ => rfl) sc_Board_is_edge (fun vs H Q E h => ?_) (fun cdv A outer s H vs Q E hr h => ?_)
  · obtain ⟨_, _, _, _, _, _, rfl, _⟩ := h
    rfl
  · have nd := sc_Board_is_edge.nd
    have hu := hu_of hr
    obtain ⟨bo, su, r, u, S, l, rfl, B, hl, q⟩ := h
    refine ⟨_, (pss_one (ps_ret (pe_cmpR op_eq (pe_ix ix_tup (C_ix T.m_Setup_getitem T.i_getitem c_getitem hr (by decide) (pe_fld (pv 0) rfl) (pv 1)) pe_int (fun _ _ => rfl)) pe_str (nomark _)))), ?_⟩
    obtain ⟨dx, d, fl, mg, h1, h2⟩ := B.ex
    obtain ⟨dx2, _, _, _, _, _, h3, _⟩ := B.su.ex
    refine ⟨_, rfl, _, _, _, _, _, rfl, h1, T.cl_Board, T.t_Board_setup, rfl, _, rfl, su, dx2, _, rfl, h3, su, S, l, H, rfl, B.su, Same.refl H, B.ok, hl, fun v hv => ?_⟩
    obtain ⟨a, g, gs, rfl, ha, _⟩ := hv
    exact ⟨_, _, _, _, rfl, rfl, ha, rfl, rfl, (congrArg (fun b => Q (.bl b) H) (by rw [B.ed l hl]; rfl)).mp q⟩
abbrev N_Board_ring : List Str := ["self", "line"]
theorem sc_Board_ring : FnScope N_Board_ring ["self", "line"] (C8.fnScope s_Board_ring) := C8.fnScope_by (by decide +kernel)
theorem ok_Board_ring {fd : FuncData} (T : Txt K mg) (F : FunD K "ring" "Board.ring" (C8.fnArgs s_Board_ring) (C8.fnBody s_Board_ring) (C8.fnScope s_Board_ring) [] [] (He.ma K (aC "Board" K) "ring") fd) (c_check_line : C8.Met P w K mg base 2 (aC "Board" K) "_check_line" (sp_Board_check_line K) []) (c_put_changed : C8.Cal P w K mg base 1 "put_changed" sp_put_changed []) :
    C8.Met P w K mg base 3 (aC "Board" K) "ring" (sp_Board_ring K) [] := by
  refine C8.met0 T.cl_Board T.m_Board_ring (fun_c8 F) (F.bindsN fun _ _ _ _ _ _ us hl => match us, hl with | [_, _], _ => rfl) sc_Board_ring (fun vs H Q E h => ?_) (fun cdv A outer s H vs Q E hr h => ?_)
  · obtain ⟨_, _, _, _, _, _, _, _, _, _, _, rfl, _⟩ := h
    rfl
  · have nd := sc_Board_ring.nd
    have hu := hu_of hr
    obtain ⟨bo, su, r, u, S, l, K0, f, M, m, c, rfl, B, hM, hl, sp, q⟩ := h
    refine ⟨_, (pss_cons (ps_expr (C8.pe_mt c_check_line hr (by decide) (pv 0) (pa_cons (pv 1) pa_nil)))
      (pss_cons (ps_if (pt_val (C8.pe_c c_put_changed hr (by decide) rfl (pa_cons (pe_fld (pv 0) rfl) (pa_cons (pv 1) (pa_cons pe_bl pa_nil))))) (pss_one (ps_ret pe_str)) pss_nil)
      (pss_cons (ps_daug hu (pe_fld (pv 0) rfl) (pv 1) pe_int in_add (fun _ _ _ => rfl))
      (pss_one (ps_ret pe_str))))), ?_⟩
    have B2 := BoardAt.up sp.ext B
    obtain ⟨dx, d, fl, mg, h1, h2⟩ := B2.ex
    obtain rfl := (MgAt.up sp.ext hM).uniq h1
    refine ⟨_, rfl, bo, dx, _, rfl, h1, rfl, _, rfl, bo, su, r, u, S, l, rfl, B2, hl, ?_⟩
    refine ⟨_, rfl, _, _, _, _, _, rfl, h1, T.cl_Board, T.t_Board_rung, rfl, _, rfl, r, l.name, true, S.order, f, rfl, sp.c0, B.ok.mem hl, B.ok.len, ?_⟩
    cases e : f l.name with
    | true =>
      refine ⟨_, rfl, iteF ?_⟩
      have sp1 := sp.put0 (o' := .dK (bd S.order (fset f l.name true)))
      obtain ⟨dx9, d9, fl9, mg9, h9, h99⟩ := (BoardAt.up sp1.ext B).ex
      have e9 := (MgAt.up sp1.ext hM).uniq h9
      subst e9
      have dp := DPut.k (k := .inr l.name) (v := .int (c l.name + 1)) sp1.c1 (sm (m := 12) (by simpa [md] using B.ok.len) (by decide))
      rw [putK_md (B.ok.mem hl)] at dp
      refine ⟨_, rfl, _, _, _, _, _, rfl, h9, T.cl_Board, T.t_Board_merges, rfl, _, rfl, _, .int (c l.name), rfl, md_at (B.ok.mem hl) ▸ DGet.k (k := .inr l.name) sp1.c1, ?_⟩
      refine ⟨_, _, rfl, rfl, _, dp, ?_⟩
      exact q _ _ _ (by rw [e]; rfl) sp1.swap.put0.swap
    | false => exact ⟨_, rfl, iteT (q _ _ c (by rw [e]; rfl) sp.put0)⟩
abbrev N_Board_begin : List Str := ["self", "line"]
theorem sc_Board_begin : FnScope N_Board_begin ["self", "line"] (C8.fnScope s_Board_begin) := C8.fnScope_by (by decide +kernel)
theorem ok_Board_begin {fd : FuncData} (T : Txt K mg) (F : FunD K "begin" "Board.begin" (C8.fnArgs s_Board_begin) (C8.fnBody s_Board_begin) (C8.fnScope s_Board_begin) [] [] (He.ma K (aC "Board" K) "begin") fd) (c_is_edge : C8.Met P w K mg base 4 (aC "Board" K) "_is_edge" (sp_Board_is_edge K) []) :
    C8.Met P w K mg base 5 (aC "Board" K) "begin" (sp_Board_begin K) [] := by
  refine C8.met0 T.cl_Board T.m_Board_begin (fun_c8 F) (F.bindsN fun _ _ _ _ _ _ us hl => match us, hl with | [_, _], _ => rfl) sc_Board_begin (fun vs H Q E h => ?_) (fun cdv A outer s H vs Q E hr h => ?_)
  · obtain ⟨_, _, _, _, _, _, _, _, _, _, rfl, _⟩ := h
    rfl
  · have nd := sc_Board_begin.nd
    have hu := hu_of hr
    obtain ⟨bo, su, r, u, S, l, K0, f, g, M, rfl, B, hl, sp, q⟩ := h
    refine ⟨_, (pss_cons (ps_if (pt_val (C8.pe_mt c_is_edge hr (by decide) (pv 0) (pa_cons (pv 1) pa_nil))) (pss_one (ps_dput hu (pe_fld (pv 0) rfl) (pv 1) pe_bl rfl)) pss_nil)
      (pss_one (ps_dput hu (pe_fld (pv 0) rfl) (pv 1) pe_bl rfl))), ?_⟩
    have B2 := BoardAt.up sp.ext B
    obtain ⟨dx, d, fl, mg, h1, h2⟩ := B2.ex
    have ln : ∀ f, (bd S.order f).length < sizeLine := fun f => sm (m := 12) (by simpa [bd] using B.ok.len) (by decide)
    refine ⟨_, rfl, bo, dx, _, rfl, h1, rfl, _, rfl, bo, su, r, u, S, l, rfl, B2, hl, true, rfl, iteT ?_⟩
    have dp := DPut.k (k := .inr l.name) (v := .bl false) sp.c0 (ln f)
    rw [putK_bd (B.ok.mem hl)] at dp
    refine ⟨_, rfl, _, _, _, _, _, rfl, h1, T.cl_Board, T.t_Board_rung, rfl, _, rfl, r, _, rfl, dp, ?_⟩
    have sp2 := sp.put0 (o' := .dK (bd S.order (fset f l.name false)))
    obtain ⟨dx, d, fl, mg, h1, h2⟩ := (BoardAt.up sp2.ext B).ex
    have dp2 := DPut.k (k := .inr l.name) (v := .bl true) sp2.c1 (ln g)
    rw [putK_bd (B.ok.mem hl)] at dp2
    exact ⟨_, rfl, _, _, _, _, _, rfl, h1, T.cl_Board, T.t_Board_under_way, rfl, _, rfl, u, _, rfl, dp2, q _ sp2.swap.put0.swap⟩
abbrev N_Board_end : List Str := ["self", "line"]
theorem sc_Board_end : FnScope N_Board_end ["self", "line"] (C8.fnScope s_Board_end) := C8.fnScope_by (by decide +kernel)
theorem ok_Board_end {fd : FuncData} (T : Txt K mg) (F : FunD K "end" "Board.end" (C8.fnArgs s_Board_end) (C8.fnBody s_Board_end) (C8.fnScope s_Board_end) [] [] (He.ma K (aC "Board" K) "end") fd) :
    C8.Met P w K mg base 1 (aC "Board" K) "end" (sp_Board_end K) [] := by
  refine C8.met0 T.cl_Board T.m_Board_end (fun_c8 F) (F.bindsN fun _ _ _ _ _ _ us hl => match us, hl with | [_, _], _ => rfl) sc_Board_end (fun vs H Q E h => ?_) (fun cdv A outer s H vs Q E hr h => ?_)
  · obtain ⟨_, _, _, _, _, _, _, _, _, rfl, _⟩ := h
    rfl
  · have nd := sc_Board_end.nd
    have hu := hu_of hr
    obtain ⟨bo, su, r, u, S, l, K0, g, M, rfl, B, hl, sp, q⟩ := h
    refine ⟨_, (pss_one (ps_dput hu (pe_fld (pv 0) rfl) (pv 1) pe_bl rfl)), ?_⟩
    have B2 := BoardAt.up sp.ext B
    obtain ⟨dx, d, fl, mg, h1, h2⟩ := B2.ex
    have ln : ∀ f, (bd S.order f).length < sizeLine := fun f => sm (m := 12) (by simpa [bd] using B.ok.len) (by decide)
    have dp := DPut.k (k := .inr l.name) (v := .bl false) sp.c0 (ln g)
    rw [putK_bd (B.ok.mem hl)] at dp
    exact ⟨_, rfl, _, _, _, _, _, rfl, h1, T.cl_Board, T.t_Board_under_way, rfl, _, rfl, u, _, rfl, dp, q _ sp.put0⟩
abbrev N_Board_waits : List Str := ["self", "line"]
theorem sc_Board_waits : FnScope N_Board_waits ["self", "line"] (C8.fnScope s_Board_waits) := C8.fnScope_by (by decide +kernel)
theorem ok_Board_waits {fd : FuncData} (T : Txt K mg) (F : FunD K "waits" "Board.waits" (C8.fnArgs s_Board_waits) (C8.fnBody s_Board_waits) (C8.fnScope s_Board_waits) [] [] (He.ma K (aC "Board" K) "waits") fd) (c_is_edge : C8.Met P w K mg base 4 (aC "Board" K) "_is_edge" (sp_Board_is_edge K) []) :
    C8.Met P w K mg base 5 (aC "Board" K) "waits" (sp_Board_waits K) [] := by
  refine C8.met0 T.cl_Board T.m_Board_waits (fun_c8 F) (F.bindsN fun _ _ _ _ _ _ us hl => match us, hl with | [_, _], _ => rfl) sc_Board_waits (fun vs H Q E h => ?_) (fun cdv A outer s H vs Q E hr h => ?_)
  · obtain ⟨_, _, _, _, _, _, _, rfl, _⟩ := h
    rfl
  · have nd := sc_Board_waits.nd
    have hu := hu_of hr
    obtain ⟨bo, su, r, u, S, l, f, rfl, B, hl, hr2, q⟩ := h
    refine ⟨_, (pss_one (ps_ret (pe_and (pe_dget hu (pe_fld (pv 0) rfl) (pv 1) (fun _ _ => rfl)) (pe_one (pe_or (C8.pe_mt c_is_edge hr (by decide) (pv 0) (pa_cons (pv 1) pa_nil)) (pe_one (pe_not (pe_dget hu (pe_fld (pv 0) rfl) (pv 1) (fun _ _ => rfl))))))))), ?_⟩
    obtain ⟨dx, d, fl, mg, h1, h2⟩ := B.ex
    refine ⟨_, rfl, _, _, _, _, _, rfl, h1, T.cl_Board, T.t_Board_rung, rfl, _, rfl, r, _, rfl, bd_at (B.ok.mem hl) ▸ DGet.k (k := .inr l.name) hr2, _, rfl, ?_⟩
    cases e : f l.name with
    | false =>
      rw [e] at q
      exact iteF q
    | true =>
      rw [e] at q
      exact iteT ⟨_, rfl, bo, dx, _, rfl, h1, rfl, _, rfl, bo, su, r, u, S, l, rfl, B, hl, true, rfl, iteT q⟩
end
end Cb

namespace Cb
open PySem PySem.Spec PyProof.Rows L2

theorem filter_snoc {α : Type} {l : List α} {i : Nat} {x : α} (f : α → Bool) (h : l[i]? = some x) : (l.take (i + 1)).filter f = (l.take i).filter f ++ (if f x = true then [x] else []) := by
  rw [take_snoc h, List.filter_append]
  congr 1
  by_cases e : f x = true <;> simp [e]
theorem Sep.up2 {K0 H : Hp} {L : List (Addr × HO)} {a1 a2 e : Addr × HO} (s : Sep K0 H (a1 :: a2 :: e :: L)) : Sep K0 H (e :: a1 :: a2 :: L) := s.perm (List.perm_middle (l₁ := [a1, a2])).symm
theorem Sep.rev3 {K0 H : Hp} {L : List (Addr × HO)} {g u r : Addr × HO} (s : Sep K0 H (g :: u :: r :: L)) : Sep K0 H (r :: u :: g :: L) := s.perm (((List.Perm.swap g u L).cons r).trans ((List.Perm.swap g r (u :: L)).trans ((List.Perm.swap u r L).cons g)))
theorem Sep.dk {K0 H : Hp} {L : List (Addr × HO)} {a : Addr} {kvs : List (Key × V)} {k : Key} (s : Sep K0 H ((a, .dK kvs) :: L)) : DGet H a (kV k) (valV kvs k) := DGet.k s.c0

section
variable {P : Program} {w : World} {K : PySem.W.Frag} {mg : Str → Option Value} {base : Heap}

abbrev N_Board_is_enabled : List Str := ["self", "line"]
theorem sc_Board_is_enabled : FnScope N_Board_is_enabled ["self", "line"] (C8.fnScope s_Board_is_enabled) := C8.fnScope_by (by decide +kernel)
theorem ok_Board_is_enabled {fd : FuncData} (T : Txt K mg) (F : FunD K "is_enabled" "Board.is_enabled" (C8.fnArgs s_Board_is_enabled) (C8.fnBody s_Board_is_enabled) (C8.fnScope s_Board_is_enabled) [] [] (He.ma K (aC "Board" K) "is_enabled") fd) :
    C8.Met P w K mg base 1 (aC "Board" K) "is_enabled" (sp_Board_is_enabled K) [] := by
  refine C8.met0 T.cl_Board T.m_Board_is_enabled (fun_c8 F) (F.bindsN fun _ _ _ _ _ _ us hl => match us, hl with | [_, _], _ => rfl) sc_Board_is_enabled (fun vs H Q E h => ?_) (fun cdv A outer s H vs Q E hr h => ?_)
  · obtain ⟨_, _, _, _, _, _, rfl, _⟩ := h
    rfl
  · have nd := sc_Board_is_enabled.nd
    have hu := hu_of hr
    obtain ⟨bo, su, r, u, S, l, rfl, B, hl, q⟩ := h
    refine ⟨_, (pss_one (ps_ret (pe_not (pe_dget hu (pe_fld (pv 0) rfl) (pv 1) (fun _ _ => rfl))))), ?_⟩
    obtain ⟨dx, d, fl, mg, h1, h2⟩ := B.ex
    have hd := DGet.k (k := .inr l.name) h2
    rw [bd_at (f := no) (B.ok.mem hl)] at hd
    exact ⟨_, rfl, _, _, _, _, _, rfl, h1, T.cl_Board, T.t_Board_disabled, rfl, _, rfl, d, _, rfl, hd, _, rfl, q⟩
abbrev N_Board_waiting_lines : List Str := ["self", "line"]
theorem sc_Board_waiting_lines : FnScope N_Board_waiting_lines ["self"] (C8.fnScope s_Board_waiting_lines) := C8.fnScope_by (by decide +kernel)
theorem ok_Board_waiting_lines {fd : FuncData} (T : Txt K mg) (F : FunD K "waiting_lines" "Board.waiting_lines" (C8.fnArgs s_Board_waiting_lines) (C8.fnBody s_Board_waiting_lines) (C8.fnScope s_Board_waiting_lines) [] [] (He.ma K (aC "Board" K) "waiting_lines") fd) (c_order : FnP P w K mg base 1 (prA "Setup" "order" K) (sp_Setup_order K)) (c_waits : C8.Met P w K mg base 5 (aC "Board" K) "waits" (sp_Board_waits K) []) :
    C8.Met P w K mg base 6 (aC "Board" K) "waiting_lines" (sp_Board_waiting_lines K) [] := by
  refine C8.met0 T.cl_Board T.m_Board_waiting_lines (fun_c8 F) (F.bindsN fun _ _ _ _ _ _ us hl => match us, hl with | [_], _ => rfl) sc_Board_waiting_lines (fun vs H Q E h => ?_) (fun cdv A outer s H vs Q E hr h => ?_)
  · obtain ⟨_, _, _, _, _, _, rfl, _⟩ := h
    rfl
  · have nd := sc_Board_waiting_lines.nd
    have hu := hu_of hr
    obtain ⟨bo, su, r, u, S, f, rfl, B, hr2, q⟩ := h
    obtain ⟨p, hpo⟩ := T.p_Setup_order
    refine ⟨_, (pss_one (ps_ret (pe_lc (own := [("line", 1)]) rfl nd (pi_tup (C_prop hpo T.cl_Setup c_order hr (by decide) (pe_fld (pv 0) rfl))) (blkOk_by (own := [("line", 1)]) (N := N_Board_waiting_lines) (sc := (C8.fnScope s_Board_waiting_lines)) (by decide +kernel)) (fun _ _ _ _ _ => (pg_name (i := 1) nd rfl (Or.inl rfl))) (fun _ _ _ _ _ => (pts_one (pt_val (C8.pe_mt c_waits hr (by decide) (pv 0) (pa_cons (pv 1) pa_nil))))) (fun _ _ _ _ _ => (pv 1))))), ?_⟩
    obtain ⟨dx, d, fl, mg, h1, h2⟩ := B.ex
    obtain ⟨dx2, _, _, _, _, _, h3, _⟩ := B.su.ex
    refine ⟨_, rfl, _, _, _, _, _, rfl, h1, T.cl_Board, T.t_Board_setup, rfl, su, dx2, _, rfl, h3, su, S, H, rfl, B.su, Same.refl H, fun oa hoa => ?_⟩
    refine ⟨_, rfl, ⟨_, t_of hoa⟩, fun D hD => ?_⟩
    refine lc_it (walk_tup (xs := S.order.map V.str)) (fun i H' => Sep H H' [(D, .lst (((S.order.take i).filter f).map V.str))]) (Sep.nil.own hD) ?_ ?_ ?_
    · rintro i H' _ sp
      exact t_of (sp.ext _ _ hoa)
    · rintro i v H1 H2 hi sp ⟨rfl, e2⟩
      rw [List.getElem?_map] at e2
      obtain ⟨n, hn, rfl⟩ := Option.map_eq_some_iff.mp e2
      obtain ⟨l, hl, rfl⟩ := B.ok.line (List.mem_of_getElem? hn)
      refine ⟨rfl, ⟨_, rfl, bo, dx, _, rfl, sp.ext _ _ h1, rfl, _, rfl, bo, su, r, u, S, l, f, rfl, BoardAt.up sp.ext B, hl, sp.ext _ _ hr2, _, rfl, ?_⟩⟩
      rw [filter_snoc f hn]
      cases e : f l.name with
      | true =>
        refine iteT ⟨_, rfl, _, sp.c0, ?_, ?_⟩
        · have h1 := List.length_filter_le f (S.order.take i)
          have h2 := B.ok.len
          exact sm (m := 12) (by simp at h1 ⊢; omega) (by decide)
        · rw [if_pos rfl, List.map_append]
          exact sp.put0
      | false =>
        refine iteF ?_
        rw [if_neg (by simp), List.append_nil]
        exact sp
    · rintro H1 sp
      rw [List.take_of_length_le (by simp)] at sp
      exact q D H1 sp.ext hD sp.c0
abbrev N_Board_init : List Str := ["self", "setup", "name", "_"]
theorem sc_Board_init : FnScope N_Board_init ["self", "setup"] (C8.fnScope s_Board_init) := C8.fnScope_by (by decide +kernel)
theorem ok_Board_init {fd : FuncData} (T : Txt K mg) (F : FunD K "__init__" "Board.__init__" (C8.fnArgs s_Board_init) (C8.fnBody s_Board_init) (C8.fnScope s_Board_init) [] [] (He.ma K (aC "Board" K) "__init__") fd) (c_order : FnP P w K mg base 1 (prA "Setup" "order" K) (sp_Setup_order K)) :
    C8.Mak P w K mg base 3 "Board" (aC "Board" K) (sp_Board_init K) [] := by
  refine C8.mak0 (ds := []) T.mk_Board T.g_Board (fun_c8 F) (F.bindsN fun _ _ _ _ _ _ us hl => match us, hl with | [_, _], _ => rfl) .nil sc_Board_init (fun vs H Q E h => ?_) (fun cdv A outer s H vs Q E hr h => ?_)
  · obtain ⟨_, _, _, _, _, _, rfl, _⟩ := h
    rfl
  · have nd := sc_Board_init.nd
    have hu := hu_of hr
    obtain ⟨x, dx, su, S, K0, M, rfl, sp, hS, ok, ed, q⟩ := h
    obtain ⟨p, hpo⟩ := T.p_Setup_order
    refine ⟨_, (pss_cons (ps_fld (pv 0) (pv 1) rfl)
      (pss_cons (ps_fld (pv 0) (pe_dc (own := [("name", 2)]) rfl nd (pi_tup (C_prop hpo T.cl_Setup c_order hr (by decide) (pv 1))) (blkOk_by (own := [("name", 2)]) (N := N_Board_init) (sc := (C8.fnScope s_Board_init)) (by decide +kernel)) (fun _ _ _ _ _ => (pg_name (i := 2) nd rfl (Or.inl rfl))) (fun _ _ _ _ _ => pts_nil) (fun _ _ _ _ _ => (pv 2)) (fun _ _ _ _ _ => pe_bl)) rfl)
      (pss_cons (ps_fld (pv 0) (pe_dc (own := [("name", 2)]) rfl nd (pi_tup (C_prop hpo T.cl_Setup c_order hr (by decide) (pv 1))) (blkOk_by (own := [("name", 2)]) (N := N_Board_init) (sc := (C8.fnScope s_Board_init)) (by decide +kernel)) (fun _ _ _ _ _ => (pg_name (i := 2) nd rfl (Or.inl rfl))) (fun _ _ _ _ _ => pts_nil) (fun _ _ _ _ _ => (pv 2)) (fun _ _ _ _ _ => pe_bl)) rfl)
      (pss_cons (ps_fld (pv 0) (pe_dc (own := [("name", 2)]) rfl nd (pi_tup (C_prop hpo T.cl_Setup c_order hr (by decide) (pv 1))) (blkOk_by (own := [("name", 2)]) (N := N_Board_init) (sc := (C8.fnScope s_Board_init)) (by decide +kernel)) (fun _ _ _ _ _ => (pg_name (i := 2) nd rfl (Or.inl rfl))) (fun _ _ _ _ _ => pts_nil) (fun _ _ _ _ _ => (pv 2)) (fun _ _ _ _ _ => pe_bl)) rfl)
      (pss_cons (ps_fld (pv 0) (pe_lc (own := [("_", 3)]) rfl nd (pi_range1 (by rfl) T.n_range (pa_cons (pe_op op_add (ClX.pe_cval (pe_glob (v := .ref (aC "Setup" K)) rfl T.g_Setup rfl)) pe_int) pa_nil)) (blkOk_by (own := [("_", 3)]) (N := N_Board_init) (sc := (C8.fnScope s_Board_init)) (by decide +kernel)) (fun _ _ _ _ _ => (pg_name (i := 3) nd rfl (Or.inl rfl))) (fun _ _ _ _ _ => pts_nil) (fun _ _ _ _ _ => pe_bl)) rfl)
      (pss_one (ps_fld (pv 0) (pe_dc (own := [("name", 2)]) rfl nd (pi_tup (C_prop hpo T.cl_Setup c_order hr (by decide) (pv 1))) (blkOk_by (own := [("name", 2)]) (N := N_Board_init) (sc := (C8.fnScope s_Board_init)) (by decide +kernel)) (fun _ _ _ _ _ => (pg_name (i := 2) nd rfl (Or.inl rfl))) (fun _ _ _ _ _ => pts_nil) (fun _ _ _ _ _ => (pv 2)) (fun _ _ _ _ _ => pe_int)) rfl))))))), ?_⟩
    obtain ⟨dx2, _, _, _, _, _, h3, _⟩ := hS.ex
    obtain ⟨u3, c3⟩ := T.c_Setup_MAX_FLAG
    refine ⟨_, rfl, _, rfl, _, _, _, _, rfl, sp.c0, T.cl_Board, T.t_Board_setup, (by simp), ?_⟩
    have t0 := sp.put0 (o' := .ins (aC "Board" K) dx [("_setup", .ref su)])
    refine ⟨_, rfl, su, _, _, rfl, t0.ext _ _ h3, su, S, K0, rfl, hS, t0.ext, fun oa hoa => ?_⟩
    refine ⟨_, rfl, ⟨_, t_of (t0.ext _ _ hoa)⟩, fun r hD => ?_⟩
    refine dc_it (walk_tup (xs := S.order.map V.str)) (fun i H' => Sep K0 H' ((r, .dK (bd (S.order.take i) no)) :: (x, .ins (aC "Board" K) dx [("_setup", .ref su)]) :: M)) (t0.own hD) ?_ ?_ ?_
    · rintro i H' _ sp
      exact t_of (sp.ext _ _ hoa)
    · rintro i v H1 H2 hi sp ⟨rfl, e2⟩
      rw [List.getElem?_map] at e2
      obtain ⟨n, hn, rfl⟩ := Option.map_eq_some_iff.mp e2
      refine ⟨rfl, ⟨_, rfl, _, .inr n, rfl, sp.c0, ?_, ?_⟩⟩
      · exact sm (m := 12) (by have := ok.len; simp [bd]; omega) (by decide)
      · have z := sp.put0 (o' := .dK (putK (bd (S.order.take i) no) (.inr n) (.bl (no n))))
        rw [bd_snoc ok.nd hn] at z
        rw [show V.bl false = V.bl (no n) from rfl, bd_snoc ok.nd hn]
        exact z
    rintro H0 a0
    rw [List.take_of_length_le (by simp)] at a0
    refine ⟨_, rfl, _, _, _, _, rfl, a0.c1, T.cl_Board, T.t_Board_rung, (by simp), ?_⟩
    have t1 := a0.swap.put0 (o' := ((x, .ins (aC "Board" K) dx [("_setup", .ref su), ("_rung", .ref r)]) : Addr × HO).2)
    refine ⟨_, rfl, su, _, _, rfl, t1.ext _ _ h3, su, S, K0, rfl, hS, t1.ext, fun oa hoa => ?_⟩
    refine ⟨_, rfl, ⟨_, t_of (t1.ext _ _ hoa)⟩, fun d hD => ?_⟩
    refine dc_it (walk_tup (xs := S.order.map V.str)) (fun i H' => Sep K0 H' ((d, .dK (bd (S.order.take i) no)) :: (x, .ins (aC "Board" K) dx [("_setup", .ref su), ("_rung", .ref r)]) :: (r, .dK (bd S.order no)) :: M)) (t1.own hD) ?_ ?_ ?_
    · rintro i H' _ sp
      exact t_of (sp.ext _ _ hoa)
    · rintro i v H1 H2 hi sp ⟨rfl, e2⟩
      rw [List.getElem?_map] at e2
      obtain ⟨n, hn, rfl⟩ := Option.map_eq_some_iff.mp e2
      refine ⟨rfl, ⟨_, rfl, _, .inr n, rfl, sp.c0, ?_, ?_⟩⟩
      · exact sm (m := 12) (by have := ok.len; simp [bd]; omega) (by decide)
      · have z := sp.put0 (o' := .dK (putK (bd (S.order.take i) no) (.inr n) (.bl (no n))))
        rw [bd_snoc ok.nd hn] at z
        rw [show V.bl false = V.bl (no n) from rfl, bd_snoc ok.nd hn]
        exact z
    rintro H1 a1
    rw [List.take_of_length_le (by simp)] at a1
    refine ⟨_, rfl, _, _, _, _, rfl, a1.c1, T.cl_Board, T.t_Board_disabled, (by simp), ?_⟩
    have t2 := a1.swap.put0 (o' := ((x, .ins (aC "Board" K) dx [("_setup", .ref su), ("_rung", .ref r), ("_disabled", .ref d)]) : Addr × HO).2)
    refine ⟨_, rfl, su, _, _, rfl, t2.ext _ _ h3, su, S, K0, rfl, hS, t2.ext, fun oa hoa => ?_⟩
    refine ⟨_, rfl, ⟨_, t_of (t2.ext _ _ hoa)⟩, fun u hD => ?_⟩
    refine dc_it (walk_tup (xs := S.order.map V.str)) (fun i H' => Sep K0 H' ((u, .dK (bd (S.order.take i) no)) :: (x, .ins (aC "Board" K) dx [("_setup", .ref su), ("_rung", .ref r), ("_disabled", .ref d)]) :: (d, .dK (bd S.order no)) :: (r, .dK (bd S.order no)) :: M)) (t2.own hD) ?_ ?_ ?_
    · rintro i H' _ sp
      exact t_of (sp.ext _ _ hoa)
    · rintro i v H1 H2 hi sp ⟨rfl, e2⟩
      rw [List.getElem?_map] at e2
      obtain ⟨n, hn, rfl⟩ := Option.map_eq_some_iff.mp e2
      refine ⟨rfl, ⟨_, rfl, _, .inr n, rfl, sp.c0, ?_, ?_⟩⟩
      · exact sm (m := 12) (by have := ok.len; simp [bd]; omega) (by decide)
      · have z := sp.put0 (o' := .dK (putK (bd (S.order.take i) no) (.inr n) (.bl (no n))))
        rw [bd_snoc ok.nd hn] at z
        rw [show V.bl false = V.bl (no n) from rfl, bd_snoc ok.nd hn]
        exact z
    rintro H2 a2
    rw [List.take_of_length_le (by simp)] at a2
    refine ⟨_, rfl, _, _, _, _, rfl, a2.c1, T.cl_Board, T.t_Board_under_way, (by simp), ?_⟩
    have t3 := a2.swap.put0 (o' := ((x, .ins (aC "Board" K) dx [("_setup", .ref su), ("_rung", .ref r), ("_disabled", .ref d), ("_under_way", .ref u)]) : Addr × HO).2)
    refine ⟨_, _, _, _, rfl, T.r_Setup, c3, _, _, rfl, rfl, _, rfl, by decide, by decide, fun F hF => ?_⟩
    refine lc_it (walk_range (lo := 0) (n := 8)) (fun i H' => Sep K0 H' ((F, .lst (List.replicate i (.bl false))) :: (x, .ins (aC "Board" K) dx [("_setup", .ref su), ("_rung", .ref r), ("_disabled", .ref d), ("_under_way", .ref u)]) :: (u, .dK (bd S.order no)) :: (d, .dK (bd S.order no)) :: (r, .dK (bd S.order no)) :: M)) (t3.own hF) ?_ ?_ ?_
    · exact fun _ _ _ _ => trivial
    · rintro i v H3 H4 hi sp ⟨rfl, e2⟩
      refine ⟨rfl, ⟨_, sp.c0, ?_, ?_⟩⟩
      · rw [List.length_replicate]
        exact sm (m := 12) (by omega) (by decide)
      · rw [List.replicate_succ']
        exact sp.put0
    rintro H5 a5
    refine ⟨_, rfl, _, _, _, _, rfl, a5.c1, T.cl_Board, T.t_Board_flags, (by simp), ?_⟩
    have t5 := a5.swap.put0 (o' := ((x, .ins (aC "Board" K) dx [("_setup", .ref su), ("_rung", .ref r), ("_disabled", .ref d), ("_under_way", .ref u), ("_flags", .ref F)]) : Addr × HO).2)
    refine ⟨_, rfl, su, _, _, rfl, t5.ext _ _ h3, su, S, K0, rfl, hS, t5.ext, fun oa hoa => ?_⟩
    refine ⟨_, rfl, ⟨_, t_of (t5.ext _ _ hoa)⟩, fun G hD => ?_⟩
    refine dc_it (walk_tup (xs := S.order.map V.str)) (fun i H' => Sep K0 H' ((G, .dK (md (S.order.take i) no0)) :: (x, .ins (aC "Board" K) dx [("_setup", .ref su), ("_rung", .ref r), ("_disabled", .ref d), ("_under_way", .ref u), ("_flags", .ref F)]) :: (F, .lst (List.replicate 8 (.bl false))) :: (u, .dK (bd S.order no)) :: (d, .dK (bd S.order no)) :: (r, .dK (bd S.order no)) :: M)) (t5.own hD) ?_ ?_ ?_
    · rintro i H' _ sp
      exact t_of (sp.ext _ _ hoa)
    · rintro i v H1 H2 hi sp ⟨rfl, e2⟩
      rw [List.getElem?_map] at e2
      obtain ⟨n, hn, rfl⟩ := Option.map_eq_some_iff.mp e2
      refine ⟨rfl, ⟨_, rfl, _, .inr n, rfl, sp.c0, ?_, ?_⟩⟩
      · exact sm (m := 12) (by have := ok.len; simp [md]; omega) (by decide)
      · have z := sp.put0 (o' := .dK (putK (md (S.order.take i) no0) (.inr n) (.int (no0 n))))
        rw [md_snoc ok.nd hn] at z
        rw [show V.int 0 = V.int (no0 n) from rfl, md_snoc ok.nd hn]
        exact z
    rintro H6 a6
    rw [List.take_of_length_le (by simp)] at a6
    refine ⟨_, rfl, _, _, _, _, rfl, a6.c1, T.cl_Board, T.t_Board_merges, (by simp), ?_⟩
    have t6 := a6.swap.put0 (o' := ((x, .ins (aC "Board" K) dx [("_setup", .ref su), ("_rung", .ref r), ("_disabled", .ref d), ("_under_way", .ref u), ("_flags", .ref F), ("_merges", .ref G)]) : Addr × HO).2)
    have u1 := t6.freeze
    have n1 := t6.new0
    have x1 : upd K0 x ((x, .ins (aC "Board" K) dx [("_setup", .ref su), ("_rung", .ref r), ("_disabled", .ref d), ("_under_way", .ref u), ("_flags", .ref F), ("_merges", .ref G)]) : Addr × HO).2 x = some ((x, .ins (aC "Board" K) dx [("_setup", .ref su), ("_rung", .ref r), ("_disabled", .ref d), ("_under_way", .ref u), ("_flags", .ref F), ("_merges", .ref G)]) : Addr × HO).2 := upd_same
    have v1 := u1.swap.freeze
    have m1 := u1.swap.new0
    have y1 := m1 _ _ x1
    have w1 := v1.up2.freeze
    have k1 := v1.up2.new0
    have g := Same.tr n1 (Same.tr m1 k1)
    exact q _ _ r u G g ⟨⟨dx, d, F, G, k1 _ _ y1, upd_same⟩, SetupAt.up g hS, ok, ed⟩ ⟨dx, su, r, d, u, F, k1 _ _ y1⟩ w1.rev3
abbrev N_Board_ready_lines : List Str := ["self", "enabled", "line"]
theorem sc_Board_ready_lines : FnScope N_Board_ready_lines ["self"] (C8.fnScope s_Board_ready_lines) := C8.fnScope_by (by decide +kernel)
theorem ok_Board_ready_lines {fd : FuncData} (T : Txt K mg) (F : FunD K "ready_lines" "Board.ready_lines" (C8.fnArgs s_Board_ready_lines) (C8.fnBody s_Board_ready_lines) (C8.fnScope s_Board_ready_lines) [] [] (He.ma K (aC "Board" K) "ready_lines") fd) (c_waiting_lines : C8.Met P w K mg base 6 (aC "Board" K) "waiting_lines" (sp_Board_waiting_lines K) []) (c_is_enabled : C8.Met P w K mg base 1 (aC "Board" K) "is_enabled" (sp_Board_is_enabled K) []) :
    C8.Met P w K mg base 7 (aC "Board" K) "ready_lines" (sp_Board_ready_lines K) [] := by
  refine C8.met0 T.cl_Board T.m_Board_ready_lines (fun_c8 F) (F.bindsN fun _ _ _ _ _ _ us hl => match us, hl with | [_], _ => rfl) sc_Board_ready_lines (fun vs H Q E h => ?_) (fun cdv A outer s H vs Q E hr h => ?_)
  · obtain ⟨_, _, _, _, _, _, _, rfl, _⟩ := h
    rfl
  · have nd := sc_Board_ready_lines.nd
    have hu := hu_of hr
    obtain ⟨bo, su, r, u, S, f, g, rfl, B, hr2, hu2, q⟩ := h
    refine ⟨_, (pss_cons (ps_setLc (i := 1) (own := [("line", 2)]) rfl nd rfl rfl (sw_true rfl rfl rfl (by decide +kernel)) (pi_list (C8.pe_mt0 c_waiting_lines hr (by decide) (pv 0))) (blkOk_by (own := [("line", 2)]) (N := N_Board_ready_lines) (sc := (C8.fnScope s_Board_ready_lines)) (by decide +kernel)) (fun _ _ _ _ _ => (pg_name (i := 2) nd rfl (Or.inl rfl))) (fun _ _ _ _ _ => (pts_one (pt_val (C8.pe_mt c_is_enabled hr (by decide) (pv 0) (pa_cons (pv 2) pa_nil))))) (fun _ _ _ _ _ => (pv 2)))
      (pss_one (ps_ret (pe_lc (own := [("line", 2)]) rfl nd (pi_list (pv 1)) (blkOk_by (own := [("line", 2)]) (N := N_Board_ready_lines) (sc := (C8.fnScope s_Board_ready_lines)) (by decide +kernel)) (fun _ _ _ _ _ => (pg_name (i := 2) nd rfl (Or.inl rfl))) (fun _ _ _ _ _ => (pts_one (pt_not (pt_val (pe_dget hu (pe_fld (pv 0) rfl : PE _ _ (tFld K _ _)) (pv 2) (fun _ _ => rfl)))))) (fun _ _ _ _ _ => (pv 2)))))), ?_⟩
    obtain ⟨dx, d, fl, mg, h1, h2⟩ := B.ex
    refine ⟨_, rfl, bo, dx, _, rfl, h1, rfl, bo, su, r, u, S, f, rfl, B, hr2, fun p H1 g1 hp hp1 => ?_⟩
    revert hp1 q
    generalize eW : S.order.filter f = WL
    intro q hp1
    have lenW : WL.length ≤ 12 := by
      rw [← eW]
      exact Nat.le_trans (List.length_filter_le _ _) B.ok.len
    have s1 : Sep H H1 [(p, .lst (WL.map V.str))] := Sep.nil.own' g1 hp hp1
    refine ⟨_, rfl, ⟨_, l_of hp1⟩, fun D hD => ?_⟩
    refine lc_it (walk_list (xs := WL.map V.str)) (fun i H' => Sep H H' ((D, .lst (((WL.take i)).map V.str)) :: [(p, .lst (WL.map V.str))])) (s1.own hD) ?_ ?_ ?_
    · rintro i H' _ sp
      exact l_of sp.c1
    · rintro i v H3 H4 hi sp ⟨rfl, e2⟩
      rw [List.getElem?_map] at e2
      obtain ⟨n, hn, rfl⟩ := Option.map_eq_some_iff.mp e2
      have hno : n ∈ S.order := (List.mem_filter.mp (eW ▸ List.mem_of_getElem? hn)).1
      obtain ⟨l, hl, rfl⟩ := B.ok.line hno
      refine ⟨rfl, ⟨_, rfl, bo, dx, _, rfl, sp.ext _ _ h1, rfl, _, rfl, bo, su, r, u, S, l, rfl, BoardAt.up sp.ext B, hl, _, rfl, ?_⟩⟩
      refine iteT ⟨_, rfl, _, sp.c0, ?_, ?_⟩
      · have h2 := lenW
        exact sm (m := 12) (by rw [List.length_map, List.length_take]; omega) (by decide)
      · rw [take_snoc hn, List.map_append]
        exact sp.put0
    rintro H2 s2
    rw [List.take_of_length_le (by simp)] at s2
    refine ⟨_, rfl, _, rfl, ⟨_, l_of s2.c0⟩, fun D2 hD2 => ?_⟩
    refine lc_it (walk_list (xs := WL.map V.str)) (fun i H' => Sep H H' ((D2, .lst (((WL.take i).filter (fun n => !g n)).map V.str)) :: [(D, .lst (WL.map V.str)), (p, .lst (WL.map V.str))])) (s2.own hD2) ?_ ?_ ?_
    · rintro i H' _ sp
      exact l_of sp.c1
    · rintro i v H3 H4 hi sp ⟨rfl, e2⟩
      rw [List.getElem?_map] at e2
      obtain ⟨n, hn, rfl⟩ := Option.map_eq_some_iff.mp e2
      have hno : n ∈ S.order := (List.mem_filter.mp (eW ▸ List.mem_of_getElem? hn)).1
      refine ⟨rfl, ⟨_, rfl, _, _, _, _, _, rfl, sp.ext _ _ h1, T.cl_Board, T.t_Board_under_way, rfl, _, rfl, u, _, rfl, bd_at hno ▸ DGet.k (k := .inr n) (sp.ext _ _ hu2), _, rfl, ?_⟩⟩
      rw [filter_snoc (fun n => !g n) hn]
      cases e : g n with
      | false =>
        refine iteT ⟨_, rfl, _, sp.c0, ?_, ?_⟩
        · have h1 := List.length_filter_le (fun n => !g n) (WL.take i)
          have h2 := lenW
          exact sm (m := 12) (by simp at h1 ⊢; omega) (by decide)
        · rw [if_pos (by simp [e]), List.map_append]
          exact sp.put0
      | true =>
        refine iteF ?_
        rw [if_neg (by simp [e]), List.append_nil]
        exact sp
    rintro H3 s3
    rw [List.take_of_length_le (by simp)] at s3
    have hD0 : H D2 = none := Same.free s2.ext hD2
    exact q D2 H3 s3.ext hD0 s3.c0
end
end Cb

namespace Cb
open PySem PySem.Spec PyProof.Rows L2

def pd (r : Str × Int) : PyData := .tuple [.str r.1, .int r.2]
theorem pd_eq {a b : Str × Int} : PyData.eqv (pd a) (pd b) = decide (a = b) := by
  obtain ⟨a, i⟩ := a
  obtain ⟨b, j⟩ := b
  rw [Bool.eq_iff_iff]
  simp [pd, PyData.eqv, PyData.eqvAll]
theorem sok {x : Str} (h : nameOk x) : PyData.strOk x = true := by
  have z := h.2
  unfold letters at z
  have z1 := (He.ba z).1
  unfold Txt.isascii at z1
  unfold PyData.strOk
  rw [Array.all_eq_true] at z1 ⊢
  intro i hi
  have := z1 i hi
  simp at this ⊢
  omega
theorem pd_lay : ∀ {l : List (Str × Int)}, (∀ r ∈ l, nameOk r.1) → PyData.canLayAll0 (l.map pd) = true
  | [], _ => by simp [PyData.canLayAll0]
  | a :: l, h => by simp [PyData.canLayAll0, pd_lay fun r m => h r (List.mem_cons_of_mem _ m), pd, PyData.canLay0, sok (h a List.mem_cons_self)]
theorem pd_dep : ∀ l : List (Str × Int), PyData.depthAll (l.map pd) ≤ 2
  | [] => by simp [PyData.depthAll]
  | a :: l => by
    have := pd_dep l
    simp [PyData.depthAll, pd, PyData.depth]
    omega
theorem pd_sh {l : List (Str × Int)} (h : ∀ r ∈ l, nameOk r.1) : SeqAt.shaped (.list (l.map pd)) = true := by
  have := pd_dep l
  unfold SeqAt.shaped
  simp [PyData.canLay0, pd_lay h, PyData.depth]
  omega
theorem pd_sh1 {a : Str × Int} (h : nameOk a.1) : SeqAt.shaped (pd a) = true := by
  unfold SeqAt.shaped
  simp [pd, PyData.canLay0, PyData.canLayAll0, PyData.depth, PyData.depthAll, sok h]
def RowAt (K : PySem.W.Frag) (H : Hp) (v : V) (r : Str × Int) : Prop := ∃ t, v = .ref t ∧ SqT K H t [.str r.1, .int r.2]
theorem RowAt.up {K : PySem.W.Frag} {H H' : Hp} {v : V} {r : Str × Int} (e : Same H H') (h : RowAt K H v r) : RowAt K H' v r := h.elim fun a h => ⟨a, h.1, Same.tup e h.2⟩
theorem rows_dp {K : PySem.W.Frag} {H : Hp} : ∀ {rv : List V} {rows : List (Str × Int)}, Paired (RowAt K H) rv rows → DpAll K H rv (rows.map pd)
  | _, _, .nil => .nil
  | _, _, .cons ⟨t, e, h⟩ p => by
    subst e
    exact .cons (.tup h (.cons (.str _) (.cons (.int _) .nil))) (rows_dp p)
def wd (ws : List WorkD) (f : WorkD → Int) : List (Key × V) := ws.map fun w => (.inr w.name, .int (f w))
theorem wd_at {f : WorkD → Int} {l : WorkD} : ∀ {ws : List WorkD}, (ws.map (·.name)).Nodup → l ∈ ws → valV (wd ws f) (.inr l.name) = some (.int (f l))
  | m :: ws, nd, h => by
    have nd2 := List.nodup_cons.mp nd
    rcases List.mem_cons.mp h with e | h
    · subst e
      simp [wd, valV]
    · have ne : m.name ≠ l.name := fun q => nd2.1 (by show m.name ∈ _; rw [q]; exact List.mem_map_of_mem h)
      have z := wd_at (f := f) nd2.2 h
      unfold wd valV at z ⊢
      rw [List.map_cons, List.find?_cons_of_neg (by simp [ne])]
      exact z
theorem wd_snoc {f : WorkD → Int} {ws : List WorkD} (nd : (ws.map (·.name)).Nodup) {i : Nat} {l : WorkD} (h : ws[i]? = some l) : putK (wd (ws.take i) f) (.inr l.name) (.int (f l)) = wd (ws.take (i + 1)) f := by
  rw [take_snoc h, putK_new]
  · simp [wd]
  · intro e m q
    obtain ⟨k, hk, rfl⟩ := List.mem_map.mp m
    injection q with q
    have := nodup_take nd (i := i) (x := l.name) (by simp [h])
    rw [← List.map_take] at this
    exact this (q ▸ List.mem_map_of_mem hk)
theorem papp {α β : Type} {F : α → β → Prop} : ∀ {l₁ : List α} {l₂ : List β} {m₁ : List α} {m₂ : List β}, Paired F l₁ l₂ → Paired F m₁ m₂ → Paired F (l₁ ++ m₁) (l₂ ++ m₂)
  | _, _, _, _, .nil, q => q
  | _, _, _, _, .cons f p, q => .cons f (papp p q)
theorem ptake {α β : Type} {F : α → β → Prop} : ∀ {l₁ : List α} {l₂ : List β}, Paired F l₁ l₂ → ∀ n, Paired F (l₁.take n) (l₂.take n)
  | _, _, .nil, _ => by simpa using Paired.nil
  | _, _, .cons _ _, 0 => .nil
  | _, _, .cons f p, n + 1 => .cons f (ptake p n)
theorem pdrop {α β : Type} {F : α → β → Prop} : ∀ {l₁ : List α} {l₂ : List β}, Paired F l₁ l₂ → ∀ n, Paired F (l₁.drop n) (l₂.drop n)
  | _, _, .nil, _ => by simpa using Paired.nil
  | _, _, .cons f p, 0 => .cons f p
  | _, _, .cons f p, n + 1 => pdrop p n
theorem any_pd (rows : List (Str × Int)) (a : Str × Int) : ((rows.map pd).any fun z => PyData.eqv z (pd a)) = decide (a ∈ rows) := by
  rw [Bool.eq_iff_iff, List.any_map]
  simp [pd_eq]
theorem hu65_of {k : Nat} {A : Around} (h : Room k A) : A.units + 65 < cLine := by
  have := h.un
  omega
theorem big63 {n : Nat} (h : n ≤ 4000) : (n : Int) < 2 ^ 63 := by
  have : (2 : Int) ^ 63 = 9223372036854775808 := by decide
  omega
structure JobsAt (K : PySem.W.Frag) (H : Hp) (jo : Addr) (ws : List WorkD) (ro : Addr) : Prop where
  ex : ∃ dx rk ln, H jo = some (.ins (aC "WorkQueue" K) dx [("_ranks", .ref rk), ("_lengths", .ref ln), ("_rows", .ref ro)]) ∧ H rk = some (.dK (wd ws (·.rank))) ∧ H ln = some (.dK (wd ws (·.ticks)))
  ok : WsOk ws
theorem JobsAt.up {K : PySem.W.Frag} {H H' : Hp} {jo ro : Addr} {ws : List WorkD} (e : Same H H') (h : JobsAt K H jo ws ro) : JobsAt K H' jo ws ro := by
  obtain ⟨dx, rk, ln, h1, h2, h3⟩ := h.ex
  exact ⟨⟨dx, rk, ln, e _ _ h1, e _ _ h2, e _ _ h3⟩, h.ok⟩
def RowsOk (ws : List WorkD) (rows : List (Str × Int)) : Prop := ∀ r ∈ rows, ∃ w ∈ ws, w.name = r.1 ∧ 0 ≤ r.2 ∧ r.2 < w.ticks
def sp_WorkQueue_init (K : PySem.W.Frag) : Sp := fun vs H Q _ => ∃ (x dx wa : Addr) (ws : List WorkD) (K0 : Hp) (M : List (Addr × HO)), vs = [.ref x, .ref wa] ∧ Sep K0 H ((x, .ins (aC "WorkQueue" K) dx []) :: M) ∧ WorksAt K K0 wa ws ∧ WsOk ws ∧
  ∀ K1 H' ro, Same K0 K1 → JobsAt K K1 x ws ro → Sep K1 H' ((ro, .lst []) :: M) → Q .non H'
def sp_WorkQueue_rows (K : PySem.W.Frag) : Sp := fun vs H Q _ => ∃ (jo ro : Addr) (ws : List WorkD) (rv : List V), vs = [.ref jo] ∧ JobsAt K H jo ws ro ∧ H ro = some (.lst rv) ∧ rv.length ≤ 4000 ∧
  ∀ p H', Same H H' → H p = none → H' p = some (.lst rv) → Q (.ref p) H'
def sp_WorkQueue_is_empty (K : PySem.W.Frag) : Sp := fun vs H Q _ => ∃ (jo ro : Addr) (ws : List WorkD) (rv : List V), vs = [.ref jo] ∧ JobsAt K H jo ws ro ∧ H ro = some (.lst rv) ∧ Q (.bl rv.isEmpty) H
def putR (k : Nat) (rows : List (Str × Int)) (n : Str) : List (Str × Int) := if (n, 0) ∈ rows then rows else rows.take k ++ [(n, 0)] ++ rows.drop k
def sp_WorkQueue_put (K : PySem.W.Frag) : Sp := fun vs H Q _ => ∃ (jo ro : Addr) (ws : List WorkD) (rv : List V) (rows : List (Str × Int)) (l : WorkD) (K0 : Hp) (M : List (Addr × HO)), vs = [.ref jo, .str l.name, .int 0] ∧ JobsAt K K0 jo ws ro ∧ RowsOk ws rows ∧ l ∈ ws ∧ Paired (RowAt K K0) rv rows ∧ rows.length ≤ 4000 ∧ Sep K0 H ((ro, .lst rv) :: M) ∧
  ∀ K1 H' rv' k, Same K0 K1 → Paired (RowAt K K1) rv' (putR k rows l.name) → Sep K1 H' ((ro, .lst rv') :: M) → Q .non H'
def sp_WorkQueue_spend (K : PySem.W.Frag) : Sp := fun vs H Q _ => ∃ (jo ro : Addr) (ws : List WorkD) (rv : List V) (n : Str) (t : Int) (rows : List (Str × Int)) (K0 : Hp) (M : List (Addr × HO)), vs = [.ref jo] ∧ JobsAt K K0 jo ws ro ∧ RowsOk ws ((n, t) :: rows) ∧ Paired (RowAt K K0) rv ((n, t) :: rows) ∧ rows.length ≤ 4000 ∧ Sep K0 H ((ro, .lst rv) :: M) ∧
  (∀ K1 H' rv', Same K0 K1 → Paired (RowAt K K1) rv' ((n, t + 1) :: rows) → RowsOk ws ((n, t + 1) :: rows) → Sep K1 H' ((ro, .lst rv') :: M) → Q .non H') ∧
  (∀ H' rv' w, w ∈ ws → w.name = n → w.ticks = t + 1 → Paired (RowAt K K0) rv' rows → RowsOk ws rows → Sep K0 H' ((ro, .lst rv') :: M) → Q (.str n) H')

section
variable {P : Program} {w : World} {K : PySem.W.Frag} {mg : Str → Option Value} {base : Heap}

abbrev N_WorkQueue_rows : List Str := ["self"]
theorem sc_WorkQueue_rows : FnScope N_WorkQueue_rows ["self"] (C8.fnScope s_WorkQueue_rows) := C8.fnScope_by (by decide +kernel)
theorem ok_WorkQueue_rows {fd : FuncData} (T : Txt K mg) (F : FunD K "rows" "WorkQueue.rows" (C8.fnArgs s_WorkQueue_rows) (C8.fnBody s_WorkQueue_rows) (C8.fnScope s_WorkQueue_rows) [] [] (He.ma K (aC "WorkQueue" K) "rows") fd) :
    C8.Met P w K mg base 1 (aC "WorkQueue" K) "rows" (sp_WorkQueue_rows K) [] := by
  refine C8.met0 T.cl_WorkQueue T.m_WorkQueue_rows (fun_c8 F) (F.bindsN fun _ _ _ _ _ _ us hl => match us, hl with | [_], _ => rfl) sc_WorkQueue_rows (fun vs H Q E h => ?_) (fun cdv A outer s H vs Q E hr h => ?_)
  · obtain ⟨_, _, _, _, rfl, _⟩ := h
    rfl
  · have nd := sc_WorkQueue_rows.nd
    have hu := hu_of hr
    obtain ⟨jo, ro, ws, rv, rfl, J, hr2, hl, q⟩ := h
    refine ⟨_, (pss_one (ps_ret (pe_callTy call_list_of (by rfl) T.n_list (by decide +kernel) (pa_cons (pe_fld (pv 0) rfl) pa_nil)))), ?_⟩
    obtain ⟨dx, rk, ln, h1, h2, h3⟩ := J.ex
    exact ⟨_, rfl, _, _, _, _, _, rfl, h1, T.cl_WorkQueue, T.t_WorkQueue_rows, rfl, _, _, rfl, .inl (l_of hr2), fun p hp => q p _ (same_new (Same.refl H) hp) hp upd_same⟩
abbrev N_WorkQueue_is_empty : List Str := ["self"]
theorem sc_WorkQueue_is_empty : FnScope N_WorkQueue_is_empty ["self"] (C8.fnScope s_WorkQueue_is_empty) := C8.fnScope_by (by decide +kernel)
theorem ok_WorkQueue_is_empty {fd : FuncData} (T : Txt K mg) (F : FunD K "is_empty" "WorkQueue.is_empty" (C8.fnArgs s_WorkQueue_is_empty) (C8.fnBody s_WorkQueue_is_empty) (C8.fnScope s_WorkQueue_is_empty) [] [] (He.ma K (aC "WorkQueue" K) "is_empty") fd) :
    C8.Met P w K mg base 1 (aC "WorkQueue" K) "is_empty" (sp_WorkQueue_is_empty K) [] := by
  refine C8.met0 T.cl_WorkQueue T.m_WorkQueue_is_empty (fun_c8 F) (F.bindsN fun _ _ _ _ _ _ us hl => match us, hl with | [_], _ => rfl) sc_WorkQueue_is_empty (fun vs H Q E h => ?_) (fun cdv A outer s H vs Q E hr h => ?_)
  · obtain ⟨_, _, _, _, rfl, _⟩ := h
    rfl
  · have nd := sc_WorkQueue_is_empty.nd
    have hu := hu_of hr
    obtain ⟨jo, ro, ws, rv, rfl, J, hr2, q⟩ := h
    refine ⟨_, (pss_one (ps_ret (pe_notT (pe_fld (pv 0) rfl)))), ?_⟩
    obtain ⟨dx, rk, ln, h1, h2, h3⟩ := J.ex
    exact ⟨_, rfl, _, _, _, _, _, rfl, h1, T.cl_WorkQueue, T.t_WorkQueue_rows, rfl, !rv.isEmpty, .inl ⟨_, l_of hr2, rfl⟩, by rw [Bool.not_not]; exact q⟩
abbrev N_WorkQueue_init : List Str := ["self", "works", "work"]
theorem sc_WorkQueue_init : FnScope N_WorkQueue_init ["self", "works"] (C8.fnScope s_WorkQueue_init) := C8.fnScope_by (by decide +kernel)
theorem ok_WorkQueue_init {fd : FuncData} (T : Txt K mg) (F : FunD K "__init__" "WorkQueue.__init__" (C8.fnArgs s_WorkQueue_init) (C8.fnBody s_WorkQueue_init) (C8.fnScope s_WorkQueue_init) [] [] (He.ma K (aC "WorkQueue" K) "__init__") fd) :
    C8.Mak P w K mg base 1 "WorkQueue" (aC "WorkQueue" K) (sp_WorkQueue_init K) [] := by
  refine C8.mak0 (ds := []) T.mk_WorkQueue T.g_WorkQueue (fun_c8 F) (F.bindsN fun _ _ _ _ _ _ us hl => match us, hl with | [_, _], _ => rfl) .nil sc_WorkQueue_init (fun vs H Q E h => ?_) (fun cdv A outer s H vs Q E hr h => ?_)
  · obtain ⟨_, _, _, _, _, _, rfl, _⟩ := h
    rfl
  · have nd := sc_WorkQueue_init.nd
    have hu := hu_of hr
    obtain ⟨x, dx, wa, ws, K0, M, rfl, sp, hW, ok, q⟩ := h
    obtain ⟨xs, hs, hp⟩ := hW.ex
    have hlen := hp.length
    refine ⟨_, (pss_cons (ps_fld (pv 0) (pe_dc (own := [("work", 2)]) rfl nd (pi_tup (pv 1)) (blkOk_by (own := [("work", 2)]) (N := N_WorkQueue_init) (sc := (C8.fnScope s_WorkQueue_init)) (by decide +kernel)) (fun _ _ _ _ _ => (pg_name (i := 2) nd rfl (Or.inl rfl))) (fun _ _ _ _ _ => pts_nil) (fun _ _ _ _ _ => (pe_ix (ix_tup : IxR _ (rIxT K)) (pv 2) pe_int (fun _ _ => rfl))) (fun _ _ _ _ _ => (pe_ix (ix_tup : IxR _ (rIxT K)) (pv 2) pe_int (fun _ _ => rfl)))) rfl)
      (pss_cons (ps_fld (pv 0) (pe_dc (own := [("work", 2)]) rfl nd (pi_tup (pv 1)) (blkOk_by (own := [("work", 2)]) (N := N_WorkQueue_init) (sc := (C8.fnScope s_WorkQueue_init)) (by decide +kernel)) (fun _ _ _ _ _ => (pg_name (i := 2) nd rfl (Or.inl rfl))) (fun _ _ _ _ _ => pts_nil) (fun _ _ _ _ _ => (pe_ix (ix_tup : IxR _ (rIxT K)) (pv 2) pe_int (fun _ _ => rfl))) (fun _ _ _ _ _ => (pe_ix (ix_tup : IxR _ (rIxT K)) (pv 2) pe_int (fun _ _ => rfl)))) rfl)
      (pss_one (ps_fld (pv 0) (pe_lst pa_nil) rfl)))), ?_⟩
    refine ⟨_, rfl, _, rfl, ⟨_, Same.tup sp.ext hs⟩, fun rk hD => ?_⟩
    refine dc_it (walk_tup (xs := xs)) (fun i H' => Sep K0 H' ((rk, .dK (wd (ws.take i) (·.rank))) :: (x, .ins (aC "WorkQueue" K) dx []) :: M)) (sp.own hD) ?_ ?_ ?_
    · rintro i H' _ sp
      exact Same.tup sp.ext hs
    · rintro i v H1 H2 hi sp ⟨rfl, e2⟩
      obtain ⟨l, hl, hL⟩ := pget hp e2
      obtain ⟨c, rfl, hb⟩ := WorkAt.up sp.ext hL
      refine ⟨rfl, ⟨_, rfl, _, _, _, _, rfl, rfl, hb, rfl, _, rfl, _, _, _, _, rfl, rfl, hb, rfl, _, .inr l.name, rfl, sp.c0, ?_, ?_⟩⟩
      · exact sm (m := 12) (by have := ok.le; simp [wd]; omega) (by decide)
      · have z := sp.put0 (o' := .dK (putK (wd (ws.take i) (·.rank)) (.inr l.name) (.int l.rank)))
        rw [wd_snoc (f := (·.rank)) ok.nd hl] at z ⊢
        exact z
    rintro H0 a0
    rw [List.take_of_length_le (by omega)] at a0
    refine ⟨_, rfl, _, _, _, _, rfl, a0.c1, T.cl_WorkQueue, T.t_WorkQueue_ranks, (by simp), ?_⟩
    have t1 := a0.swap.put0 (o' := ((x, .ins (aC "WorkQueue" K) dx [("_ranks", .ref rk)]) : Addr × HO).2)
    refine ⟨_, rfl, _, rfl, ⟨_, Same.tup t1.ext hs⟩, fun ln hD => ?_⟩
    refine dc_it (walk_tup (xs := xs)) (fun i H' => Sep K0 H' ((ln, .dK (wd (ws.take i) (·.ticks))) :: (x, .ins (aC "WorkQueue" K) dx [("_ranks", .ref rk)]) :: (rk, .dK (wd ws (·.rank))) :: M)) (t1.own hD) ?_ ?_ ?_
    · rintro i H' _ sp
      exact Same.tup sp.ext hs
    · rintro i v H1 H2 hi sp ⟨rfl, e2⟩
      obtain ⟨l, hl, hL⟩ := pget hp e2
      obtain ⟨c, rfl, hb⟩ := WorkAt.up sp.ext hL
      refine ⟨rfl, ⟨_, rfl, _, _, _, _, rfl, rfl, hb, rfl, _, rfl, _, _, _, _, rfl, rfl, hb, rfl, _, .inr l.name, rfl, sp.c0, ?_, ?_⟩⟩
      · exact sm (m := 12) (by have := ok.le; simp [wd]; omega) (by decide)
      · have z := sp.put0 (o' := .dK (putK (wd (ws.take i) (·.ticks)) (.inr l.name) (.int l.ticks)))
        rw [wd_snoc (f := (·.ticks)) ok.nd hl] at z ⊢
        exact z
    rintro H1 a1
    rw [List.take_of_length_le (by omega)] at a1
    refine ⟨_, rfl, _, _, _, _, rfl, a1.c1, T.cl_WorkQueue, T.t_WorkQueue_lengths, (by simp), ?_⟩
    have t2 := a1.swap.put0 (o' := ((x, .ins (aC "WorkQueue" K) dx [("_ranks", .ref rk), ("_lengths", .ref ln)]) : Addr × HO).2)
    refine ⟨by simp, fun ro hro => ?_⟩
    have t3 := t2.own (o := .lst []) hro
    refine ⟨_, rfl, _, _, _, _, rfl, t3.c1, T.cl_WorkQueue, T.t_WorkQueue_rows, (by simp), ?_⟩
    have t4 := t3.swap.put0 (o' := ((x, .ins (aC "WorkQueue" K) dx [("_ranks", .ref rk), ("_lengths", .ref ln), ("_rows", .ref ro)]) : Addr × HO).2)
    have u1 := t4.freeze
    have n1 := t4.new0
    have x1 : upd K0 x ((x, .ins (aC "WorkQueue" K) dx [("_ranks", .ref rk), ("_lengths", .ref ln), ("_rows", .ref ro)]) : Addr × HO).2 x = some ((x, .ins (aC "WorkQueue" K) dx [("_ranks", .ref rk), ("_lengths", .ref ln), ("_rows", .ref ro)]) : Addr × HO).2 := upd_same
    have u2 := u1.swap.freeze
    have n2 := u1.swap.new0
    have u3 := u2.swap.freeze
    have n3 := u2.swap.new0
    have g := Same.tr n1 (Same.tr n2 n3)
    exact q _ _ ro g ⟨⟨dx, rk, ln, Same.tr n2 n3 _ _ x1, upd_same, n3 _ _ upd_same⟩, ok⟩ u3
abbrev N_WorkQueue_put : List Str := ["self", "work", "ticks", "rank", "ahead", "name", "_"]
theorem sc_WorkQueue_put : FnScope N_WorkQueue_put ["self", "work", "ticks"] (C8.fnScope s_WorkQueue_put) := C8.fnScope_by (by decide +kernel)
theorem bind_WorkQueue_put {K : PySem.W.Frag} {f : Addr} {fd : FuncData} {dv : V} (F : FunD K "put" "WorkQueue.put" (C8.fnArgs s_WorkQueue_put) (C8.fnBody s_WorkQueue_put) (C8.fnScope s_WorkQueue_put) [dv] [] f fd) : L2.Binds K fd ["self", "work", "ticks"] [] := by
  obtain ⟨ds, hv, hb⟩ := F.binds1 (ps := ["self", "work", "ticks"]) 3 1 (by simp) rfl (fun T kV doc pm an cdv ct us its h1 h2 => match us, its, h1, h2 with | [_, _, _], [_], _, _ => ⟨_, rfl, rfl⟩)
  cases hv
  exact hb
theorem fnok_WorkQueue_put {fd : FuncData} (T : Txt K mg) (F : FunD K "put" "WorkQueue.put" (C8.fnArgs s_WorkQueue_put) (C8.fnBody s_WorkQueue_put) (C8.fnScope s_WorkQueue_put) [.int 0] [] (He.ma K (aC "WorkQueue" K) "put") fd) :
    FnOk P w K mg base C8.CX0 1 (He.ma K (aC "WorkQueue" K) "put") fd ["self", "work", "ticks"] (sp_WorkQueue_put K) := by
  refine C8.fn0 (fun_c8 F) sc_WorkQueue_put (fun vs H Q E h => ?_) (fun cdv A outer s H vs Q E hr h => ?_)
  · obtain ⟨_, _, _, _, _, _, _, _, rfl, _⟩ := h
    rfl
  · have nd := sc_WorkQueue_put.nd
    have hu := hu_of hr
    obtain ⟨jo, ro, ws, rv, rows, l, K0, M, rfl, J, rok, hl, hp, hlen, sp, q⟩ := h
    refine ⟨_, (pss_cons (ps_if (PW.pt (pw_and (pt_cmpR op_eq (pv 2) pe_int (nomark _)) (pw_and1 (pt_cmpR (op_inD (hu65_of hr)) (pe_tup (pa_cons (pv 1) (pa_cons pe_int pa_nil))) (pe_fld (pv 0) rfl) (by rfl))))) (pss_one ps_retN) pss_nil)
      (pss_cons (ps_set (i := 3) nd rfl (Or.inr rfl) (pe_dget hu (pe_fld (pv 0) rfl) (pv 1) (fun _ _ => rfl)))
      (pss_cons (ps_setLc (i := 4) (own := [("name", 5), ("_", 6)]) rfl nd rfl rfl (sw_true rfl rfl rfl (by decide +kernel)) (pi_list (pe_fld (pv 0) rfl)) (blkOk_by (own := [("name", 5), ("_", 6)]) (N := N_WorkQueue_put) (sc := (C8.fnScope s_WorkQueue_put)) (by decide +kernel)) (fun _ _ _ _ _ => (pg_tup (n := 2) rfl (pgs_cons (pg_name (i := 5) nd rfl (Or.inl rfl)) (pgs_cons (pg_name (i := 6) nd rfl (Or.inl rfl)) pgs_nil)) : PG _ _ (gTup K 2 _))) (fun _ _ _ _ _ => (pts_one (pt_cmpR op_ge (pe_dget hu (pe_fld (pv 0) rfl : PE _ _ (tFld K _ _)) (pv 5) (fun _ _ => rfl)) (pv 3) (nomark _)))) (fun _ _ _ _ _ => (pv 5)))
      (pss_one (ps_expr (pe_bm PySem.F.plainAttrs_list PySem.F.slot_list_insert PySem.F.type_list_insert mt_insert (pe_fld (pv 0) rfl) (pa_cons (pe_callB call_len_seq (by rfl) T.n_len (by decide +kernel) (pa_cons (pv 4) pa_nil)) (pa_cons (pe_tup (pa_cons (pv 1) (pa_cons (pv 2) pa_nil))) pa_nil)))))))), ?_⟩
    have hlen2 := hp.length
    refine ⟨_, rfl, rfl, true, rfl, iteT ?_⟩
    refine ⟨_, rfl, small8 (by simp), fun t ht => ?_⟩
    have sp1 := sp.drop (o := .tup [.str l.name, .int 0]) ht
    obtain ⟨dx, rk, ln, h1, h2, h3⟩ := (JobsAt.up sp1.ext J).ex
    have nmo : nameOk l.name := (J.ok.ok l hl).nm
    have rno : ∀ r ∈ rows, nameOk r.1 := fun r m => by
      obtain ⟨w, hw, e, _⟩ := rok r m
      exact e ▸ (J.ok.ok w hw).nm
    refine ⟨_, rfl, _, _, _, _, _, rfl, h1, T.cl_WorkQueue, T.t_WorkQueue_rows, rfl, pd (l.name, 0), rows.map pd, .tup (t_of upd_same) (.cons (.str _) (.cons (.int _) .nil)), .lst (l_of sp1.c0) (rows_dp (hp.mono fun _ _ z => RowAt.up sp1.ext z)), pd_sh1 nmo, pd_sh rno, decide ((l.name, 0) ∈ rows), congrArg V.bl (any_pd rows _), ?_⟩
    by_cases hm : (l.name, 0) ∈ rows
    · rw [decide_eq_true hm]
      refine iteT (q K0 _ rv 0 (Same.refl _) ?_ sp1)
      unfold putR
      rw [if_pos hm]
      exact hp
    rw [decide_eq_false hm]
    refine iteF ?_
    refine ⟨_, rfl, _, _, _, _, _, rfl, h1, T.cl_WorkQueue, T.t_WorkQueue_ranks, rfl, _, rfl, rk, .int l.rank, rfl, wd_at (f := (·.rank)) J.ok.nd hl ▸ DGet.k (k := .inr l.name) h2, ?_⟩
    refine ⟨_, rfl, _, _, _, _, _, rfl, h1, T.cl_WorkQueue, T.t_WorkQueue_rows, rfl, _, rfl, ⟨_, l_of sp1.c0⟩, fun D hD => ?_⟩
    refine lc_it (walk_list (xs := rv)) (fun i H' => ∃ acc, acc.length ≤ i ∧ Sep K0 H' ((D, .lst acc) :: (ro, .lst rv) :: M)) ⟨[], Nat.le_refl _, sp1.own hD⟩ ?_ ?_ ?_
    · rintro i H' _ ⟨_, _, sp⟩
      exact l_of sp.c1
    · rintro i v H1 H2 hi ⟨acc, ha, sp⟩ ⟨rfl, e2⟩
      obtain ⟨r, hr3, c, rfl, hc⟩ := pget hp e2
      obtain ⟨w, hw, ew, _⟩ := rok r (List.mem_of_getElem? hr3)
      obtain ⟨dx', rk', ln', g1, g2, g3⟩ := (JobsAt.up sp.ext J).ex
      refine ⟨_, _, rfl, Same.tup sp.ext hc, rfl, _, _, rfl, _, _, rfl, rfl, rfl, ?_⟩
      refine ⟨_, rfl, _, _, _, _, _, rfl, g1, T.cl_WorkQueue, T.t_WorkQueue_ranks, rfl, _, rfl, rk', .int w.rank, rfl, ?_, _, rfl, _, _, rfl, rfl, decide (l.rank ≤ w.rank), rfl, ?_⟩
      · rw [← ew]
        exact wd_at (f := (·.rank)) J.ok.nd hw ▸ DGet.k (k := .inr w.name) g2
      · cases decide (l.rank ≤ w.rank) with
        | true => exact iteT ⟨_, rfl, _, sp.c0, sm (m := 4000) (by omega) (by decide), _, by simp; omega, sp.put0⟩
        | false => exact iteF ⟨_, by omega, sp⟩
    rintro H3 ⟨acc, ha, sp3⟩
    obtain ⟨dx', rk', ln', g1, g2, g3⟩ := (JobsAt.up sp3.ext J).ex
    refine ⟨_, rfl, _, _, _, _, _, rfl, g1, T.cl_WorkQueue, T.t_WorkQueue_rows, rfl, .inl ⟨rfl, _, .inl (.inl sp3.c1)⟩, _, rfl, _, _, rfl, .inl (l_of sp3.c0), _, rfl, _, rfl, small8 (by simp), fun t2 ht2 => ?_⟩
    have sp4 := sp3.tail.keep (o := .tup [.str l.name, .int 0]) ht2
    have g := sp3.newk (o := .tup [.str l.name, .int 0]) ht2
    refine ⟨_, _, _, _, rfl, rfl, sp4.c0, sm (m := 4000) (by omega) (by decide), by omega, big63 (by omega), ?_⟩
    refine q _ _ _ acc.length g ?_ sp4.put0
    unfold putR
    rw [if_neg hm, Int.toNat_natCast]
    have hp2 := hp.mono fun _ _ z => RowAt.up g z
    exact papp (papp (ptake hp2 _) (.cons ⟨t2, rfl, t_of upd_same⟩ .nil)) (pdrop hp2 _)
theorem ok_WorkQueue_put {fd : FuncData} (T : Txt K mg) (F : FunD K "put" "WorkQueue.put" (C8.fnArgs s_WorkQueue_put) (C8.fnBody s_WorkQueue_put) (C8.fnScope s_WorkQueue_put) [.int 0] [] (He.ma K (aC "WorkQueue" K) "put") fd) :
    C8.Met P w K mg base 1 (aC "WorkQueue" K) "put" (sp_WorkQueue_put K) [] := by
  exact ⟨_, fd, _, [], T.cl_WorkQueue, T.m_WorkQueue_put, fnok_WorkQueue_put T  F, bind_WorkQueue_put F, .nil⟩
theorem ok_WorkQueue_put1 {fd : FuncData} (T : Txt K mg) (F : FunD K "put" "WorkQueue.put" (C8.fnArgs s_WorkQueue_put) (C8.fnBody s_WorkQueue_put) (C8.fnScope s_WorkQueue_put) [.int 0] [] (He.ma K (aC "WorkQueue" K) "put") fd) :
    C8.Met P w K mg base 1 (aC "WorkQueue" K) "put" (sp_WorkQueue_put K) [.int 0] := by
  obtain ⟨ds, hv, hb⟩ := F.binds1 (ps := ["self", "work", "ticks"]) 2 0 (by simp) rfl (fun T kV doc pm an cdv ct us its h1 h2 => match us, its, h1, h2 with | [_, _], [_], _, _ => ⟨_, rfl, rfl⟩)
  exact ⟨_, fd, _, ds, T.cl_WorkQueue, T.m_WorkQueue_put, fnok_WorkQueue_put T  F, hb, hv⟩
abbrev N_WorkQueue_spend : List Str := ["self", "work", "ticks"]
theorem sc_WorkQueue_spend : FnScope N_WorkQueue_spend ["self"] (C8.fnScope s_WorkQueue_spend) := C8.fnScope_by (by decide +kernel)
theorem ok_WorkQueue_spend {fd : FuncData} (T : Txt K mg) (F : FunD K "spend" "WorkQueue.spend" (C8.fnArgs s_WorkQueue_spend) (C8.fnBody s_WorkQueue_spend) (C8.fnScope s_WorkQueue_spend) [] [] (He.ma K (aC "WorkQueue" K) "spend") fd) :
    C8.Met P w K mg base 1 (aC "WorkQueue" K) "spend" (sp_WorkQueue_spend K) [] := by
  refine C8.met0 T.cl_WorkQueue T.m_WorkQueue_spend (fun_c8 F) (F.bindsN fun _ _ _ _ _ _ us hl => match us, hl with | [_], _ => rfl) sc_WorkQueue_spend (fun vs H Q E h => ?_) (fun cdv A outer s H vs Q E hr h => ?_)
  · obtain ⟨_, _, _, _, _, _, _, _, _, rfl, _⟩ := h
    rfl
  · have nd := sc_WorkQueue_spend.nd
    have hu := hu_of hr
    obtain ⟨jo, ro, ws, rv, n, t, rows, K0, M, rfl, J, rok, hp, hlen, sp, q1, q2⟩ := h
    refine ⟨_, (pss_cons (ps_asg (pe_ix ix_list (pe_fld (pv 0) rfl) pe_int (fun _ _ => rfl)) (pg_tup rfl (pgs_cons (pg_name (i := 1) nd rfl (Or.inl rfl)) (pgs_cons (pg_name (i := 2) nd rfl (Or.inl rfl)) pgs_nil))))
      (pss_cons (ps_if (pt_cmpR op_lt (pe_op op_add (pv 2) pe_int) (pe_dget hu (pe_fld (pv 0) rfl) (pv 1) (fun _ _ => rfl)) (nomark _)) (pss_cons (ps_asg (pe_tup (pa_cons (pv 1) (pa_cons (pe_op op_add (pv 2) pe_int) pa_nil))) (pg_sub (pe_fld (pv 0) rfl) pe_int set_list))
      (pss_one (ps_ret pe_non))) pss_nil)
      (pss_cons (ps_expr (pe_bm PySem.F.plainAttrs_list PySem.F.slot_list_pop PySem.F.type_list_pop mt_popAt (pe_fld (pv 0) rfl) (pa_cons pe_int pa_nil)))
      (pss_one (ps_ret (pv 1)))))), ?_⟩
    obtain ⟨dx, rk, ln, h1, h2, h3⟩ := (JobsAt.up sp.ext J).ex
    have hn := rok (n, t) List.mem_cons_self
    obtain ⟨w, hw, ew, ht0, ht1⟩ := hn
    cases hp with
    | @cons v _ vs _ hv hvs =>
    obtain ⟨c, rfl, hc⟩ := hv
    refine ⟨_, rfl, _, _, _, _, _, rfl, h1, T.cl_WorkQueue, T.t_WorkQueue_rows, rfl, _, _, _, _, rfl, rfl, l_of sp.c0, atI0, ?_⟩
    refine ⟨_, _, rfl, Same.tup sp.ext hc, rfl, _, _, rfl, _, _, rfl, rfl, ?_⟩
    refine ⟨_, rfl, _, _, rfl, rfl, _, rfl, _, _, _, _, _, rfl, h1, T.cl_WorkQueue, T.t_WorkQueue_lengths, rfl, _, rfl, ln, .int w.ticks, rfl, ?_, _, _, rfl, rfl, decide (t + 1 < w.ticks), rfl, ?_⟩
    · show DGet H ln (V.str n) _
      rw [show n = w.name from ew.symm]
      exact wd_at (f := (·.ticks)) J.ok.nd hw ▸ DGet.k (k := .inr w.name) h3
    by_cases hlt : t + 1 < w.ticks
    · rw [decide_eq_true hlt]
      refine iteT ⟨_, rfl, _, rfl, _, _, rfl, rfl, small8 (by simp), fun t2 ht2 => ?_⟩
      have sp4 := sp.keep (o := .tup [.str n, .int (t + 1)]) ht2
      have g := sp.newk (o := .tup [.str n, .int (t + 1)]) ht2
      obtain ⟨dx, rk, ln, h1, h2, h3⟩ := (JobsAt.up (Same.tr g sp4.ext) J).ex
      refine ⟨_, rfl, _, _, _, _, _, rfl, h1, T.cl_WorkQueue, T.t_WorkQueue_rows, rfl, _, _, _, 0, rfl, rfl, sp4.c0, by simp [ixN], ?_⟩
      refine q1 _ _ _ g (.cons ⟨t2, rfl, t_of upd_same⟩ (hvs.mono fun _ _ z => RowAt.up g z)) ?_ sp4.put0
      intro r m
      rcases List.mem_cons.mp m with e | m
      · subst e
        exact ⟨w, hw, ew, by simp; omega, hlt⟩
      · exact rok r (List.mem_cons_of_mem _ m)
    · rw [decide_eq_false hlt]
      refine iteF ?_
      refine ⟨_, rfl, _, _, _, _, _, rfl, h1, T.cl_WorkQueue, T.t_WorkQueue_rows, rfl, .inl ⟨rfl, _, .inl (.inl sp.c0)⟩, _, _, _, 0, _, rfl, rfl, sp.c0, by decide, by decide, by simp [seqIndex?], rfl, ?_⟩
      exact ⟨_, rfl, q2 _ _ w hw ew (by omega) hvs (fun r m => rok r (List.mem_cons_of_mem _ m)) sp.put0⟩
end
end Cb

namespace Cb
open PySem PySem.Spec PyProof.Rows L2

theorem pe_nev {X : Cx} {e : Expr} : PE X e (fun _ _ _ => False) := ⟨fun _ _ _ _ _ _ h => h.elim⟩
theorem atIm {v : V} {l : List V} : atI (l ++ [v]) (-1) = some v := by
  unfold atI ixN
  rw [if_neg (by decide), if_pos (by simp; omega)]
  simp
  rw [show (-1 + ((l.length : Int) + 1)).toNat = l.length by omega]
  simp
theorem cut2 {a b c d : V} : cutV [a, b, c, d] none (some 2) = [a, b] := by simp [cutV, HT.sIx]
theorem cut3 {a b c d : V} : cutV [a, b, c, d] none (some 3) = [a, b, c] := by simp [cutV, HT.sIx]
theorem ixNm {v : V} {l : List V} : ixN (l ++ [v]).length (-1) = some l.length := by
  unfold ixN
  rw [if_neg (by decide), if_pos (by simp; omega)]
  simp
  omega
theorem set_last {α : Type} (l : List α) (x y : α) : (l ++ [x]).set l.length y = l ++ [y] := by
  rw [List.set_append_right _ _ (Nat.le_refl _)]
  simp
theorem psnoc {α β : Type} {F : α → β → Prop} {m : List β} {b : β} : ∀ {l : List α}, Paired F l (m ++ [b]) → ∃ l' a, l = l' ++ [a] ∧ Paired F l' m ∧ F a b := by
  induction m with
  | nil =>
    intro l h
    cases h with
    | cons f p => cases p with
      | nil => exact ⟨[], _, rfl, .nil, f⟩
  | cons c m ih =>
    intro l h
    cases h with
    | cons f p =>
      obtain ⟨l', a, rfl, p', f'⟩ := ih p
      exact ⟨_ :: l', a, rfl, .cons f p', f'⟩
structure CallD where
  line : LineD
  step : Nat
  ticks : Int
  kept : Int
structure StD where
  rung : Str → Bool
  und : Str → Bool
  bar : Int
  stack : List CallD
  rows : List (Str × Int)
  c0 : Int
  c1 : Int
  c2 : Int
  c3 : Int
structure Ad where
  su : Addr
  bo : Addr
  r : Addr
  u : Addr
  pr : Addr
  dp : Addr
  st : Addr
  jo : Addr
  ro : Addr
  co : Addr
def CallAt (K : PySem.W.Frag) (H : Hp) (v : V) (c : CallD) : Prop := ∃ t, v = .ref t ∧ SqT K H t [.str c.line.name, .int (c.step : Nat), .int c.ticks, .int c.kept]
theorem CallAt.up {K : PySem.W.Frag} {H H' : Hp} {v : V} {r : CallD} (e : Same H H') (h : CallAt K H v r) : CallAt K H' v r := h.elim fun a h => ⟨a, h.1, Same.tup e h.2⟩
def prI (K : PySem.W.Frag) (A : Ad) (bar : Int) : HO := .ins (aC "Processor" K) A.dp [("_setup", .ref A.su), ("_board", .ref A.bo), ("_bar", .int bar), ("_stack", .ref A.st), ("_jobs", .ref A.jo), ("_counts", .ref A.co)]
def lay (K : PySem.W.Frag) (A : Ad) (S : SetD) (s : StD) (sv rv : List V) (M : List (Addr × HO)) : List (Addr × HO) :=
  (A.r, .dK (bd S.order s.rung)) :: (A.u, .dK (bd S.order s.und)) :: (A.pr, prI K A s.bar) :: (A.st, .lst sv) :: (A.ro, .lst rv) :: (A.co, .lst [.int s.c0, .int s.c1, .int s.c2, .int s.c3]) :: M
structure Own (K : PySem.W.Frag) (A : Ad) (S : SetD) (K0 H : Hp) (s : StD) (M : List (Addr × HO)) : Prop where
  fb : BoardAt K K0 A.bo A.su S A.r A.u
  fj : JobsAt K K0 A.jo S.ws A.ro
  ex : ∃ sv rv, Paired (CallAt K K0) sv s.stack ∧ Paired (RowAt K K0) rv s.rows ∧ Sep K0 H (lay K A S s sv rv M)
theorem Own.grow {K : PySem.W.Frag} {A : Ad} {S : SetD} {K0 H H' : Hp} {s : StD} {M : List (Addr × HO)} (h : Own K A S K0 H s M) (g : Same H H') : Own K A S K0 H' s M := by
  obtain ⟨sv, rv, h1, h2, h3⟩ := h.ex
  exact ⟨h.fb, h.fj, sv, rv, h1, h2, h3.grow g⟩
theorem Own.mk2 {K : PySem.W.Frag} {A : Ad} {S : SetD} {K0 K1 H : Hp} {s0 s : StD} {M0 M : List (Addr × HO)} {H0 : Hp} (h : Own K A S K0 H0 s0 M0) (g : Same K0 K1) (ex : ∃ sv rv, Paired (CallAt K K1) sv s.stack ∧ Paired (RowAt K K1) rv s.rows ∧ Sep K1 H (lay K A S s sv rv M)) : Own K A S K1 H s M := ⟨BoardAt.up g h.fb, JobsAt.up g h.fj, ex⟩
section
variable {K0 H : Hp} {L : List (Addr × HO)} {a1 a2 a3 a4 a5 : Addr × HO} {a : Addr} {x y : HO}
theorem Sep.c2 (s : Sep K0 H (a1 :: a2 :: (a, x) :: L)) : H a = some x := s.cs.2.2.1
theorem Sep.c3 (s : Sep K0 H (a1 :: a2 :: a3 :: (a, x) :: L)) : H a = some x := s.cs.2.2.2.1
theorem Sep.c4 (s : Sep K0 H (a1 :: a2 :: a3 :: a4 :: (a, x) :: L)) : H a = some x := s.cs.2.2.2.2.1
theorem Sep.c5 (s : Sep K0 H (a1 :: a2 :: a3 :: a4 :: a5 :: (a, x) :: L)) : H a = some x := s.cs.2.2.2.2.2.1
theorem Sep.put1 (s : Sep K0 H (a1 :: (a, x) :: L)) : Sep K0 (upd H a y) (a1 :: (a, y) :: L) := Sep.put (L1 := [a1]) s
theorem Sep.put2 (s : Sep K0 H (a1 :: a2 :: (a, x) :: L)) : Sep K0 (upd H a y) (a1 :: a2 :: (a, y) :: L) := Sep.put (L1 := [a1, a2]) s
theorem Sep.put3 (s : Sep K0 H (a1 :: a2 :: a3 :: (a, x) :: L)) : Sep K0 (upd H a y) (a1 :: a2 :: a3 :: (a, y) :: L) := Sep.put (L1 := [a1, a2, a3]) s
theorem Sep.put4 (s : Sep K0 H (a1 :: a2 :: a3 :: a4 :: (a, x) :: L)) : Sep K0 (upd H a y) (a1 :: a2 :: a3 :: a4 :: (a, y) :: L) := Sep.put (L1 := [a1, a2, a3, a4]) s
theorem Sep.put5 (s : Sep K0 H (a1 :: a2 :: a3 :: a4 :: a5 :: (a, x) :: L)) : Sep K0 (upd H a y) (a1 :: a2 :: a3 :: a4 :: a5 :: (a, y) :: L) := Sep.put (L1 := [a1, a2, a3, a4, a5]) s
theorem Sep.up4 {e : Addr × HO} (s : Sep K0 H (a1 :: a2 :: a3 :: a4 :: e :: L)) : Sep K0 H (e :: a1 :: a2 :: a3 :: a4 :: L) := s.perm (List.perm_middle (l₁ := [a1, a2, a3, a4])).symm
theorem Sep.dn4 {e : Addr × HO} (s : Sep K0 H (e :: a1 :: a2 :: a3 :: a4 :: L)) : Sep K0 H (a1 :: a2 :: a3 :: a4 :: e :: L) := s.perm (List.perm_middle (l₁ := [a1, a2, a3, a4]))
theorem Sep.dn6 {e a6 : Addr × HO} (s : Sep K0 H (e :: a1 :: a2 :: a3 :: a4 :: a5 :: a6 :: L)) : Sep K0 H (a1 :: a2 :: a3 :: a4 :: a5 :: a6 :: e :: L) := s.perm (List.perm_middle (l₁ := [a1, a2, a3, a4, a5, a6]))
theorem Sep.up6 {e a6 : Addr × HO} (s : Sep K0 H (a1 :: a2 :: a3 :: a4 :: a5 :: a6 :: e :: L)) : Sep K0 H (e :: a1 :: a2 :: a3 :: a4 :: a5 :: a6 :: L) := s.perm (List.perm_middle (l₁ := [a1, a2, a3, a4, a5, a6])).symm
end
def sp_Setup_works (K : PySem.W.Frag) : Sp := fun vs H Q _ => ∃ (su : Addr) (S : SetD) (K0 : Hp), vs = [.ref su] ∧ SetupAt K K0 su S ∧ Same K0 H ∧ ∀ wa, WorksAt K K0 wa S.ws → Q (.ref wa) H
def sp_Processor_lets_by (K : PySem.W.Frag) : Sp := fun vs H Q _ => ∃ (A : Ad) (S : SetD) (K0 : Hp) (s : StD) (M : List (Addr × HO)) (l : LineD), vs = [.ref A.pr, .str l.name] ∧ Own K A S K0 H s M ∧ l ∈ S.ls ∧ (∀ c ∈ s.stack, c.line ∈ S.ls) ∧ ∀ b, Q (.bl b) H
def sp_Processor_present_step (K : PySem.W.Frag) : Sp := fun vs H Q _ => ∃ (A : Ad) (S : SetD) (K0 : Hp) (s : StD) (M : List (Addr × HO)) (rest : List CallD) (c : CallD) (st : SD), vs = [.ref A.pr] ∧ Own K A S K0 H s M ∧ s.stack = rest ++ [c] ∧ c.line ∈ S.ls ∧ c.line.steps[c.step]? = some st ∧ ∀ v H', Same H H' → StepAt K K0 v st → Q v H'
def sp_Processor_passes_flag (K : PySem.W.Frag) : Sp := fun vs H Q _ => ∃ (A : Ad) (S : SetD) (K0 : Hp) (s : StD) (M : List (Addr × HO)), vs = [.ref A.pr] ∧ Own K A S K0 H s M ∧ (∀ c ∈ s.stack, c.line ∈ S.ls ∧ ∃ st, c.line.steps[c.step]? = some st) ∧ ∀ H', Same H H' → Q (.bl false) H'
def SD.later? : SD → Bool
  | .later _ => true
  | _ => false
def sp_Processor_takes_no_tick (K : PySem.W.Frag) : Sp := fun vs H Q _ => ∃ (pr : Addr) (v : V) (st : SD), vs = [.ref pr, v] ∧ StepAt K H v st ∧ Q (.bl st.later?) H
def rsum (rows : List (Str × Int)) : Int := (rows.map (·.2)).sum
theorem putR_ok (k : Nat) {ws : List WorkD} {rows : List (Str × Int)} {w : WorkD} (ro : RowsOk ws rows) (hw : w ∈ ws) (ok : WsOk ws) : RowsOk ws (putR k rows w.name) ∧ rsum (putR k rows w.name) = rsum rows ∧ (putR k rows w.name).length ≤ rows.length + 1 := by
  unfold putR
  split
  · exact ⟨ro, rfl, by omega⟩
  · refine ⟨fun r m => ?_, ?_, ?_⟩
    · simp only [List.mem_append, List.mem_singleton] at m
      rcases m with (m | m) | m
      · exact ro r (List.mem_of_mem_take m)
      · subst m
        exact ⟨w, hw, rfl, by simp, by have := (ok.ok w hw).t1; simp; omega⟩
      · exact ro r (List.mem_of_mem_drop m)
    · unfold rsum
      have e : rows.map (·.2) = (rows.take k ++ rows.drop k).map (·.2) := by rw [List.take_append_drop]
      rw [List.map_append, List.map_append, List.sum_append, List.sum_append, e, List.map_append, List.sum_append]
      have z : ([((w.name : Str), (0 : Int))].map (·.2)).sum = 0 := rfl
      omega
    · simp
      omega
def sp_Processor_act (K : PySem.W.Frag) : Sp := fun vs H Q _ => ∃ (A : Ad) (S : SetD) (K0 : Hp) (s : StD) (M : List (Addr × HO)) (v : V) (n : Str), vs = [.ref A.pr, v] ∧ StepAt K K0 v (.later n) ∧ n ∈ S.ws.map (·.name) ∧ Own K A S K0 H s M ∧ RowsOk S.ws s.rows ∧ s.rows.length ≤ 4000 ∧
  ∀ K1 H' rows', Same K0 K1 → Own K A S K1 H' { s with rows := rows' } M → RowsOk S.ws rows' → rsum rows' = rsum s.rows → rows'.length ≤ s.rows.length + 1 → Q .non H'

section
variable {P : Program} {w : World} {K : PySem.W.Frag} {mg : Str → Option Value} {base : Heap}

abbrev N_Setup_works : List Str := ["self"]
theorem sc_Setup_works : FnScope N_Setup_works ["self"] (C8.fnScope s_Setup_works) := C8.fnScope_by (by decide +kernel)
theorem ok_Setup_works {fd : FuncData} (T : Txt K mg) (F : FunD K "works" "Setup.works" (C8.fnArgs s_Setup_works) (C8.fnBody s_Setup_works) (C8.fnScope s_Setup_works) [] [] (prA "Setup" "works" K) fd) :
    FnP P w K mg base 1 (prA "Setup" "works" K) (sp_Setup_works K) := by
  refine fnP_mk (fun_c8 F) (F.bindsN fun _ _ _ _ _ _ us hl => match us, hl with | [_], _ => rfl) sc_Setup_works (fun vs H Q E h => ?_) (fun cdv A outer s H vs Q E hr h => ?_)
  · obtain ⟨_, _, _, rfl, _⟩ := h
    rfl
  · have nd := sc_Setup_works.nd
    have hu := hu_of hr
    obtain ⟨su, S, K0, rfl, ⟨dx, la, wa, bn, oa, xs, h1, h2, h3, h4, h5, h6⟩, sm, q⟩ := h
    refine ⟨_, (pss_one (ps_ret (pe_fld (pv 0) rfl))), ?_⟩
    exact ⟨_, rfl, _, _, _, _, _, rfl, sm _ _ h1, T.cl_Setup, T.t_Setup_works, rfl, q wa h3⟩
abbrev N_Processor_takes_no_tick : List Str := ["self", "step", "word", "what"]
theorem sc_Processor_takes_no_tick : FnScope N_Processor_takes_no_tick ["self", "step"] (C8.fnScope s_Processor_takes_no_tick) := C8.fnScope_by (by decide +kernel)
theorem ok_Processor_takes_no_tick {fd : FuncData} (T : Txt K mg) (F : FunD K "_takes_no_tick" "Processor._takes_no_tick" (C8.fnArgs s_Processor_takes_no_tick) (C8.fnBody s_Processor_takes_no_tick) (C8.fnScope s_Processor_takes_no_tick) [] [] (He.ma K (aC "Processor" K) "_takes_no_tick") fd) :
    C8.Met P w K mg base 1 (aC "Processor" K) "_takes_no_tick" (sp_Processor_takes_no_tick K) [] := by
  refine C8.met0 T.cl_Processor T.m_Processor_takes_no_tick (fun_c8 F) (F.bindsN fun _ _ _ _ _ _ us hl => match us, hl with | [_, _], _ => rfl) sc_Processor_takes_no_tick (fun vs H Q E h => ?_) (fun cdv A outer s H vs Q E hr h => ?_)
  · obtain ⟨_, _, _, rfl, _⟩ := h
    rfl
  · have nd := sc_Processor_takes_no_tick.nd
    have hu := hu_of hr
    obtain ⟨pr, v, st, rfl, ⟨a, rfl, ha⟩, q⟩ := h
    refine ⟨_, (pss_cons (ps_asg (pv 1) (pg_tup rfl (pgs_cons (pg_name (i := 2) nd rfl (Or.inl rfl)) (pgs_cons (pg_name (i := 3) nd rfl (Or.inl rfl)) pgs_nil))))
      (pss_cons (ps_if (pt_cmpR op_eq (pv 2) pe_str (nomark _)) (pss_one ps_never) pss_nil)
      (pss_one (ps_ret (pe_cmpR op_ne (pv 2) pe_str (nomark _)))))), ?_⟩
    refine ⟨_, rfl, _, _, rfl, ha, rfl, _, _, rfl, _, _, rfl, rfl, ?_⟩
    cases st with
    | run n => exact ⟨_, rfl, rfl, false, rfl, iteF ⟨_, rfl, rfl, q⟩⟩
    | later n => exact ⟨_, rfl, rfl, false, rfl, iteF ⟨_, rfl, rfl, q⟩⟩
abbrev N_Processor_present_step : List Str := ["self", "line", "step"]
theorem sc_Processor_present_step : FnScope N_Processor_present_step ["self"] (C8.fnScope s_Processor_present_step) := C8.fnScope_by (by decide +kernel)
theorem ok_Processor_present_step {fd : FuncData} (T : Txt K mg) (F : FunD K "_present_step" "Processor._present_step" (C8.fnArgs s_Processor_present_step) (C8.fnBody s_Processor_present_step) (C8.fnScope s_Processor_present_step) [] [] (He.ma K (aC "Processor" K) "_present_step") fd) (c_getitem : C8.Met P w K mg base 2 (aC "Setup" K) "__getitem__" (sp_Setup_getitem K) []) :
    C8.Met P w K mg base 4 (aC "Processor" K) "_present_step" (sp_Processor_present_step K) [] := by
  refine C8.met0 T.cl_Processor T.m_Processor_present_step (fun_c8 F) (F.bindsN fun _ _ _ _ _ _ us hl => match us, hl with | [_], _ => rfl) sc_Processor_present_step (fun vs H Q E h => ?_) (fun cdv A outer s H vs Q E hr h => ?_)
  · obtain ⟨_, _, _, _, _, _, _, _, rfl, _⟩ := h
    rfl
  · have nd := sc_Processor_present_step.nd
    have hu := hu_of hr
    obtain ⟨A, S, K0, s, M, rest, c, st, rfl, ow, hst, hl, hs, q⟩ := h
    refine ⟨_, (pss_cons (ps_asg (pe_slice sl_tup (pe_ix ix_list (pe_fld (pv 0) rfl) (pe_un un_neg pe_int) (fun _ _ => rfl)) po_none (po_some pe_int)) (pg_tup rfl (pgs_cons (pg_name (i := 1) nd rfl (Or.inl rfl)) (pgs_cons (pg_name (i := 2) nd rfl (Or.inl rfl)) pgs_nil))))
      (pss_one (ps_ret (pe_ix ix_tup (pe_ix ix_tup (C_ix T.m_Setup_getitem T.i_getitem c_getitem hr (by decide) (pe_fld (pv 0) rfl) (pv 1)) pe_int (fun _ _ => rfl)) (pv 2) (fun _ _ => rfl))))), ?_⟩
    obtain ⟨sv, rv, h1, h2, sp⟩ := ow.ex
    obtain ⟨dx2, _, _, _, _, _, h3, _⟩ := ow.fb.su.ex
    rw [hst] at h1
    obtain ⟨sv', v, rfl, h4, t, rfl, ht⟩ := psnoc h1
    have hpr := sp.c2
    refine ⟨_, rfl, _, _, _, _, _, rfl, hpr, T.cl_Processor, T.t_Processor_stack, rfl, _, rfl, _, _, _, _, rfl, rfl, l_of sp.c3, atIm, _, rfl, _, _, rfl, Same.tup sp.ext ht, by simp [HT.sIx], fun p hp => ?_⟩
    rw [cut2]
    have sp2 := sp.drop (o := .tup [.str c.line.name, .int (c.step : Nat)]) hp
    have g := same_new (o := .tup [.str c.line.name, .int (c.step : Nat)]) (Same.refl H) hp
    have hpr2 := g _ _ hpr
    refine ⟨_, _, rfl, t_of upd_same, rfl, _, _, rfl, _, _, rfl, rfl, ?_⟩
    refine ⟨_, rfl, _, _, _, _, _, rfl, hpr2, T.cl_Processor, T.t_Processor_setup, rfl, _, rfl, A.su, dx2, _, rfl, sp2.ext _ _ h3, A.su, S, c.line, K0, rfl, ow.fb.su, sp2.ext, ow.fb.ok, hl, fun v hv => ?_⟩
    obtain ⟨a, g1, hs1, rfl, h5, h6, h7⟩ := hv
    obtain ⟨x, hx, hx2⟩ := pgetr h7 hs
    exact ⟨_, _, _, _, rfl, rfl, Same.tup sp2.ext h5, rfl, _, rfl, _, _, _, _, rfl, rfl, Same.tup sp2.ext h6, atIn hx, q _ _ g hx2⟩
abbrev N_Processor_passes_flag : List Str := ["self", "word", "what"]
theorem sc_Processor_passes_flag : FnScope N_Processor_passes_flag ["self"] (C8.fnScope s_Processor_passes_flag) := C8.fnScope_by (by decide +kernel)
theorem ok_Processor_passes_flag {fd : FuncData} (T : Txt K mg) (F : FunD K "_passes_flag" "Processor._passes_flag" (C8.fnArgs s_Processor_passes_flag) (C8.fnBody s_Processor_passes_flag) (C8.fnScope s_Processor_passes_flag) [] [] (He.ma K (aC "Processor" K) "_passes_flag") fd) (c_present_step : C8.Met P w K mg base 4 (aC "Processor" K) "_present_step" (sp_Processor_present_step K) []) :
    C8.Met P w K mg base 5 (aC "Processor" K) "_passes_flag" (sp_Processor_passes_flag K) [] := by
  refine C8.met0 T.cl_Processor T.m_Processor_passes_flag (fun_c8 F) (F.bindsN fun _ _ _ _ _ _ us hl => match us, hl with | [_], _ => rfl) sc_Processor_passes_flag (fun vs H Q E h => ?_) (fun cdv A outer s H vs Q E hr h => ?_)
  · obtain ⟨_, _, _, _, _, rfl, _⟩ := h
    rfl
  · have nd := sc_Processor_passes_flag.nd
    have hu := hu_of hr
    obtain ⟨A, S, K0, s, M, rfl, ow, hc, q⟩ := h
    refine ⟨_, (pss_cons (ps_if (pt_not (pt_truth (pe_fld (pv 0) rfl) (by intro _; rfl))) (pss_one (ps_ret pe_bl)) pss_nil)
      (pss_cons (ps_asg (C8.pe_mt0 c_present_step hr (by decide) (pv 0)) (pg_tup rfl (pgs_cons (pg_name (i := 1) nd rfl (Or.inl rfl)) (pgs_cons (pg_name (i := 2) nd rfl (Or.inl rfl)) pgs_nil))))
      (pss_one (ps_ret (pe_and (pe_cmpR op_eq (pv 1) pe_str (nomark _)) (pe_one pe_nev)))))), ?_⟩
    obtain ⟨sv, rv, h1, h2, sp⟩ := ow.ex
    have hpr := sp.c2
    rcases List.eq_nil_or_concat s.stack with e1 | ⟨rest, c, e1⟩
    · rw [e1] at h1
      cases h1
      exact ⟨_, rfl, _, _, _, _, _, rfl, hpr, T.cl_Processor, T.t_Processor_stack, rfl, false, .inl ⟨_, l_of sp.c3, rfl⟩, iteT (q H (Same.refl H))⟩
    rw [List.concat_eq_append] at e1
    have h1' := h1
    rw [e1] at h1'
    obtain ⟨sv', v, e2, h4, t, rfl, ht⟩ := psnoc h1'
    obtain ⟨hl, st, hs⟩ := hc c (by rw [e1]; simp)
    refine ⟨_, rfl, _, _, _, _, _, rfl, hpr, T.cl_Processor, T.t_Processor_stack, rfl, true, .inl ⟨_, l_of sp.c3, by rw [e2]; simp⟩, iteF ?_⟩
    refine ⟨_, rfl, A.pr, A.dp, _, rfl, hpr, rfl, A, S, K0, s, M, rest, c, st, rfl, ow, e1, hl, hs, fun v H1 g1 hv => ?_⟩
    obtain ⟨a, rfl, ha⟩ := hv
    refine ⟨_, _, rfl, Same.tup (Same.tr sp.ext g1) ha, rfl, _, _, rfl, _, _, rfl, rfl, ?_⟩
    refine ⟨_, rfl, rfl, false, ?_, iteF (q H1 g1)⟩
    cases st <;> rfl
abbrev N_Processor_act : List Str := ["self", "step", "word", "what"]
theorem sc_Processor_act : FnScope N_Processor_act ["self", "step"] (C8.fnScope s_Processor_act) := C8.fnScope_by (by decide +kernel)
theorem ok_Processor_act {fd : FuncData} (T : Txt K mg) (F : FunD K "_act" "Processor._act" (C8.fnArgs s_Processor_act) (C8.fnBody s_Processor_act) (C8.fnScope s_Processor_act) [] [] (He.ma K (aC "Processor" K) "_act") fd) (c_put : C8.Met P w K mg base 1 (aC "WorkQueue" K) "put" (sp_WorkQueue_put K) [.int 0]) :
    C8.Met P w K mg base 2 (aC "Processor" K) "_act" (sp_Processor_act K) [] := by
  refine C8.met0 T.cl_Processor T.m_Processor_act (fun_c8 F) (F.bindsN fun _ _ _ _ _ _ us hl => match us, hl with | [_, _], _ => rfl) sc_Processor_act (fun vs H Q E h => ?_) (fun cdv A outer s H vs Q E hr h => ?_)
  · obtain ⟨_, _, _, _, _, _, _, rfl, _⟩ := h
    rfl
  · have nd := sc_Processor_act.nd
    have hu := hu_of hr
    obtain ⟨A, S, K0, s, M, v, n, rfl, ⟨a, rfl, ha⟩, hn, ow, ro, hl, q⟩ := h
    refine ⟨_, (pss_cons (ps_asg (pv 1) (pg_tup rfl (pgs_cons (pg_name (i := 2) nd rfl (Or.inl rfl)) (pgs_cons (pg_name (i := 3) nd rfl (Or.inl rfl)) pgs_nil))))
      (pss_one (ps_if (pt_cmpR op_eq (pv 2) pe_str (nomark _)) (pss_one ps_never) (pss_one (ps_if (pt_cmpR op_eq (pv 2) pe_str (nomark _)) (pss_one (ps_expr (C8.pe_mt c_put hr (by decide) (pe_fld (pv 0) rfl) (pa_cons (pv 3) pa_nil)))) (pss_one ps_never)))))), ?_⟩
    obtain ⟨sv, rv, h1, h2, sp⟩ := ow.ex
    have hpr := sp.c2
    obtain ⟨dj, rk, ln, j1, _⟩ := (JobsAt.up sp.ext ow.fj).ex
    obtain ⟨w, hw, rfl⟩ := List.mem_map.mp hn
    refine ⟨_, rfl, _, _, rfl, Same.tup sp.ext ha, rfl, _, _, rfl, _, _, rfl, rfl, ?_⟩
    refine ⟨_, rfl, rfl, false, rfl, iteF ⟨_, rfl, rfl, true, rfl, iteT ?_⟩⟩
    refine ⟨_, rfl, _, _, _, _, _, rfl, hpr, T.cl_Processor, T.t_Processor_jobs, rfl, A.jo, dj, _, rfl, j1, rfl, _, rfl, A.jo, A.ro, S.ws, rv, s.rows, w, K0, _, rfl, ow.fj, ro, hw, h2, hl, sp.up4, fun K1 H1 rv' k g hp sp1 => ?_⟩
    have pr := putR_ok k ro hw (ow.fj.ok)
    exact q K1 H1 (putR k s.rows w.name) g (ow.mk2 (s := { s with rows := putR k s.rows w.name }) g ⟨sv, rv', h1.mono fun _ _ z => CallAt.up g z, hp, sp1.dn4⟩) pr.1 pr.2.1 pr.2.2
end
end Cb

namespace Cb
open PySem PySem.Spec PyProof.Rows L2

def befS (l : LineD) (j : Nat) : Int := ((l.steps.take j).filterMap SD.run?).sum
def bef (c : CallD) : Int := befS c.line c.step + c.ticks
def due (st : List CallD) : Int := (st.map bef).sum
theorem due_snoc (r : List CallD) (c : CallD) : due (r ++ [c]) = due r + bef c := by simp [due]
theorem befS_run {l : LineD} {j : Nat} {n : Int} (h : l.steps[j]? = some (.run n)) : befS l (j + 1) = befS l j + n := by
  unfold befS
  rw [take_snoc h, List.filterMap_append, List.sum_append]
  exact congrArg (fun z => (List.filterMap SD.run? (List.take j l.steps)).sum + z) (Int.add_zero n)
theorem befS_later {l : LineD} {j : Nat} {x : Str} (h : l.steps[j]? = some (.later x)) : befS l (j + 1) = befS l j := by
  unfold befS
  rw [take_snoc h, List.filterMap_append, List.sum_append]
  exact Int.add_zero _
theorem befS_all {l : LineD} {j : Nat} (h : l.steps.length ≤ j) : befS l j = l.ticks := by
  unfold befS LineD.ticks
  rw [List.take_of_length_le h]
inductive Ev where
  | bgn (l : LineD)
  | fin (l : LineD)
  | dne (w : WorkD)
def Ev.word : Ev → Str
  | bgn _ => "begin"
  | fin _ => "end"
  | dne _ => "done"
def Ev.name : Ev → Str
  | bgn l => l.name
  | fin l => l.name
  | dne w => w.name
def Ev.ec : Ev → Int
  | fin l => l.ticks
  | _ => 0
def Ev.dc : Ev → Int
  | dne w => w.ticks
  | _ => 0
def ecost (es : List Ev) : Int := (es.map Ev.ec).sum
def dcost (es : List Ev) : Int := (es.map Ev.dc).sum
def EvOk (S : SetD) : Ev → Prop
  | .bgn l => l ∈ S.ls
  | .fin l => l ∈ S.ls
  | .dne w => w ∈ S.ws
def EvAt (K : PySem.W.Frag) (H : Hp) (v : V) (e : Ev) : Prop := ∃ t, v = .ref t ∧ SqT K H t [.str e.word, .str e.name]
theorem EvAt.up {K : PySem.W.Frag} {H H' : Hp} {v : V} {r : Ev} (e : Same H H') (h : EvAt K H v r) : EvAt K H' v r := h.elim fun a h => ⟨a, h.1, Same.tup e h.2⟩
structure CallOk (S : SetD) (c : CallD) : Prop where
  ln : c.line ∈ S.ls
  st : ∃ n, c.line.steps[c.step]? = some (.run n) ∧ 0 ≤ c.ticks ∧ c.ticks < n
structure Good (S : SetD) (s : StD) : Prop where
  calls : ∀ c ∈ s.stack, CallOk S c
  rows : RowsOk S.ws s.rows
structure Rel (S : SetD) (s s' : StD) (evs : List Ev) (d0 d2 d3 : Int) (k : Nat) : Prop where
  good : Good S s'
  ev : ∀ e ∈ evs, EvOk S e
  due : due s'.stack + ecost evs = due s.stack + d0
  rs : rsum s'.rows + dcost evs = rsum s.rows + d2
  h0 : s'.c0 = s.c0 + d0
  h1 : s'.c1 = s.c1
  h2 : s'.c2 = s.c2 + d2
  h3 : s'.c3 = s.c3 + d3
  ln : s'.stack.length ≤ s.stack.length
  rw : s'.rows.length ≤ s.rows.length + 8
  el : evs.length ≤ k
def PostE (K : PySem.W.Frag) (A : Ad) (S : SetD) (K0 : Hp) (M : List (Addr × HO)) (Q : VK) (R : StD → List Ev → Prop) : Prop :=
  ∀ K1 H' p ev evs s', Same K0 K1 → Own K A S K1 H' s' M → K1 p = some (.lst ev) → Paired (EvAt K K1) ev evs → R s' evs → Q (.ref p) H'
def sp_Processor_go_through (K : PySem.W.Frag) : Sp := fun vs H Q _ => ∃ (A : Ad) (S : SetD) (K0 : Hp) (s : StD) (M : List (Addr × HO)) (rest : List CallD) (c : CallD), vs = [.ref A.pr] ∧ Own K A S K0 H s M ∧ s.stack = rest ++ [c] ∧ c.line ∈ S.ls ∧ c.step ≤ c.line.steps.length ∧ c.ticks = 0 ∧ (∀ c' ∈ rest, CallOk S c') ∧ RowsOk S.ws s.rows ∧ s.rows.length ≤ 3900 ∧ s.stack.length ≤ 3900 ∧ AllOk S.ls S.ws ∧
  PostE K A S K0 M Q fun s' evs => Rel S s s' evs 0 0 0 1
def sp_Processor_spend_beside_calls (K : PySem.W.Frag) : Sp := fun vs H Q _ => ∃ (A : Ad) (S : SetD) (K0 : Hp) (s : StD) (M : List (Addr × HO)), vs = [.ref A.pr] ∧ Own K A S K0 H s M ∧ s.stack = [] ∧ RowsOk S.ws s.rows ∧ s.rows.length ≤ 3900 ∧
  PostE K A S K0 M Q fun s' evs => ∃ d2 d3, d2 + d3 = 1 ∧ Rel S s s' evs 0 d2 d3 1
def sp_Processor_spend (K : PySem.W.Frag) : Sp := fun vs H Q _ => ∃ (A : Ad) (S : SetD) (K0 : Hp) (s : StD) (M : List (Addr × HO)), vs = [.ref A.pr] ∧ Own K A S K0 H s M ∧ Good S s ∧ s.rows.length ≤ 3900 ∧ s.stack.length ≤ 3900 ∧
  PostE K A S K0 M Q fun s' evs => ∃ d0 d2 d3, d0 + d2 + d3 = 1 ∧ Rel S s s' evs d0 d2 d3 1
def sp_Processor_go_on (K : PySem.W.Frag) : Sp := sp_Processor_spend K

section
variable {P : Program} {w : World} {K : PySem.W.Frag} {mg : Str → Option Value} {base : Heap}

abbrev N_Processor_lets_by : List Str := ["self", "line", "floor"]
theorem sc_Processor_lets_by : FnScope N_Processor_lets_by ["self", "line"] (C8.fnScope s_Processor_lets_by) := C8.fnScope_by (by decide +kernel)
theorem ok_Processor_lets_by {fd : FuncData} (T : Txt K mg) (F : FunD K "_lets_by" "Processor._lets_by" (C8.fnArgs s_Processor_lets_by) (C8.fnBody s_Processor_lets_by) (C8.fnScope s_Processor_lets_by) [] [] (He.ma K (aC "Processor" K) "_lets_by") fd) (c_getitem : C8.Met P w K mg base 2 (aC "Setup" K) "__getitem__" (sp_Setup_getitem K) []) :
    C8.Met P w K mg base 4 (aC "Processor" K) "_lets_by" (sp_Processor_lets_by K) [] := by
  refine C8.met0 T.cl_Processor T.m_Processor_lets_by (fun_c8 F) (F.bindsN fun _ _ _ _ _ _ us hl => match us, hl with | [_, _], _ => rfl) sc_Processor_lets_by (fun vs H Q E h => ?_) (fun cdv A outer s H vs Q E hr h => ?_)
  · obtain ⟨_, _, _, _, _, _, rfl, _⟩ := h
    rfl
  · have nd := sc_Processor_lets_by.nd
    have hu := hu_of hr
    obtain ⟨A, S, K0, s, M, l, rfl, ow, hl, hc, q⟩ := h
    refine ⟨_, (pss_cons (ps_set (i := 2) nd rfl (Or.inl rfl) (pe_fld (pv 0) rfl))
      (pss_cons (ps_if (pt_truth (pe_fld (pv 0) rfl) (by intro _; rfl)) (pss_one (ps_set (i := 2) nd rfl (Or.inl rfl) (pe_callB (call_max2 rfl) (by rfl) T.n_max (by decide +kernel) (pa_cons (pv 2) (pa_cons (pe_ix ix_tup (C_ix T.m_Setup_getitem T.i_getitem c_getitem hr (by decide) (pe_fld (pv 0) rfl) (pe_ix ix_tup (pe_ix ix_list (pe_fld (pv 0) rfl) (pe_un un_neg pe_int) (fun _ _ => rfl)) pe_int (fun _ _ => rfl))) pe_int (fun _ _ => rfl)) pa_nil))))) pss_nil)
      (pss_one (ps_ret (pe_cmpR op_gt (pe_ix ix_tup (C_ix T.m_Setup_getitem T.i_getitem c_getitem hr (by decide) (pe_fld (pv 0) rfl) (pv 1)) pe_int (fun _ _ => rfl)) (pv 2) (nomark _)))))), ?_⟩
    obtain ⟨sv, rv, h1, h2, sp⟩ := ow.ex
    have hpr := sp.c2
    obtain ⟨dx2, _, _, _, _, _, h3, _⟩ := ow.fb.su.ex
    refine ⟨_, rfl, _, _, _, _, _, rfl, hpr, T.cl_Processor, T.t_Processor_bar, rfl, ?_⟩
    rcases List.eq_nil_or_concat s.stack with e1 | ⟨rest, c, e1⟩
    · rw [e1] at h1
      cases h1
      refine ⟨_, rfl, _, _, _, _, _, rfl, hpr, T.cl_Processor, T.t_Processor_stack, rfl, false, .inl ⟨_, l_of sp.c3, rfl⟩, iteF ?_⟩
      refine ⟨_, rfl, _, _, _, _, _, rfl, hpr, T.cl_Processor, T.t_Processor_setup, rfl, _, rfl, A.su, dx2, _, rfl, sp.ext _ _ h3, A.su, S, l, K0, rfl, ow.fb.su, sp.ext, ow.fb.ok, hl, fun v hv => ?_⟩
      obtain ⟨a, g1, hs1, rfl, h5, h6, h7⟩ := hv
      exact ⟨_, _, _, _, rfl, rfl, Same.tup sp.ext h5, rfl, _, rfl, _, _, rfl, rfl, q _⟩
    · rw [List.concat_eq_append] at e1
      have h1' := h1
      rw [e1] at h1'
      obtain ⟨sv', v, e2, h4, t, rfl, ht⟩ := psnoc h1'
      have hlc := hc c (by rw [e1]; simp)
      have hc3 := sp.c3
      rw [e2] at hc3
      refine ⟨_, rfl, _, _, _, _, _, rfl, hpr, T.cl_Processor, T.t_Processor_stack, rfl, true, .inl ⟨_, l_of sp.c3, by rw [e2]; simp⟩, iteT ?_⟩
      refine ⟨_, rfl, _, rfl, _, _, _, _, _, rfl, hpr, T.cl_Processor, T.t_Processor_setup, rfl, _, rfl, _, _, _, _, _, rfl, hpr, T.cl_Processor, T.t_Processor_stack, rfl, _, rfl, _, _, _, _, rfl, rfl, l_of hc3, atIm, _, _, _, _, rfl, rfl, Same.tup sp.ext ht, rfl, A.su, dx2, _, rfl, sp.ext _ _ h3, A.su, S, c.line, K0, rfl, ow.fb.su, sp.ext, ow.fb.ok, hlc, fun v hv => ?_⟩
      obtain ⟨a, g1, hs1, rfl, h5, h6, h7⟩ := hv
      refine ⟨_, _, _, _, rfl, rfl, Same.tup sp.ext h5, rfl, _, _, rfl, ?_⟩
      refine ⟨_, rfl, _, _, _, _, _, rfl, hpr, T.cl_Processor, T.t_Processor_setup, rfl, _, rfl, A.su, dx2, _, rfl, sp.ext _ _ h3, A.su, S, l, K0, rfl, ow.fb.su, sp.ext, ow.fb.ok, hl, fun v hv => ?_⟩
      obtain ⟨a, g1, hs1, rfl, h5, h6, h7⟩ := hv
      exact ⟨_, _, _, _, rfl, rfl, Same.tup sp.ext h5, rfl, _, rfl, _, _, rfl, rfl, q _⟩
abbrev N_Processor_go_through : List Str := ["self", "line", "step", "ticks", "kept", "handler"]
theorem sc_Processor_go_through : FnScope N_Processor_go_through ["self"] (C8.fnScope s_Processor_go_through) := C8.fnScope_by (by decide +kernel)
theorem ok_Processor_go_through {fd : FuncData} (T : Txt K mg) (F : FunD K "_go_through" "Processor._go_through" (C8.fnArgs s_Processor_go_through) (C8.fnBody s_Processor_go_through) (C8.fnScope s_Processor_go_through) [] [] (He.ma K (aC "Processor" K) "_go_through") fd) (c_getitem : C8.Met P w K mg base 2 (aC "Setup" K) "__getitem__" (sp_Setup_getitem K) []) (c_takes_no_tick : C8.Met P w K mg base 1 (aC "Processor" K) "_takes_no_tick" (sp_Processor_takes_no_tick K) []) (c_act : C8.Met P w K mg base 2 (aC "Processor" K) "_act" (sp_Processor_act K) []) (c_end : C8.Met P w K mg base 1 (aC "Board" K) "end" (sp_Board_end K) []) :
    C8.Met P w K mg base 4 (aC "Processor" K) "_go_through" (sp_Processor_go_through K) [] := by
  refine C8.met0 T.cl_Processor T.m_Processor_go_through (fun_c8 F) (F.bindsN fun _ _ _ _ _ _ us hl => match us, hl with | [_], _ => rfl) sc_Processor_go_through (fun vs H Q E h => ?_) (fun cdv A outer s H vs Q E hr h => ?_)
  · obtain ⟨_, _, _, _, _, _, _, rfl, _⟩ := h
    rfl
  · have nd := sc_Processor_go_through.nd
    have hu := hu_of hr
    obtain ⟨A, S, K0, s, M, rest, c, rfl, ow, hst, hl, hcs, hct, hrest, hrows, hrl, hsl, hall, q⟩ := h
    refine ⟨_, (pss_cons (ps_asg (pe_bm0 PySem.F.plainAttrs_list PySem.F.slot_list_pop PySem.F.type_list_pop mt_pop (pe_fld (pv 0) rfl)) (pg_tup rfl (pgs_cons (pg_name (i := 1) nd rfl (Or.inl rfl)) (pgs_cons (pg_name (i := 2) nd rfl (Or.inl rfl)) (pgs_cons (pg_name (i := 3) nd rfl (Or.inl rfl)) (pgs_cons (pg_name (i := 4) nd rfl (Or.inl rfl)) pgs_nil))))))
      (pss_cons (ps_set (i := 5) nd rfl (Or.inl rfl) (pe_ix ix_tup (C_ix T.m_Setup_getitem T.i_getitem c_getitem hr (by decide) (pe_fld (pv 0) rfl) (pv 1)) pe_int (fun _ _ => rfl)))
      (pss_cons (ps_while PassesOwn.never (PW.pt (pw_and (pt_cmpR op_lt (pv 2) (pe_callB call_len_seq (by rfl) T.n_len (by decide +kernel) (pa_cons (pv 5) pa_nil)) (nomark _)) (pw_and1 (pt_val (C8.pe_mt c_takes_no_tick hr (by decide) (pv 0) (pa_cons (pe_ix ix_tup (pv 5) (pv 2) (fun _ _ => rfl)) pa_nil)))))) (pss_cons (ps_expr (C8.pe_mt c_act hr (by decide) (pv 0) (pa_cons (pe_ix ix_tup (pv 5) (pv 2) (fun _ _ => rfl)) pa_nil)))
      (pss_one (ps_aug (i := 2) nd rfl (Or.inl rfl) pe_int ip_add))))
      (pss_cons (ps_if (pt_cmpR op_lt (pv 2) (pe_callB call_len_seq (by rfl) T.n_len (by decide +kernel) (pa_cons (pv 5) pa_nil)) (nomark _)) (pss_cons (ps_expr (pe_bm PySem.F.plainAttrs_list PySem.F.slot_list_append PySem.F.type_list_append mt_append (pe_fld (pv 0) rfl) (pa_cons (pe_tup (pa_cons (pv 1) (pa_cons (pv 2) (pa_cons (pv 3) (pa_cons (pv 4) pa_nil))))) pa_nil)))
      (pss_one (ps_ret (pe_lst pa_nil)))) pss_nil)
      (pss_cons (ps_fld (pv 0) (pv 4) rfl)
      (pss_cons (ps_expr (C8.pe_mt c_end hr (by decide) (pe_fld (pv 0) rfl) (pa_cons (pv 1) pa_nil)))
      (pss_one (ps_ret (pe_lst (pa_cons (pe_tup (pa_cons pe_str (pa_cons (pv 1) pa_nil))) pa_nil)))))))))), ?_⟩
    obtain ⟨sv, rv, h1, h2, sp⟩ := ow.ex
    have hpr := sp.c2
    obtain ⟨dx2, _, _, _, _, _, h3, _⟩ := ow.fb.su.ex
    rw [hst] at h1
    obtain ⟨sv', v, e2, h4, t, rfl, ht⟩ := psnoc h1
    have hc3 := sp.c3
    rw [e2] at hc3
    have hlast : (sv' ++ [V.ref t])[(sv' ++ [V.ref t]).length - 1]? = some (V.ref t) := by simp
    refine ⟨_, rfl, _, _, _, _, _, rfl, hpr, T.cl_Processor, T.t_Processor_stack, rfl, .inl ⟨rfl, _, .inl (.inl hc3)⟩, _, _, _, rfl, rfl, hc3, hlast, ?_⟩
    rw [List.dropLast_concat]
    have sp1 := sp.put3 (y := .lst sv')
    have ow1 : Own K A S K0 (upd H A.st (.lst sv')) { s with stack := rest } M := ow.mk2 (s := { s with stack := rest }) (Same.refl K0) ⟨sv', rv, h4, h2, sp1⟩
    have hpr1 := sp1.c2
    refine ⟨_, _, rfl, Same.tup sp1.ext ht, rfl, _, _, rfl, _, _, rfl, _, _, rfl, _, _, rfl, rfl, ?_⟩
    refine ⟨_, rfl, _, _, _, _, _, rfl, hpr1, T.cl_Processor, T.t_Processor_setup, rfl, _, rfl, A.su, dx2, _, rfl, sp1.ext _ _ h3, A.su, S, c.line, K0, rfl, ow.fb.su, sp1.ext, ow.fb.ok, hl, fun v hv => ?_⟩
    obtain ⟨a, g1, hs1, rfl, h5, h6, h7⟩ := hv
    have hlen := h7.length
    refine ⟨_, _, _, _, rfl, rfl, Same.tup sp1.ext h5, rfl, ?_⟩
    refine ⟨fun m σ H' => ∃ j K' rows', m = c.line.steps.length - j ∧ c.step ≤ j ∧ j ≤ c.line.steps.length ∧ σ = [some (.ref A.pr), some (.str c.line.name), some (.int (j : Nat)), some (.int c.ticks), some (.int c.kept), some (.ref g1)] ∧ Same K0 K' ∧ Own K A S K' H' { s with stack := rest, rows := rows' } M ∧ RowsOk S.ws rows' ∧ rsum rows' = rsum s.rows ∧ rows'.length ≤ s.rows.length + (j - c.step) ∧ befS c.line j = befS c.line c.step, ⟨_, c.step, K0, s.rows, rfl, Nat.le_refl _, hcs, rfl, Same.refl K0, ow1, hrows, rfl, by omega, rfl⟩, ?_⟩
    rintro m σ H1 ⟨j, K1, rows1, rfl, hj1, hj2, rfl, gg, ow2, ro2, rs2, rl2, bf2⟩
    obtain ⟨sv2, rv2, k1, k2, sp2⟩ := ow2.ex
    have l8 := (ow.fb.ok.ok.ok c.line hl).s8
    have hh := Same.tup (Same.tr gg sp2.ext) h6
    have hpr2 := sp2.c2
    have inv := fun (j' : Nat) (σ' : L2.St) (H' : Hp) => ∃ K' rows', σ' = [some (.ref A.pr), some (.str c.line.name), some (.int (j' : Nat)), some (.int c.ticks), some (.int c.kept), some (.ref g1)] ∧ Same K0 K' ∧ Own K A S K' H' { s with stack := rest, rows := rows' } M ∧ RowsOk S.ws rows' ∧ rsum rows' = rsum s.rows ∧ rows'.length ≤ s.rows.length + (j' - c.step) ∧ befS c.line j' = befS c.line c.step
    rcases Nat.lt_or_ge j c.line.steps.length with hj | hj
    · have hstj : c.line.steps[j]? = some c.line.steps[j] := List.getElem?_eq_getElem hj
      have hsok := hall c.line hl _ (List.mem_of_getElem? hstj)
      obtain ⟨x, hx, hx2⟩ := pgetr h7 hstj
      have hx1 := StepAt.up gg hx2
      have htst : decide ((j : Int) < (hs1.length : Nat)) = true := decide_eq_true (by omega)
      refine ⟨_, rfl, _, rfl, _, _, rfl, .inr hh, _, _, rfl, rfl, true, congrArg V.bl htst, iteT ?_⟩
      refine ⟨_, rfl, A.pr, A.dp, _, rfl, hpr2, rfl, _, rfl, _, rfl, _, _, _, _, rfl, rfl, hh, atIn hx, A.pr, x, _, rfl, StepAt.up sp2.ext hx1, _, rfl, ?_⟩
      cases est : c.line.steps[j] with
      | later n =>
        rw [est] at hx1 hsok hstj
        refine iteT ⟨fun σ' H' => ∃ K' rows', σ' = [some (.ref A.pr), some (.str c.line.name), some (.int ((j + 1 : Nat))), some (.int c.ticks), some (.int c.kept), some (.ref g1)] ∧ Same K0 K' ∧ Own K A S K' H' { s with stack := rest, rows := rows' } M ∧ RowsOk S.ws rows' ∧ rsum rows' = rsum s.rows ∧ rows'.length ≤ s.rows.length + (j + 1 - c.step) ∧ befS c.line (j + 1) = befS c.line c.step, ?_, ?_⟩
        · rintro σ' H' ⟨K', rows', e1, e2, e3, e4, e5, e6, e7⟩
          exact ⟨c.line.steps.length - (j + 1), by omega, j + 1, K', rows', rfl, by omega, by omega, e1, e2, e3, e4, e5, e6, e7⟩
        · refine ⟨_, rfl, A.pr, A.dp, _, rfl, hpr2, rfl, _, rfl, _, rfl, _, _, _, _, rfl, rfl, hh, atIn hx, A, S, K1, _, M, x, n, rfl, hx1, hsok, ow2, ro2, (show rows1.length ≤ 4000 by omega), fun K2 H2 rows2 g2 ow3 ro3 rs3 rl3 => ?_⟩
          refine ⟨_, rfl, _, _, rfl, rfl, K2, rows2, by simp, Same.tr gg g2, ow3, ro3, by rw [rs3]; exact rs2, ?_, by rw [befS_later hstj]; exact bf2⟩
          simp at rl3
          omega
      | run n =>
        rw [est] at hx1 hsok hstj
        refine iteF ?_
        refine ⟨_, rfl, _, rfl, _, _, rfl, .inr hh, _, _, rfl, rfl, true, congrArg V.bl htst, iteT ?_⟩
        refine ⟨_, rfl, _, _, _, _, _, rfl, hpr2, T.cl_Processor, T.t_Processor_stack, rfl, .inl ⟨rfl, _, .inl (.inl sp2.c3)⟩, _, rfl, _, rfl, _, rfl, _, rfl, small8 (by simp), fun t2 ht2 => ?_⟩
        have sp3 := sp2.keep (o := .tup [.str c.line.name, .int (j : Nat), .int c.ticks, .int c.kept]) ht2
        have g3 := sp2.newk (o := .tup [.str c.line.name, .int (j : Nat), .int c.ticks, .int c.kept]) ht2
        refine ⟨_, _, _, rfl, rfl, sp3.c3, sm (m := 4000) (by have hk : sv2.length = rest.length := k1.length; rw [hst] at hsl; simp at hsl; omega) (by decide), ?_⟩
        have sp4 := sp3.put3 (y := .lst (sv2 ++ [.ref t2]))
        refine ⟨Nat.zero_le _, fun p hp => ?_⟩
        have sp5 := sp4.keep (o := .lst []) hp
        have g5 := sp4.newk (o := .lst []) hp
        have gA := Same.tr gg (Same.tr g3 g5)
        have ow4 : Own K A S _ _ { s with stack := rest ++ [⟨c.line, j, c.ticks, c.kept⟩], rows := rows1 } M := ow2.mk2 (s := { s with stack := rest ++ [⟨c.line, j, c.ticks, c.kept⟩], rows := rows1 }) (Same.tr g3 g5) ⟨sv2 ++ [.ref t2], rv2, Paired.snoc (k1.mono fun _ _ z => CallAt.up (Same.tr g3 g5) z) ⟨t2, rfl, t_of (g5 _ _ upd_same)⟩, k2.mono fun _ _ z => RowAt.up (Same.tr g3 g5) z, sp5⟩
        refine q _ _ p [] [] _ gA ow4 upd_same .nil ⟨⟨fun c' m => ?_, ro2⟩, fun _ m => (nomatch m), ?_, ?_, by simp, rfl, by simp, by simp, ?_, ?_, by simp⟩
        · rcases List.mem_append.mp m with m | m
          · exact hrest c' m
          · obtain rfl := List.mem_singleton.mp m
            exact ⟨hl, n, hstj, by simp [hct], by simp [hct]; have := hsok.1; omega⟩
        · show due (rest ++ [_]) + ecost [] = _
          rw [hst, due_snoc, due_snoc]
          simp [bef, ecost, hct, bf2]
        · show rsum rows1 + dcost [] = _
          simp [dcost, rs2]
        · simp [hst]
        · show rows1.length ≤ _
          omega
    · have htst : decide ((j : Int) < (hs1.length : Nat)) = false := decide_eq_false (by omega)
      refine ⟨_, rfl, _, rfl, _, _, rfl, .inr hh, _, _, rfl, rfl, false, congrArg V.bl htst, iteF ?_⟩
      refine ⟨_, rfl, _, rfl, _, _, rfl, .inr hh, _, _, rfl, rfl, false, congrArg V.bl htst, iteF ?_⟩
      refine ⟨_, rfl, _, rfl, _, _, _, _, rfl, hpr2, T.cl_Processor, T.t_Processor_bar, (by simp), ?_⟩
      have sp3 := sp2.put2 (y := prI K A c.kept)
      obtain ⟨db, d0, fl0, mg0, hbo, _⟩ := (BoardAt.up (Same.tr gg sp3.ext) ow.fb).ex
      have hpr3 := sp3.c2
      refine ⟨_, rfl, _, _, _, _, _, rfl, hpr3, T.cl_Processor, T.t_Processor_board, rfl, A.bo, db, _, rfl, hbo, rfl, _, rfl, A.bo, A.su, A.r, A.u, S, c.line, K1, s.und, _, rfl, ow2.fb, hl, sp3.swap, fun H2 sp4 => ?_⟩
      have sp5 := sp4.swap
      refine ⟨_, rfl, small8 (by simp), fun t2 ht2 => ?_⟩
      have sp6 := sp5.keep (o := .tup [.str "end", .str c.line.name]) ht2
      have g6 := sp5.newk (o := .tup [.str "end", .str c.line.name]) ht2
      refine ⟨small8 (by simp), fun p hp => ?_⟩
      have sp7 := sp6.keep (o := .lst [.ref t2]) hp
      have g7 := sp6.newk (o := .lst [.ref t2]) hp
      have g67 := Same.tr g6 g7
      have gA := Same.tr gg g67
      have ow4 : Own K A S _ _ { s with stack := rest, rows := rows1, bar := c.kept, und := fset s.und c.line.name false } M := ow2.mk2 (s := { s with stack := rest, rows := rows1, bar := c.kept, und := fset s.und c.line.name false }) g67 ⟨sv2, rv2, k1.mono fun _ _ z => CallAt.up g67 z, k2.mono fun _ _ z => RowAt.up g67 z, sp7⟩
      refine q _ _ p [.ref t2] [.fin c.line] _ gA ow4 upd_same (.cons ⟨t2, rfl, t_of (g7 _ _ upd_same)⟩ .nil) ⟨⟨hrest, ro2⟩, fun e m => ?_, ?_, ?_, by simp, rfl, by simp, by simp, ?_, ?_, by simp⟩
      · obtain rfl := List.mem_singleton.mp m
        exact hl
      · show due rest + ecost [.fin c.line] = _
        rw [hst, due_snoc]
        rw [befS_all hj] at bf2
        simp [bef, ecost, Ev.ec, hct, bf2]
      · show rsum rows1 + dcost [.fin c.line] = _
        simp [dcost, Ev.dc, rs2]
      · simp [hst]
      · show rows1.length ≤ _
        omega
end
end Cb

namespace Cb
open PySem PySem.Spec PyProof.Rows L2

section
variable {P : Program} {w : World} {K : PySem.W.Frag} {mg : Str → Option Value} {base : Heap}

abbrev N_Processor_spend_beside_calls : List Str := ["self", "work"]
theorem sc_Processor_spend_beside_calls : FnScope N_Processor_spend_beside_calls ["self"] (C8.fnScope s_Processor_spend_beside_calls) := C8.fnScope_by (by decide +kernel)
theorem ok_Processor_spend_beside_calls {fd : FuncData} (T : Txt K mg) (F : FunD K "_spend_beside_calls" "Processor._spend_beside_calls" (C8.fnArgs s_Processor_spend_beside_calls) (C8.fnBody s_Processor_spend_beside_calls) (C8.fnScope s_Processor_spend_beside_calls) [] [] (He.ma K (aC "Processor" K) "_spend_beside_calls") fd) (c_is_empty : C8.Met P w K mg base 1 (aC "WorkQueue" K) "is_empty" (sp_WorkQueue_is_empty K) []) (c_jspend : C8.Met P w K mg base 1 (aC "WorkQueue" K) "spend" (sp_WorkQueue_spend K) []) :
    C8.Met P w K mg base 2 (aC "Processor" K) "_spend_beside_calls" (sp_Processor_spend_beside_calls K) [] := by
  refine C8.met0 T.cl_Processor T.m_Processor_spend_beside_calls (fun_c8 F) (F.bindsN fun _ _ _ _ _ _ us hl => match us, hl with | [_], _ => rfl) sc_Processor_spend_beside_calls (fun vs H Q E h => ?_) (fun cdv A outer s H vs Q E hr h => ?_)
  · obtain ⟨_, _, _, _, _, rfl, _⟩ := h
    rfl
  · have nd := sc_Processor_spend_beside_calls.nd
    have hu := hu_of hr
    obtain ⟨A, S, K0, s, M, rfl, ow, hst, hro, hrl, q⟩ := h
    refine ⟨_, (pss_cons (ps_if (pt_val (C8.pe_mt0 c_is_empty hr (by decide) (pe_fld (pv 0) rfl))) (pss_cons (ps_augS (pe_fld (pv 0) rfl) (C8.pe_gc rfl T.k_IDLE) get_list pe_int ip_add set_list)
      (pss_one (ps_ret (pe_lst pa_nil)))) pss_nil)
      (pss_cons (ps_augS (pe_fld (pv 0) rfl) (C8.pe_gc rfl T.k_WORKED) get_list pe_int ip_add set_list)
      (pss_cons (ps_set (i := 1) nd rfl (Or.inl rfl) (C8.pe_mt0 c_jspend hr (by decide) (pe_fld (pv 0) rfl)))
      (pss_one (ps_ret (pe_ifExp (pt_cmpR op_isN (pv 1) pe_non (nomark _)) (pe_lst pa_nil) (pe_lst (pa_cons (pe_tup (pa_cons pe_str (pa_cons (pv 1) pa_nil))) pa_nil)))))))), ?_⟩
    obtain ⟨sv, rv, h1, h2, sp⟩ := ow.ex
    have hpr := sp.c2
    obtain ⟨dj, rk, ln, j1, _⟩ := (JobsAt.up sp.ext ow.fj).ex
    refine ⟨_, rfl, _, _, _, _, _, rfl, hpr, T.cl_Processor, T.t_Processor_jobs, rfl, A.jo, dj, _, rfl, j1, rfl, A.jo, A.ro, S.ws, rv, rfl, JobsAt.up sp.ext ow.fj, sp.c4, rv.isEmpty, rfl, ?_⟩
    cases hrv : s.rows with
    | nil =>
      have h2' := h2
      rw [hrv] at h2'
      cases h2'
      refine iteT ?_
      refine ⟨_, rfl, _, _, _, _, _, rfl, hpr, T.cl_Processor, T.t_Processor_counts, rfl, _, _, 3, _, rfl, rfl, l_of sp.c5, rfl, _, _, rfl, rfl, ?_⟩
      refine ⟨_, _, _, 3, rfl, rfl, sp.c5, rfl, ?_⟩
      have sp1 := sp.put5 (y := .lst [.int s.c0, .int s.c1, .int s.c2, .int (s.c3 + 1)])
      refine ⟨Nat.zero_le _, fun p hp => ?_⟩
      have sp2 := sp1.keep (o := .lst []) hp
      have g := sp1.newk (o := .lst []) hp
      have ow2 : Own K A S _ _ { s with c3 := s.c3 + 1 } M := ow.mk2 (s := { s with c3 := s.c3 + 1 }) g ⟨sv, [], h1.mono fun _ _ z => CallAt.up g z, h2.mono fun _ _ z => RowAt.up g z, sp2⟩
      exact q _ _ p [] [] _ g ow2 upd_same .nil ⟨0, 1, by omega, ⟨⟨fun c m => (by rw [hst] at m; cases m), hro⟩, (fun _ m => nomatch m), by simp [ecost], by simp [dcost], by simp, rfl, by simp, by simp, Nat.le_refl _, by simp, by simp⟩⟩
    | cons r rows =>
      obtain ⟨n, t⟩ := r
      have h2' := h2
      rw [hrv] at h2' hro hrl
      have hne : rv.isEmpty = false := by cases h2' with | cons _ _ => rfl
      rw [hne]
      refine iteF ?_
      refine ⟨_, rfl, _, _, _, _, _, rfl, hpr, T.cl_Processor, T.t_Processor_counts, rfl, _, _, 2, _, rfl, rfl, l_of sp.c5, rfl, _, _, rfl, rfl, ?_⟩
      refine ⟨_, _, _, 2, rfl, rfl, sp.c5, rfl, ?_⟩
      have sp1 := sp.put5 (y := .lst [.int s.c0, .int s.c1, .int (s.c2 + 1), .int s.c3])
      have hpr1 := sp1.c2
      obtain ⟨dj1, rk1, ln1, j11, _⟩ := (JobsAt.up sp1.ext ow.fj).ex
      refine ⟨_, rfl, _, _, _, _, _, rfl, hpr1, T.cl_Processor, T.t_Processor_jobs, rfl, A.jo, dj1, _, rfl, j11, rfl, A.jo, A.ro, S.ws, rv, n, t, rows, K0, _, rfl, ow.fj, hro, h2', by simp at hrl; omega, sp1.up4, fun K1 H1 rv1 g1 hp1 hro1 sp2 => ?_, fun H1 rv1 w hw ew et hp1 hro1 sp2 => ?_⟩
      · refine ⟨_, rfl, rfl, true, rfl, iteT ⟨Nat.zero_le _, fun p hp => ?_⟩⟩
        have sp3 := sp2.dn4.keep (o := .lst []) hp
        have g2 := sp2.dn4.newk (o := .lst []) hp
        have g := Same.tr g1 g2
        have ow2 : Own K A S _ _ { s with c2 := s.c2 + 1, rows := (n, t + 1) :: rows } M := ow.mk2 (s := { s with c2 := s.c2 + 1, rows := (n, t + 1) :: rows }) g ⟨sv, rv1, h1.mono fun _ _ z => CallAt.up g z, hp1.mono fun _ _ z => RowAt.up g2 z, sp3⟩
        exact q _ _ p [] [] _ g ow2 upd_same .nil ⟨1, 0, by omega, ⟨⟨fun c m => (by rw [hst] at m; cases m), hro1⟩, (fun _ m => nomatch m), by simp [ecost], by simp [dcost, rsum, hrv]; omega, by simp, rfl, by simp, by simp, Nat.le_refl _, by simp [hrv], by simp⟩⟩
      · refine ⟨_, rfl, rfl, false, rfl, iteF ⟨_, rfl, small8 (by simp), fun t2 ht2 => ?_⟩⟩
        have sp3 := sp2.dn4.keep (o := .tup [.str "done", .str n]) ht2
        have g2 := sp2.dn4.newk (o := .tup [.str "done", .str n]) ht2
        refine ⟨small8 (by simp), fun p hp => ?_⟩
        have sp4 := sp3.keep (o := .lst [.ref t2]) hp
        have g3 := sp3.newk (o := .lst [.ref t2]) hp
        have g := Same.tr g2 g3
        have ow2 : Own K A S _ _ { s with c2 := s.c2 + 1, rows := rows } M := ow.mk2 (s := { s with c2 := s.c2 + 1, rows := rows }) g ⟨sv, rv1, h1.mono fun _ _ z => CallAt.up g z, hp1.mono fun _ _ z => RowAt.up g z, sp4⟩
        subst ew
        exact q _ _ p [.ref t2] [.dne w] _ g ow2 upd_same (.cons ⟨t2, rfl, t_of (g3 _ _ upd_same)⟩ .nil) ⟨1, 0, by omega, ⟨⟨fun c m => (by rw [hst] at m; cases m), hro1⟩, (fun e m => by obtain rfl := List.mem_singleton.mp m; exact hw), by simp [ecost, Ev.ec], by simp [dcost, Ev.dc, rsum, hrv]; omega, by simp, rfl, by simp, by simp, Nat.le_refl _, by simp [hrv]; omega, by simp⟩⟩
abbrev N_Processor_spend : List Str := ["self", "line", "step", "ticks", "kept", "word", "what"]
theorem sc_Processor_spend : FnScope N_Processor_spend ["self"] (C8.fnScope s_Processor_spend) := C8.fnScope_by (by decide +kernel)
theorem ok_Processor_spend {fd : FuncData} (T : Txt K mg) (F : FunD K "_spend" "Processor._spend" (C8.fnArgs s_Processor_spend) (C8.fnBody s_Processor_spend) (C8.fnScope s_Processor_spend) [] [] (He.ma K (aC "Processor" K) "_spend") fd) (c_spend_beside_calls : C8.Met P w K mg base 2 (aC "Processor" K) "_spend_beside_calls" (sp_Processor_spend_beside_calls K) []) (c_present_step : C8.Met P w K mg base 4 (aC "Processor" K) "_present_step" (sp_Processor_present_step K) []) (c_go_through : C8.Met P w K mg base 4 (aC "Processor" K) "_go_through" (sp_Processor_go_through K) []) :
    C8.Met P w K mg base 6 (aC "Processor" K) "_spend" (sp_Processor_spend K) [] := by
  refine C8.met0 T.cl_Processor T.m_Processor_spend (fun_c8 F) (F.bindsN fun _ _ _ _ _ _ us hl => match us, hl with | [_], _ => rfl) sc_Processor_spend (fun vs H Q E h => ?_) (fun cdv A outer s H vs Q E hr h => ?_)
  · obtain ⟨_, _, _, _, _, rfl, _⟩ := h
    rfl
  · have nd := sc_Processor_spend.nd
    have hu := hu_of hr
    obtain ⟨A, S, K0, s, M, rfl, ow, gd, hrl, hsl, q⟩ := h
    refine ⟨_, (pss_cons (ps_if (pt_not (pt_truth (pe_fld (pv 0) rfl) (by intro _; rfl))) (pss_one (ps_ret (C8.pe_mt0 c_spend_beside_calls hr (by decide) (pv 0)))) pss_nil)
      (pss_cons (ps_asg (pe_ix ix_list (pe_fld (pv 0) rfl) (pe_un un_neg pe_int) (fun _ _ => rfl)) (pg_tup rfl (pgs_cons (pg_name (i := 1) nd rfl (Or.inl rfl)) (pgs_cons (pg_name (i := 2) nd rfl (Or.inl rfl)) (pgs_cons (pg_name (i := 3) nd rfl (Or.inl rfl)) (pgs_cons (pg_name (i := 4) nd rfl (Or.inl rfl)) pgs_nil))))))
      (pss_cons (ps_asg (C8.pe_mt0 c_present_step hr (by decide) (pv 0)) (pg_tup rfl (pgs_cons (pg_name (i := 5) nd rfl (Or.inl rfl)) (pgs_cons (pg_name (i := 6) nd rfl (Or.inl rfl)) pgs_nil))))
      (pss_cons (ps_if (pt_cmpR op_eq (pv 5) pe_str (nomark _)) (pss_cons ps_never
      (pss_one (ps_ret (pe_lst pa_nil)))) pss_nil)
      (pss_cons (ps_augS (pe_fld (pv 0) rfl) (C8.pe_gc rfl T.k_CALLED) get_list pe_int ip_add set_list)
      (pss_cons (ps_if (pt_cmpR op_lt (pe_op op_add (pv 3) pe_int) (pv 6) (nomark _)) (pss_cons (ps_asg (pe_tup (pa_cons (pv 1) (pa_cons (pv 2) (pa_cons (pe_op op_add (pv 3) pe_int) (pa_cons (pv 4) pa_nil))))) (pg_sub (pe_fld (pv 0) rfl) (pe_un un_neg pe_int) set_list))
      (pss_one (ps_ret (pe_lst pa_nil)))) pss_nil)
      (pss_cons (ps_asg (pe_tup (pa_cons (pv 1) (pa_cons (pe_op op_add (pv 2) pe_int) (pa_cons pe_int (pa_cons (pv 4) pa_nil))))) (pg_sub (pe_fld (pv 0) rfl) (pe_un un_neg pe_int) set_list))
      (pss_one (ps_ret (C8.pe_mt0 c_go_through hr (by decide) (pv 0))))))))))), ?_⟩
    obtain ⟨sv, rv, h1, h2, sp⟩ := ow.ex
    have hpr := sp.c2
    rcases List.eq_nil_or_concat s.stack with e1 | ⟨rest, c, e1⟩
    · have h1' := h1
      rw [e1] at h1'
      cases h1'
      refine ⟨_, rfl, _, _, _, _, _, rfl, hpr, T.cl_Processor, T.t_Processor_stack, rfl, false, .inl ⟨_, l_of sp.c3, rfl⟩, iteT ?_⟩
      refine ⟨_, rfl, A.pr, A.dp, _, rfl, hpr, rfl, A, S, K0, s, M, rfl, ow, e1, gd.rows, hrl, fun K1 H1 p ev evs s1 g ow1 hp he hR => ?_⟩
      obtain ⟨d2, d3, hd, R⟩ := hR
      exact q K1 H1 p ev evs s1 g ow1 hp he ⟨0, d2, d3, by omega, R⟩
    rw [List.concat_eq_append] at e1
    have h1' := h1
    rw [e1] at h1'
    obtain ⟨sv', v, e2, h4, t, rfl, ht⟩ := psnoc h1'
    have hco := gd.calls c (by rw [e1]; simp)
    obtain ⟨n, hn, hn0, hn1⟩ := hco.st
    have hc3 := sp.c3
    rw [e2] at hc3
    refine ⟨_, rfl, _, _, _, _, _, rfl, hpr, T.cl_Processor, T.t_Processor_stack, rfl, true, .inl ⟨_, l_of hc3, by simp⟩, iteF ?_⟩
    refine ⟨_, rfl, _, _, _, _, _, rfl, hpr, T.cl_Processor, T.t_Processor_stack, rfl, _, rfl, _, _, _, _, rfl, rfl, l_of hc3, atIm, ?_⟩
    refine ⟨_, _, rfl, Same.tup sp.ext ht, rfl, _, _, rfl, _, _, rfl, _, _, rfl, _, _, rfl, rfl, ?_⟩
    refine ⟨_, rfl, A.pr, A.dp, _, rfl, hpr, rfl, A, S, K0, s, M, rest, c, .run n, rfl, ow, e1, hco.ln, hn, fun v H1 g1 hv => ?_⟩
    obtain ⟨a, rfl, ha⟩ := hv
    have sp1 := sp.grow g1
    have hpr1 := sp1.c2
    have hc31 := g1 _ _ hc3
    refine ⟨_, _, rfl, Same.tup sp1.ext ha, rfl, _, _, rfl, _, _, rfl, rfl, ?_⟩
    refine ⟨_, rfl, rfl, false, rfl, iteF ?_⟩
    refine ⟨_, rfl, _, _, _, _, _, rfl, hpr1, T.cl_Processor, T.t_Processor_counts, rfl, _, _, 0, _, rfl, rfl, l_of sp1.c5, rfl, _, _, rfl, rfl, ?_⟩
    refine ⟨_, _, _, 0, rfl, rfl, sp1.c5, rfl, ?_⟩
    have sp2 := sp1.put5 (y := .lst [.int (s.c0 + 1), .int s.c1, .int s.c2, .int s.c3])
    have hpr2 := sp2.c2
    refine ⟨_, rfl, _, _, rfl, rfl, _, rfl, _, _, rfl, rfl, decide (c.ticks + 1 < n), rfl, ?_⟩
    by_cases hlt : c.ticks + 1 < n
    · rw [decide_eq_true hlt]
      refine iteT ⟨_, rfl, _, rfl, _, rfl, _, _, rfl, rfl, _, rfl, small8 (by simp), fun t2 ht2 => ?_⟩
      have sp3 := sp2.keep (o := .tup [.str c.line.name, .int (c.step : Nat), .int (c.ticks + 1), .int c.kept]) ht2
      have g3 := sp2.newk (o := .tup [.str c.line.name, .int (c.step : Nat), .int (c.ticks + 1), .int c.kept]) ht2
      have hpr3 := sp3.c2
      have hc33 := sp3.c3
      rw [e2] at hc33
      refine ⟨_, rfl, _, _, _, _, _, rfl, hpr3, T.cl_Processor, T.t_Processor_stack, rfl, _, rfl, _, _, _, _, rfl, rfl, hc33, ixNm, ?_⟩
      rw [set_last]
      have sp4 := sp3.put3 (y := .lst (sv' ++ [.ref t2]))
      refine ⟨Nat.zero_le _, fun p hp => ?_⟩
      have sp5 := sp4.keep (o := .lst []) hp
      have g5 := sp4.newk (o := .lst []) hp
      have g := Same.tr g3 g5
      have ow4 : Own K A S _ _ { s with c0 := s.c0 + 1, stack := rest ++ [⟨c.line, c.step, c.ticks + 1, c.kept⟩] } M := ow.mk2 (s := { s with c0 := s.c0 + 1, stack := rest ++ [⟨c.line, c.step, c.ticks + 1, c.kept⟩] }) g ⟨sv' ++ [.ref t2], rv, Paired.snoc (h4.mono fun _ _ z => CallAt.up g z) ⟨t2, rfl, t_of (g5 _ _ upd_same)⟩, h2.mono fun _ _ z => RowAt.up g z, sp5⟩
      refine q _ _ p [] [] _ g ow4 upd_same .nil ⟨1, 0, 0, by omega, ⟨⟨fun c' m => ?_, gd.rows⟩, (fun _ m => nomatch m), ?_, by simp [dcost], rfl, rfl, by simp, by simp, by simp [e1], by simp, by simp⟩⟩
      · rcases List.mem_append.mp m with m | m
        · exact gd.calls c' (by rw [e1]; exact List.mem_append_left _ m)
        · obtain rfl := List.mem_singleton.mp m
          exact ⟨hco.ln, n, hn, by simp; omega, hlt⟩
      · show due (rest ++ [_]) + ecost [] = _
        rw [e1, due_snoc, due_snoc]
        simp [bef, ecost]
        omega
    · rw [decide_eq_false hlt]
      refine iteF ?_
      refine ⟨_, rfl, _, rfl, _, _, rfl, rfl, _, rfl, small8 (by simp), fun t2 ht2 => ?_⟩
      have sp3 := sp2.keep (o := .tup [.str c.line.name, .int ((c.step + 1 : Nat)), .int 0, .int c.kept]) ht2
      have g3 := sp2.newk (o := .tup [.str c.line.name, .int ((c.step + 1 : Nat)), .int 0, .int c.kept]) ht2
      have hpr3 := sp3.c2
      have hc33 := sp3.c3
      rw [e2] at hc33
      refine ⟨_, rfl, _, _, _, _, _, rfl, hpr3, T.cl_Processor, T.t_Processor_stack, rfl, _, rfl, _, _, _, _, rfl, rfl, hc33, ixNm, ?_⟩
      rw [set_last]
      have sp4 := sp3.put3 (y := .lst (sv' ++ [.ref t2]))
      have hpr4 := sp4.c2
      have ow4 : Own K A S _ _ { s with c0 := s.c0 + 1, stack := rest ++ [⟨c.line, c.step + 1, 0, c.kept⟩] } M := ow.mk2 (s := { s with c0 := s.c0 + 1, stack := rest ++ [⟨c.line, c.step + 1, 0, c.kept⟩] }) g3 ⟨sv' ++ [.ref t2], rv, Paired.snoc (h4.mono fun _ _ z => CallAt.up g3 z) ⟨t2, rfl, t_of upd_same⟩, h2.mono fun _ _ z => RowAt.up g3 z, sp4⟩
      have hlt2 : c.step < c.line.steps.length := by
        rcases Nat.lt_or_ge c.step c.line.steps.length with z | z
        · exact z
        · rw [List.getElem?_eq_none z] at hn; cases hn
      refine ⟨_, rfl, A.pr, A.dp, _, rfl, hpr4, rfl, A, S, _, _, M, rest, ⟨c.line, c.step + 1, 0, c.kept⟩, rfl, ow4, rfl, hco.ln, hlt2, rfl, fun c' m => gd.calls c' (by rw [e1]; exact List.mem_append_left _ m), gd.rows, hrl, ?_, ow.fb.ok.all, fun K1 H1 p ev evs s1 g ow5 hp he R => ?_⟩
      · rw [e1] at hsl
        simpa using hsl
      · refine q K1 H1 p ev evs s1 (Same.tr g3 g) ow5 hp he ⟨1, 0, 0, by omega, ⟨R.good, R.ev, ?_, R.rs, ?_, R.h1, R.h2, R.h3, ?_, R.rw, R.el⟩⟩
        · have z := R.due
          simp only [due_snoc] at z
          rw [e1, due_snoc]
          have b := befS_run hn
          simp only [bef] at z ⊢
          omega
        · have z := R.h0
          simp at z
          exact z
        · have z := R.ln
          simp at z
          simp [e1]
          omega
end
end Cb

namespace Cb
open PySem PySem.Spec PyProof.Rows L2

structure RelT (S : SetD) (s s' : StD) (evs : List Ev) : Prop where
  good : Good S s'
  ev : ∀ e ∈ evs, EvOk S e
  due : due s'.stack + ecost evs = due s.stack
  rs : rsum s'.rows + dcost evs = rsum s.rows
  h0 : s'.c0 = s.c0
  h1 : s'.c1 = s.c1
  h2 : s'.c2 = s.c2
  h3 : s'.c3 = s.c3
  ln : s'.stack.length ≤ s.stack.length + 1
  rw : s'.rows.length ≤ s.rows.length + 8
  el : evs.length ≤ 2
def sp_Processor_take (K : PySem.W.Frag) : Sp := fun vs H Q _ => ∃ (A : Ad) (S : SetD) (K0 : Hp) (s : StD) (M : List (Addr × HO)) (lp : Addr) (ns : List Str), vs = [.ref A.pr, .ref lp] ∧ Own K A S K0 H s M ∧ Good S s ∧ s.rows.length ≤ 3800 ∧ s.stack.length ≤ 3800 ∧ K0 lp = some (.lst (ns.map V.str)) ∧ (∀ n ∈ ns, n ∈ S.order) ∧
  ∀ K1 H' p ev evs s', Same K0 K1 → Own K A S K1 H' s' ((p, .lst ev) :: M) → Paired (EvAt K K1) ev evs → RelT S s s' evs → Q (.ref p) H'
def C3At (K : PySem.W.Frag) (H : Hp) (v : V) (c : CallD) : Prop := ∃ t, v = .ref t ∧ SqT K H t [.str c.line.name, .int (c.step : Nat), .int c.ticks]
theorem C3At.up {K : PySem.W.Frag} {H H' : Hp} {v : V} {r : CallD} (e : Same H H') (h : C3At K H v r) : C3At K H' v r := h.elim fun a h => ⟨a, h.1, Same.tup e h.2⟩
def sp_Processor_call_rows (K : PySem.W.Frag) : Sp := fun vs H Q _ => ∃ (A : Ad) (S : SetD) (K0 : Hp) (s : StD) (M : List (Addr × HO)), vs = [.ref A.pr] ∧ Own K A S K0 H s M ∧ s.stack.length ≤ 3900 ∧
  ∀ K1 H' p ev, Same K0 K1 → Own K A S K1 H' s M → K1 p = some (.lst ev) → Paired (C3At K K1) ev s.stack → Q (.ref p) H'
def sp_Processor_work_rows (K : PySem.W.Frag) : Sp := fun vs H Q _ => ∃ (A : Ad) (S : SetD) (K0 : Hp) (s : StD) (M : List (Addr × HO)), vs = [.ref A.pr] ∧ Own K A S K0 H s M ∧ s.rows.length ≤ 3900 ∧
  ∀ K1 H' p ev, Same K0 K1 → Own K A S K1 H' s M → K1 p = some (.lst ev) → Paired (RowAt K K1) ev s.rows → Q (.ref p) H'
def sp_Processor_spent_ticks (K : PySem.W.Frag) : Sp := fun vs H Q _ => ∃ (A : Ad) (S : SetD) (K0 : Hp) (s : StD) (M : List (Addr × HO)), vs = [.ref A.pr] ∧ Own K A S K0 H s M ∧
  ∀ K1 H' p, Same K0 K1 → Own K A S K1 H' s M → K1 p = some (.tup [.int s.c0, .int s.c1, .int s.c2, .int s.c3]) → Q (.ref p) H'
def st0 : StD := ⟨no, no, 0, [], [], 0, 0, 0, 0⟩
def sp_Processor_init (K : PySem.W.Frag) : Sp := fun vs H Q _ => ∃ (x dx bo su r u : Addr) (S : SetD) (K0 : Hp) (M : List (Addr × HO)), vs = [.ref x, .ref su, .ref bo] ∧ Sep K0 H ((x, .ins (aC "Processor" K) dx []) :: (r, .dK (bd S.order no)) :: (u, .dK (bd S.order no)) :: M) ∧ BoardAt K K0 bo su S r u ∧
  ∀ K1 H' A, Same K0 K1 → A.pr = x → A.bo = bo → A.su = su → Own K A S K1 H' st0 M → Q .non H'
theorem Sep.obj {K0 H : Hp} {L : List (Addr × HO)} (s : Sep K0 H L) {x dx : Addr} {o o' : HO} (h : H x = none) (h' : H dx = none) (ne : dx ≠ x) : Sep K0 (upd (upd H dx o) x o') ((x, o') :: L) := by
  refine (s.drop h').own ?_
  rw [upd_ne (Ne.symm ne)]
  exact h

section
variable {P : Program} {w : World} {K : PySem.W.Frag} {mg : Str → Option Value} {base : Heap}

abbrev N_Processor_go_on : List Str := ["self", "events"]
theorem sc_Processor_go_on : FnScope N_Processor_go_on ["self"] (C8.fnScope s_Processor_go_on) := C8.fnScope_by (by decide +kernel)
theorem ok_Processor_go_on {fd : FuncData} (T : Txt K mg) (F : FunD K "go_on" "Processor.go_on" (C8.fnArgs s_Processor_go_on) (C8.fnBody s_Processor_go_on) (C8.fnScope s_Processor_go_on) [] [] (He.ma K (aC "Processor" K) "go_on") fd) (c_passes_flag : C8.Met P w K mg base 5 (aC "Processor" K) "_passes_flag" (sp_Processor_passes_flag K) []) (c_pspend : C8.Met P w K mg base 6 (aC "Processor" K) "_spend" (sp_Processor_spend K) []) :
    C8.Met P w K mg base 7 (aC "Processor" K) "go_on" (sp_Processor_go_on K) [] := by
  refine C8.met0 T.cl_Processor T.m_Processor_go_on (fun_c8 F) (F.bindsN fun _ _ _ _ _ _ us hl => match us, hl with | [_], _ => rfl) sc_Processor_go_on (fun vs H Q E h => ?_) (fun cdv A outer s H vs Q E hr h => ?_)
  · obtain ⟨_, _, _, _, _, rfl, _⟩ := h
    rfl
  · have nd := sc_Processor_go_on.nd
    have hu := hu_of hr
    obtain ⟨A, S, K0, s, M, rfl, ow, gd, hrl, hsl, q⟩ := h
    refine ⟨_, (pss_cons (ps_set (i := 1) nd rfl (Or.inl rfl) (pe_lst pa_nil))
      (pss_cons (ps_while PassesOwn.never (pt_val (C8.pe_mt0 c_passes_flag hr (by decide) (pv 0))) (pss_one ps_never))
      (pss_cons (ps_expr (pe_bm PySem.F.plainAttrs_list PySem.F.slot_list_extend PySem.F.type_list_extend mt_extend (pv 1) (pa_cons (C8.pe_mt0 c_pspend hr (by decide) (pv 0)) pa_nil)))
      (pss_one (ps_ret (pv 1)))))), ?_⟩
    refine ⟨Nat.zero_le _, fun p1 hp1 => ?_⟩
    obtain ⟨sv, rv, h1, h2, sp⟩ := ow.ex
    have ow1 : Own K A S K0 _ s ((p1, .lst []) :: M) := ow.mk2 (s := s) (Same.refl K0) ⟨sv, rv, h1, h2, (sp.own (o := .lst []) hp1).dn6⟩
    refine ⟨fun m σ H' => m = 0 ∧ σ = [some (.ref A.pr), some (.ref p1)] ∧ Own K A S K0 H' s ((p1, .lst []) :: M), ⟨0, rfl, rfl, ow1⟩, ?_⟩
    rintro m σ H1 ⟨rfl, rfl, ow2⟩
    obtain ⟨sv2, rv2, k1, k2, sp2⟩ := ow2.ex
    refine ⟨_, rfl, A.pr, A.dp, _, rfl, sp2.c2, rfl, A, S, K0, s, _, rfl, ow2, fun c m => ?_, fun H2 g2 => ⟨_, rfl, iteF ?_⟩⟩
    · obtain ⟨n, hn, _⟩ := (gd.calls c m).st
      exact ⟨(gd.calls c m).ln, _, hn⟩
    have ow3 := ow2.grow g2
    have sp3 := sp2.grow g2
    have hp13 := sp3.up6.c0
    refine ⟨_, rfl, .inl ⟨rfl, _, .inl (.inl hp13)⟩, _, rfl, A.pr, A.dp, _, rfl, sp3.c2, rfl, A, S, K0, s, _, rfl, ow3, gd, hrl, hsl, fun K1 H3 p ev evs s1 g ow4 hp he R => ?_⟩
    obtain ⟨sv4, rv4, m1, m2, sp4⟩ := ow4.ex
    have hlen := he.length
    obtain ⟨d0, d2, d3, hd, R⟩ := R
    have hel := R.el
    refine ⟨_, _, _, _, rfl, rfl, sp4.up6.c0, sp4.ext _ _ hp, Nat.le_of_lt (sm (m := 9) (by simp; omega) (by decide)), ?_⟩
    have sp5 := sp4.up6.put0 (o' := .lst ([] ++ ev))
    have g5 := sp5.new0
    have ow5 : Own K A S _ _ s1 M := ow4.mk2 (s := s1) g5 ⟨sv4, rv4, m1.mono fun _ _ z => CallAt.up g5 z, m2.mono fun _ _ z => RowAt.up g5 z, sp5.freeze⟩
    exact ⟨_, rfl, q _ _ p1 ev evs s1 (Same.tr g g5) ow5 (by rw [List.nil_append]; exact upd_same) (he.mono fun _ _ z => EvAt.up g5 z) ⟨d0, d2, d3, hd, R⟩⟩
abbrev N_Processor_take : List Str := ["self", "lines", "line"]
theorem sc_Processor_take : FnScope N_Processor_take ["self", "lines"] (C8.fnScope s_Processor_take) := C8.fnScope_by (by decide +kernel)
theorem ok_Processor_take {fd : FuncData} (T : Txt K mg) (F : FunD K "take" "Processor.take" (C8.fnArgs s_Processor_take) (C8.fnBody s_Processor_take) (C8.fnScope s_Processor_take) [] [] (He.ma K (aC "Processor" K) "take") fd) (c_lets_by : C8.Met P w K mg base 4 (aC "Processor" K) "_lets_by" (sp_Processor_lets_by K) []) (c_begin : C8.Met P w K mg base 5 (aC "Board" K) "begin" (sp_Board_begin K) []) (c_go_through : C8.Met P w K mg base 4 (aC "Processor" K) "_go_through" (sp_Processor_go_through K) []) :
    C8.Met P w K mg base 6 (aC "Processor" K) "take" (sp_Processor_take K) [] := by
  refine C8.met0 T.cl_Processor T.m_Processor_take (fun_c8 F) (F.bindsN fun _ _ _ _ _ _ us hl => match us, hl with | [_, _], _ => rfl) sc_Processor_take (fun vs H Q E h => ?_) (fun cdv A outer s H vs Q E hr h => ?_)
  · obtain ⟨_, _, _, _, _, _, _, rfl, _⟩ := h
    rfl
  · have nd := sc_Processor_take.nd
    have hu := hu_of hr
    obtain ⟨A, S, K0, s, M, lp, ns, rfl, ow, gd, hrl, hsl, hlp, hns, q⟩ := h
    refine ⟨_, (pss_cons (ps_if (PW.pt (pw_or (pt_not (pt_truth (pv 1) (by intro _; rfl))) (pw_or1 (pt_not (pt_val (C8.pe_mt c_lets_by hr (by decide) (pv 0) (pa_cons (pe_ix ix_list (pv 1) pe_int (fun _ _ => rfl)) pa_nil))))))) (pss_one (ps_ret (pe_lst pa_nil))) pss_nil)
      (pss_cons (ps_set (i := 2) nd rfl (Or.inl rfl) (pe_ix ix_list (pv 1) pe_int (fun _ _ => rfl)))
      (pss_cons (ps_expr (C8.pe_mt c_begin hr (by decide) (pe_fld (pv 0) rfl) (pa_cons (pv 2) pa_nil)))
      (pss_cons (ps_expr (pe_bm PySem.F.plainAttrs_list PySem.F.slot_list_append PySem.F.type_list_append mt_append (pe_fld (pv 0) rfl) (pa_cons (pe_tup (pa_cons (pv 2) (pa_cons pe_int (pa_cons pe_int (pa_cons (pe_fld (pv 0) rfl) pa_nil))))) pa_nil)))
      (pss_one (ps_ret (pe_lst (pa_cons (pe_tup (pa_cons pe_str (pa_cons (pv 2) pa_nil))) (StX.pa_star (C8.pe_mt0 c_go_through hr (by decide) (pv 0)) pa_nil))))))))), ?_⟩
    obtain ⟨sv, rv, h1, h2, sp⟩ := ow.ex
    have hpr := sp.c2
    have hlp1 := sp.ext _ _ hlp
    cases ns with
    | nil =>
      refine ⟨_, rfl, false, .inl ⟨_, l_of hlp1, rfl⟩, iteT ?_⟩
      refine ⟨Nat.zero_le _, fun p hp => ?_⟩
      have ow2 : Own K A S K0 _ s ((p, .lst []) :: M) := ow.mk2 (s := s) (Same.refl K0) ⟨sv, rv, h1, h2, (sp.own (o := .lst []) hp).dn6⟩
      exact q K0 _ p [] [] s (Same.refl K0) ow2 .nil ⟨gd, (fun _ m => nomatch m), by simp [ecost], by simp [dcost], rfl, rfl, rfl, rfl, by omega, by omega, by simp⟩
    | cons n ns =>
    obtain ⟨l, hl, rfl⟩ := ow.fb.ok.line (hns n List.mem_cons_self)
    refine ⟨_, rfl, true, .inl ⟨_, l_of hlp1, rfl⟩, iteF ?_⟩
    refine ⟨_, rfl, A.pr, A.dp, _, rfl, hpr, rfl, _, rfl, _, _, _, _, rfl, rfl, l_of hlp1, atI0, A, S, K0, s, M, l, rfl, ow, hl, fun c m => (gd.calls c m).ln, fun b => ⟨b, rfl, ?_⟩⟩
    cases b with
    | false =>
      refine iteT ?_
      refine ⟨Nat.zero_le _, fun p hp => ?_⟩
      have ow2 : Own K A S K0 _ s ((p, .lst []) :: M) := ow.mk2 (s := s) (Same.refl K0) ⟨sv, rv, h1, h2, (sp.own (o := .lst []) hp).dn6⟩
      exact q K0 _ p [] [] s (Same.refl K0) ow2 .nil ⟨gd, (fun _ m => nomatch m), by simp [ecost], by simp [dcost], rfl, rfl, rfl, rfl, by omega, by omega, by simp⟩
    | true =>
    refine iteF ?_
    refine ⟨_, rfl, _, _, _, _, rfl, rfl, l_of hlp1, atI0, ?_⟩
    obtain ⟨db, d0, fl0, mg0, hbo, _⟩ := (BoardAt.up sp.ext ow.fb).ex
    refine ⟨_, rfl, _, _, _, _, _, rfl, hpr, T.cl_Processor, T.t_Processor_board, rfl, A.bo, db, _, rfl, hbo, rfl, _, rfl, A.bo, A.su, A.r, A.u, S, l, K0, s.rung, s.und, _, rfl, ow.fb, hl, sp, fun H1 sp1 => ?_⟩
    have hpr1 := sp1.c2
    refine ⟨_, rfl, _, _, _, _, _, rfl, hpr1, T.cl_Processor, T.t_Processor_stack, rfl, .inl ⟨rfl, _, .inl (.inl sp1.c3)⟩, _, rfl, _, rfl, _, _, _, _, _, rfl, hpr1, T.cl_Processor, T.t_Processor_bar, rfl, small8 (by simp), fun t2 ht2 => ?_⟩
    have sp2 := sp1.keep (o := .tup [.str l.name, .int 0, .int 0, .int s.bar]) ht2
    have g2 := sp1.newk (o := .tup [.str l.name, .int 0, .int 0, .int s.bar]) ht2
    refine ⟨_, _, _, rfl, rfl, sp2.c3, sm (m := 4000) (by have := h1.length; omega) (by decide), ?_⟩
    have sp3 := sp2.put3 (y := .lst (sv ++ [.ref t2]))
    refine ⟨_, rfl, small8 (by simp), fun t3 ht3 => ?_⟩
    have sp4 := sp3.keep (o := .tup [.str "begin", .str l.name]) ht3
    have g4 := sp3.newk (o := .tup [.str "begin", .str l.name]) ht3
    have g := Same.tr g2 g4
    have ow4 : Own K A S _ _ { s with rung := fset s.rung l.name false, und := fset s.und l.name true, stack := s.stack ++ [⟨l, 0, 0, s.bar⟩] } M := ow.mk2 (s := { s with rung := fset s.rung l.name false, und := fset s.und l.name true, stack := s.stack ++ [⟨l, 0, 0, s.bar⟩] }) g ⟨sv ++ [.ref t2], rv, Paired.snoc (h1.mono fun _ _ z => CallAt.up g z) ⟨t2, rfl, t_of (g4 _ _ upd_same)⟩, h2.mono fun _ _ z => RowAt.up g z, sp4⟩
    refine ⟨_, rfl, A.pr, A.dp, _, rfl, sp4.c2, rfl, A, S, _, _, M, s.stack, ⟨l, 0, 0, s.bar⟩, rfl, ow4, rfl, hl, Nat.zero_le _, rfl, gd.calls, gd.rows, (show s.rows.length ≤ 3900 by omega), (by simp; omega), ow.fb.ok.all, fun K1 H2 p ev evs s1 g5 ow5 hp he R => ?_⟩
    obtain ⟨sv5, rv5, m1, m2, sp5⟩ := ow5.ex
    have hel := R.el
    have hlen := he.length
    refine ⟨p, ev, rfl, .inr (l_of (sp5.ext _ _ hp)), Nat.le_of_lt (sm (m := 9) (by simp; omega) (by decide)), fun z hz => ?_⟩
    have sp6 := sp5.own (o := .lst (.ref t3 :: (ev ++ []))) hz
    have ow6 : Own K A S K1 _ s1 ((z, .lst (.ref t3 :: (ev ++ []))) :: M) := ow5.mk2 (s := s1) (Same.refl K1) ⟨sv5, rv5, m1, m2, sp6.dn6⟩
    refine q K1 _ z _ (.bgn l :: evs) s1 (Same.tr g g5) ow6 ?_ ⟨R.good, fun e m => ?_, ?_, ?_, ?_, R.h1, ?_, ?_, ?_, R.rw, by simp; omega⟩
    · rw [List.append_nil]
      exact .cons ⟨t3, rfl, t_of (g5 _ _ upd_same)⟩ he
    · rcases List.mem_cons.mp m with m | m
      · subst m
        exact hl
      · exact R.ev e m
    · have z := R.due
      simp only [due_snoc] at z
      have e1 : ecost (.bgn l :: evs) = 0 + ecost evs := rfl
      have e2 : bef ⟨l, 0, 0, s.bar⟩ = 0 := rfl
      omega
    · have z := R.rs
      have e1 : dcost (.bgn l :: evs) = 0 + dcost evs := rfl
      simp only at z
      omega
    · have z := R.h0
      simp only at z
      omega
    · have z := R.h2
      simp only at z
      omega
    · have z := R.h3
      simp only at z
      omega
    · have z := R.ln
      simpa using z
end
end Cb

namespace Cb
open PySem PySem.Spec PyProof.Rows L2

theorem perm6 {α : Type} (x co ro st r u : α) (M : List α) : (r :: u :: x :: st :: ro :: co :: M).Perm (x :: co :: ro :: st :: r :: u :: M) :=
  (List.perm_middle (l₁ := [r, u])).trans (.cons x ((List.perm_middle (l₁ := [r, u, st, ro])).trans (.cons co ((List.perm_middle (l₁ := [r, u, st])).trans (.cons ro (List.perm_middle (l₁ := [r, u])))))))

section
variable {P : Program} {w : World} {K : PySem.W.Frag} {mg : Str → Option Value} {base : Heap}

abbrev N_Processor_spent_ticks : List Str := ["self"]
theorem sc_Processor_spent_ticks : FnScope N_Processor_spent_ticks ["self"] (C8.fnScope s_Processor_spent_ticks) := C8.fnScope_by (by decide +kernel)
theorem ok_Processor_spent_ticks {fd : FuncData} (T : Txt K mg) (F : FunD K "spent_ticks" "Processor.spent_ticks" (C8.fnArgs s_Processor_spent_ticks) (C8.fnBody s_Processor_spent_ticks) (C8.fnScope s_Processor_spent_ticks) [] [] (He.ma K (aC "Processor" K) "spent_ticks") fd) :
    C8.Met P w K mg base 1 (aC "Processor" K) "spent_ticks" (sp_Processor_spent_ticks K) [] := by
  refine C8.met0 T.cl_Processor T.m_Processor_spent_ticks (fun_c8 F) (F.bindsN fun _ _ _ _ _ _ us hl => match us, hl with | [_], _ => rfl) sc_Processor_spent_ticks (fun vs H Q E h => ?_) (fun cdv A outer s H vs Q E hr h => ?_)
  · obtain ⟨_, _, _, _, _, rfl, _⟩ := h
    rfl
  · have nd := sc_Processor_spent_ticks.nd
    have hu := hu_of hr
    obtain ⟨A, S, K0, s, M, rfl, ow, q⟩ := h
    refine ⟨_, (pss_one (ps_ret (pe_callTy call_tuple_of (by rfl) T.n_tuple (by decide +kernel) (pa_cons (pe_fld (pv 0) rfl) pa_nil)))), ?_⟩
    obtain ⟨sv, rv, h1, h2, sp⟩ := ow.ex
    have hpr := sp.c2
    refine ⟨_, rfl, _, _, _, _, _, rfl, hpr, T.cl_Processor, T.t_Processor_counts, rfl, _, _, rfl, .inl ⟨l_of sp.c5, fun p hp => ?_⟩⟩
    have g := sp.newk (o := .tup [.int s.c0, .int s.c1, .int s.c2, .int s.c3]) hp
    exact q _ _ p g (ow.mk2 (s := s) g ⟨sv, rv, h1.mono fun _ _ z => CallAt.up g z, h2.mono fun _ _ z => RowAt.up g z, sp.keep hp⟩) upd_same
abbrev N_Processor_call_rows : List Str := ["self", "call"]
theorem sc_Processor_call_rows : FnScope N_Processor_call_rows ["self"] (C8.fnScope s_Processor_call_rows) := C8.fnScope_by (by decide +kernel)
theorem ok_Processor_call_rows {fd : FuncData} (T : Txt K mg) (F : FunD K "call_rows" "Processor.call_rows" (C8.fnArgs s_Processor_call_rows) (C8.fnBody s_Processor_call_rows) (C8.fnScope s_Processor_call_rows) [] [] (He.ma K (aC "Processor" K) "call_rows") fd) :
    C8.Met P w K mg base 1 (aC "Processor" K) "call_rows" (sp_Processor_call_rows K) [] := by
  refine C8.met0 T.cl_Processor T.m_Processor_call_rows (fun_c8 F) (F.bindsN fun _ _ _ _ _ _ us hl => match us, hl with | [_], _ => rfl) sc_Processor_call_rows (fun vs H Q E h => ?_) (fun cdv A outer s H vs Q E hr h => ?_)
  · obtain ⟨_, _, _, _, _, rfl, _⟩ := h
    rfl
  · have nd := sc_Processor_call_rows.nd
    have hu := hu_of hr
    obtain ⟨A, S, K0, s, M, rfl, ow, hl, q⟩ := h
    refine ⟨_, (pss_one (ps_ret (pe_lc (own := [("call", 1)]) rfl nd (pi_list (pe_fld (pv 0) rfl)) (blkOk_by (own := [("call", 1)]) (N := N_Processor_call_rows) (sc := (C8.fnScope s_Processor_call_rows)) (by decide +kernel)) (fun _ _ _ _ _ => (pg_name (i := 1) nd rfl (Or.inl rfl))) (fun _ _ _ _ _ => pts_nil) (fun _ _ _ _ _ => (pe_slice (sl_tup : SlR _ (rSlT K)) (pv 1) po_none (po_some pe_int)))))), ?_⟩
    obtain ⟨sv, rv, h1, h2, sp⟩ := ow.ex
    have hpr := sp.c2
    have hlen := h1.length
    refine ⟨_, rfl, _, _, _, _, _, rfl, hpr, T.cl_Processor, T.t_Processor_stack, rfl, _, rfl, ⟨_, l_of sp.c3⟩, fun D hD => ?_⟩
    refine lc_it (walk_list (xs := sv)) (fun i H' => ∃ K' acc, Same K0 K' ∧ Sep K' H' ((D, .lst acc) :: lay K A S s sv rv M) ∧ Paired (C3At K K') acc (s.stack.take i)) ⟨K0, [], Same.refl _, sp.own hD, .nil⟩ ?_ ?_ ?_
    · rintro i H' _ ⟨K', acc, g, sp', _⟩
      exact l_of sp'.c4
    · rintro i v H1 H2 hi ⟨K', acc, g, sp', pr⟩ ⟨rfl, e2⟩
      obtain ⟨c, hc, t, rfl, ht⟩ := pget h1 e2
      have hlc := pr.length
      refine ⟨rfl, ⟨_, rfl, _, rfl, _, _, rfl, Same.tup (Same.tr g sp'.ext) ht, by simp [HT.sIx], fun p hp => ?_⟩⟩
      rw [cut3]
      have z := sp'.keep (o := .tup [.str c.line.name, .int (c.step : Nat), .int c.ticks]) hp
      have gz := sp'.newk (o := .tup [.str c.line.name, .int (c.step : Nat), .int c.ticks]) hp
      refine ⟨_, z.c0, sm (m := 4000) (by simp at hlc; omega) (by decide), _, _, Same.tr g gz, z.put0, ?_⟩
      rw [take_snoc hc]
      exact Paired.snoc (pr.mono fun _ _ z => C3At.up gz z) ⟨p, rfl, t_of upd_same⟩
    rintro H1 ⟨K', acc, g, sp', pr⟩
    rw [List.take_of_length_le (by omega)] at pr
    have g1 := sp'.new0
    have gA := Same.tr g g1
    exact q _ _ D acc gA (ow.mk2 (s := s) gA ⟨sv, rv, h1.mono fun _ _ z => CallAt.up gA z, h2.mono fun _ _ z => RowAt.up gA z, sp'.freeze⟩) upd_same (pr.mono fun _ _ z => C3At.up g1 z)
abbrev N_Processor_init : List Str := ["self", "setup", "board"]
theorem sc_Processor_init : FnScope N_Processor_init ["self", "setup", "board"] (C8.fnScope s_Processor_init) := C8.fnScope_by (by decide +kernel)
theorem ok_Processor_init {fd : FuncData} (T : Txt K mg) (F : FunD K "__init__" "Processor.__init__" (C8.fnArgs s_Processor_init) (C8.fnBody s_Processor_init) (C8.fnScope s_Processor_init) [] [] (He.ma K (aC "Processor" K) "__init__") fd) (c_works : FnP P w K mg base 1 (prA "Setup" "works" K) (sp_Setup_works K)) (c_WorkQueue : C8.Mak P w K mg base 1 "WorkQueue" (aC "WorkQueue" K) (sp_WorkQueue_init K) []) :
    C8.Mak P w K mg base 4 "Processor" (aC "Processor" K) (sp_Processor_init K) [] := by
  refine C8.mak0 (ds := []) T.mk_Processor T.g_Processor (fun_c8 F) (F.bindsN fun _ _ _ _ _ _ us hl => match us, hl with | [_, _, _], _ => rfl) .nil sc_Processor_init (fun vs H Q E h => ?_) (fun cdv A outer s H vs Q E hr h => ?_)
  · obtain ⟨_, _, _, _, _, _, _, _, _, rfl, _⟩ := h
    rfl
  · have nd := sc_Processor_init.nd
    have hu := hu_of hr
    obtain ⟨x, dx, bo, su, r, u, S, K0, M, rfl, sp, B, q⟩ := h
    obtain ⟨pw, hpw⟩ := T.p_Setup_works
    refine ⟨_, (pss_cons (ps_fld (pv 0) (pv 1) rfl)
      (pss_cons (ps_fld (pv 0) (pv 2) rfl)
      (pss_cons (ps_fld (pv 0) pe_int rfl)
      (pss_cons (ps_fld (pv 0) (pe_lst pa_nil) rfl)
      (pss_cons (ps_fld (pv 0) (C8.pe_mk c_WorkQueue hr (by decide) rfl (pa_cons (C_prop hpw T.cl_Setup c_works hr (by decide) (pv 1)) pa_nil)) rfl)
      (pss_one (ps_fld (pv 0) (pe_lst (pa_cons pe_int (pa_cons pe_int (pa_cons pe_int (pa_cons pe_int pa_nil))))) rfl))))))), ?_⟩
    obtain ⟨dx2, la, wa, bn, oa, xs, h3, h3b, h3c, _⟩ := B.su.ex
    refine ⟨_, rfl, _, rfl, _, _, _, _, rfl, sp.c0, T.cl_Processor, T.t_Processor_setup, (by simp), ?_⟩
    have t1 := sp.put0 (o' := .ins (aC "Processor" K) dx [("_setup", .ref su)])
    refine ⟨_, rfl, _, rfl, _, _, _, _, rfl, t1.c0, T.cl_Processor, T.t_Processor_board, (by simp), ?_⟩
    have t2 := t1.put0 (o' := .ins (aC "Processor" K) dx [("_setup", .ref su), ("_board", .ref bo)])
    refine ⟨_, rfl, _, _, _, _, rfl, t2.c0, T.cl_Processor, T.t_Processor_bar, (by simp), ?_⟩
    have t3 := t2.put0 (o' := .ins (aC "Processor" K) dx [("_setup", .ref su), ("_board", .ref bo), ("_bar", .int 0)])
    refine ⟨Nat.zero_le _, fun st hst => ?_⟩
    have t4 := (t3.own (o := .lst []) hst).swap
    refine ⟨_, rfl, _, _, _, _, rfl, t4.c0, T.cl_Processor, T.t_Processor_stack, (by simp), ?_⟩
    have t5 := t4.put0 (o' := .ins (aC "Processor" K) dx [("_setup", .ref su), ("_board", .ref bo), ("_bar", .int 0), ("_stack", .ref st)])
    refine ⟨_, rfl, su, dx2, _, rfl, t5.ext _ _ h3, su, S, K0, rfl, B.su, t5.ext, fun wa hwa jo dj hjo hdj hne => ?_⟩
    have t6 := t5.obj (o := .own jo) (o' := .ins (aC "WorkQueue" K) dj []) hjo hdj hne
    refine ⟨jo, dj, wa, S.ws, K0, _, rfl, t6, hwa, B.ok.okw, fun K1 H1 ro g1 hJ t7 => ⟨rfl, ?_⟩⟩
    refine ⟨_, rfl, _, _, _, _, rfl, t7.c1, T.cl_Processor, T.t_Processor_jobs, (by simp), ?_⟩
    have t8 := t7.swap.put0 (o' := .ins (aC "Processor" K) dx [("_setup", .ref su), ("_board", .ref bo), ("_bar", .int 0), ("_stack", .ref st), ("_jobs", .ref jo)])
    refine ⟨small8 (by simp), fun co hco => ?_⟩
    have t9 := (t8.own (o := .lst [.int 0, .int 0, .int 0, .int 0]) hco).swap
    refine ⟨_, rfl, _, _, _, _, rfl, t9.c0, T.cl_Processor, T.t_Processor_counts, (by simp), ?_⟩
    have tA := t9.put0 (o' := .ins (aC "Processor" K) dx [("_setup", .ref su), ("_board", .ref bo), ("_bar", .int 0), ("_stack", .ref st), ("_jobs", .ref jo), ("_counts", .ref co)])
    exact q K1 _ ⟨su, bo, r, u, x, dx, st, jo, ro, co⟩ g1 rfl rfl rfl ⟨BoardAt.up g1 B, hJ, [], [], .nil, .nil, tA.perm (perm6 _ _ _ _ _ _ _)⟩
end
end Cb

namespace Cb
open PySem PySem.Spec PyProof.Rows L2

def siI (K : PySem.W.Frag) (A : Ad) (dx : Addr) (now : Int) : HO := .ins (aC "Single" K) dx [("_setup", .ref A.su), ("_board", .ref A.bo), ("_processor", .ref A.pr), ("_now", .int now)]
theorem permR {α : Type} {r u pr st ro co si m : α} {M : List α} : (r :: m :: u :: pr :: st :: ro :: co :: si :: M).Perm (r :: u :: pr :: st :: ro :: co :: si :: m :: M) :=
  .cons r (List.perm_middle (l₁ := [u, pr, st, ro, co, si])).symm
def sp_Single_init (K : PySem.W.Frag) : Sp := fun vs H Q _ => ∃ (x dx su : Addr) (S : SetD) (K0 : Hp) (M : List (Addr × HO)), vs = [.ref x, .ref su] ∧ Sep K0 H ((x, .ins (aC "Single" K) dx []) :: M) ∧ SetupAt K K0 su S ∧ SetOk S ∧ (∀ l ∈ S.ls, l.lvl = false) ∧
  ∀ K1 H' A m, Same K0 K1 → A.su = su → MgAt K K1 A.bo m → Own K A S K1 H' st0 ((x, siI K A dx 0) :: (m, .dK (md S.order no0)) :: M) → Q .non H'
def sp_Single_ring (K : PySem.W.Frag) : Sp := fun vs H Q _ => ∃ (A : Ad) (S : SetD) (K0 : Hp) (s : StD) (si dx : Addr) (now : Int) (M : List (Addr × HO)) (l : LineD) (m : Addr) (c : Str → Int), vs = [.ref si, .str l.name] ∧ MgAt K K0 A.bo m ∧ Own K A S K0 H s ((si, siI K A dx now) :: (m, .dK (md S.order c)) :: M) ∧ l ∈ S.ls ∧
  ∀ H' x c', x = ringR (s.rung l.name) → Own K A S K0 H' { s with rung := fset s.rung l.name true } ((si, siI K A dx now) :: (m, .dK (md S.order c')) :: M) → Q (.str x) H'
structure RelK (S : SetD) (s s' : StD) (evs : List Ev) (d0 d2 d3 : Int) : Prop where
  good : Good S s'
  ev : ∀ e ∈ evs, EvOk S e
  due : due s'.stack + ecost evs = due s.stack + d0
  rs : rsum s'.rows + dcost evs = rsum s.rows + d2
  h0 : s'.c0 = s.c0 + d0
  h1 : s'.c1 = s.c1
  h2 : s'.c2 = s.c2 + d2
  h3 : s'.c3 = s.c3 + d3
  ln : s'.stack.length ≤ s.stack.length + 1
  rw : s'.rows.length ≤ s.rows.length + 16
  el : evs.length ≤ 3
def sp_Single_tick (K : PySem.W.Frag) : Sp := fun vs H Q _ => ∃ (A : Ad) (S : SetD) (K0 : Hp) (s : StD) (si dx : Addr) (now : Int) (M : List (Addr × HO)), vs = [.ref si] ∧ Own K A S K0 H s ((si, siI K A dx now) :: M) ∧ Good S s ∧ s.rows.length ≤ 3700 ∧ s.stack.length ≤ 3700 ∧
  ∀ K1 H' p ev evs s', Same K0 K1 → Own K A S K1 H' s' ((si, siI K A dx (now + 1)) :: M) → K1 p = some (.lst ev) → Paired (EvAt K K1) ev evs → (∃ d0 d2 d3, d0 + d2 + d3 = 1 ∧ RelK S s s' evs d0 d2 d3) → Q (.ref p) H'
def sp_Single_calls (K : PySem.W.Frag) : Sp := fun vs H Q _ => ∃ (A : Ad) (S : SetD) (K0 : Hp) (s : StD) (si dx : Addr) (now : Int) (M : List (Addr × HO)), vs = [.ref si] ∧ Own K A S K0 H s ((si, siI K A dx now) :: M) ∧ s.stack.length ≤ 3900 ∧
  ∀ K1 H' p ev, Same K0 K1 → Own K A S K1 H' s ((si, siI K A dx now) :: M) → K1 p = some (.lst ev) → Paired (C3At K K1) ev s.stack → Q (.ref p) H'
def sp_Single_queue (K : PySem.W.Frag) : Sp := fun vs H Q _ => ∃ (A : Ad) (S : SetD) (K0 : Hp) (s : StD) (si dx : Addr) (now : Int) (M : List (Addr × HO)), vs = [.ref si] ∧ Own K A S K0 H s ((si, siI K A dx now) :: M) ∧ s.rows.length ≤ 3900 ∧
  ∀ K1 H' p ev, Same K0 K1 → Own K A S K1 H' s ((si, siI K A dx now) :: M) → K1 p = some (.lst ev) → Paired (RowAt K K1) ev s.rows → Q (.ref p) H'
def sp_Single_spent (K : PySem.W.Frag) : Sp := fun vs H Q _ => ∃ (A : Ad) (S : SetD) (K0 : Hp) (s : StD) (si dx : Addr) (now : Int) (M : List (Addr × HO)), vs = [.ref si] ∧ Own K A S K0 H s ((si, siI K A dx now) :: M) ∧
  ∀ K1 H' p, Same K0 K1 → Own K A S K1 H' s ((si, siI K A dx now) :: M) → K1 p = some (.tup [.int s.c0, .int s.c1, .int s.c2, .int s.c3]) → Q (.ref p) H'
theorem Own.fr {K : PySem.W.Frag} {A : Ad} {S : SetD} {K0 H : Hp} {s : StD} {M : List (Addr × HO)} {a : Addr} {o : HO} (h : Own K A S K0 H s ((a, o) :: M)) : H a = some o := by
  obtain ⟨sv, rv, h1, h2, sp⟩ := h.ex
  exact sp.up6.c0
theorem Own.pr {K : PySem.W.Frag} {A : Ad} {S : SetD} {K0 H : Hp} {s : StD} {M : List (Addr × HO)} (h : Own K A S K0 H s M) : H A.pr = some (prI K A s.bar) := by
  obtain ⟨sv, rv, h1, h2, sp⟩ := h.ex
  exact sp.c2
theorem Own.same {K : PySem.W.Frag} {A : Ad} {S : SetD} {K0 H : Hp} {s : StD} {M : List (Addr × HO)} (h : Own K A S K0 H s M) : Same K0 H := by
  obtain ⟨sv, rv, h1, h2, sp⟩ := h.ex
  exact sp.ext
theorem Own.putM {K : PySem.W.Frag} {A : Ad} {S : SetD} {K0 H : Hp} {s : StD} {M : List (Addr × HO)} {a : Addr} {o o' : HO} (h : Own K A S K0 H s ((a, o) :: M)) : Own K A S K0 (upd H a o') s ((a, o') :: M) := by
  obtain ⟨sv, rv, h1, h2, sp⟩ := h.ex
  exact ⟨h.fb, h.fj, sv, rv, h1, h2, sp.up6.put0.dn6⟩
theorem Own.swapM {K : PySem.W.Frag} {A : Ad} {S : SetD} {K0 H : Hp} {s : StD} {M : List (Addr × HO)} {e f : Addr × HO} (h : Own K A S K0 H s (e :: f :: M)) : Own K A S K0 H s (f :: e :: M) := by
  obtain ⟨sv, rv, h1, h2, sp⟩ := h.ex
  exact ⟨h.fb, h.fj, sv, rv, h1, h2, sp.perm (.cons _ (.cons _ (.cons _ (.cons _ (.cons _ (.cons _ (.swap _ _ _)))))))⟩
theorem Own.freezeM {K : PySem.W.Frag} {A : Ad} {S : SetD} {K0 H : Hp} {s : StD} {M : List (Addr × HO)} {a : Addr} {o : HO} (h : Own K A S K0 H s ((a, o) :: M)) : Own K A S (upd K0 a o) H s M ∧ Same K0 (upd K0 a o) := by
  obtain ⟨sv, rv, h1, h2, sp⟩ := h.ex
  have g := sp.up6.new0
  exact ⟨h.mk2 (s := s) g ⟨sv, rv, h1.mono fun _ _ z => CallAt.up g z, h2.mono fun _ _ z => RowAt.up g z, sp.up6.freeze⟩, g⟩
theorem Own.ownM' {K : PySem.W.Frag} {A : Ad} {S : SetD} {K0 H H' : Hp} {s : StD} {M : List (Addr × HO)} {a : Addr} {o : HO} (h : Own K A S K0 H s M) (g : Same H H') (e : H a = none) (e' : H' a = some o) : Own K A S K0 H' s ((a, o) :: M) := by
  obtain ⟨sv, rv, h1, h2, sp⟩ := h.ex
  exact ⟨h.fb, h.fj, sv, rv, h1, h2, (sp.own' g e e').dn6⟩

section
variable {P : Program} {w : World} {K : PySem.W.Frag} {mg : Str → Option Value} {base : Heap}

abbrev N_Single_ring : List Str := ["self", "line"]
theorem sc_Single_ring : FnScope N_Single_ring ["self", "line"] (C8.fnScope s_Single_ring) := C8.fnScope_by (by decide +kernel)
theorem ok_Single_ring {fd : FuncData} (T : Txt K mg) (F : FunD K "ring" "Single.ring" (C8.fnArgs s_Single_ring) (C8.fnBody s_Single_ring) (C8.fnScope s_Single_ring) [] [] (He.ma K (aC "Single" K) "ring") fd) (c_ring : C8.Met P w K mg base 3 (aC "Board" K) "ring" (sp_Board_ring K) []) :
    C8.Met P w K mg base 4 (aC "Single" K) "ring" (sp_Single_ring K) [] := by
  refine C8.met0 T.cl_Single T.m_Single_ring (fun_c8 F) (F.bindsN fun _ _ _ _ _ _ us hl => match us, hl with | [_, _], _ => rfl) sc_Single_ring (fun vs H Q E h => ?_) (fun cdv A outer s H vs Q E hr h => ?_)
  · obtain ⟨_, _, _, _, _, _, _, _, _, _, _, rfl, _⟩ := h
    rfl
  · have nd := sc_Single_ring.nd
    have hu := hu_of hr
    obtain ⟨A, S, K0, s, si, dx, now, M, l, m, c, rfl, hM, ow, hl, q⟩ := h
    refine ⟨_, (pss_one (ps_ret (C8.pe_mt c_ring hr (by decide) (pe_fld (pv 0) rfl) (pa_cons (pv 1) pa_nil)))), ?_⟩
    have hsi := ow.fr
    obtain ⟨sv, rv, h1, h2, sp⟩ := ow.ex
    obtain ⟨db, d0, fl0, mg0, hbo, _⟩ := (BoardAt.up sp.ext ow.fb).ex
    refine ⟨_, rfl, _, _, _, _, _, rfl, hsi, T.cl_Single, T.t_Single_board, rfl, A.bo, db, _, rfl, hbo, rfl, _, rfl, A.bo, A.su, A.r, A.u, S, l, K0, s.rung, _, m, c, rfl, ow.fb, hM, hl, sp.perm permR, fun H1 x c' ex sp1 => q H1 x c' ex ⟨ow.fb, ow.fj, sv, rv, h1, h2, sp1.perm permR.symm⟩⟩
abbrev N_Single_calls : List Str := ["self"]
theorem sc_Single_calls : FnScope N_Single_calls ["self"] (C8.fnScope s_Single_calls) := C8.fnScope_by (by decide +kernel)
theorem ok_Single_calls {fd : FuncData} (T : Txt K mg) (F : FunD K "calls" "Single.calls" (C8.fnArgs s_Single_calls) (C8.fnBody s_Single_calls) (C8.fnScope s_Single_calls) [] [] (prA "Single" "calls" K) fd) (c_call_rows : C8.Met P w K mg base 1 (aC "Processor" K) "call_rows" (sp_Processor_call_rows K) []) :
    FnP P w K mg base 2 (prA "Single" "calls" K) (sp_Single_calls K) := by
  refine fnP_mk (fun_c8 F) (F.bindsN fun _ _ _ _ _ _ us hl => match us, hl with | [_], _ => rfl) sc_Single_calls (fun vs H Q E h => ?_) (fun cdv A outer s H vs Q E hr h => ?_)
  · obtain ⟨_, _, _, _, _, _, _, _, rfl, _⟩ := h
    rfl
  · have nd := sc_Single_calls.nd
    have hu := hu_of hr
    obtain ⟨A, S, K0, s, si, dx, now, M, rfl, ow, hl, q⟩ := h
    refine ⟨_, (pss_one (ps_ret (C8.pe_mt0 c_call_rows hr (by decide) (pe_fld (pv 0) rfl)))), ?_⟩
    have hsi := ow.fr
    exact ⟨_, rfl, _, _, _, _, _, rfl, hsi, T.cl_Single, T.t_Single_processor, rfl, A.pr, A.dp, _, rfl, ow.pr, rfl, A, S, K0, s, _, rfl, ow, hl, q⟩
abbrev N_Single_spent : List Str := ["self"]
theorem sc_Single_spent : FnScope N_Single_spent ["self"] (C8.fnScope s_Single_spent) := C8.fnScope_by (by decide +kernel)
theorem ok_Single_spent {fd : FuncData} (T : Txt K mg) (F : FunD K "spent" "Single.spent" (C8.fnArgs s_Single_spent) (C8.fnBody s_Single_spent) (C8.fnScope s_Single_spent) [] [] (prA "Single" "spent" K) fd) (c_spent_ticks : C8.Met P w K mg base 1 (aC "Processor" K) "spent_ticks" (sp_Processor_spent_ticks K) []) :
    FnP P w K mg base 2 (prA "Single" "spent" K) (sp_Single_spent K) := by
  refine fnP_mk (fun_c8 F) (F.bindsN fun _ _ _ _ _ _ us hl => match us, hl with | [_], _ => rfl) sc_Single_spent (fun vs H Q E h => ?_) (fun cdv A outer s H vs Q E hr h => ?_)
  · obtain ⟨_, _, _, _, _, _, _, _, rfl, _⟩ := h
    rfl
  · have nd := sc_Single_spent.nd
    have hu := hu_of hr
    obtain ⟨A, S, K0, s, si, dx, now, M, rfl, ow, q⟩ := h
    refine ⟨_, (pss_one (ps_ret (C8.pe_mt0 c_spent_ticks hr (by decide) (pe_fld (pv 0) rfl)))), ?_⟩
    have hsi := ow.fr
    exact ⟨_, rfl, _, _, _, _, _, rfl, hsi, T.cl_Single, T.t_Single_processor, rfl, A.pr, A.dp, _, rfl, ow.pr, rfl, A, S, K0, s, _, rfl, ow, q⟩
abbrev N_Single_tick : List Str := ["self", "events"]
theorem sc_Single_tick : FnScope N_Single_tick ["self"] (C8.fnScope s_Single_tick) := C8.fnScope_by (by decide +kernel)
theorem ok_Single_tick {fd : FuncData} (T : Txt K mg) (F : FunD K "tick" "Single.tick" (C8.fnArgs s_Single_tick) (C8.fnBody s_Single_tick) (C8.fnScope s_Single_tick) [] [] (He.ma K (aC "Single" K) "tick") fd) (c_take : C8.Met P w K mg base 6 (aC "Processor" K) "take" (sp_Processor_take K) []) (c_ready_lines : C8.Met P w K mg base 7 (aC "Board" K) "ready_lines" (sp_Board_ready_lines K) []) (c_go_on : C8.Met P w K mg base 7 (aC "Processor" K) "go_on" (sp_Processor_go_on K) []) :
    C8.Met P w K mg base 8 (aC "Single" K) "tick" (sp_Single_tick K) [] := by
  refine C8.met0 T.cl_Single T.m_Single_tick (fun_c8 F) (F.bindsN fun _ _ _ _ _ _ us hl => match us, hl with | [_], _ => rfl) sc_Single_tick (fun vs H Q E h => ?_) (fun cdv A outer s H vs Q E hr h => ?_)
  · obtain ⟨_, _, _, _, _, _, _, _, rfl, _⟩ := h
    rfl
  · have nd := sc_Single_tick.nd
    have hu := hu_of hr
    obtain ⟨A, S, K0, s, si, dx, now, M, rfl, ow, gd, hrl, hsl, q⟩ := h
    refine ⟨_, (pss_cons (ps_set (i := 1) nd rfl (Or.inl rfl) (C8.pe_mt c_take hr (by decide) (pe_fld (pv 0) rfl) (pa_cons (C8.pe_mt0 c_ready_lines hr (by decide) (pe_fld (pv 0) rfl)) pa_nil)))
      (pss_cons (ps_expr (pe_bm PySem.F.plainAttrs_list PySem.F.slot_list_extend PySem.F.type_list_extend mt_extend (pv 1) (pa_cons (C8.pe_mt0 c_go_on hr (by decide) (pe_fld (pv 0) rfl)) pa_nil)))
      (pss_cons (ps_fldaug (pv 0) pe_int in_add)
      (pss_one (ps_ret (pv 1)))))), ?_⟩
    have hsi := ow.fr
    obtain ⟨sv, rv, h1, h2, sp⟩ := ow.ex
    have fb1 := BoardAt.up sp.ext ow.fb
    obtain ⟨db, d0, fl0, mg0, hbo, _⟩ := fb1.ex
    refine ⟨_, rfl, _, _, _, _, _, rfl, hsi, T.cl_Single, T.t_Single_processor, rfl, A.pr, A.dp, _, rfl, ow.pr, rfl, ?_⟩
    refine ⟨_, rfl, _, _, _, _, _, rfl, hsi, T.cl_Single, T.t_Single_board, rfl, A.bo, db, _, rfl, hbo, rfl, A.bo, A.su, A.r, A.u, S, s.rung, s.und, rfl, fb1, sp.c0, sp.c1, fun lp H1 g1 hlp hlp1 => ?_⟩
    have owf := (ow.ownM' g1 hlp hlp1).freezeM
    refine ⟨A, S, _, s, _, lp, _, rfl, owf.1, gd, by omega, by omega, upd_same, fun n m => (List.mem_filter.mp (List.mem_filter.mp m).1).1, fun K1 H2 p ev evs s1 g2 ow2 he R => ?_⟩
    have hsi2 := ow2.swapM.fr
    have r1 := R.rw
    have r2 := R.ln
    refine ⟨_, rfl, .inl ⟨rfl, _, .inl (.inl ow2.fr)⟩, _, rfl, _, _, _, _, _, rfl, hsi2, T.cl_Single, T.t_Single_processor, rfl, A.pr, A.dp, _, rfl, ow2.pr, rfl, A, S, K1, s1, _, rfl, ow2, R.good, by omega, by omega, fun K2 H3 p2 ev2 evs2 s2 g3 ow3 hp2 he2 hR2 => ?_⟩
    obtain ⟨d0, d2, d3, hd, R2⟩ := hR2
    have l1 := he.length
    have l2 := he2.length
    have e1 := R.el
    have e2 := R2.el
    refine ⟨p, p2, ev, ev2, rfl, rfl, ow3.fr, ow3.same _ _ hp2, Nat.le_of_lt (sm (m := 9) (by omega) (by decide)), ?_⟩
    have ow4 := ow3.putM (o' := .lst (ev ++ ev2))
    have hsi4 := ow4.swapM.fr
    refine ⟨_, rfl, _, _, _, _, _, rfl, hsi4, T.cl_Single, T.t_Single_now, rfl, _, _, rfl, rfl, _, _, hsi4, by simp, ?_⟩
    have ow5 := ow4.swapM.putM (o' := siI K A dx (now + 1))
    obtain ⟨ow6, g6⟩ := ow5.swapM.freezeM
    have gA := Same.tr owf.2 (Same.tr g2 (Same.tr g3 g6))
    refine ⟨_, rfl, q _ _ p (ev ++ ev2) (evs ++ evs2) s2 gA ow6 upd_same (papp (he.mono fun _ _ z => EvAt.up (Same.tr g3 g6) z) (he2.mono fun _ _ z => EvAt.up g6 z)) ⟨d0, d2, d3, hd, R2.good, fun e m => ?_, ?_, ?_, ?_, ?_, ?_, ?_, ?_, ?_, ?_⟩⟩
    · exact (List.mem_append.mp m).elim (R.ev e) (R2.ev e)
    · have z1 := R.due
      have z2 := R2.due
      have z3 : ecost (evs ++ evs2) = ecost evs + ecost evs2 := by simp [ecost]
      omega
    · have z1 := R.rs
      have z2 := R2.rs
      have z3 : dcost (evs ++ evs2) = dcost evs + dcost evs2 := by simp [dcost]
      omega
    · have := R.h0; have := R2.h0; omega
    · have := R.h1; have := R2.h1; omega
    · have := R.h2; have := R2.h2; omega
    · have := R.h3; have := R2.h3; omega
    · have := R.ln; have := R2.ln; omega
    · have := R.rw; have := R2.rw; omega
    · simp; omega
abbrev N_Single_init : List Str := ["self", "setup"]
theorem sc_Single_init : FnScope N_Single_init ["self", "setup"] (C8.fnScope s_Single_init) := C8.fnScope_by (by decide +kernel)
theorem ok_Single_init {fd : FuncData} (T : Txt K mg) (F : FunD K "__init__" "Single.__init__" (C8.fnArgs s_Single_init) (C8.fnBody s_Single_init) (C8.fnScope s_Single_init) [] [] (He.ma K (aC "Single" K) "__init__") fd) (c_Board : C8.Mak P w K mg base 3 "Board" (aC "Board" K) (sp_Board_init K) []) (c_Processor : C8.Mak P w K mg base 4 "Processor" (aC "Processor" K) (sp_Processor_init K) []) :
    C8.Mak P w K mg base 7 "Single" (aC "Single" K) (sp_Single_init K) [] := by
  refine C8.mak0 (ds := []) T.mk_Single T.g_Single (fun_c8 F) (F.bindsN fun _ _ _ _ _ _ us hl => match us, hl with | [_, _], _ => rfl) .nil sc_Single_init (fun vs H Q E h => ?_) (fun cdv A outer s H vs Q E hr h => ?_)
  · obtain ⟨_, _, _, _, _, _, rfl, _⟩ := h
    rfl
  · have nd := sc_Single_init.nd
    have hu := hu_of hr
    obtain ⟨x, dx, su, S, K0, M, rfl, sp, hS, ok, ed, q⟩ := h
    refine ⟨_, (pss_cons (ps_fld (pv 0) (pv 1) rfl)
      (pss_cons (ps_fld (pv 0) (C8.pe_mk c_Board hr (by decide) rfl (pa_cons (pv 1) pa_nil)) rfl)
      (pss_cons (ps_fld (pv 0) (C8.pe_mk c_Processor hr (by decide) rfl (pa_cons (pv 1) (pa_cons (pe_fld (pv 0) rfl) pa_nil))) rfl)
      (pss_one (ps_fld (pv 0) pe_int rfl))))), ?_⟩
    refine ⟨_, rfl, _, rfl, _, _, _, _, rfl, sp.c0, T.cl_Single, T.t_Single_setup, (by simp), ?_⟩
    have t1 := sp.put0 (o' := .ins (aC "Single" K) dx [("_setup", .ref su)])
    refine ⟨_, rfl, fun bo db hbo hdb hne => ?_⟩
    have t2 := t1.obj (o := .own bo) (o' := .ins (aC "Board" K) db []) hbo hdb hne
    refine ⟨bo, db, su, S, K0, _, rfl, t2, hS, ok, ed, fun K1 H1 r u m g1 hB hM t3 => ⟨rfl, ?_⟩⟩
    refine ⟨_, rfl, _, _, _, _, rfl, t3.c3, T.cl_Single, T.t_Single_board, (by simp), ?_⟩
    have t4 := t3.put3 (y := .ins (aC "Single" K) dx [("_setup", .ref su), ("_board", .ref bo)])
    refine ⟨_, rfl, _, rfl, _, _, _, _, _, rfl, t4.c3, T.cl_Single, T.t_Single_board, rfl, fun pr dp hpr hdp hne2 => ?_⟩
    have t5 := t4.obj (o := .own pr) (o' := .ins (aC "Processor" K) dp []) hpr hdp hne2
    refine ⟨pr, dp, bo, su, r, u, S, K1, _, rfl, t5, hB, fun K2 H2 A g2 eA eB eS ow0 => ⟨rfl, ?_⟩⟩
    have ow := ow0.swapM
    refine ⟨_, rfl, _, _, _, _, rfl, ow.fr, T.cl_Single, T.t_Single_processor, (by simp), ?_⟩
    have ow2 := ow.putM (o' := .ins (aC "Single" K) dx [("_setup", .ref su), ("_board", .ref bo), ("_processor", .ref pr)])
    refine ⟨_, rfl, _, _, _, _, rfl, ow2.fr, T.cl_Single, T.t_Single_now, (by simp), ?_⟩
    have ow3 := ow2.putM (o' := .ins (aC "Single" K) dx [("_setup", .ref su), ("_board", .ref bo), ("_processor", .ref pr), ("_now", .int 0)])
    subst eA eB eS
    exact q K2 _ A m (Same.tr g1 g2) rfl (MgAt.up g2 hM) ow3
end
end Cb

namespace Cb
open PySem PySem.Spec PyProof.Rows L2

def rowO (sc : Addr) (i g x : Int) : HO := .lst [.ref sc, .int i, .int g, .int x]
def sp_law_taken (K : PySem.W.Frag) : Sp := fun vs H Q _ => ∃ (row sc : Addr) (m : Int) (ns : List Int) (i g x : Int) (K0 : Hp) (M : List (Addr × HO)), vs = [.ref row, .int m] ∧ 0 < m ∧ m < 1000 ∧ 0 ≤ i ∧ (0 ≤ g ∧ g < 2147483647) ∧ SqL K K0 sc (ns.map V.int) ∧ Sep K0 H ((row, rowO sc i g x) :: M) ∧
  ∀ H' i' g' x' r, 0 ≤ i' → (0 ≤ g' ∧ g' < 2147483647) → 0 ≤ r → r < m → Sep K0 H' ((row, rowO sc i' g' x') :: M) → Q (.int r) H'
theorem Same.lst {K : PySem.W.Frag} {H H' : Hp} {a : Addr} {xs : List V} (e : Same H H') (h : SqL K H a xs) : SqL K H' a xs := h.elim (fun h => .inl (Same.rd e h)) .inr

section
variable {P : Program} {w : World} {K : PySem.W.Frag} {mg : Str → Option Value} {base : Heap}

abbrev N_law_taken : List Str := ["_law_row", "_law_many", "_law_found", "_law_cell"]
theorem sc_law_taken : FnScope N_law_taken ["_law_row", "_law_many"] (C8.fnScope s_law_taken) := C8.fnScope_by (by decide +kernel)
theorem ok_law_taken {fd : FuncData} (T : Txt K mg) (F : FunD K "_law_taken" "_law_taken" (C8.fnArgs s_law_taken) (C8.fnBody s_law_taken) (C8.fnScope s_law_taken) [] [] (He.ga K "_law_taken") fd) :
    C8.Cal P w K mg base 1 "_law_taken" (sp_law_taken K) [] := by
  refine C8.cal0 (ds := []) ⟨fun_c8 F, T.f__law_taken, F.kp⟩ (F.bindsN fun _ _ _ _ _ _ us hl => match us, hl with | [_, _], _ => rfl) .nil sc_law_taken (fun vs H Q E h => ?_) (fun cdv A outer s H vs Q E hr h => ?_)
  · obtain ⟨_, _, _, _, _, _, _, _, _, rfl, _⟩ := h
    rfl
  · have nd := sc_law_taken.nd
    have hu := hu_of hr
    obtain ⟨row, sc, m, ns, i, g, x, K0, M, rfl, hm, hm2, hi, hg, hsc, sp, q⟩ := h
    refine ⟨_, (pss_cons (ps_if (pt_cmpR op_gt (pe_ix ix_list (pv 0) pe_int (fun _ _ => rfl)) pe_int (nomark _)) (pss_cons (ps_set (i := 2) nd rfl (Or.inl rfl) (pe_op op_mod (pe_callTy call_int1 (by rfl) T.n_int (by decide +kernel) (pa_cons (pe_ix ix_list (pv 0) pe_int (fun _ _ => rfl)) pa_nil)) (pv 1)))
      (pss_cons (ps_asg (pe_op op_fdiv (pe_ix ix_list (pv 0) pe_int (fun _ _ => rfl)) (pv 1)) (pg_sub (pv 0) pe_int set_list))
      (pss_one (ps_ret (pv 2))))) pss_nil)
      (pss_cons (ps_asg (pe_op op_add (pe_ix ix_list (pv 0) pe_int (fun _ _ => rfl)) pe_int) (pg_sub (pv 0) pe_int set_list))
      (pss_cons (ps_if (pt_cmpR op_gt (pe_ix ix_list (pv 0) pe_int (fun _ _ => rfl)) (pe_callB call_len_seq (by rfl) T.n_len (by decide +kernel) (pa_cons (pe_ix ix_list (pv 0) pe_int (fun _ _ => rfl)) pa_nil)) (nomark _)) (pss_cons (ps_asg (pe_op op_mod (pe_callTy call_int1 (by rfl) T.n_int (by decide +kernel) (pa_cons (pe_op op_add (pe_op op_mul (pe_ix ix_list (pv 0) pe_int (fun _ _ => rfl)) pe_int) pe_int) pa_nil)) pe_int) (pg_sub (pv 0) pe_int set_list))
      (pss_one (ps_ret (pe_op op_mod (pe_callTy call_int1 (by rfl) T.n_int (by decide +kernel) (pa_cons (pe_op op_fdiv (pe_ix ix_list (pv 0) pe_int (fun _ _ => rfl)) pe_int) pa_nil)) (pv 1))))) pss_nil)
      (pss_cons (ps_set (i := 3) nd rfl (Or.inl rfl) (pe_ix ix_list (pe_ix ix_list (pv 0) pe_int (fun _ _ => rfl)) (pe_op op_sub (pe_ix ix_list (pv 0) pe_int (fun _ _ => rfl)) pe_int) (fun _ _ => rfl)))
      (pss_cons (ps_asg (pe_op op_mod (pe_callTy call_int1 (by rfl) T.n_int (by decide +kernel) (pa_cons (pe_op op_add (pe_op op_add (pe_op op_mul (pe_ix ix_list (pv 0) pe_int (fun _ _ => rfl)) pe_int) (pv 3)) pe_int) pa_nil)) pe_int) (pg_sub (pv 0) pe_int set_list))
      (pss_cons (ps_if (pt_cmpR op_ge (pv 3) (pe_op op_pow pe_int pe_int) (nomark _)) (pss_one (ps_asg (pe_op op_fdiv (pv 3) (pv 1)) (pg_sub (pv 0) pe_int set_list))) pss_nil)
      (pss_one (ps_ret (pe_op op_mod (pe_callTy call_int1 (by rfl) T.n_int (by decide +kernel) (pa_cons (pv 3) pa_nil)) (pv 1)))))))))), ?_⟩
    have hr0 := l_of (K := K) sp.c0
    have md : ∀ z : Int, 0 ≤ z % m ∧ z % m < m := fun z => ⟨Int.emod_nonneg z (by omega), Int.emod_lt_of_pos z hm⟩
    refine ⟨_, rfl, _, _, _, _, rfl, rfl, hr0, rfl, _, _, rfl, rfl, decide (0 < x), rfl, ?_⟩
    by_cases hx : 0 < x
    · rw [decide_eq_true hx]
      refine iteT ⟨_, rfl, _, _, _, _, rfl, rfl, hr0, rfl, .inl ⟨_, rfl, _, rfl, _, _, rfl, rfl, hm, ?_⟩⟩
      refine ⟨_, rfl, _, _, _, _, rfl, rfl, hr0, rfl, _, rfl, _, _, rfl, rfl, ⟨hm, by omega⟩, ?_⟩
      refine ⟨_, rfl, _, _, _, 3, rfl, rfl, sp.c0, rfl, ?_⟩
      have sp1 := sp.put0 (o' := rowO sc i g (x / m))
      exact ⟨_, rfl, q _ _ _ _ _ hi hg (md _).1 (md _).2 sp1⟩
    rw [decide_eq_false hx]
    refine iteF ?_
    refine ⟨_, rfl, _, _, _, _, rfl, rfl, hr0, rfl, _, _, rfl, rfl, ?_⟩
    refine ⟨_, rfl, _, _, _, 1, rfl, rfl, sp.c0, rfl, ?_⟩
    have sp1 := sp.put0 (o' := rowO sc (i + 1) g x)
    have hr1 := l_of (K := K) sp1.c0
    have hsc1 := Same.lst sp1.ext hsc
    refine ⟨_, rfl, _, _, _, _, rfl, rfl, hr1, rfl, _, rfl, _, _, _, _, rfl, rfl, hr1, rfl, _, _, rfl, .inl hsc1, _, _, rfl, rfl, decide (((ns.map V.int).length : Int) < i + 1), rfl, ?_⟩
    have rest : ∀ (z : Int), 0 ≤ z % m ∧ z % m < m := md
    by_cases hlen : ((ns.map V.int).length : Int) < i + 1
    · rw [decide_eq_true hlen]
      refine iteT ⟨_, rfl, _, _, _, _, rfl, rfl, hr1, rfl, _, _, rfl, rfl, (by unfold CMul; omega), _, _, rfl, rfl, .inl ⟨_, rfl, _, _, rfl, rfl, (by show (0 : Int) < 2147483647; decide), ?_⟩⟩
      refine ⟨_, rfl, _, _, _, 2, rfl, rfl, sp1.c0, rfl, ?_⟩
      have sp2 := sp1.put0 (o' := rowO sc (i + 1) ((g * 48271 + 11) % 2147483647) x)
      have hr2 := l_of (K := K) sp2.c0
      refine ⟨_, rfl, _, _, _, _, rfl, rfl, hr2, rfl, _, _, rfl, rfl, ⟨by decide, by decide⟩, .inl ⟨_, rfl, _, rfl, _, _, rfl, rfl, hm, ?_⟩⟩
      exact q _ _ _ _ _ (by omega) ⟨Int.emod_nonneg _ (by decide), Int.emod_lt_of_pos _ (by decide)⟩ (md _).1 (md _).2 sp2
    rw [decide_eq_false hlen]
    refine iteF ?_
    have hin : i.toNat < (ns.map V.int).length := by omega
    have hget : (ns.map V.int)[i.toNat]? = some (.int (ns[i.toNat]'(by simpa using hin))) := by simp
    have hat : atI (ns.map V.int) (i + 1 - 1) = some (.int (ns[i.toNat]'(by simpa using hin))) := by
      rw [show i + 1 - 1 = ((i.toNat : Nat) : Int) by omega]
      exact atIn hget
    generalize ns[i.toNat]'(by simpa using hin) = y at hget hat
    refine ⟨_, rfl, _, _, _, _, rfl, rfl, hr1, rfl, _, rfl, _, _, _, _, rfl, rfl, hr1, rfl, _, _, rfl, rfl, _, _, _, _, rfl, rfl, hsc1, hat, ?_⟩
    refine ⟨_, rfl, _, _, _, _, rfl, rfl, hr1, rfl, _, _, rfl, rfl, (by unfold CMul; omega), _, rfl, _, _, rfl, rfl, _, _, rfl, rfl, .inl ⟨_, rfl, _, _, rfl, rfl, (by show (0 : Int) < 2147483647; decide), ?_⟩⟩
    refine ⟨_, rfl, _, _, _, 2, rfl, rfl, sp1.c0, rfl, ?_⟩
    have sp2 := sp1.put0 (o' := rowO sc (i + 1) ((g * 48271 + y + 11) % 2147483647) x)
    have hg2 : 0 ≤ (g * 48271 + y + 11) % 2147483647 ∧ (g * 48271 + y + 11) % 2147483647 < 2147483647 := ⟨Int.emod_nonneg _ (by decide), Int.emod_lt_of_pos _ (by decide)⟩
    refine ⟨_, rfl, _, _, rfl, rfl, ⟨by decide, by decide, by decide⟩, _, _, rfl, rfl, decide (10 ^ 18 ≤ y), rfl, ?_⟩
    by_cases hy : 10 ^ 18 ≤ y
    · rw [decide_eq_true hy]
      refine iteT ⟨_, rfl, _, rfl, _, _, rfl, rfl, ⟨hm, by omega⟩, ?_⟩
      refine ⟨_, rfl, _, _, _, 3, rfl, rfl, sp2.c0, rfl, ?_⟩
      have sp3 := sp2.put0 (o' := rowO sc (i + 1) ((g * 48271 + y + 11) % 2147483647) (y / m))
      exact ⟨_, rfl, .inl ⟨_, rfl, _, rfl, _, _, rfl, rfl, hm, q _ _ _ _ _ (by omega) hg2 (md _).1 (md _).2 sp3⟩⟩
    · rw [decide_eq_false hy]
      exact iteF ⟨_, rfl, .inl ⟨_, rfl, _, rfl, _, _, rfl, rfl, hm, q _ _ _ _ _ (by omega) hg2 (md _).1 (md _).2 sp2⟩⟩
end
end Cb

namespace Cb
open PySem PySem.Spec PyProof.Rows L2

/-! plain set-ups: what a tick does, to the letter -/
def PlainS (S : SetD) : Prop := ∀ l ∈ S.ls, ∀ st ∈ l.steps, ∃ n, st = .run n ∧ 1 ≤ n
def floorP (s : StD) : Int := match s.stack.getLast? with
  | some c => if c.line.rank > s.bar then c.line.rank else s.bar
  | none => s.bar
def goP (s : StD) : StD × List Ev := match s.stack.getLast? with
  | none => (s, [])
  | some c => if c.step < c.line.steps.length then (s, []) else ({ s with stack := s.stack.dropLast, bar := c.kept, und := fset s.und c.line.name false }, [.fin c.line])
def stepT (c : CallD) : Int := match c.line.steps[c.step]? with
  | some (.run n) => n
  | _ => 0
def spendP (s : StD) : StD × List Ev := match s.stack.getLast? with
  | none => ({ s with c3 := s.c3 + 1 }, [])
  | some c => if c.ticks + 1 < stepT c then ({ s with c0 := s.c0 + 1, stack := s.stack.dropLast ++ [{ c with ticks := c.ticks + 1 }] }, [])
    else goP { s with c0 := s.c0 + 1, stack := s.stack.dropLast ++ [{ c with step := c.step + 1, ticks := 0 }] }
def beginP (s : StD) (l : LineD) : StD := { s with rung := fset s.rung l.name false, und := fset s.und l.name true, stack := s.stack ++ [⟨l, 0, 0, s.bar⟩] }
def spP_lets_by (K : PySem.W.Frag) : Sp := fun vs H Q _ => ∃ (A : Ad) (S : SetD) (K0 : Hp) (s : StD) (M : List (Addr × HO)) (l : LineD), vs = [.ref A.pr, .str l.name] ∧ Own K A S K0 H s M ∧ l ∈ S.ls ∧ (∀ c ∈ s.stack, c.line ∈ S.ls) ∧ Q (.bl (decide (floorP s < l.rank))) H
structure GoodP (S : SetD) (s : StD) : Prop where
  calls : ∀ c ∈ s.stack, CallOk S c
  rows : s.rows = []
def spP_go_through (K : PySem.W.Frag) : Sp := fun vs H Q _ => ∃ (A : Ad) (S : SetD) (K0 : Hp) (s : StD) (M : List (Addr × HO)) (rest : List CallD) (c : CallD), vs = [.ref A.pr] ∧ Own K A S K0 H s M ∧ s.stack = rest ++ [c] ∧ c.line ∈ S.ls ∧ c.step ≤ c.line.steps.length ∧ PlainS S ∧ s.stack.length ≤ 3900 ∧
  PostE K A S K0 M Q fun s' evs => (s', evs) = goP s

section
variable {P : Program} {w : World} {K : PySem.W.Frag} {mg : Str → Option Value} {base : Heap}

abbrev NP_Processor_lets_by : List Str := ["self", "line", "floor"]
theorem scP_Processor_lets_by : FnScope NP_Processor_lets_by ["self", "line"] (C8.fnScope s_Processor_lets_by) := C8.fnScope_by (by decide +kernel)
theorem okP_Processor_lets_by {fd : FuncData} (T : Txt K mg) (F : FunD K "_lets_by" "Processor._lets_by" (C8.fnArgs s_Processor_lets_by) (C8.fnBody s_Processor_lets_by) (C8.fnScope s_Processor_lets_by) [] [] (He.ma K (aC "Processor" K) "_lets_by") fd) (c_getitem : C8.Met P w K mg base 2 (aC "Setup" K) "__getitem__" (sp_Setup_getitem K) []) :
    C8.Met P w K mg base 4 (aC "Processor" K) "_lets_by" (spP_lets_by K) [] := by
  refine C8.met0 T.cl_Processor T.m_Processor_lets_by (fun_c8 F) (F.bindsN fun _ _ _ _ _ _ us hl => match us, hl with | [_, _], _ => rfl) scP_Processor_lets_by (fun vs H Q E h => ?_) (fun cdv A outer s H vs Q E hr h => ?_)
  · obtain ⟨_, _, _, _, _, _, rfl, _⟩ := h
    rfl
  · have nd := scP_Processor_lets_by.nd
    have hu := hu_of hr
    obtain ⟨A, S, K0, s, M, l, rfl, ow, hl, hc, q⟩ := h
    refine ⟨_, (pss_cons (ps_set (i := 2) nd rfl (Or.inl rfl) (pe_fld (pv 0) rfl))
      (pss_cons (ps_if (pt_truth (pe_fld (pv 0) rfl) (by intro _; rfl)) (pss_one (ps_set (i := 2) nd rfl (Or.inl rfl) (pe_callB (call_max2 rfl) (by rfl) T.n_max (by decide +kernel) (pa_cons (pv 2) (pa_cons (pe_ix ix_tup (C_ix T.m_Setup_getitem T.i_getitem c_getitem hr (by decide) (pe_fld (pv 0) rfl) (pe_ix ix_tup (pe_ix ix_list (pe_fld (pv 0) rfl) (pe_un un_neg pe_int) (fun _ _ => rfl)) pe_int (fun _ _ => rfl))) pe_int (fun _ _ => rfl)) pa_nil))))) pss_nil)
      (pss_one (ps_ret (pe_cmpR op_gt (pe_ix ix_tup (C_ix T.m_Setup_getitem T.i_getitem c_getitem hr (by decide) (pe_fld (pv 0) rfl) (pv 1)) pe_int (fun _ _ => rfl)) (pv 2) (nomark _)))))), ?_⟩
    obtain ⟨sv, rv, h1, h2, sp⟩ := ow.ex
    have hpr := sp.c2
    obtain ⟨dx2, _, _, _, _, _, h3, _⟩ := ow.fb.su.ex
    refine ⟨_, rfl, _, _, _, _, _, rfl, hpr, T.cl_Processor, T.t_Processor_bar, rfl, ?_⟩
    rcases List.eq_nil_or_concat s.stack with e1 | ⟨rest, c, e1⟩
    · have h1' := h1
      rw [e1] at h1'
      cases h1'
      have hfl : floorP s = s.bar := by unfold floorP; rw [e1]; rfl
      refine ⟨_, rfl, _, _, _, _, _, rfl, hpr, T.cl_Processor, T.t_Processor_stack, rfl, false, .inl ⟨_, l_of sp.c3, rfl⟩, iteF ?_⟩
      refine ⟨_, rfl, _, _, _, _, _, rfl, hpr, T.cl_Processor, T.t_Processor_setup, rfl, _, rfl, A.su, dx2, _, rfl, sp.ext _ _ h3, A.su, S, l, K0, rfl, ow.fb.su, sp.ext, ow.fb.ok, hl, fun v hv => ?_⟩
      obtain ⟨a, g1, hs1, rfl, h5, h6, h7⟩ := hv
      exact ⟨_, _, _, _, rfl, rfl, Same.tup sp.ext h5, rfl, _, rfl, _, _, rfl, rfl, by rw [hfl] at q; exact q⟩
    · rw [List.concat_eq_append] at e1
      have h1' := h1
      rw [e1] at h1'
      obtain ⟨sv', v, e2, h4, t, rfl, ht⟩ := psnoc h1'
      have hlc := hc c (by rw [e1]; simp)
      have hfl : floorP s = if c.line.rank > s.bar then c.line.rank else s.bar := by unfold floorP; rw [e1]; simp
      have hc3 := sp.c3
      rw [e2] at hc3
      refine ⟨_, rfl, _, _, _, _, _, rfl, hpr, T.cl_Processor, T.t_Processor_stack, rfl, true, .inl ⟨_, l_of sp.c3, by rw [e2]; simp⟩, iteT ?_⟩
      refine ⟨_, rfl, _, rfl, _, _, _, _, _, rfl, hpr, T.cl_Processor, T.t_Processor_setup, rfl, _, rfl, _, _, _, _, _, rfl, hpr, T.cl_Processor, T.t_Processor_stack, rfl, _, rfl, _, _, _, _, rfl, rfl, l_of hc3, atIm, _, _, _, _, rfl, rfl, Same.tup sp.ext ht, rfl, A.su, dx2, _, rfl, sp.ext _ _ h3, A.su, S, c.line, K0, rfl, ow.fb.su, sp.ext, ow.fb.ok, hlc, fun v hv => ?_⟩
      obtain ⟨a, g1, hs1, rfl, h5, h6, h7⟩ := hv
      refine ⟨_, _, _, _, rfl, rfl, Same.tup sp.ext h5, rfl, _, _, rfl, ?_⟩
      refine ⟨_, rfl, _, _, _, _, _, rfl, hpr, T.cl_Processor, T.t_Processor_setup, rfl, _, rfl, A.su, dx2, _, rfl, sp.ext _ _ h3, A.su, S, l, K0, rfl, ow.fb.su, sp.ext, ow.fb.ok, hl, fun v hv => ?_⟩
      obtain ⟨a, g1, hs1, rfl, h5, h6, h7⟩ := hv
      exact ⟨_, _, _, _, rfl, rfl, Same.tup sp.ext h5, rfl, _, rfl, _, _, rfl, rfl, by rw [hfl] at q; exact q⟩
abbrev NP_Processor_go_through : List Str := ["self", "line", "step", "ticks", "kept", "handler"]
theorem scP_Processor_go_through : FnScope NP_Processor_go_through ["self"] (C8.fnScope s_Processor_go_through) := C8.fnScope_by (by decide +kernel)
theorem okP_Processor_go_through {fd : FuncData} (T : Txt K mg) (F : FunD K "_go_through" "Processor._go_through" (C8.fnArgs s_Processor_go_through) (C8.fnBody s_Processor_go_through) (C8.fnScope s_Processor_go_through) [] [] (He.ma K (aC "Processor" K) "_go_through") fd) (c_getitem : C8.Met P w K mg base 2 (aC "Setup" K) "__getitem__" (sp_Setup_getitem K) []) (c_takes_no_tick : C8.Met P w K mg base 1 (aC "Processor" K) "_takes_no_tick" (sp_Processor_takes_no_tick K) []) (c_act : C8.Met P w K mg base 2 (aC "Processor" K) "_act" (sp_Processor_act K) []) (c_end : C8.Met P w K mg base 1 (aC "Board" K) "end" (sp_Board_end K) []) :
    C8.Met P w K mg base 4 (aC "Processor" K) "_go_through" (spP_go_through K) [] := by
  refine C8.met0 T.cl_Processor T.m_Processor_go_through (fun_c8 F) (F.bindsN fun _ _ _ _ _ _ us hl => match us, hl with | [_], _ => rfl) scP_Processor_go_through (fun vs H Q E h => ?_) (fun cdv A outer s H vs Q E hr h => ?_)
  · obtain ⟨_, _, _, _, _, _, _, rfl, _⟩ := h
    rfl
  · have nd := scP_Processor_go_through.nd
    have hu := hu_of hr
    obtain ⟨A, S, K0, s, M, rest, c, rfl, ow, hst, hl, hcs, hpl, hsl, q⟩ := h
    refine ⟨_, (pss_cons (ps_asg (pe_bm0 PySem.F.plainAttrs_list PySem.F.slot_list_pop PySem.F.type_list_pop mt_pop (pe_fld (pv 0) rfl)) (pg_tup rfl (pgs_cons (pg_name (i := 1) nd rfl (Or.inl rfl)) (pgs_cons (pg_name (i := 2) nd rfl (Or.inl rfl)) (pgs_cons (pg_name (i := 3) nd rfl (Or.inl rfl)) (pgs_cons (pg_name (i := 4) nd rfl (Or.inl rfl)) pgs_nil))))))
      (pss_cons (ps_set (i := 5) nd rfl (Or.inl rfl) (pe_ix ix_tup (C_ix T.m_Setup_getitem T.i_getitem c_getitem hr (by decide) (pe_fld (pv 0) rfl) (pv 1)) pe_int (fun _ _ => rfl)))
      (pss_cons (ps_while PassesOwn.never (PW.pt (pw_and (pt_cmpR op_lt (pv 2) (pe_callB call_len_seq (by rfl) T.n_len (by decide +kernel) (pa_cons (pv 5) pa_nil)) (nomark _)) (pw_and1 (pt_val (C8.pe_mt c_takes_no_tick hr (by decide) (pv 0) (pa_cons (pe_ix ix_tup (pv 5) (pv 2) (fun _ _ => rfl)) pa_nil)))))) (pss_cons (ps_expr (C8.pe_mt c_act hr (by decide) (pv 0) (pa_cons (pe_ix ix_tup (pv 5) (pv 2) (fun _ _ => rfl)) pa_nil)))
      (pss_one (ps_aug (i := 2) nd rfl (Or.inl rfl) pe_int ip_add))))
      (pss_cons (ps_if (pt_cmpR op_lt (pv 2) (pe_callB call_len_seq (by rfl) T.n_len (by decide +kernel) (pa_cons (pv 5) pa_nil)) (nomark _)) (pss_cons (ps_expr (pe_bm PySem.F.plainAttrs_list PySem.F.slot_list_append PySem.F.type_list_append mt_append (pe_fld (pv 0) rfl) (pa_cons (pe_tup (pa_cons (pv 1) (pa_cons (pv 2) (pa_cons (pv 3) (pa_cons (pv 4) pa_nil))))) pa_nil)))
      (pss_one (ps_ret (pe_lst pa_nil)))) pss_nil)
      (pss_cons (ps_fld (pv 0) (pv 4) rfl)
      (pss_cons (ps_expr (C8.pe_mt c_end hr (by decide) (pe_fld (pv 0) rfl) (pa_cons (pv 1) pa_nil)))
      (pss_one (ps_ret (pe_lst (pa_cons (pe_tup (pa_cons pe_str (pa_cons (pv 1) pa_nil))) pa_nil)))))))))), ?_⟩
    obtain ⟨sv, rv, h1, h2, sp⟩ := ow.ex
    have hpr := sp.c2
    obtain ⟨dx2, _, _, _, _, _, h3, _⟩ := ow.fb.su.ex
    rw [hst] at h1
    obtain ⟨sv', v, e2, h4, t, rfl, ht⟩ := psnoc h1
    have hc3 := sp.c3
    rw [e2] at hc3
    have hlast : (sv' ++ [V.ref t])[(sv' ++ [V.ref t]).length - 1]? = some (V.ref t) := by simp
    refine ⟨_, rfl, _, _, _, _, _, rfl, hpr, T.cl_Processor, T.t_Processor_stack, rfl, .inl ⟨rfl, _, .inl (.inl hc3)⟩, _, _, _, rfl, rfl, hc3, hlast, ?_⟩
    rw [List.dropLast_concat]
    have sp1 := sp.put3 (y := .lst sv')
    have hpr1 := sp1.c2
    refine ⟨_, _, rfl, Same.tup sp1.ext ht, rfl, _, _, rfl, _, _, rfl, _, _, rfl, _, _, rfl, rfl, ?_⟩
    refine ⟨_, rfl, _, _, _, _, _, rfl, hpr1, T.cl_Processor, T.t_Processor_setup, rfl, _, rfl, A.su, dx2, _, rfl, sp1.ext _ _ h3, A.su, S, c.line, K0, rfl, ow.fb.su, sp1.ext, ow.fb.ok, hl, fun v hv => ?_⟩
    obtain ⟨a, g1, hs1, rfl, h5, h6, h7⟩ := hv
    have hlen := h7.length
    refine ⟨_, _, _, _, rfl, rfl, Same.tup sp1.ext h5, rfl, ?_⟩
    have hh := Same.tup sp1.ext h6
    have hgo : goP s = if c.step < c.line.steps.length then (s, []) else ({ s with stack := s.stack.dropLast, bar := c.kept, und := fset s.und c.line.name false }, [.fin c.line]) := by
      unfold goP
      rw [hst]
      simp
    have hdl : s.stack.dropLast = rest := by rw [hst]; simp
    generalize hH1 : upd H A.st (.lst sv') = H1 at sp1 hpr1 hh
    refine ⟨fun m σ H' => m = 0 ∧ H' = H1 ∧ σ = [some (.ref A.pr), some (.str c.line.name), some (.int (c.step : Nat)), some (.int c.ticks), some (.int c.kept), some (.ref g1)], ⟨0, rfl, rfl, rfl⟩, ?_⟩
    rintro m σ H2 ⟨rfl, rfl, rfl⟩
    rcases Nat.lt_or_ge c.step c.line.steps.length with hj | hj
    · have hstj : c.line.steps[c.step]? = some c.line.steps[c.step] := List.getElem?_eq_getElem hj
      obtain ⟨x, hx, hx2⟩ := pgetr h7 hstj
      obtain ⟨n, en, _⟩ := hpl c.line hl _ (List.mem_of_getElem? hstj)
      rw [en] at hx2
      have htst : decide ((c.step : Int) < (hs1.length : Nat)) = true := decide_eq_true (by omega)
      refine ⟨_, rfl, _, rfl, _, _, rfl, .inr hh, _, _, rfl, rfl, true, congrArg V.bl htst, iteT ?_⟩
      refine ⟨_, rfl, A.pr, A.dp, _, rfl, hpr1, rfl, _, rfl, _, rfl, _, _, _, _, rfl, rfl, hh, atIn hx, A.pr, x, _, rfl, StepAt.up sp1.ext hx2, false, rfl, iteF ?_⟩
      refine ⟨_, rfl, _, rfl, _, _, rfl, .inr hh, _, _, rfl, rfl, true, congrArg V.bl htst, iteT ?_⟩
      refine ⟨_, rfl, _, _, _, _, _, rfl, hpr1, T.cl_Processor, T.t_Processor_stack, rfl, .inl ⟨rfl, _, .inl (.inl sp1.c3)⟩, _, rfl, _, rfl, _, rfl, _, rfl, small8 (by simp), fun t2 ht2 => ?_⟩
      have sp3 := sp1.keep (o := .tup [.str c.line.name, .int (c.step : Nat), .int c.ticks, .int c.kept]) ht2
      have g3 := sp1.newk (o := .tup [.str c.line.name, .int (c.step : Nat), .int c.ticks, .int c.kept]) ht2
      refine ⟨_, _, _, rfl, rfl, sp3.c3, sm (m := 4000) (by have hk : sv'.length = rest.length := h4.length; rw [hst] at hsl; simp at hsl; omega) (by decide), ?_⟩
      have sp4 := sp3.put3 (y := .lst (sv' ++ [.ref t2]))
      refine ⟨Nat.zero_le _, fun p hp => ?_⟩
      have sp5 := sp4.keep (o := .lst []) hp
      have g5 := sp4.newk (o := .lst []) hp
      have gA := Same.tr g3 g5
      refine q _ _ p [] [] s gA (ow.mk2 (s := s) gA ⟨sv' ++ [V.ref t2], rv, ?_, h2.mono fun _ _ z => RowAt.up gA z, sp5⟩) upd_same .nil (by rw [hgo, if_pos hj])
      rw [hst]
      exact Paired.snoc (h4.mono fun _ _ z => CallAt.up gA z) ⟨t2, rfl, t_of (g5 _ _ upd_same)⟩
    · have htst : decide ((c.step : Int) < (hs1.length : Nat)) = false := decide_eq_false (by omega)
      refine ⟨_, rfl, _, rfl, _, _, rfl, .inr hh, _, _, rfl, rfl, false, congrArg V.bl htst, iteF ?_⟩
      refine ⟨_, rfl, _, rfl, _, _, rfl, .inr hh, _, _, rfl, rfl, false, congrArg V.bl htst, iteF ?_⟩
      refine ⟨_, rfl, _, rfl, _, _, _, _, rfl, hpr1, T.cl_Processor, T.t_Processor_bar, (by simp), ?_⟩
      have sp3 := sp1.put2 (y := prI K A c.kept)
      obtain ⟨db, d0, fl0, mg0, hbo, _⟩ := (BoardAt.up sp3.ext ow.fb).ex
      have hpr3 := sp3.c2
      refine ⟨_, rfl, _, _, _, _, _, rfl, hpr3, T.cl_Processor, T.t_Processor_board, rfl, A.bo, db, _, rfl, hbo, rfl, _, rfl, A.bo, A.su, A.r, A.u, S, c.line, K0, s.und, _, rfl, ow.fb, hl, sp3.swap, fun H3 sp4 => ?_⟩
      have sp5 := sp4.swap
      refine ⟨_, rfl, small8 (by simp), fun t2 ht2 => ?_⟩
      have sp6 := sp5.keep (o := .tup [.str "end", .str c.line.name]) ht2
      have g6 := sp5.newk (o := .tup [.str "end", .str c.line.name]) ht2
      refine ⟨small8 (by simp), fun p hp => ?_⟩
      have sp7 := sp6.keep (o := .lst [.ref t2]) hp
      have g7 := sp6.newk (o := .lst [.ref t2]) hp
      have g67 := Same.tr g6 g7
      refine q _ _ p [.ref t2] [.fin c.line] { s with stack := rest, bar := c.kept, und := fset s.und c.line.name false } g67 (ow.mk2 (s := { s with stack := rest, bar := c.kept, und := fset s.und c.line.name false }) g67 ⟨sv', rv, h4.mono fun _ _ z => CallAt.up g67 z, h2.mono fun _ _ z => RowAt.up g67 z, sp7⟩) upd_same (.cons ⟨t2, rfl, t_of (g7 _ _ upd_same)⟩ .nil) (by rw [hgo, if_neg (by omega), hdl])
end
end Cb

namespace Cb
open PySem PySem.Spec PyProof.Rows L2

def spP_spend_beside (K : PySem.W.Frag) : Sp := fun vs H Q _ => ∃ (A : Ad) (S : SetD) (K0 : Hp) (s : StD) (M : List (Addr × HO)), vs = [.ref A.pr] ∧ Own K A S K0 H s M ∧ s.rows = [] ∧
  PostE K A S K0 M Q fun s' evs => (s', evs) = ({ s with c3 := s.c3 + 1 }, [])
def spP_spend (K : PySem.W.Frag) : Sp := fun vs H Q _ => ∃ (A : Ad) (S : SetD) (K0 : Hp) (s : StD) (M : List (Addr × HO)), vs = [.ref A.pr] ∧ Own K A S K0 H s M ∧ GoodP S s ∧ PlainS S ∧ s.stack.length ≤ 3900 ∧
  PostE K A S K0 M Q fun s' evs => (s', evs) = spendP s
def spP_go_on (K : PySem.W.Frag) : Sp := spP_spend K
def takeP (s : StD) : List LineD → StD × List Ev
  | [] => (s, [])
  | l :: _ => if floorP s < l.rank then ((goP (beginP s l)).1, .bgn l :: (goP (beginP s l)).2) else (s, [])
def spP_take (K : PySem.W.Frag) : Sp := fun vs H Q _ => ∃ (A : Ad) (S : SetD) (K0 : Hp) (s : StD) (M : List (Addr × HO)) (lp : Addr) (ls : List LineD), vs = [.ref A.pr, .ref lp] ∧ Own K A S K0 H s M ∧ GoodP S s ∧ PlainS S ∧ s.stack.length ≤ 3800 ∧ K0 lp = some (.lst (names ls)) ∧ (∀ l ∈ ls, l ∈ S.ls) ∧
  ∀ K1 H' p ev evs s', Same K0 K1 → Own K A S K1 H' s' ((p, .lst ev) :: M) → Paired (EvAt K K1) ev evs → (s', evs) = takeP s ls → Q (.ref p) H'
theorem goP_len (s : StD) : (goP s).2.length ≤ 1 := by
  unfold goP
  split
  · simp
  · split <;> simp
theorem spendP_len (s : StD) : (spendP s).2.length ≤ 1 := by
  unfold spendP
  split
  · simp
  · split
    · simp
    · exact goP_len _

section
variable {P : Program} {w : World} {K : PySem.W.Frag} {mg : Str → Option Value} {base : Heap}

abbrev NP_Processor_spend_beside_calls : List Str := ["self", "work"]
theorem scP_Processor_spend_beside_calls : FnScope NP_Processor_spend_beside_calls ["self"] (C8.fnScope s_Processor_spend_beside_calls) := C8.fnScope_by (by decide +kernel)
theorem okP_Processor_spend_beside_calls {fd : FuncData} (T : Txt K mg) (F : FunD K "_spend_beside_calls" "Processor._spend_beside_calls" (C8.fnArgs s_Processor_spend_beside_calls) (C8.fnBody s_Processor_spend_beside_calls) (C8.fnScope s_Processor_spend_beside_calls) [] [] (He.ma K (aC "Processor" K) "_spend_beside_calls") fd) (c_is_empty : C8.Met P w K mg base 1 (aC "WorkQueue" K) "is_empty" (sp_WorkQueue_is_empty K) []) (c_jspend : C8.Met P w K mg base 1 (aC "WorkQueue" K) "spend" (sp_WorkQueue_spend K) []) :
    C8.Met P w K mg base 2 (aC "Processor" K) "_spend_beside_calls" (spP_spend_beside K) [] := by
  refine C8.met0 T.cl_Processor T.m_Processor_spend_beside_calls (fun_c8 F) (F.bindsN fun _ _ _ _ _ _ us hl => match us, hl with | [_], _ => rfl) scP_Processor_spend_beside_calls (fun vs H Q E h => ?_) (fun cdv A outer s H vs Q E hr h => ?_)
  · obtain ⟨_, _, _, _, _, rfl, _⟩ := h
    rfl
  · have nd := scP_Processor_spend_beside_calls.nd
    have hu := hu_of hr
    obtain ⟨A, S, K0, s, M, rfl, ow, hrw, q⟩ := h
    refine ⟨_, (pss_cons (ps_if (pt_val (C8.pe_mt0 c_is_empty hr (by decide) (pe_fld (pv 0) rfl))) (pss_cons (ps_augS (pe_fld (pv 0) rfl) (C8.pe_gc rfl T.k_IDLE) get_list pe_int ip_add set_list)
      (pss_one (ps_ret (pe_lst pa_nil)))) pss_nil)
      (pss_cons (ps_augS (pe_fld (pv 0) rfl) (C8.pe_gc rfl T.k_WORKED) get_list pe_int ip_add set_list)
      (pss_cons (ps_set (i := 1) nd rfl (Or.inl rfl) (C8.pe_mt0 c_jspend hr (by decide) (pe_fld (pv 0) rfl)))
      (pss_one (ps_ret (pe_ifExp (pt_cmpR op_isN (pv 1) pe_non (nomark _)) (pe_lst pa_nil) (pe_lst (pa_cons (pe_tup (pa_cons pe_str (pa_cons (pv 1) pa_nil))) pa_nil)))))))), ?_⟩
    obtain ⟨sv, rv, h1, h2, sp⟩ := ow.ex
    have hpr := sp.c2
    obtain ⟨dj, rk, ln, j1, _⟩ := (JobsAt.up sp.ext ow.fj).ex
    refine ⟨_, rfl, _, _, _, _, _, rfl, hpr, T.cl_Processor, T.t_Processor_jobs, rfl, A.jo, dj, _, rfl, j1, rfl, A.jo, A.ro, S.ws, rv, rfl, JobsAt.up sp.ext ow.fj, sp.c4, rv.isEmpty, rfl, ?_⟩
    have h2' := h2
    rw [hrw] at h2'
    cases h2'
    refine iteT ?_
    refine ⟨_, rfl, _, _, _, _, _, rfl, hpr, T.cl_Processor, T.t_Processor_counts, rfl, _, _, 3, _, rfl, rfl, l_of sp.c5, rfl, _, _, rfl, rfl, ?_⟩
    refine ⟨_, _, _, 3, rfl, rfl, sp.c5, rfl, ?_⟩
    have sp1 := sp.put5 (y := .lst [.int s.c0, .int s.c1, .int s.c2, .int (s.c3 + 1)])
    refine ⟨Nat.zero_le _, fun p hp => ?_⟩
    have sp2 := sp1.keep (o := .lst []) hp
    have g := sp1.newk (o := .lst []) hp
    have ow2 : Own K A S _ _ { s with c3 := s.c3 + 1 } M := ow.mk2 (s := { s with c3 := s.c3 + 1 }) g ⟨sv, [], h1.mono fun _ _ z => CallAt.up g z, h2.mono fun _ _ z => RowAt.up g z, sp2⟩
    exact q _ _ p [] [] _ g ow2 upd_same .nil rfl
abbrev NP_Processor_spend : List Str := ["self", "line", "step", "ticks", "kept", "word", "what"]
theorem scP_Processor_spend : FnScope NP_Processor_spend ["self"] (C8.fnScope s_Processor_spend) := C8.fnScope_by (by decide +kernel)
theorem okP_Processor_spend {fd : FuncData} (T : Txt K mg) (F : FunD K "_spend" "Processor._spend" (C8.fnArgs s_Processor_spend) (C8.fnBody s_Processor_spend) (C8.fnScope s_Processor_spend) [] [] (He.ma K (aC "Processor" K) "_spend") fd) (c_spend_beside_calls : C8.Met P w K mg base 2 (aC "Processor" K) "_spend_beside_calls" (spP_spend_beside K) []) (c_present_step : C8.Met P w K mg base 4 (aC "Processor" K) "_present_step" (sp_Processor_present_step K) []) (c_go_through : C8.Met P w K mg base 4 (aC "Processor" K) "_go_through" (spP_go_through K) []) :
    C8.Met P w K mg base 6 (aC "Processor" K) "_spend" (spP_spend K) [] := by
  refine C8.met0 T.cl_Processor T.m_Processor_spend (fun_c8 F) (F.bindsN fun _ _ _ _ _ _ us hl => match us, hl with | [_], _ => rfl) scP_Processor_spend (fun vs H Q E h => ?_) (fun cdv A outer s H vs Q E hr h => ?_)
  · obtain ⟨_, _, _, _, _, rfl, _⟩ := h
    rfl
  · have nd := scP_Processor_spend.nd
    have hu := hu_of hr
    obtain ⟨A, S, K0, s, M, rfl, ow, gd, hpl, hsl, q⟩ := h
    refine ⟨_, (pss_cons (ps_if (pt_not (pt_truth (pe_fld (pv 0) rfl) (by intro _; rfl))) (pss_one (ps_ret (C8.pe_mt0 c_spend_beside_calls hr (by decide) (pv 0)))) pss_nil)
      (pss_cons (ps_asg (pe_ix ix_list (pe_fld (pv 0) rfl) (pe_un un_neg pe_int) (fun _ _ => rfl)) (pg_tup rfl (pgs_cons (pg_name (i := 1) nd rfl (Or.inl rfl)) (pgs_cons (pg_name (i := 2) nd rfl (Or.inl rfl)) (pgs_cons (pg_name (i := 3) nd rfl (Or.inl rfl)) (pgs_cons (pg_name (i := 4) nd rfl (Or.inl rfl)) pgs_nil))))))
      (pss_cons (ps_asg (C8.pe_mt0 c_present_step hr (by decide) (pv 0)) (pg_tup rfl (pgs_cons (pg_name (i := 5) nd rfl (Or.inl rfl)) (pgs_cons (pg_name (i := 6) nd rfl (Or.inl rfl)) pgs_nil))))
      (pss_cons (ps_if (pt_cmpR op_eq (pv 5) pe_str (nomark _)) (pss_cons ps_never
      (pss_one (ps_ret (pe_lst pa_nil)))) pss_nil)
      (pss_cons (ps_augS (pe_fld (pv 0) rfl) (C8.pe_gc rfl T.k_CALLED) get_list pe_int ip_add set_list)
      (pss_cons (ps_if (pt_cmpR op_lt (pe_op op_add (pv 3) pe_int) (pv 6) (nomark _)) (pss_cons (ps_asg (pe_tup (pa_cons (pv 1) (pa_cons (pv 2) (pa_cons (pe_op op_add (pv 3) pe_int) (pa_cons (pv 4) pa_nil))))) (pg_sub (pe_fld (pv 0) rfl) (pe_un un_neg pe_int) set_list))
      (pss_one (ps_ret (pe_lst pa_nil)))) pss_nil)
      (pss_cons (ps_asg (pe_tup (pa_cons (pv 1) (pa_cons (pe_op op_add (pv 2) pe_int) (pa_cons pe_int (pa_cons (pv 4) pa_nil))))) (pg_sub (pe_fld (pv 0) rfl) (pe_un un_neg pe_int) set_list))
      (pss_one (ps_ret (C8.pe_mt0 c_go_through hr (by decide) (pv 0))))))))))), ?_⟩
    obtain ⟨sv, rv, h1, h2, sp⟩ := ow.ex
    have hpr := sp.c2
    rcases List.eq_nil_or_concat s.stack with e1 | ⟨rest, c, e1⟩
    · have h1' := h1
      rw [e1] at h1'
      cases h1'
      have hsp : spendP s = ({ s with c3 := s.c3 + 1 }, []) := by unfold spendP; rw [e1]; rfl
      refine ⟨_, rfl, _, _, _, _, _, rfl, hpr, T.cl_Processor, T.t_Processor_stack, rfl, false, .inl ⟨_, l_of sp.c3, rfl⟩, iteT ?_⟩
      refine ⟨_, rfl, A.pr, A.dp, _, rfl, hpr, rfl, A, S, K0, s, M, rfl, ow, gd.rows, fun K1 H1 p ev evs s1 g ow1 hp he hR => ?_⟩
      exact q K1 H1 p ev evs s1 g ow1 hp he (hR.trans hsp.symm)
    rw [List.concat_eq_append] at e1
    have h1' := h1
    rw [e1] at h1'
    obtain ⟨sv', v, e2, h4, t, rfl, ht⟩ := psnoc h1'
    have hco := gd.calls c (by rw [e1]; simp)
    obtain ⟨n, hn, hn0, hn1⟩ := hco.st
    have hdl : s.stack.dropLast = rest := by rw [e1]; simp
    have hst : stepT c = n := by unfold stepT; rw [hn]
    have hsp : spendP s = if c.ticks + 1 < n then ({ s with c0 := s.c0 + 1, stack := rest ++ [{ c with ticks := c.ticks + 1 }] }, []) else goP { s with c0 := s.c0 + 1, stack := rest ++ [{ c with step := c.step + 1, ticks := 0 }] } := by
      unfold spendP
      rw [e1]
      simp [hst]
    have hc3 := sp.c3
    rw [e2] at hc3
    refine ⟨_, rfl, _, _, _, _, _, rfl, hpr, T.cl_Processor, T.t_Processor_stack, rfl, true, .inl ⟨_, l_of hc3, by simp⟩, iteF ?_⟩
    refine ⟨_, rfl, _, _, _, _, _, rfl, hpr, T.cl_Processor, T.t_Processor_stack, rfl, _, rfl, _, _, _, _, rfl, rfl, l_of hc3, atIm, ?_⟩
    refine ⟨_, _, rfl, Same.tup sp.ext ht, rfl, _, _, rfl, _, _, rfl, _, _, rfl, _, _, rfl, rfl, ?_⟩
    refine ⟨_, rfl, A.pr, A.dp, _, rfl, hpr, rfl, A, S, K0, s, M, rest, c, .run n, rfl, ow, e1, hco.ln, hn, fun v H1 g1 hv => ?_⟩
    obtain ⟨a, rfl, ha⟩ := hv
    have sp1 := sp.grow g1
    have hpr1 := sp1.c2
    have hc31 := g1 _ _ hc3
    refine ⟨_, _, rfl, Same.tup sp1.ext ha, rfl, _, _, rfl, _, _, rfl, rfl, ?_⟩
    refine ⟨_, rfl, rfl, false, rfl, iteF ?_⟩
    refine ⟨_, rfl, _, _, _, _, _, rfl, hpr1, T.cl_Processor, T.t_Processor_counts, rfl, _, _, 0, _, rfl, rfl, l_of sp1.c5, rfl, _, _, rfl, rfl, ?_⟩
    refine ⟨_, _, _, 0, rfl, rfl, sp1.c5, rfl, ?_⟩
    have sp2 := sp1.put5 (y := .lst [.int (s.c0 + 1), .int s.c1, .int s.c2, .int s.c3])
    have hpr2 := sp2.c2
    refine ⟨_, rfl, _, _, rfl, rfl, _, rfl, _, _, rfl, rfl, decide (c.ticks + 1 < n), rfl, ?_⟩
    by_cases hlt : c.ticks + 1 < n
    · rw [decide_eq_true hlt]
      rw [if_pos hlt] at hsp
      refine iteT ⟨_, rfl, _, rfl, _, rfl, _, _, rfl, rfl, _, rfl, small8 (by simp), fun t2 ht2 => ?_⟩
      have sp3 := sp2.keep (o := .tup [.str c.line.name, .int (c.step : Nat), .int (c.ticks + 1), .int c.kept]) ht2
      have g3 := sp2.newk (o := .tup [.str c.line.name, .int (c.step : Nat), .int (c.ticks + 1), .int c.kept]) ht2
      have hpr3 := sp3.c2
      have hc33 := sp3.c3
      rw [e2] at hc33
      refine ⟨_, rfl, _, _, _, _, _, rfl, hpr3, T.cl_Processor, T.t_Processor_stack, rfl, _, rfl, _, _, _, _, rfl, rfl, hc33, ixNm, ?_⟩
      rw [set_last]
      have sp4 := sp3.put3 (y := .lst (sv' ++ [.ref t2]))
      refine ⟨Nat.zero_le _, fun p hp => ?_⟩
      have sp5 := sp4.keep (o := .lst []) hp
      have g5 := sp4.newk (o := .lst []) hp
      have g := Same.tr g3 g5
      have ow4 : Own K A S _ _ { s with c0 := s.c0 + 1, stack := rest ++ [{ c with ticks := c.ticks + 1 }] } M := ow.mk2 (s := { s with c0 := s.c0 + 1, stack := rest ++ [{ c with ticks := c.ticks + 1 }] }) g ⟨sv' ++ [.ref t2], rv, Paired.snoc (h4.mono fun _ _ z => CallAt.up g z) ⟨t2, rfl, t_of (g5 _ _ upd_same)⟩, h2.mono fun _ _ z => RowAt.up g z, sp5⟩
      exact q _ _ p [] [] _ g ow4 upd_same .nil hsp.symm
    · rw [decide_eq_false hlt]
      rw [if_neg hlt] at hsp
      refine iteF ?_
      refine ⟨_, rfl, _, rfl, _, _, rfl, rfl, _, rfl, small8 (by simp), fun t2 ht2 => ?_⟩
      have sp3 := sp2.keep (o := .tup [.str c.line.name, .int ((c.step + 1 : Nat)), .int 0, .int c.kept]) ht2
      have g3 := sp2.newk (o := .tup [.str c.line.name, .int ((c.step + 1 : Nat)), .int 0, .int c.kept]) ht2
      have hpr3 := sp3.c2
      have hc33 := sp3.c3
      rw [e2] at hc33
      refine ⟨_, rfl, _, _, _, _, _, rfl, hpr3, T.cl_Processor, T.t_Processor_stack, rfl, _, rfl, _, _, _, _, rfl, rfl, hc33, ixNm, ?_⟩
      rw [set_last]
      have sp4 := sp3.put3 (y := .lst (sv' ++ [.ref t2]))
      have hpr4 := sp4.c2
      have ow4 : Own K A S _ _ { s with c0 := s.c0 + 1, stack := rest ++ [{ c with step := c.step + 1, ticks := 0 }] } M := ow.mk2 (s := { s with c0 := s.c0 + 1, stack := rest ++ [{ c with step := c.step + 1, ticks := 0 }] }) g3 ⟨sv' ++ [.ref t2], rv, Paired.snoc (h4.mono fun _ _ z => CallAt.up g3 z) ⟨t2, rfl, t_of upd_same⟩, h2.mono fun _ _ z => RowAt.up g3 z, sp4⟩
      have hlt2 : c.step < c.line.steps.length := by
        rcases Nat.lt_or_ge c.step c.line.steps.length with z | z
        · exact z
        · rw [List.getElem?_eq_none z] at hn; cases hn
      refine ⟨_, rfl, A.pr, A.dp, _, rfl, hpr4, rfl, A, S, _, _, M, rest, { c with step := c.step + 1, ticks := 0 }, rfl, ow4, rfl, hco.ln, hlt2, hpl, ?_, fun K1 H1 p ev evs s1 g ow5 hp he R => ?_⟩
      · rw [e1] at hsl
        simpa using hsl
      · exact q K1 H1 p ev evs s1 (Same.tr g3 g) ow5 hp he (R.trans hsp.symm)
end
end Cb

namespace Cb
open PySem PySem.Spec PyProof.Rows L2

def readyN (S : SetD) (s : StD) : List Str := (S.order.filter s.rung).filter fun n => !s.und n
def lineOf (S : SetD) (n : Str) : List LineD := (S.ls.find? fun l => decide (l.name = n)).toList
def readyL (S : SetD) (s : StD) : List LineD := (readyN S s).flatMap (lineOf S)
theorem lineOf_eq {S : SetD} (h : SetOk S) {l : LineD} (m : l ∈ S.ls) : lineOf S l.name = [l] := by
  have nd := h.ok.nd
  unfold lineOf
  revert m nd
  generalize S.ls = ls
  intro m nd
  induction ls with
  | nil => cases m
  | cons a ls ih =>
    have n2 := List.nodup_cons.mp nd
    rcases List.mem_cons.mp m with e | m
    · subst e
      simp
    · have ne : a.name ≠ l.name := fun q => n2.1 (by show a.name ∈ _; rw [q]; exact List.mem_map_of_mem m)
      rw [List.find?_cons_of_neg (by simp [ne])]
      exact ih m n2.2
theorem flat_names {S : SetD} (h : SetOk S) : ∀ {ns : List Str}, (∀ n ∈ ns, n ∈ S.order) → names (ns.flatMap (lineOf S)) = ns.map V.str ∧ ∀ l ∈ ns.flatMap (lineOf S), l ∈ S.ls
  | [], _ => ⟨rfl, fun _ m => by cases m⟩
  | n :: ns, hn => by
    obtain ⟨l, hl, rfl⟩ := h.line (hn n List.mem_cons_self)
    obtain ⟨i1, i2⟩ := flat_names h (ns := ns) fun k m => hn k (List.mem_cons_of_mem _ m)
    rw [List.flatMap_cons, lineOf_eq h hl]
    refine ⟨?_, fun k m => ?_⟩
    · unfold names at i1 ⊢
      rw [List.map_append, i1]
      rfl
    · rcases List.mem_append.mp m with m | m
      · obtain rfl := List.mem_singleton.mp m
        exact hl
      · exact i2 k m
def tickP (S : SetD) (s : StD) : StD × List Ev := ((spendP (takeP s (readyL S s)).1).1, (takeP s (readyL S s)).2 ++ (spendP (takeP s (readyL S s)).1).2)
theorem goP_good {S : SetD} (hp : PlainS S) {s : StD} {rest : List CallD} {c : CallD} (e : s.stack = rest ++ [c]) (hr : ∀ c' ∈ rest, CallOk S c') (hl : c.line ∈ S.ls) (ht : c.ticks = 0) (hrow : s.rows = []) : GoodP S (goP s).1 ∧ (goP s).1.stack.length ≤ s.stack.length := by
  have hg : goP s = if c.step < c.line.steps.length then (s, []) else ({ s with stack := s.stack.dropLast, bar := c.kept, und := fset s.und c.line.name false }, [.fin c.line]) := by
    unfold goP
    rw [e]
    simp
  rw [hg]
  split
  · rename_i hj
    refine ⟨⟨fun c' m => ?_, hrow⟩, Nat.le_refl _⟩
    simp only [e] at m
    rcases List.mem_append.mp m with m | m
    · exact hr c' m
    · obtain rfl := List.mem_singleton.mp m
      have hstj : c'.line.steps[c'.step]? = some c'.line.steps[c'.step] := List.getElem?_eq_getElem hj
      obtain ⟨n, en, hn⟩ := hp c'.line hl _ (List.mem_of_getElem? hstj)
      exact ⟨hl, n, by rw [hstj, en], by omega, by omega⟩
  · refine ⟨⟨fun c' m => ?_, hrow⟩, by simp⟩
    simp only [e, List.dropLast_concat] at m
    exact hr c' m
theorem takeP_good {S : SetD} (hp : PlainS S) {s : StD} (g : GoodP S s) {ls : List LineD} (hls : ∀ l ∈ ls, l ∈ S.ls) : GoodP S (takeP s ls).1 ∧ (takeP s ls).1.stack.length ≤ s.stack.length + 1 ∧ (takeP s ls).2.length ≤ 2 := by
  cases ls with
  | nil => exact ⟨g, by simp [takeP], by simp [takeP]⟩
  | cons l ls =>
    have e : takeP s (l :: ls) = if floorP s < l.rank then ((goP (beginP s l)).1, .bgn l :: (goP (beginP s l)).2) else (s, []) := rfl
    rw [e]
    by_cases hf : floorP s < l.rank
    · rw [if_pos hf]
      have z := goP_good hp (s := beginP s l) (rest := s.stack) (c := ⟨l, 0, 0, s.bar⟩) rfl g.calls (hls l List.mem_cons_self) rfl g.rows
      have y := goP_len (beginP s l)
      refine ⟨z.1, ?_, by simp; omega⟩
      have := z.2
      simpa [beginP] using this
    · rw [if_neg hf]
      exact ⟨g, by simp, by simp⟩
theorem spendP_good {S : SetD} (hp : PlainS S) {s : StD} (g : GoodP S s) : GoodP S (spendP s).1 ∧ (spendP s).1.stack.length ≤ s.stack.length := by
  rcases List.eq_nil_or_concat s.stack with e1 | ⟨rest, c, e1⟩
  · unfold spendP
    rw [e1]
    exact ⟨⟨fun c m => by simp [e1] at m, g.rows⟩, by simp [e1]⟩
  · rw [List.concat_eq_append] at e1
    have hco := g.calls c (by rw [e1]; simp)
    have hr : ∀ c' ∈ rest, CallOk S c' := fun c' m => g.calls c' (by rw [e1]; exact List.mem_append_left _ m)
    obtain ⟨n, hn, hn0, hn1⟩ := hco.st
    have hst : stepT c = n := by unfold stepT; rw [hn]
    have hsp : spendP s = if c.ticks + 1 < n then ({ s with c0 := s.c0 + 1, stack := rest ++ [{ c with ticks := c.ticks + 1 }] }, []) else goP { s with c0 := s.c0 + 1, stack := rest ++ [{ c with step := c.step + 1, ticks := 0 }] } := by
      unfold spendP
      rw [e1]
      simp [hst]
    rw [hsp]
    split
    · rename_i hlt
      refine ⟨⟨fun c' m => ?_, g.rows⟩, by simp [e1]⟩
      rcases List.mem_append.mp m with m | m
      · exact hr c' m
      · obtain rfl := List.mem_singleton.mp m
        exact ⟨hco.ln, n, hn, by simp; omega, hlt⟩
    · have z := goP_good hp (s := { s with c0 := s.c0 + 1, stack := rest ++ [{ c with step := c.step + 1, ticks := 0 }] }) (rest := rest) (c := { c with step := c.step + 1, ticks := 0 }) rfl hr hco.ln rfl g.rows
      refine ⟨z.1, ?_⟩
      have := z.2
      simp at this
      simp [e1]
      omega

section
variable {P : Program} {w : World} {K : PySem.W.Frag} {mg : Str → Option Value} {base : Heap}

def spP_tick (K : PySem.W.Frag) : Sp := fun vs H Q _ => ∃ (A : Ad) (S : SetD) (K0 : Hp) (s : StD) (si dx : Addr) (now : Int) (M : List (Addr × HO)), vs = [.ref si] ∧ Own K A S K0 H s ((si, siI K A dx now) :: M) ∧ GoodP S s ∧ PlainS S ∧ s.stack.length ≤ 3700 ∧
  ∀ K1 H' p ev evs s', Same K0 K1 → Own K A S K1 H' s' ((si, siI K A dx (now + 1)) :: M) → K1 p = some (.lst ev) → Paired (EvAt K K1) ev evs → (s', evs) = tickP S s → Q (.ref p) H'

abbrev NP_Processor_go_on : List Str := ["self", "events"]
theorem scP_Processor_go_on : FnScope NP_Processor_go_on ["self"] (C8.fnScope s_Processor_go_on) := C8.fnScope_by (by decide +kernel)
theorem okP_Processor_go_on {fd : FuncData} (T : Txt K mg) (F : FunD K "go_on" "Processor.go_on" (C8.fnArgs s_Processor_go_on) (C8.fnBody s_Processor_go_on) (C8.fnScope s_Processor_go_on) [] [] (He.ma K (aC "Processor" K) "go_on") fd) (c_passes_flag : C8.Met P w K mg base 5 (aC "Processor" K) "_passes_flag" (sp_Processor_passes_flag K) []) (c_pspend : C8.Met P w K mg base 6 (aC "Processor" K) "_spend" (spP_spend K) []) :
    C8.Met P w K mg base 7 (aC "Processor" K) "go_on" (spP_go_on K) [] := by
  refine C8.met0 T.cl_Processor T.m_Processor_go_on (fun_c8 F) (F.bindsN fun _ _ _ _ _ _ us hl => match us, hl with | [_], _ => rfl) scP_Processor_go_on (fun vs H Q E h => ?_) (fun cdv A outer s H vs Q E hr h => ?_)
  · obtain ⟨_, _, _, _, _, rfl, _⟩ := h
    rfl
  · have nd := scP_Processor_go_on.nd
    have hu := hu_of hr
    obtain ⟨A, S, K0, s, M, rfl, ow, gd, hpl, hsl, q⟩ := h
    refine ⟨_, (pss_cons (ps_set (i := 1) nd rfl (Or.inl rfl) (pe_lst pa_nil))
      (pss_cons (ps_while PassesOwn.never (pt_val (C8.pe_mt0 c_passes_flag hr (by decide) (pv 0))) (pss_one ps_never))
      (pss_cons (ps_expr (pe_bm PySem.F.plainAttrs_list PySem.F.slot_list_extend PySem.F.type_list_extend mt_extend (pv 1) (pa_cons (C8.pe_mt0 c_pspend hr (by decide) (pv 0)) pa_nil)))
      (pss_one (ps_ret (pv 1)))))), ?_⟩
    refine ⟨Nat.zero_le _, fun p1 hp1 => ?_⟩
    obtain ⟨sv, rv, h1, h2, sp⟩ := ow.ex
    have ow1 : Own K A S K0 _ s ((p1, .lst []) :: M) := ow.mk2 (s := s) (Same.refl K0) ⟨sv, rv, h1, h2, (sp.own (o := .lst []) hp1).dn6⟩
    refine ⟨fun m σ H' => m = 0 ∧ σ = [some (.ref A.pr), some (.ref p1)] ∧ Own K A S K0 H' s ((p1, .lst []) :: M), ⟨0, rfl, rfl, ow1⟩, ?_⟩
    rintro m σ H1 ⟨rfl, rfl, ow2⟩
    obtain ⟨sv2, rv2, k1, k2, sp2⟩ := ow2.ex
    refine ⟨_, rfl, A.pr, A.dp, _, rfl, sp2.c2, rfl, A, S, K0, s, _, rfl, ow2, fun c m => ?_, fun H2 g2 => ⟨_, rfl, iteF ?_⟩⟩
    · obtain ⟨n, hn, _⟩ := (gd.calls c m).st
      exact ⟨(gd.calls c m).ln, _, hn⟩
    have ow3 := ow2.grow g2
    have sp3 := sp2.grow g2
    have hp13 := sp3.up6.c0
    refine ⟨_, rfl, .inl ⟨rfl, _, .inl (.inl hp13)⟩, _, rfl, A.pr, A.dp, _, rfl, sp3.c2, rfl, A, S, K0, s, _, rfl, ow3, gd, hpl, hsl, fun K1 H3 p ev evs s1 g ow4 hp he R => ?_⟩
    obtain ⟨sv4, rv4, m1, m2, sp4⟩ := ow4.ex
    have hlen := he.length
    have hel : evs.length ≤ 1 := by
      have := spendP_len s
      rw [← R] at this
      exact this
    refine ⟨_, _, _, _, rfl, rfl, sp4.up6.c0, sp4.ext _ _ hp, Nat.le_of_lt (sm (m := 9) (by simp; omega) (by decide)), ?_⟩
    have sp5 := sp4.up6.put0 (o' := .lst ([] ++ ev))
    have g5 := sp5.new0
    have ow5 : Own K A S _ _ s1 M := ow4.mk2 (s := s1) g5 ⟨sv4, rv4, m1.mono fun _ _ z => CallAt.up g5 z, m2.mono fun _ _ z => RowAt.up g5 z, sp5.freeze⟩
    exact ⟨_, rfl, q _ _ p1 ev evs s1 (Same.tr g g5) ow5 (by rw [List.nil_append]; exact upd_same) (he.mono fun _ _ z => EvAt.up g5 z) R⟩
abbrev NP_Processor_take : List Str := ["self", "lines", "line"]
theorem scP_Processor_take : FnScope NP_Processor_take ["self", "lines"] (C8.fnScope s_Processor_take) := C8.fnScope_by (by decide +kernel)
theorem okP_Processor_take {fd : FuncData} (T : Txt K mg) (F : FunD K "take" "Processor.take" (C8.fnArgs s_Processor_take) (C8.fnBody s_Processor_take) (C8.fnScope s_Processor_take) [] [] (He.ma K (aC "Processor" K) "take") fd) (c_lets_by : C8.Met P w K mg base 4 (aC "Processor" K) "_lets_by" (spP_lets_by K) []) (c_begin : C8.Met P w K mg base 5 (aC "Board" K) "begin" (sp_Board_begin K) []) (c_go_through : C8.Met P w K mg base 4 (aC "Processor" K) "_go_through" (spP_go_through K) []) :
    C8.Met P w K mg base 6 (aC "Processor" K) "take" (spP_take K) [] := by
  refine C8.met0 T.cl_Processor T.m_Processor_take (fun_c8 F) (F.bindsN fun _ _ _ _ _ _ us hl => match us, hl with | [_, _], _ => rfl) scP_Processor_take (fun vs H Q E h => ?_) (fun cdv A outer s H vs Q E hr h => ?_)
  · obtain ⟨_, _, _, _, _, _, _, rfl, _⟩ := h
    rfl
  · have nd := scP_Processor_take.nd
    have hu := hu_of hr
    obtain ⟨A, S, K0, s, M, lp, ls, rfl, ow, gd, hpl, hsl, hlp, hls, q⟩ := h
    refine ⟨_, (pss_cons (ps_if (PW.pt (pw_or (pt_not (pt_truth (pv 1) (by intro _; rfl))) (pw_or1 (pt_not (pt_val (C8.pe_mt c_lets_by hr (by decide) (pv 0) (pa_cons (pe_ix ix_list (pv 1) pe_int (fun _ _ => rfl)) pa_nil))))))) (pss_one (ps_ret (pe_lst pa_nil))) pss_nil)
      (pss_cons (ps_set (i := 2) nd rfl (Or.inl rfl) (pe_ix ix_list (pv 1) pe_int (fun _ _ => rfl)))
      (pss_cons (ps_expr (C8.pe_mt c_begin hr (by decide) (pe_fld (pv 0) rfl) (pa_cons (pv 2) pa_nil)))
      (pss_cons (ps_expr (pe_bm PySem.F.plainAttrs_list PySem.F.slot_list_append PySem.F.type_list_append mt_append (pe_fld (pv 0) rfl) (pa_cons (pe_tup (pa_cons (pv 2) (pa_cons pe_int (pa_cons pe_int (pa_cons (pe_fld (pv 0) rfl) pa_nil))))) pa_nil)))
      (pss_one (ps_ret (pe_lst (pa_cons (pe_tup (pa_cons pe_str (pa_cons (pv 2) pa_nil))) (StX.pa_star (C8.pe_mt0 c_go_through hr (by decide) (pv 0)) pa_nil))))))))), ?_⟩
    obtain ⟨sv, rv, h1, h2, sp⟩ := ow.ex
    have hpr := sp.c2
    have hlp1 := sp.ext _ _ hlp
    cases ls with
    | nil =>
      refine ⟨_, rfl, false, .inl ⟨_, l_of hlp1, rfl⟩, iteT ?_⟩
      refine ⟨Nat.zero_le _, fun p hp => ?_⟩
      have ow2 : Own K A S K0 _ s ((p, .lst []) :: M) := ow.mk2 (s := s) (Same.refl K0) ⟨sv, rv, h1, h2, (sp.own (o := .lst []) hp).dn6⟩
      exact q K0 _ p [] [] s (Same.refl K0) ow2 .nil rfl
    | cons l ls =>
    have hl := hls l List.mem_cons_self
    have htk : takeP s (l :: ls) = if floorP s < l.rank then ((goP (beginP s l)).1, .bgn l :: (goP (beginP s l)).2) else (s, []) := rfl
    refine ⟨_, rfl, true, .inl ⟨_, l_of hlp1, rfl⟩, iteF ?_⟩
    refine ⟨_, rfl, A.pr, A.dp, _, rfl, hpr, rfl, _, rfl, _, _, _, _, rfl, rfl, l_of hlp1, atI0, A, S, K0, s, M, l, rfl, ow, hl, fun c m => (gd.calls c m).ln, decide (floorP s < l.rank), rfl, ?_⟩
    by_cases hf : floorP s < l.rank
    case neg =>
      rw [decide_eq_false hf]
      refine iteT ?_
      rw [if_neg hf] at htk
      refine ⟨Nat.zero_le _, fun p hp => ?_⟩
      have ow2 : Own K A S K0 _ s ((p, .lst []) :: M) := ow.mk2 (s := s) (Same.refl K0) ⟨sv, rv, h1, h2, (sp.own (o := .lst []) hp).dn6⟩
      exact q K0 _ p [] [] s (Same.refl K0) ow2 .nil htk.symm
    rw [decide_eq_true hf]
    rw [if_pos hf] at htk
    refine iteF ?_
    refine ⟨_, rfl, _, _, _, _, rfl, rfl, l_of hlp1, atI0, ?_⟩
    obtain ⟨db, d0, fl0, mg0, hbo, _⟩ := (BoardAt.up sp.ext ow.fb).ex
    refine ⟨_, rfl, _, _, _, _, _, rfl, hpr, T.cl_Processor, T.t_Processor_board, rfl, A.bo, db, _, rfl, hbo, rfl, _, rfl, A.bo, A.su, A.r, A.u, S, l, K0, s.rung, s.und, _, rfl, ow.fb, hl, sp, fun H1 sp1 => ?_⟩
    have hpr1 := sp1.c2
    refine ⟨_, rfl, _, _, _, _, _, rfl, hpr1, T.cl_Processor, T.t_Processor_stack, rfl, .inl ⟨rfl, _, .inl (.inl sp1.c3)⟩, _, rfl, _, rfl, _, _, _, _, _, rfl, hpr1, T.cl_Processor, T.t_Processor_bar, rfl, small8 (by simp), fun t2 ht2 => ?_⟩
    have sp2 := sp1.keep (o := .tup [.str l.name, .int 0, .int 0, .int s.bar]) ht2
    have g2 := sp1.newk (o := .tup [.str l.name, .int 0, .int 0, .int s.bar]) ht2
    refine ⟨_, _, _, rfl, rfl, sp2.c3, sm (m := 4000) (by have := h1.length; omega) (by decide), ?_⟩
    have sp3 := sp2.put3 (y := .lst (sv ++ [.ref t2]))
    refine ⟨_, rfl, small8 (by simp), fun t3 ht3 => ?_⟩
    have sp4 := sp3.keep (o := .tup [.str "begin", .str l.name]) ht3
    have g4 := sp3.newk (o := .tup [.str "begin", .str l.name]) ht3
    have g := Same.tr g2 g4
    have ow4 : Own K A S _ _ (beginP s l) M := ow.mk2 (s := beginP s l) g ⟨sv ++ [.ref t2], rv, Paired.snoc (h1.mono fun _ _ z => CallAt.up g z) ⟨t2, rfl, t_of (g4 _ _ upd_same)⟩, h2.mono fun _ _ z => RowAt.up g z, sp4⟩
    refine ⟨_, rfl, A.pr, A.dp, _, rfl, sp4.c2, rfl, A, S, _, _, M, s.stack, ⟨l, 0, 0, s.bar⟩, rfl, ow4, rfl, hl, Nat.zero_le _, hpl, (by show (s.stack ++ [_]).length ≤ 3900; simp; omega), fun K1 H2 p ev evs s1 g5 ow5 hp he R => ?_⟩
    obtain ⟨sv5, rv5, m1, m2, sp5⟩ := ow5.ex
    have hel : evs.length ≤ 1 := by
      have := goP_len (beginP s l)
      rw [← R] at this
      exact this
    have hlen := he.length
    refine ⟨p, ev, rfl, .inr (l_of (sp5.ext _ _ hp)), Nat.le_of_lt (sm (m := 9) (by simp; omega) (by decide)), fun z hz => ?_⟩
    have sp6 := sp5.own (o := .lst (.ref t3 :: (ev ++ []))) hz
    have ow6 : Own K A S K1 _ s1 ((z, .lst (.ref t3 :: (ev ++ []))) :: M) := ow5.mk2 (s := s1) (Same.refl K1) ⟨sv5, rv5, m1, m2, sp6.dn6⟩
    refine q K1 _ z _ (.bgn l :: evs) s1 (Same.tr g g5) ow6 ?_ (by rw [htk, ← R])
    rw [List.append_nil]
    exact .cons ⟨t3, rfl, t_of (g5 _ _ upd_same)⟩ he
end
end Cb

namespace Cb
open PySem PySem.Spec PyProof.Rows L2

section
variable {P : Program} {w : World} {K : PySem.W.Frag} {mg : Str → Option Value} {base : Heap}

abbrev NP_Single_tick : List Str := ["self", "events"]
theorem scP_Single_tick : FnScope NP_Single_tick ["self"] (C8.fnScope s_Single_tick) := C8.fnScope_by (by decide +kernel)
theorem okP_Single_tick {fd : FuncData} (T : Txt K mg) (F : FunD K "tick" "Single.tick" (C8.fnArgs s_Single_tick) (C8.fnBody s_Single_tick) (C8.fnScope s_Single_tick) [] [] (He.ma K (aC "Single" K) "tick") fd) (c_take : C8.Met P w K mg base 6 (aC "Processor" K) "take" (spP_take K) []) (c_ready_lines : C8.Met P w K mg base 7 (aC "Board" K) "ready_lines" (sp_Board_ready_lines K) []) (c_go_on : C8.Met P w K mg base 7 (aC "Processor" K) "go_on" (spP_go_on K) []) :
    C8.Met P w K mg base 8 (aC "Single" K) "tick" (spP_tick K) [] := by
  refine C8.met0 T.cl_Single T.m_Single_tick (fun_c8 F) (F.bindsN fun _ _ _ _ _ _ us hl => match us, hl with | [_], _ => rfl) scP_Single_tick (fun vs H Q E h => ?_) (fun cdv A outer s H vs Q E hr h => ?_)
  · obtain ⟨_, _, _, _, _, _, _, _, rfl, _⟩ := h
    rfl
  · have nd := scP_Single_tick.nd
    have hu := hu_of hr
    obtain ⟨A, S, K0, s, si, dx, now, M, rfl, ow, gd, hpl, hsl, q⟩ := h
    refine ⟨_, (pss_cons (ps_set (i := 1) nd rfl (Or.inl rfl) (C8.pe_mt c_take hr (by decide) (pe_fld (pv 0) rfl) (pa_cons (C8.pe_mt0 c_ready_lines hr (by decide) (pe_fld (pv 0) rfl)) pa_nil)))
      (pss_cons (ps_expr (pe_bm PySem.F.plainAttrs_list PySem.F.slot_list_extend PySem.F.type_list_extend mt_extend (pv 1) (pa_cons (C8.pe_mt0 c_go_on hr (by decide) (pe_fld (pv 0) rfl)) pa_nil)))
      (pss_cons (ps_fldaug (pv 0) pe_int in_add)
      (pss_one (ps_ret (pv 1)))))), ?_⟩
    have hsi := ow.fr
    obtain ⟨sv, rv, h1, h2, sp⟩ := ow.ex
    have fb1 := BoardAt.up sp.ext ow.fb
    obtain ⟨db, d0, fl0, mg0, hbo, _⟩ := fb1.ex
    refine ⟨_, rfl, _, _, _, _, _, rfl, hsi, T.cl_Single, T.t_Single_processor, rfl, A.pr, A.dp, _, rfl, ow.pr, rfl, ?_⟩
    refine ⟨_, rfl, _, _, _, _, _, rfl, hsi, T.cl_Single, T.t_Single_board, rfl, A.bo, db, _, rfl, hbo, rfl, A.bo, A.su, A.r, A.u, S, s.rung, s.und, rfl, fb1, sp.c0, sp.c1, fun lp H1 g1 hlp hlp1 => ?_⟩
    have owf := (ow.ownM' g1 hlp hlp1).freezeM
    have hfn := flat_names ow.fb.ok (ns := readyN S s) fun n m => (List.mem_filter.mp (List.mem_filter.mp m).1).1
    have htg := takeP_good hpl gd (ls := readyL S s) hfn.2
    have hlz : upd K0 lp (.lst ((readyN S s).map V.str)) lp = some (.lst (names (readyL S s))) := by
      rw [upd_same]
      exact congrArg (fun z => some (HO.lst z)) hfn.1.symm
    refine ⟨A, S, _, s, _, lp, readyL S s, rfl, owf.1, gd, hpl, by omega, hlz, hfn.2, fun K1 H2 p ev evs s1 g2 ow2 he R => ?_⟩
    have R1 : s1 = (takeP s (readyL S s)).1 := congrArg Prod.fst R
    have R2 : evs = (takeP s (readyL S s)).2 := congrArg Prod.snd R
    have hsi2 := ow2.swapM.fr
    refine ⟨_, rfl, .inl ⟨rfl, _, .inl (.inl ow2.fr)⟩, _, rfl, _, _, _, _, _, rfl, hsi2, T.cl_Single, T.t_Single_processor, rfl, A.pr, A.dp, _, rfl, ow2.pr, rfl, A, S, K1, s1, _, rfl, ow2, R1 ▸ htg.1, hpl, by rw [R1]; have := htg.2.1; omega, fun K2 H3 p2 ev2 evs2 s2 g3 ow3 hp2 he2 hR2 => ?_⟩
    have l1 := he.length
    have l2 := he2.length
    have e1 : evs.length ≤ 2 := R2 ▸ htg.2.2
    have e2 : evs2.length ≤ 1 := by
      have := spendP_len s1
      rw [← hR2] at this
      exact this
    refine ⟨p, p2, ev, ev2, rfl, rfl, ow3.fr, ow3.same _ _ hp2, Nat.le_of_lt (sm (m := 9) (by omega) (by decide)), ?_⟩
    have ow4 := ow3.putM (o' := .lst (ev ++ ev2))
    have hsi4 := ow4.swapM.fr
    refine ⟨_, rfl, _, _, _, _, _, rfl, hsi4, T.cl_Single, T.t_Single_now, rfl, _, _, rfl, rfl, _, _, hsi4, by simp, ?_⟩
    have ow5 := ow4.swapM.putM (o' := siI K A dx (now + 1))
    obtain ⟨ow6, g6⟩ := ow5.swapM.freezeM
    have gA := Same.tr owf.2 (Same.tr g2 (Same.tr g3 g6))
    refine ⟨_, rfl, q _ _ p (ev ++ ev2) (evs ++ evs2) s2 gA ow6 upd_same (papp (he.mono fun _ _ z => EvAt.up (Same.tr g3 g6) z) (he2.mono fun _ _ z => EvAt.up g6 z)) ?_⟩
    have Q1 : s2 = (spendP s1).1 := congrArg Prod.fst hR2
    have Q2 : evs2 = (spendP s1).2 := congrArg Prod.snd hR2
    unfold tickP
    rw [Q1, Q2, R1, R2]
end
end Cb

namespace Cb
open PySem PySem.Spec PyProof.Rows L2
/-! lower ranks do not matter: the pure part -/
def upL (m : Int) (l : LineD) : Bool := decide (m ≤ l.rank)
def upC (m : Int) (c : CallD) : Bool := upL m c.line
def upE (m : Int) : Ev → Bool
  | .bgn l => upL m l
  | .fin l => upL m l
  | .dne _ => false
structure Bis (m : Int) (S : SetD) (s1 s2 : StD) : Prop where
  b1 : s1.bar = 0
  b2 : s2.bar = 0
  k1 : ∀ c ∈ s1.stack, c.kept = 0
  st : s2.stack = s1.stack.filter (upC m)
  asc : s1.stack.Pairwise fun a b => a.line.rank < b.line.rank
  rg : ∀ l ∈ S.ls, upL m l = true → s1.rung l.name = s2.rung l.name ∧ s1.und l.name = s2.und l.name
  g1 : GoodP S s1
theorem name_inj {S : SetD} (h : SetOk S) {a b : LineD} (ha : a ∈ S.ls) (hb : b ∈ S.ls) (e : a.name = b.name) : a = b := by
  have z := lineOf_eq h ha
  rw [e, lineOf_eq h hb] at z
  exact (List.cons.inj z).1.symm
theorem low_all {m : Int} {rest : List CallD} {c : CallD} (asc : (rest ++ [c]).Pairwise fun a b => a.line.rank < b.line.rank) (h : upC m c = false) : (rest ++ [c]).filter (upC m) = [] := by
  rw [List.filter_eq_nil_iff]
  intro d hd
  have hc : ¬ m ≤ c.line.rank := by simpa [upC, upL] using h
  rcases List.mem_append.mp hd with hd | hd
  · have := (List.pairwise_append.mp asc).2.2 d hd c (by simp)
    simp [upC, upL]
    omega
  · obtain rfl := List.mem_singleton.mp hd
    simp [h]
theorem floor_top {s : StD} {rest : List CallD} {c : CallD} (e : s.stack = rest ++ [c]) (hb : s.bar = 0) (hr : 1 ≤ c.line.rank) : floorP s = c.line.rank := by
  unfold floorP
  rw [e]
  simp [hb]
  omega
theorem floor_nil {s : StD} (e : s.stack = []) (hb : s.bar = 0) : floorP s = 0 := by
  unfold floorP
  rw [e]
  exact hb
theorem go_begin {s : StD} {l : LineD} (h : 1 ≤ l.steps.length) : goP (beginP s l) = (beginP s l, []) := by
  unfold goP
  have e : (beginP s l).stack.getLast? = some ⟨l, 0, 0, s.bar⟩ := by simp [beginP]
  rw [e]
  show (if (0 : Nat) < l.steps.length then (beginP s l, []) else _) = _
  rw [if_pos (by omega)]
theorem take_one {s : StD} {l : LineD} {r : List LineD} (h : 1 ≤ l.steps.length) : takeP s (l :: r) = if floorP s < l.rank then (beginP s l, [.bgn l]) else (s, []) := by
  show (if floorP s < l.rank then _ else _) = _
  rw [go_begin h]
theorem fset_ne {f : Str → Bool} {a n : Str} {b : Bool} (h : n ≠ a) : fset f a b n = f n := by
  unfold fset
  rw [if_neg h]
theorem bis_take {m : Int} {S : SetD} (ok : SetOk S) (pl : PlainS S) {s1 s2 : StD} (B : Bis m S s1 s2) {r : List LineD} (hr : ∀ l ∈ r, l ∈ S.ls) (hs : r.Pairwise fun a b => b.rank < a.rank) :
    Bis m S (takeP s1 r).1 (takeP s2 (r.filter (upL m))).1 ∧ (takeP s2 (r.filter (upL m))).2 = (takeP s1 r).2.filter (upE m) := by
  cases r with
  | nil => exact ⟨B, rfl⟩
  | cons l r =>
    have hl := hr l List.mem_cons_self
    have lok := ok.ok.ok l hl
    rw [take_one lok.s1]
    have rank1 : ∀ c ∈ s1.stack, 1 ≤ c.line.rank := fun c mc => (ok.ok.ok _ (B.g1.calls c mc).ln).r1
    have hstep : ∃ n, l.steps[0]? = some (.run n) ∧ (0 : Int) ≤ 0 ∧ (0 : Int) < n := by
      have h0 : l.steps[0]? = some (l.steps[0]'(by have := lok.s1; omega)) := List.getElem?_eq_getElem _
      obtain ⟨n, en, hn⟩ := pl l hl _ (List.mem_of_getElem? h0)
      exact ⟨n, by rw [h0, en], by omega, by omega⟩
    have fl1 : ∀ c ∈ s1.stack, floorP s1 < l.rank → c.line.rank < l.rank := by
      intro c mc hf
      rcases List.eq_nil_or_concat s1.stack with e | ⟨rest, d, e⟩
      · rw [e] at mc
        cases mc
      · rw [List.concat_eq_append] at e
        rw [floor_top e B.b1 (rank1 d (by rw [e]; simp))] at hf
        have asc := B.asc
        rw [e] at mc asc
        rcases List.mem_append.mp mc with mc | mc
        · have := (List.pairwise_append.mp asc).2.2 c mc d (by simp)
          omega
        · obtain rfl := List.mem_singleton.mp mc
          exact hf
    have asc1 : floorP s1 < l.rank → (s1.stack ++ [(⟨l, 0, 0, s1.bar⟩ : CallD)]).Pairwise (fun (a b : CallD) => a.line.rank < b.line.rank) := fun hf =>
      List.pairwise_append.mpr ⟨B.asc, by simp, fun a ha b hb => by
        obtain rfl := List.mem_singleton.mp hb
        exact fl1 a ha hf⟩
    have good1 : GoodP S (beginP s1 l) := ⟨fun c mc => by
      rcases List.mem_append.mp mc with mc | mc
      · exact B.g1.calls c mc
      · obtain rfl := List.mem_singleton.mp mc
        exact ⟨hl, hstep⟩, B.g1.rows⟩
    have kept1 : ∀ c ∈ (beginP s1 l).stack, c.kept = 0 := fun c mc => by
      rcases List.mem_append.mp mc with mc | mc
      · exact B.k1 c mc
      · obtain rfl := List.mem_singleton.mp mc
        exact B.b1
    cases hu : upL m l with
    | true =>
      rw [List.filter_cons_of_pos hu, take_one lok.s1]
      have hm : m ≤ l.rank := by simpa [upL] using hu
      have hf2 : (floorP s1 < l.rank) ↔ (floorP s2 < l.rank) := by
        rcases List.eq_nil_or_concat s1.stack with e | ⟨rest, d, e⟩
        · have e2 : s2.stack = [] := by rw [B.st, e]; rfl
          rw [floor_nil e B.b1, floor_nil e2 B.b2]
        · rw [List.concat_eq_append] at e
          have d1 := rank1 d (by rw [e]; simp)
          rw [floor_top e B.b1 d1]
          cases hd : upC m d with
          | true =>
            have e2 : s2.stack = rest.filter (upC m) ++ [d] := by rw [B.st, e, List.filter_append]; simp [hd]
            rw [floor_top e2 B.b2 d1]
          | false =>
            have asc := B.asc
            rw [e] at asc
            have e2 : s2.stack = [] := by rw [B.st, e]; exact low_all asc hd
            rw [floor_nil e2 B.b2]
            have : ¬ m ≤ d.line.rank := by simpa [upC, upL] using hd
            have := lok.r1
            constructor <;> intro _ <;> omega
      by_cases hf : floorP s1 < l.rank
      · rw [if_pos hf, if_pos (hf2.mp hf)]
        refine ⟨⟨B.b1, B.b2, kept1, ?_, asc1 hf, fun k hk hk2 => ?_, good1⟩, by simp [upE, hu]⟩
        · show s2.stack ++ [(⟨l, 0, 0, s2.bar⟩ : CallD)] = (s1.stack ++ [(⟨l, 0, 0, s1.bar⟩ : CallD)]).filter (upC m)
          rw [List.filter_append, ← B.st, B.b1, B.b2]
          simp [upC, hu]
        · show fset s1.rung l.name false k.name = fset s2.rung l.name false k.name ∧ fset s1.und l.name true k.name = fset s2.und l.name true k.name
          unfold fset
          by_cases en : k.name = l.name
          · simp [en]
          · simp [en]
            exact B.rg k hk hk2
      · rw [if_neg hf, if_neg fun z => hf (hf2.mpr z)]
        exact ⟨B, rfl⟩
    | false =>
      have hm : ¬ m ≤ l.rank := by simpa [upL] using hu
      have hnil : (l :: r).filter (upL m) = [] := by
        rw [List.filter_eq_nil_iff]
        intro k hk
        rcases List.mem_cons.mp hk with e | hk
        · subst e
          simp [hu]
        · have := (List.pairwise_cons.mp hs).1 k hk
          simp [upL]
          omega
      rw [hnil]
      show Bis m S _ s2 ∧ [] = _
      by_cases hf : floorP s1 < l.rank
      · rw [if_pos hf]
        refine ⟨⟨B.b1, B.b2, kept1, ?_, asc1 hf, fun k hk hk2 => ?_, good1⟩, by simp [upE, hu]⟩
        · show s2.stack = (s1.stack ++ [(⟨l, 0, 0, s1.bar⟩ : CallD)]).filter (upC m)
          rw [List.filter_append, ← B.st]
          simp [upC, hu]
        · have ne : k.name ≠ l.name := fun q => by
            have := name_inj ok hk hl q
            subst this
            rw [hu] at hk2
            cases hk2
          show fset s1.rung l.name false k.name = _ ∧ fset s1.und l.name true k.name = _
          rw [fset_ne ne, fset_ne ne]
          exact B.rg k hk hk2
      · rw [if_neg hf]
        exact ⟨B, rfl⟩
end Cb

namespace Cb
open PySem PySem.Spec PyProof.Rows L2
theorem spend_form {s : StD} {rest : List CallD} {c : CallD} {n : Int} (e : s.stack = rest ++ [c]) (hn : c.line.steps[c.step]? = some (.run n)) :
    spendP s = if c.ticks + 1 < n then ({ s with c0 := s.c0 + 1, stack := rest ++ [{ c with ticks := c.ticks + 1 }] }, [])
      else if c.step + 1 < c.line.steps.length then ({ s with c0 := s.c0 + 1, stack := rest ++ [{ c with step := c.step + 1, ticks := 0 }] }, [])
      else ({ s with c0 := s.c0 + 1, stack := rest, bar := c.kept, und := fset s.und c.line.name false }, [.fin c.line]) := by
  have hst : stepT c = n := by unfold stepT; rw [hn]
  unfold spendP
  rw [e]
  simp only [List.getLast?_concat, List.dropLast_concat, hst]
  by_cases h : c.ticks + 1 < n
  · rw [if_pos h, if_pos h]
  · rw [if_neg h, if_neg h]
    unfold goP
    simp only [List.getLast?_concat, List.dropLast_concat]
theorem spend_nil {s : StD} (e : s.stack = []) : spendP s = ({ s with c3 := s.c3 + 1 }, []) := by
  unfold spendP
  rw [e]
  rfl
theorem asc_set {rest : List CallD} {c d : CallD} (h : (rest ++ [c]).Pairwise fun a b => a.line.rank < b.line.rank) (e : d.line = c.line) : (rest ++ [d]).Pairwise fun a b => a.line.rank < b.line.rank := by
  have z := List.pairwise_append.mp h
  refine List.pairwise_append.mpr ⟨z.1, by simp, fun a ha b hb => ?_⟩
  obtain rfl := List.mem_singleton.mp hb
  rw [e]
  exact z.2.2 a ha c (by simp)
theorem filt_set {m : Int} {rest : List CallD} {c d : CallD} (e : d.line = c.line) (h : upC m c = true) : (rest ++ [d]).filter (upC m) = rest.filter (upC m) ++ [d] := by
  have hd : upC m d = true := by unfold upC at h ⊢; rw [e]; exact h
  rw [List.filter_append]
  simp [hd]
theorem bis_spend {m : Int} {S : SetD} (ok : SetOk S) (pl : PlainS S) {s1 s2 : StD} (B : Bis m S s1 s2) :
    Bis m S (spendP s1).1 (spendP s2).1 ∧ (spendP s2).2 = (spendP s1).2.filter (upE m) := by
  have good := (spendP_good pl B.g1).1
  rcases List.eq_nil_or_concat s1.stack with e | ⟨rest, c, e⟩
  · have e2 : s2.stack = [] := by rw [B.st, e]; rfl
    rw [spend_nil e] at good ⊢
    rw [spend_nil e2]
    exact ⟨⟨B.b1, B.b2, B.k1, B.st, B.asc, B.rg, good⟩, rfl⟩
  rw [List.concat_eq_append] at e
  have hc := B.g1.calls c (by rw [e]; simp)
  obtain ⟨n, hn, hn0, hn1⟩ := hc.st
  have asc := B.asc
  rw [e] at asc
  have hk : c.kept = 0 := B.k1 c (by rw [e]; simp)
  have hkr : ∀ d ∈ rest, d.kept = 0 := fun d hd => B.k1 d (by rw [e]; exact List.mem_append_left _ hd)
  have hks : ∀ d : CallD, d.kept = 0 → ∀ x ∈ rest ++ [d], x.kept = 0 := fun d hd x hx => by
    rcases List.mem_append.mp hx with hx | hx
    · exact hkr x hx
    · obtain rfl := List.mem_singleton.mp hx
      exact hd
  rw [spend_form e hn] at good ⊢
  cases hu : upC m c with
  | true =>
    have e2 : s2.stack = rest.filter (upC m) ++ [c] := by rw [B.st, e]; exact filt_set rfl hu
    rw [spend_form e2 hn]
    by_cases h1 : c.ticks + 1 < n
    · rw [if_pos h1] at good ⊢
      rw [if_pos h1]
      exact ⟨⟨B.b1, B.b2, hks _ hk, (filt_set (c := c) (d := { c with ticks := c.ticks + 1 }) rfl hu).symm, asc_set asc rfl, B.rg, good⟩, rfl⟩
    · rw [if_neg h1] at good ⊢
      rw [if_neg h1]
      by_cases h2 : c.step + 1 < c.line.steps.length
      · rw [if_pos h2] at good ⊢
        rw [if_pos h2]
        exact ⟨⟨B.b1, B.b2, hks _ hk, (filt_set (c := c) (d := { c with step := c.step + 1, ticks := 0 }) rfl hu).symm, asc_set asc rfl, B.rg, good⟩, rfl⟩
      · rw [if_neg h2] at good ⊢
        rw [if_neg h2]
        refine ⟨⟨hk, hk, hkr, rfl, (List.pairwise_append.mp asc).1, fun l hl hl2 => ?_, good⟩, ?_⟩
        · show _ ∧ fset s1.und c.line.name false l.name = fset s2.und c.line.name false l.name
          refine ⟨(B.rg l hl hl2).1, ?_⟩
          unfold fset
          split
          · rfl
          · exact (B.rg l hl hl2).2
        · show [Ev.fin c.line] = [Ev.fin c.line].filter (upE m)
          have : upE m (.fin c.line) = true := hu
          simp [this]
  | false =>
    have e2 : s2.stack = [] := by rw [B.st, e]; exact low_all asc hu
    rw [spend_nil e2]
    have hfr : rest.filter (upC m) = [] := by
      have z := low_all asc hu
      rw [List.filter_append] at z
      exact (List.append_eq_nil_iff.mp z).1
    have hfd : ∀ d : CallD, d.line = c.line → (rest ++ [d]).filter (upC m) = [] := fun d hd => by
      have : upC m d = false := by unfold upC at hu ⊢; rw [hd]; exact hu
      rw [List.filter_append, hfr]
      simp [this]
    by_cases h1 : c.ticks + 1 < n
    · rw [if_pos h1] at good ⊢
      exact ⟨⟨B.b1, B.b2, hks _ hk, e2.trans (hfd { c with ticks := c.ticks + 1 } rfl).symm, asc_set asc rfl, B.rg, good⟩, rfl⟩
    · rw [if_neg h1] at good ⊢
      by_cases h2 : c.step + 1 < c.line.steps.length
      · rw [if_pos h2] at good ⊢
        exact ⟨⟨B.b1, B.b2, hks _ hk, e2.trans (hfd { c with step := c.step + 1, ticks := 0 } rfl).symm, asc_set asc rfl, B.rg, good⟩, rfl⟩
      · rw [if_neg h2] at good ⊢
        refine ⟨⟨hk, B.b2, hkr, e2.trans hfr.symm, (List.pairwise_append.mp asc).1, fun l hl hl2 => ?_, good⟩, ?_⟩
        · have ne : l.name ≠ c.line.name := fun q => by
            have := name_inj ok hl hc.ln q
            subst this
            have z : upL m c.line = false := hu
            rw [z] at hl2
            cases hl2
          show _ ∧ fset s1.und c.line.name false l.name = _
          rw [fset_ne ne]
          exact B.rg l hl hl2
        · show [] = [Ev.fin c.line].filter (upE m)
          have : upE m (.fin c.line) = false := hu
          simp [this]
/-- a tick of both -/
theorem bis_tick {m : Int} {S1 S2 : SetD} (ok : SetOk S1) (pl : PlainS S1) {s1 s2 : StD} (B : Bis m S1 s1 s2) (h1 : ∀ l ∈ readyL S1 s1, l ∈ S1.ls) (hs : (readyL S1 s1).Pairwise fun a b => b.rank < a.rank) (h2 : readyL S2 s2 = (readyL S1 s1).filter (upL m)) :
    Bis m S1 (tickP S1 s1).1 (tickP S2 s2).1 ∧ (tickP S2 s2).2 = (tickP S1 s1).2.filter (upE m) := by
  have a := bis_take ok pl B h1 hs
  rw [← h2] at a
  have b := bis_spend ok pl a.1
  unfold tickP
  refine ⟨b.1, ?_⟩
  rw [List.filter_append, a.2, b.2]
end Cb

namespace Cb
open PySem PySem.Spec PyProof.Rows L2
theorem mem_lineOf {S : SetD} (h : SetOk S) {n : Str} {l : LineD} (hn : n ∈ S.order) : l ∈ lineOf S n ↔ l ∈ S.ls ∧ l.name = n := by
  obtain ⟨k, hk, rfl⟩ := h.line hn
  rw [lineOf_eq h hk]
  constructor
  · intro m
    obtain rfl := List.mem_singleton.mp m
    exact ⟨hk, rfl⟩
  · rintro ⟨hl, e⟩
    rw [name_inj h hl hk e]
    simp
theorem mem_readyL {S : SetD} (h : SetOk S) {s : StD} {l : LineD} : l ∈ readyL S s ↔ l ∈ S.ls ∧ s.rung l.name = true ∧ s.und l.name = false := by
  unfold readyL readyN
  rw [List.mem_flatMap]
  constructor
  · rintro ⟨n, hn, hl⟩
    have h1 := List.mem_filter.mp hn
    have h2 := List.mem_filter.mp h1.1
    obtain ⟨h3, e⟩ := (mem_lineOf h h2.1).mp hl
    subst e
    exact ⟨h3, h2.2, by simpa using h1.2⟩
  · rintro ⟨h1, h2, h3⟩
    refine ⟨l.name, List.mem_filter.mpr ⟨List.mem_filter.mpr ⟨h.mem h1, h2⟩, by simp [h3]⟩, (mem_lineOf h (h.mem h1)).mpr ⟨h1, rfl⟩⟩
def Ranks (S : SetD) : Prop := ∀ a ∈ S.ls, ∀ b ∈ S.ls, a.rank = b.rank → a = b
theorem flat_sorted {S : SetD} (h : SetOk S) (hr : Ranks S) : ∀ {ns : List Str}, (∀ n ∈ ns, n ∈ S.order) → ns.Nodup → (ns.Pairwise fun a b => ∀ la ∈ S.ls, ∀ lb ∈ S.ls, la.name = a → lb.name = b → lb.rank ≤ la.rank) → (ns.flatMap (lineOf S)).Pairwise fun a b => b.rank < a.rank
  | [], _, _, _ => .nil
  | n :: ns, hn, nd, hp => by
    obtain ⟨l, hl, rfl⟩ := h.line (hn n List.mem_cons_self)
    have nd2 := List.nodup_cons.mp nd
    have hp2 := List.pairwise_cons.mp hp
    rw [List.flatMap_cons, lineOf_eq h hl]
    refine List.pairwise_cons.mpr ⟨fun k hk => ?_, flat_sorted h hr (fun k m => hn k (List.mem_cons_of_mem _ m)) nd2.2 hp2.2⟩
    obtain ⟨q, hq, hkq⟩ := List.mem_flatMap.mp hk
    obtain ⟨hk1, rfl⟩ := (mem_lineOf h (hn q (List.mem_cons_of_mem _ hq))).mp hkq
    have le := hp2.1 k.name hq l hl k hk1 rfl rfl
    have ne : k.rank ≠ l.rank := fun e => by
      have := hr k hk1 l hl e
      subst this
      exact nd2.1 hq
    omega
theorem ready_sorted {S : SetD} (h : SetOk S) (hr : Ranks S) (s : StD) : (readyL S s).Pairwise fun a b => b.rank < a.rank := by
  have sub : (readyN S s).Sublist S.order := (List.filter_sublist).trans List.filter_sublist
  exact flat_sorted h hr (fun n m => sub.subset m) (h.nd.sublist sub) (h.srt.sublist sub)
theorem sorted_eq : ∀ {l1 l2 : List LineD}, (l1.Pairwise fun a b => b.rank < a.rank) → (l2.Pairwise fun a b => b.rank < a.rank) → (∀ x, x ∈ l1 ↔ x ∈ l2) → l1 = l2
  | [], [], _, _, _ => rfl
  | [], b :: l2, _, _, h => by
    have := (h b).mpr List.mem_cons_self
    cases this
  | a :: l1, [], _, _, h => by
    have := (h a).mp List.mem_cons_self
    cases this
  | a :: l1, b :: l2, p1, p2, h => by
    have q1 := List.pairwise_cons.mp p1
    have q2 := List.pairwise_cons.mp p2
    have e : a = b := by
      rcases List.mem_cons.mp ((h a).mp List.mem_cons_self) with e | m
      · exact e
      · rcases List.mem_cons.mp ((h b).mpr List.mem_cons_self) with e | m2
        · exact e.symm
        · have := q2.1 a m
          have := q1.1 b m2
          omega
    subst e
    rw [sorted_eq q1.2 q2.2 fun x => ⟨fun m => ?_, fun m => ?_⟩]
    · rcases List.mem_cons.mp ((h x).mp (List.mem_cons_of_mem _ m)) with e | z
      · subst e
        exact absurd (q1.1 x m) (by omega)
      · exact z
    · rcases List.mem_cons.mp ((h x).mpr (List.mem_cons_of_mem _ m)) with e | z
      · subst e
        exact absurd (q2.1 x m) (by omega)
      · exact z
/-- the ready lines of the upper part -/
theorem ready_up {m : Int} {S1 S2 : SetD} (h1 : SetOk S1) (h2 : SetOk S2) (hr : Ranks S1) (hu : ∀ l, l ∈ S2.ls ↔ l ∈ S1.ls ∧ upL m l = true) {s1 s2 : StD} (B : Bis m S1 s1 s2) : readyL S2 s2 = (readyL S1 s1).filter (upL m) := by
  have hr2 : Ranks S2 := fun a ha b hb e => hr a ((hu a).mp ha).1 b ((hu b).mp hb).1 e
  refine sorted_eq (ready_sorted h2 hr2 s2) ((ready_sorted h1 hr s1).sublist List.filter_sublist) fun x => ?_
  rw [List.mem_filter, mem_readyL h2, mem_readyL h1, hu]
  constructor
  · rintro ⟨⟨a, b⟩, c, d⟩
    have z := B.rg x a b
    exact ⟨⟨a, z.1.trans c, z.2.trans d⟩, b⟩
  · rintro ⟨⟨a, c, d⟩, b⟩
    have z := B.rg x a b
    exact ⟨⟨a, b⟩, z.1.symm.trans c, z.2.symm.trans d⟩
theorem bis_tick2 {m : Int} {S1 S2 : SetD} (h1 : SetOk S1) (h2 : SetOk S2) (hr : Ranks S1) (pl : PlainS S1) (hu : ∀ l, l ∈ S2.ls ↔ l ∈ S1.ls ∧ upL m l = true) {s1 s2 : StD} (B : Bis m S1 s1 s2) :
    Bis m S1 (tickP S1 s1).1 (tickP S2 s2).1 ∧ (tickP S2 s2).2 = (tickP S1 s1).2.filter (upE m) :=
  bis_tick h1 pl B (fun _ hl => ((mem_readyL h1).mp hl).1) (ready_sorted h1 hr s1) (ready_up h1 h2 hr hu B)
theorem bis_ring {m : Int} {S : SetD} (h : SetOk S) {s1 s2 : StD} (B : Bis m S s1 s2) {l : LineD} (hl : l ∈ S.ls) (hu : upL m l = true) : Bis m S { s1 with rung := fset s1.rung l.name true } { s2 with rung := fset s2.rung l.name true } := by
  refine ⟨B.b1, B.b2, B.k1, B.st, B.asc, fun k hk hk2 => ?_, ⟨B.g1.calls, B.g1.rows⟩⟩
  refine ⟨?_, (B.rg k hk hk2).2⟩
  show fset s1.rung l.name true k.name = fset s2.rung l.name true k.name
  unfold fset
  split
  · rfl
  · exact (B.rg k hk hk2).1
theorem bis_ring_low {m : Int} {S : SetD} (h : SetOk S) {s1 s2 : StD} (B : Bis m S s1 s2) {l : LineD} (hl : l ∈ S.ls) (hu : upL m l = false) : Bis m S { s1 with rung := fset s1.rung l.name true } s2 := by
  refine ⟨B.b1, B.b2, B.k1, B.st, B.asc, fun k hk hk2 => ?_, ⟨B.g1.calls, B.g1.rows⟩⟩
  have ne : k.name ≠ l.name := fun q => by
    have := name_inj h hk hl q
    subst this
    rw [hu] at hk2
    cases hk2
  show fset s1.rung l.name true k.name = _ ∧ _
  rw [fset_ne ne]
  exact B.rg k hk hk2
theorem bis_0 {m : Int} {S : SetD} : Bis m S st0 st0 := ⟨rfl, rfl, (fun _ q => by cases q), rfl, .nil, (fun _ _ _ => ⟨rfl, rfl⟩), ⟨(fun _ q => by cases q), rfl⟩⟩
end Cb

namespace Cb
open PySem PySem.Spec PyProof.Rows L2

def Dr (K' H : Hp) (row sc : Addr) (M : List (Addr × HO)) : Prop := ∃ i g x, 0 ≤ i ∧ (0 ≤ g ∧ g < 2147483647) ∧ Sep K' H ((row, rowO sc i g x) :: M)
def sp_law (K : PySem.W.Frag) : Sp := fun vs H Q _ => ∃ (a : Addr) (ns : List Int), vs = [.ref a] ∧ SqL K H a (ns.map V.int) ∧ ∀ H', Q (.bl true) H'
theorem taken {K : PySem.W.Frag} {row sc : Addr} {m : Int} {ns : List Int} {K0 H : Hp} {M : List (Addr × HO)} {Q : VK} {E : XK} (hm : 0 < m) (hm2 : m < 1000) (hsc : SqL K K0 sc (ns.map V.int)) (d : Dr K0 H row sc M) (q : ∀ H' r, 0 ≤ r → r < m → Dr K0 H' row sc M → Q (.int r) H') : sp_law_taken K [.ref row, .int m] H Q E := by
  obtain ⟨i, g, x, hi, hg, sp⟩ := d
  exact ⟨row, sc, m, ns, i, g, x, K0, M, rfl, hm, hm2, hi, hg, hsc, sp, fun H' i' g' x' r h1 h2 h3 h4 sp' => q H' r h3 h4 ⟨i', g', x', h1, h2, sp'⟩⟩
theorem takenT {K : PySem.W.Frag} {row sc : Addr} {m : Int} {ns : List Int} {K0 H : Hp} {M : List (Addr × HO)} {σ : L2.St} {Q : VK} {E : XK} (hσ : σ[1]? = some (some (V.ref row))) (hm : 0 < m) (hm2 : m < 1000) (hsc : SqL K K0 sc (ns.map V.int)) (d : Dr K0 H row sc M) (q : ∀ H' r, 0 ≤ r → r < m → Dr K0 H' row sc M → Q (.int r) H') : tCall (sp_law_taken K) [] E (tCons (tVar 1) (tCons (tC (.int m)) tNil)) σ H Q := ⟨_, hσ, taken (E := E) hm hm2 hsc d q⟩
theorem takenL {K : PySem.W.Frag} {row sc : Addr} {v : Nat} {p : Addr} {acc : List V} {ns : List Int} {K0 H : Hp} {M : List (Addr × HO)} {σ : L2.St} {Q : VK} {E : XK} (hσ : σ[1]? = some (some (V.ref row))) (hv : σ[v]? = some (some (V.ref p))) (hp : SqL K H p acc) (hm2 : acc.length < 900) (hsc : SqL K K0 sc (ns.map V.int)) (d : Dr K0 H row sc M) (q : ∀ H' r, 0 ≤ r → r < (acc.length : Int) + 1 → Dr K0 H' row sc M → Q (.int r) H') : tCall (sp_law_taken K) [] E (tCons (tVar 1) (tCons (tOp (rI0 fun i j => V.int (i + j)) (tCB (fun xs H Q => ∃ p ys, xs = [V.ref p] ∧ (SqL K H p ys ∨ SqT K H p ys) ∧ Q (V.int ys.length) H) (tCons (tVar v) tNil)) (tC (V.int 1))) tNil)) σ H Q := ⟨_, hσ, _, hv, p, acc, rfl, .inl hp, _, _, rfl, rfl, taken (E := E) (by omega) (by omega) hsc d q⟩
theorem takenL0 {K : PySem.W.Frag} {row sc : Addr} {v : Nat} {p : Addr} {acc : List V} {ns : List Int} {K0 H : Hp} {M : List (Addr × HO)} {σ : L2.St} {Q : VK} {E : XK} (hσ : σ[1]? = some (some (V.ref row))) (hv : σ[v]? = some (some (V.ref p))) (hp : SqL K H p acc) (h0 : 0 < acc.length) (hm2 : acc.length < 900) (hsc : SqL K K0 sc (ns.map V.int)) (q0 : (∀ H' r, 0 ≤ r → r < (acc.length : Int) → Q (.int r) H') → True) (q : sp_law_taken K [.ref row, .int acc.length] H Q E) : tCall (sp_law_taken K) [] E (tCons (tVar 1) (tCons (tCB (fun xs H Q => ∃ p ys, xs = [V.ref p] ∧ (SqL K H p ys ∨ SqT K H p ys) ∧ Q (V.int ys.length) H) (tCons (tVar v) tNil)) tNil)) σ H Q := ⟨_, hσ, _, hv, p, acc, rfl, .inl hp, q⟩
theorem hu64_of {k : Nat} {A : Around} (h : Room k A) : A.units + 64 < cLine := by
  have := h.un
  omega
section
variable {K' H : Hp} {row sc : Addr} {M : List (Addr × HO)}
theorem Dr.ext (d : Dr K' H row sc M) : Same K' H := d.elim fun _ h => h.elim fun _ h => h.elim fun _ h => h.2.2.ext
theorem Dr.own (d : Dr K' H row sc M) {p : Addr} {o : HO} (h : H p = none) : Dr K' (upd H p o) row sc ((p, o) :: M) := by
  obtain ⟨i, g, x, hi, hg, sp⟩ := d
  exact ⟨i, g, x, hi, hg, (sp.own h).swap⟩
theorem Dr.drop (d : Dr K' H row sc M) {p : Addr} {o : HO} (h : H p = none) : Dr K' (upd H p o) row sc M := by
  obtain ⟨i, g, x, hi, hg, sp⟩ := d
  exact ⟨i, g, x, hi, hg, sp.drop h⟩
theorem Dr.keep (d : Dr K' H row sc M) {p : Addr} {o : HO} (h : H p = none) : Dr (upd K' p o) (upd H p o) row sc M ∧ Same K' (upd K' p o) := by
  obtain ⟨i, g, x, hi, hg, sp⟩ := d
  exact ⟨⟨i, g, x, hi, hg, sp.keep h⟩, sp.newk h⟩
theorem Dr.at0 {p : Addr} {o : HO} (d : Dr K' H row sc ((p, o) :: M)) : H p = some o := by
  obtain ⟨i, g, x, hi, hg, sp⟩ := d
  exact sp.c1
theorem Dr.at1 {p : Addr} {o : HO} {e : Addr × HO} (d : Dr K' H row sc (e :: (p, o) :: M)) : H p = some o := by
  obtain ⟨i, g, x, hi, hg, sp⟩ := d
  exact sp.c2
theorem Dr.put {p : Addr} {o o' : HO} (d : Dr K' H row sc ((p, o) :: M)) : Dr K' (upd H p o') row sc ((p, o') :: M) := by
  obtain ⟨i, g, x, hi, hg, sp⟩ := d
  exact ⟨i, g, x, hi, hg, sp.put1⟩
theorem Dr.tail {e : Addr × HO} (d : Dr K' H row sc (e :: M)) : Dr K' H row sc M := by
  obtain ⟨i, g, x, hi, hg, sp⟩ := d
  exact ⟨i, g, x, hi, hg, sp.swap.tail⟩
theorem Dr.freeze {p : Addr} {o : HO} (d : Dr K' H row sc ((p, o) :: M)) : Dr (upd K' p o) H row sc M ∧ Same K' (upd K' p o) := by
  obtain ⟨i, g, x, hi, hg, sp⟩ := d
  exact ⟨⟨i, g, x, hi, hg, sp.swap.freeze⟩, sp.swap.new0⟩
end
theorem slA {K : PySem.W.Frag} {H : Hp} {a : Addr} {xs : List V} {k : Option Int} {Q : VK} (h : SqT K H a xs) (q : ∀ p H', ((p = a ∧ H' = H ∧ cutV xs none k = xs) ∨ (H p = none ∧ H' = upd H p (.tup (cutV xs none k)))) → Q (.ref p) H') : rSlA K (.ref a) none k H Q := by
  refine ⟨a, xs, rfl, h, fun e => q a H (.inl ⟨rfl, rfl, ?_⟩), fun _ p hp => q p _ (.inr ⟨hp, rfl⟩)⟩
  unfold cutV
  rw [e.1, e.2]
  simp

def FlatOk (x : V) : Prop := (∃ i, x = .int i) ∨ ∃ s, x = .str s ∧ nameOk s
def toD : V → PyData
  | .int i => .int i
  | .str s => .str s
  | _ => .none
theorem flat_dp {K : PySem.W.Frag} {H : Hp} : ∀ {l : List V}, (∀ x ∈ l, FlatOk x) → DpAll K H l (l.map toD)
  | [], _ => .nil
  | x :: l, h => by
    rcases h x List.mem_cons_self with ⟨i, rfl⟩ | ⟨s, rfl, _⟩
    · exact .cons (.int i) (flat_dp fun y m => h y (List.mem_cons_of_mem _ m))
    · exact .cons (.str s) (flat_dp fun y m => h y (List.mem_cons_of_mem _ m))
theorem flat_lay : ∀ {l : List V}, (∀ x ∈ l, FlatOk x) → PyData.canLayAll0 (l.map toD) = true ∧ PyData.depthAll (l.map toD) ≤ 1
  | [], _ => by simp [PyData.canLayAll0, PyData.depthAll]
  | x :: l, h => by
    have z := flat_lay (l := l) fun y m => h y (List.mem_cons_of_mem _ m)
    rcases h x List.mem_cons_self with ⟨i, rfl⟩ | ⟨s, rfl, hs⟩
    · simp [toD, PyData.canLayAll0, PyData.canLay0, PyData.depthAll, PyData.depth, z.1, z.2]
    · simp [toD, PyData.canLayAll0, PyData.canLay0, PyData.depthAll, PyData.depth, z.1, z.2, sok hs]
theorem flat_sh {l : List V} (h : ∀ x ∈ l, FlatOk x) : SeqAt.shaped (.list (l.map toD)) = true := by
  have z := flat_lay h
  unfold SeqAt.shaped
  simp [PyData.canLay0, z.1, PyData.depth]
  omega
theorem flat_nil (l : List V) : PyData.eqv (.list (l.map toD)) (.list []) = l.isEmpty := by
  cases l <;> simp [PyData.eqv, PyData.eqvAll]
theorem takenLv {K : PySem.W.Frag} {row sc : Addr} {rv v : Nat} {p : Addr} {acc : List V} {ns : List Int} {K0 H : Hp} {M : List (Addr × HO)} {σ : L2.St} {Q : VK} {E : XK} (hσ : σ[rv]? = some (some (V.ref row))) (hv : σ[v]? = some (some (V.ref p))) (hp : SqL K H p acc) (h0 : 0 < acc.length) (hm2 : acc.length < 900) (hsc : SqL K K0 sc (ns.map V.int)) (d : Dr K0 H row sc M) (q : ∀ H' r, 0 ≤ r → r < (acc.length : Int) → Dr K0 H' row sc M → Q (.int r) H') : tCall (sp_law_taken K) [] E (tCons (tVar rv) (tCons (tCB (fun xs H Q => ∃ p ys, xs = [V.ref p] ∧ (SqL K H p ys ∨ SqT K H p ys) ∧ Q (V.int ys.length) H) (tCons (tVar v) tNil)) tNil)) σ H Q :=
  ⟨_, hσ, _, hv, p, acc, rfl, .inl hp, taken (E := E) (by omega) (by omega) hsc d q⟩
theorem Dr.put1 {K' H : Hp} {row sc : Addr} {M : List (Addr × HO)} {e : Addr × HO} {p : Addr} {o o' : HO} (d : Dr K' H row sc (e :: (p, o) :: M)) : Dr K' (upd H p o') row sc (e :: (p, o') :: M) := by
  obtain ⟨i, g, x, hi, hg, sp⟩ := d
  exact ⟨i, g, x, hi, hg, sp.put2⟩
theorem erase_perm : ∀ {l : List V} {i : Nat} (h : i < l.length), (l[i] :: l.eraseIdx i).Perm l
  | a :: l, 0, _ => .refl _
  | a :: l, i + 1, h => (List.Perm.swap _ _ _).trans ((erase_perm (l := l) (i := i) (by simpa using h)).cons a)
def sp_law_mixed (K : PySem.W.Frag) : Sp := fun vs H Q _ => ∃ (row sc th : Addr) (ns : List Int) (xs : List V) (K0 : Hp) (M : List (Addr × HO)), vs = [.ref row, .ref th] ∧ SqL K K0 sc (ns.map V.int) ∧ SqL K K0 th xs ∧ xs.length ≤ 20 ∧ (∀ x ∈ xs, FlatOk x) ∧ Dr K0 H row sc M ∧
  ∀ K1 H' p ys, Same K0 K1 → Dr K1 H' row sc M → K1 p = some (.lst ys) → ys.Perm xs → Q (.ref p) H'

section
variable {P : Program} {w : World} {K : PySem.W.Frag} {mg : Str → Option Value} {base : Heap}

abbrev N_law_mixed : List Str := ["_law_row", "_law_things", "_law_left", "_law_found"]
theorem sc_law_mixed : FnScope N_law_mixed ["_law_row", "_law_things"] (C8.fnScope s_law_mixed) := C8.fnScope_by (by decide +kernel)
theorem ok_law_mixed {fd : FuncData} (T : Txt K mg) (F : FunD K "_law_mixed" "_law_mixed" (C8.fnArgs s_law_mixed) (C8.fnBody s_law_mixed) (C8.fnScope s_law_mixed) [] [] (He.ga K "_law_mixed") fd) (c__law_taken : C8.Cal P w K mg base 1 "_law_taken" (sp_law_taken K) []) :
    C8.Cal P w K mg base 2 "_law_mixed" (sp_law_mixed K) [] := by
  refine C8.cal0 (ds := []) ⟨fun_c8 F, T.f__law_mixed, F.kp⟩ (F.bindsN fun _ _ _ _ _ _ us hl => match us, hl with | [_, _], _ => rfl) .nil sc_law_mixed (fun vs H Q E h => ?_) (fun cdv A outer s H vs Q E hr h => ?_)
  · obtain ⟨_, _, _, _, _, _, _, rfl, _⟩ := h
    rfl
  · have nd := sc_law_mixed.nd
    have hu := hu_of hr
    obtain ⟨row, sc, th, ns, xs, K0, M, rfl, hsc, hth, hxl, hfl, d, q⟩ := h
    refine ⟨_, (pss_cons (ps_par (i := 2) (j := 3) rfl nd rfl rfl (by decide) rfl rfl (pa_cons (pe_callTy call_list_of (by rfl) T.n_list (by decide +kernel) (pa_cons (pv 1) pa_nil)) (pa_cons (pe_lst pa_nil) pa_nil)) rfl)
      (pss_cons (ps_while PassesOwn.never (pt_cmpR (op_neD (hu64_of hr)) (pv 2) (pe_lst pa_nil) (nomark _)) (pss_one (ps_expr (pe_bm PySem.F.plainAttrs_list PySem.F.slot_list_append PySem.F.type_list_append mt_append (pv 3) (pa_cons (pe_bm PySem.F.plainAttrs_list PySem.F.slot_list_pop PySem.F.type_list_pop mt_popAt (pv 2) (pa_cons (C8.pe_c c__law_taken hr (by decide) rfl (pa_cons (pv 0) (pa_cons (pe_callB call_len_seq (by rfl) T.n_len (by decide +kernel) (pa_cons (pv 2) pa_nil)) pa_nil))) pa_nil)) pa_nil)))))
      (pss_one (ps_ret (pv 3))))), ?_⟩
    refine ⟨_, rfl, _, _, rfl, .inl (Same.lst d.ext hth), fun lf hlf => ⟨Nat.zero_le _, fun fd2 hfd => ⟨_, _, rfl, ?_⟩⟩⟩
    have d1 := (d.own (o := .lst xs) hlf).own (o := .lst []) hfd
    refine ⟨fun m σ H' => ∃ l f, m = l.length ∧ σ = [some (.ref row), some (.ref th), some (.ref lf), some (.ref fd2)] ∧ (f ++ l).Perm xs ∧ Dr K0 H' row sc ((fd2, .lst f) :: (lf, .lst l) :: M), ⟨_, xs, [], rfl, rfl, by simp, d1⟩, ?_⟩
    rintro m σ H1 ⟨l, f, rfl, rfl, hp, d2⟩
    have hll : f.length + l.length ≤ 20 := by
      have := hp.length_eq
      simp at this
      omega
    have hfl2 : ∀ x ∈ l, FlatOk x := fun x m => hfl x (hp.mem_iff.mp (List.mem_append_right _ m))
    refine ⟨_, rfl, Nat.zero_le _, fun q2 hq2 => ?_⟩
    have d3 := d2.drop (o := .lst []) hq2
    refine ⟨.list (l.map toD), .list [], .lst (l_of d3.at1) (flat_dp hfl2), .lst (l_of upd_same) .nil, flat_sh hfl2, flat_sh (l := []) (fun _ m => by cases m), !l.isEmpty, by rw [flat_nil], ?_⟩
    cases hle : l with
    | nil =>
      subst hle
      refine iteF ?_
      have hfz := d3.freeze
      exact ⟨_, rfl, q _ _ fd2 f hfz.2 hfz.1.tail upd_same (by simpa using hp)⟩
    | cons y0 l0 =>
      rw [← hle]
      have hpos : 0 < l.length := by rw [hle]; simp
      have hie : (!l.isEmpty) = true := by rw [hle]; rfl
      rw [hie]
      refine iteT ⟨fun σ' H' => ∃ l' f', l'.length < l.length ∧ σ' = [some (.ref row), some (.ref th), some (.ref lf), some (.ref fd2)] ∧ (f' ++ l').Perm xs ∧ Dr K0 H' row sc ((fd2, .lst f') :: (lf, .lst l') :: M), ?_, ?_⟩
      · rintro σ' H' ⟨l', f', e1, e2, e3, e4⟩
        exact ⟨_, e1, l', f', rfl, e2, e3, e4⟩
      · refine ⟨_, rfl, .inl ⟨rfl, _, .inl (.inl d3.at0)⟩, _, rfl, .inl ⟨rfl, _, .inl (.inl d3.at1)⟩, takenLv rfl rfl (l_of d3.at1) hpos (by omega) hsc d3 fun H4 r a1 a2 d4 => ?_⟩
        have hr : r.toNat < l.length := by omega
        have hseq : seqIndex? r l.length = some r.toNat := by
          unfold seqIndex?
          have h1 : ¬ r < 0 := by omega
          simp [h1, a1, a2]
        refine ⟨_, _, _, r.toNat, _, rfl, rfl, d4.at1, by omega, by omega, hseq, List.getElem?_eq_getElem hr, ?_⟩
        have d5 := d4.put1 (o' := .lst (l.eraseIdx r.toNat))
        refine ⟨_, _, _, rfl, rfl, d5.at0, sm (m := 40) (by omega) (by decide), ?_⟩
        have d6 := d5.put (o' := .lst (f ++ [l[r.toNat]]))
        refine ⟨l.eraseIdx r.toNat, f ++ [l[r.toNat]], by rw [List.length_eraseIdx_of_lt hr]; omega, rfl, ?_, d6⟩
        refine List.Perm.trans ?_ hp
        rw [List.append_assoc]
        exact (erase_perm hr).append_left f
end
end Cb

namespace Cb
open PySem PySem.Spec PyProof.Rows L2

theorem takenG {K : PySem.W.Frag} {row sc : Addr} {rv v : Nat} {m : Int} {ns : List Int} {K0 H : Hp} {M : List (Addr × HO)} {σ : L2.St} {Q : VK} {E : XK} (hσ : σ[rv]? = some (some (V.ref row))) (hv : σ[v]? = some (some (V.int m))) (hm : 0 < m) (hm2 : m < 900) (hsc : SqL K K0 sc (ns.map V.int)) (d : Dr K0 H row sc M) (q : ∀ H' r, 0 ≤ r → r < m → Dr K0 H' row sc M → Q (.int r) H') : tCall (sp_law_taken K) [] E (tCons (tVar rv) (tCons (tVar v) tNil)) σ H Q := ⟨_, hσ, _, hv, taken (E := E) hm (by omega) hsc d q⟩
theorem takenC {K : PySem.W.Frag} {row sc : Addr} {rv : Nat} {m : Int} {ns : List Int} {K0 H : Hp} {M : List (Addr × HO)} {σ : L2.St} {Q : VK} {E : XK} (hσ : σ[rv]? = some (some (V.ref row))) (hm : 0 < m) (hm2 : m < 900) (hsc : SqL K K0 sc (ns.map V.int)) (d : Dr K0 H row sc M) (q : ∀ H' r, 0 ≤ r → r < m → Dr K0 H' row sc M → Q (.int r) H') : tCall (sp_law_taken K) [] E (tCons (tVar rv) (tCons (tC (.int m)) tNil)) σ H Q := ⟨_, hσ, taken (E := E) hm (by omega) hsc d q⟩
structure PlainDraw (lns : List LineD) (i : Nat) (nv rv : List V) : Prop where
  nm : names lns = nv.take i
  rk : lns.map (fun l => V.int l.rank) = rv.take i
  bd : ∀ l ∈ lns, 1 ≤ l.steps.length ∧ l.steps.length ≤ 2 ∧ l.lvl = false ∧ ∀ s ∈ l.steps, ∃ n, s = .run n ∧ 1 ≤ n ∧ n ≤ 99
def N6 : List V := [.str "net", .str "disk", .str "heat", .str "fan", .str "a", .str "ab"]
def R9 : List V := [.int 1, .int 2, .int 3, .int 4, .int 5, .int 6, .int 7, .int 8, .int 9]
def sp_law_plain (K : PySem.W.Frag) : Sp := fun vs H Q _ => ∃ (row sc : Addr) (most long : Int) (ns : List Int) (K0 : Hp) (M : List (Addr × HO)), vs = [.ref row, .int most, .int long] ∧ 1 ≤ most ∧ most ≤ 6 ∧ 1 ≤ long ∧ long ≤ 50 ∧ SqL K K0 sc (ns.map V.int) ∧ Dr K0 H row sc M ∧
  ∀ K1 H' p lns nv rv (k : Nat), Same K0 K1 → Dr K1 H' row sc M → LinesAt K K1 p lns → nv.Perm N6 → rv.Perm R9 → 1 ≤ k → k ≤ 6 → PlainDraw lns k nv rv → Q (.ref p) H'
theorem N6_flat : ∀ x ∈ N6, FlatOk x := by
  intro x m
  have h : ∀ s : Str, nameOk s → FlatOk (.str s) := fun s hs => .inr ⟨s, rfl, hs⟩
  simp only [N6, List.mem_cons, List.not_mem_nil, or_false] at m
  rcases m with rfl | rfl | rfl | rfl | rfl | rfl <;> exact h _ ⟨by decide, by decide +kernel⟩
theorem R9_flat : ∀ x ∈ R9, FlatOk x := by
  intro x m
  simp only [R9, List.mem_cons, List.not_mem_nil, or_false] at m
  rcases m with rfl | rfl | rfl | rfl | rfl | rfl | rfl | rfl | rfl <;> exact .inl ⟨_, rfl⟩
theorem cut_take {xs : List V} {r : Int} (h0 : 0 ≤ r) (h : r < xs.length) : cutV xs none (some (1 + r)) = xs.take (1 + r.toNat) := by
  have e : HT.sIx xs.length xs.length (some (1 + r)) = 1 + r.toNat := by
    unfold HT.sIx
    simp only
    rw [if_neg (by omega : ¬ ((1 + r : Int) < 0))]
    omega
  unfold cutV
  rw [e]
  simp [HT.sIx]

section
variable {P : Program} {w : World} {K : PySem.W.Frag} {mg : Str → Option Value} {base : Heap}

abbrev N_law_plain : List Str := ["_law_row", "_law_most", "_law_long", "_law_names", "_law_ranks", "_law_found", "_law_k", "_law_steps", "_law_turn"]
theorem sc_law_plain : FnScope N_law_plain ["_law_row", "_law_most", "_law_long"] (C8.fnScope s_law_plain) := C8.fnScope_by (by decide +kernel)
theorem ok_law_plain {fd : FuncData} (T : Txt K mg) (F : FunD K "_law_plain" "_law_plain" (C8.fnArgs s_law_plain) (C8.fnBody s_law_plain) (C8.fnScope s_law_plain) [] [] (He.ga K "_law_plain") fd) (c__law_taken : C8.Cal P w K mg base 1 "_law_taken" (sp_law_taken K) []) (c__law_mixed : C8.Cal P w K mg base 2 "_law_mixed" (sp_law_mixed K) []) :
    C8.Cal P w K mg base 3 "_law_plain" (sp_law_plain K) [] := by
  refine C8.cal0 (ds := []) ⟨fun_c8 F, T.f__law_plain, F.kp⟩ (F.bindsN fun _ _ _ _ _ _ us hl => match us, hl with | [_, _, _], _ => rfl) .nil sc_law_plain (fun vs H Q E h => ?_) (fun cdv A outer s H vs Q E hr h => ?_)
  · obtain ⟨_, _, _, _, _, _, _, rfl, _⟩ := h
    rfl
  · have nd := sc_law_plain.nd
    have hu := hu_of hr
    obtain ⟨row, sc, most, long, ns, K0, M, rfl, hm1, hm2, hl1, hl2, hsc, d, q⟩ := h
    refine ⟨_, (pss_cons (ps_set (i := 3) nd rfl (Or.inl rfl) (pe_slice sl_list (C8.pe_c c__law_mixed hr (by decide) rfl (pa_cons (pv 0) (pa_cons (pe_lst (pa_cons pe_str (pa_cons pe_str (pa_cons pe_str (pa_cons pe_str (pa_cons pe_str (pa_cons pe_str pa_nil))))))) pa_nil))) po_none (po_some (pe_op op_add pe_int (C8.pe_c c__law_taken hr (by decide) rfl (pa_cons (pv 0) (pa_cons (pv 1) pa_nil)))))))
      (pss_cons (ps_par (i := 4) (j := 5) rfl nd rfl rfl (by decide) rfl rfl (pa_cons (C8.pe_c c__law_mixed hr (by decide) rfl (pa_cons (pv 0) (pa_cons (pe_listRg rfl (by rfl) T.n_list (prg_2 (by rfl) T.n_range pe_int pe_int)) pa_nil))) (pa_cons (pe_lst pa_nil) pa_nil)) rfl)
      (pss_cons (ps_for PassesOwn.never rfl (pi_range1 (by rfl) T.n_range (pa_cons (pe_callB call_len_seq (by rfl) T.n_len (by decide +kernel) (pa_cons (pv 3) pa_nil)) pa_nil)) (pg_name (i := 6) nd rfl (Or.inl rfl)) (pss_cons (ps_setLc (i := 7) (own := [("_law_turn", 8)]) rfl nd rfl rfl (sw_true rfl rfl rfl (by decide +kernel)) (pi_range1 (by rfl) T.n_range (pa_cons (pe_op op_add pe_int (C8.pe_c c__law_taken hr (by decide) rfl (pa_cons (pv 0) (pa_cons pe_int pa_nil)))) pa_nil)) (blkOk_by (own := [("_law_turn", 8)]) (N := N_law_plain) (sc := (C8.fnScope s_law_plain)) (by decide +kernel)) (fun _ _ _ _ _ => (pg_name (i := 8) nd rfl (Or.inl rfl))) (fun _ _ _ _ _ => pts_nil) (fun _ _ _ _ _ => (pe_tup (pa_cons pe_str (pa_cons (pe_op op_add pe_int (C8.pe_c c__law_taken hr (by decide) rfl (pa_cons (pv 0) (pa_cons (pv 2) pa_nil)))) pa_nil)))))
      (pss_one (ps_expr (pe_bm PySem.F.plainAttrs_list PySem.F.slot_list_append PySem.F.type_list_append mt_append (pv 5) (pa_cons (pe_tup (pa_cons (pe_ix ix_list (pv 3) (pv 6) (fun _ _ => rfl)) (pa_cons pe_str (pa_cons (pe_ix ix_list (pv 4) (pv 6) (fun _ _ => rfl)) (pa_cons (pe_callTy call_tuple_of (by rfl) T.n_tuple (by decide +kernel) (pa_cons (pv 7) pa_nil)) pa_nil))))) pa_nil))))))
      (pss_one (ps_ret (pe_callTy call_tuple_of (by rfl) T.n_tuple (by decide +kernel) (pa_cons (pv 5) pa_nil))))))), ?_⟩
    refine ⟨_, rfl, small8 (by simp), fun ln hln => ?_⟩
    have k0 := d.keep (o := .lst N6) hln
    have hln1 : upd K0 ln (.lst N6) ln = some (.lst N6) := upd_same
    revert k0 hln1
    generalize upd K0 ln (.lst N6) = K1
    rintro ⟨d1, g1⟩ hln1
    have sc1 := Same.lst g1 hsc
    refine ⟨row, sc, ln, ns, N6, K1, M, rfl, sc1, l_of hln1, by decide, N6_flat, d1, fun K2 H2 np nv g2 d2 hnp hnv => ?_⟩
    have sc2 := Same.lst g2 sc1
    have hnl : nv.length = 6 := hnv.length_eq
    refine takenG rfl rfl (by omega) (by omega) sc2 d2 fun H3 r a1 a2 d3 => ?_
    refine ⟨_, _, rfl, rfl, _, rfl, np, nv, rfl, l_of (d3.ext _ _ hnp), fun np2 hnp2 => ?_⟩
    rw [cut_take a1 (by omega)]
    have k3 := d3.keep (o := .lst (nv.take (1 + r.toNat))) hnp2
    have hnp3 : upd K2 np2 (.lst (nv.take (1 + r.toNat))) np2 = some (.lst (nv.take (1 + r.toNat))) := upd_same
    revert k3 hnp3
    generalize upd K2 np2 (.lst (nv.take (1 + r.toNat))) = K3
    rintro ⟨d4, g3⟩ hnp3
    refine ⟨_, rfl, _, _, rfl, rfl, (by unfold RgOk; decide), fun rl hrl => ?_⟩
    have k4 := d4.keep (o := .lst R9) hrl
    have hrl1 : upd K3 rl (.lst R9) rl = some (.lst R9) := upd_same
    revert k4 hrl1
    generalize upd K3 rl (.lst R9) = K4
    rintro ⟨d5, g4⟩ hrl1
    have sc4 := Same.lst g4 (Same.lst g3 sc2)
    refine ⟨row, sc, rl, ns, R9, K4, M, rfl, sc4, l_of hrl1, by decide, R9_flat, d5, fun K5 H5 rp rv g5 d6 hrp hrv => ?_⟩
    have sc5 := Same.lst g5 sc4
    have hrlen : rv.length = 9 := hrv.length_eq
    refine ⟨Nat.zero_le _, fun fd2 hfd => ⟨_, _, rfl, ?_⟩⟩
    have d7 := d6.own (o := .lst []) hfd
    have hnp5 : K5 np2 = some (.lst (nv.take (1 + r.toNat))) := g5 _ _ (g4 _ _ hnp3)
    have hkl : (nv.take (1 + r.toNat)).length = 1 + r.toNat := by simp; omega
    have g05 : Same K0 K5 := Same.tr g1 (Same.tr g2 (Same.tr g3 (Same.tr g4 g5)))
    refine ⟨_, rfl, _, _, rfl, .inl (l_of (d7.ext _ _ hnp5)), _, rfl, by omega, by omega, ?_⟩
    refine for_it (walk_range (lo := 0) (n := (((nv.take (1 + r.toNat)).length : Int)).toNat)) (fun i σ H' => ∃ y6 y7 y8 K' facc lns, σ = [some (.ref row), some (.int most), some (.int long), some (.ref np2), some (.ref rp), some (.ref fd2), y6, y7, y8] ∧ Same K5 K' ∧ Dr K' H' row sc ((fd2, .lst facc) :: M) ∧ Paired (LineAt K K') facc lns ∧ PlainDraw lns i nv rv) ⟨_, _, _, K5, [], [], rfl, Same.refl _, d7, .nil, rfl, rfl, (fun _ q => by cases q)⟩ (fun _ _ _ _ _ => trivial) ?_ ?_
    · rintro i v σ H6 H7 hi ⟨y6, y7, y8, K', facc, lns, rfl, g, d8, pr, pd⟩ ⟨rfl, rfl⟩
      have hi6 : i < 1 + r.toNat := by rw [hkl] at hi; omega
      have sc6 := Same.lst g sc5
      have hfl : facc.length ≤ 6 := by
        have h1 := pr.length
        have h2 := congrArg List.length pd.nm
        simp [names] at h2
        omega
      refine takenC rfl (by decide) (by decide) sc6 d8 fun H8 r0 b1 b2 d9 => ?_
      refine ⟨_, _, rfl, rfl, _, rfl, by omega, by omega, fun D hD => ?_⟩
      refine lc_it (walk_range (lo := 0) (n := (1 + r0).toNat)) (fun j H' => ∃ K'' acc sts, Same K' K'' ∧ Dr K'' H' row sc ((D, .lst acc) :: (fd2, .lst facc) :: M) ∧ Paired (StepAt K K'') acc sts ∧ sts.length = j ∧ ∀ s ∈ sts, ∃ n, s = SD.run n ∧ 1 ≤ n ∧ n ≤ 99) ⟨K', [], [], Same.refl _, d9.own hD, .nil, rfl, (fun _ q => by cases q)⟩ (fun _ _ _ _ => trivial) ?_ ?_
      · rintro j v H9 H10 hj ⟨K'', acc, sts, g', d', pr', hl', ho'⟩ ⟨rfl, rfl⟩
        have := pr'.length
        refine ⟨rfl, takenG rfl rfl (by omega) (by omega) (Same.lst g' sc6) d' fun H11 q1 e1 e2 d10 => ?_⟩
        refine ⟨_, _, rfl, rfl, small8 (by simp), fun t ht => ?_⟩
        have kk := d10.keep (o := .tup [.str "run", .int (1 + q1)]) ht
        refine ⟨_, kk.1.at0, sm (m := 9) (by omega) (by decide), _, _, sts ++ [.run (1 + q1)], Same.tr g' kk.2, kk.1.put, Paired.snoc (pr'.mono fun _ _ z => StepAt.up kk.2 z) ⟨t, rfl, t_of upd_same⟩, by simp [hl'], fun s m => ?_⟩
        rcases List.mem_append.mp m with m | m
        · exact ho' s m
        · obtain rfl := List.mem_singleton.mp m
          exact ⟨_, rfl, by omega, by omega⟩
      rintro H9 ⟨K6, sacc, sts, g6, d10, prs, hls, hso⟩
      have hiv : i < nv.length := by omega
      have hir : i < rv.length := by omega
      obtain ⟨n, hn⟩ : ∃ n : Str, nv[i] = .str n := by
        have m := hnv.mem_iff.mp (List.getElem_mem hiv)
        simp only [N6, List.mem_cons, List.not_mem_nil, or_false] at m
        rcases m with e | e | e | e | e | e <;> exact ⟨_, e⟩
      obtain ⟨rk, hrk, hrk1, hrk9⟩ : ∃ rk : Int, rv[i] = .int rk ∧ 1 ≤ rk ∧ rk ≤ 9 := by
        have m := hrv.mem_iff.mp (List.getElem_mem hir)
        simp only [R9, List.mem_cons, List.not_mem_nil, or_false] at m
        rcases m with e | e | e | e | e | e | e | e | e <;> exact ⟨_, e, by decide, by decide⟩
      have hni : (nv.take (1 + r.toNat))[i]? = some (.str n) := by
        rw [List.getElem?_take, if_pos hi6, List.getElem?_eq_getElem hiv, hn]
      have hri : rv[i]? = some (.int rk) := by rw [List.getElem?_eq_getElem hir, hrk]
      have hz : ((0 : Int) + (i : Nat)) = (i : Nat) := by omega
      have hat1 : atI (nv.take (1 + r.toNat)) ((0 : Int) + (i : Nat)) = some (.str n) := by rw [hz]; exact atIn hni
      have hat2 : atI rv ((0 : Int) + (i : Nat)) = some (.int rk) := by rw [hz]; exact atIn hri
      have g56 := Same.tr g g6
      refine ⟨_, rfl, .inl ⟨rfl, _, .inl (.inl d10.at1)⟩, _, rfl, _, rfl, _, _, _, _, rfl, rfl, l_of (d10.ext _ _ (g56 _ _ hnp5)), hat1, _, rfl, _, rfl, _, _, _, _, rfl, rfl, l_of (d10.ext _ _ (g56 _ _ hrp)), hat2, _, rfl, _, _, rfl, .inl ⟨l_of d10.at0, fun h hh => ?_⟩⟩
      have kh := d10.tail.keep (o := .tup sacc) hh
      have hh3 : upd K6 h (.tup sacc) h = some (.tup sacc) := upd_same
      revert kh hh3
      generalize upd K6 h (.tup sacc) = K7
      rintro ⟨d11, g7⟩ hh3
      refine ⟨small8 (by simp), fun tl htl => ?_⟩
      have kl := d11.keep (o := .tup [.str n, .str "edge", .int rk, .ref h]) htl
      have hl3 : upd K7 tl (.tup [.str n, .str "edge", .int rk, .ref h]) tl = some (.tup [.str n, .str "edge", .int rk, .ref h]) := upd_same
      revert kl hl3
      generalize upd K7 tl (.tup [.str n, .str "edge", .int rk, .ref h]) = K8
      rintro ⟨d12, g8⟩ hl3
      have gl := Same.tr g6 (Same.tr g7 g8)
      refine ⟨_, _, _, rfl, rfl, d12.at0, sm (m := 9) (by omega) (by decide), ?_⟩
      refine ⟨_, _, _, K8, facc ++ [.ref tl], lns ++ [⟨n, false, rk, sts⟩], rfl, Same.tr g gl, d12.put, Paired.snoc (pr.mono fun _ _ z => LineAt.up gl z) ⟨tl, h, sacc, rfl, t_of hl3, t_of (g8 _ _ hh3), prs.mono fun _ _ z => StepAt.up (Same.tr g7 g8) z⟩, ?_, ?_, fun l m => ?_⟩
      · rw [take_snoc (by rw [List.getElem?_eq_getElem hiv, hn]), ← pd.nm]
        simp [names]
      · rw [take_snoc hri, ← pd.rk]
        simp
      · rcases List.mem_append.mp m with m | m
        · exact pd.bd l m
        · obtain rfl := List.mem_singleton.mp m
          exact ⟨by simp; omega, by simp; omega, rfl, hso⟩
    · rintro σ H6 ⟨y6, y7, y8, K', facc, lns, rfl, g, d8, pr, pd⟩
      refine ⟨_, rfl, _, _, rfl, .inl ⟨l_of d8.at0, fun p hp => ?_⟩⟩
      have kp := d8.tail.keep (o := .tup facc) hp
      refine q _ _ p lns nv rv (1 + r.toNat) (Same.tr g05 (Same.tr g kp.2)) kp.1 ⟨facc, t_of upd_same, pr.mono fun _ _ z => LineAt.up kp.2 z⟩ hnv hrv (by omega) (by omega) ?_
      have e : (((nv.take (1 + r.toNat)).length : Int)).toNat = 1 + r.toNat := by rw [hkl]; omega
      rw [e] at pd
      exact pd
end
end Cb

namespace Cb
open PySem PySem.Spec PyProof.Rows L2

def sp_al0 : Sp := fun _ _ _ _ => False
def sp_alS : Sp := fun vs H Q _ => ∃ x : Str, vs = [.str x, .str x] ∧ ∀ H', Same H H' → Q (.bl true) H'
def sp_alP (K : PySem.W.Frag) : Sp := fun vs H Q _ => ∃ (v u : V) (e : Ev), vs = [v, u] ∧ EvAt K H v e ∧ EvAt K H u e ∧ ∀ H', Same H H' → Q (.bl true) H'
def sp_alL (K : PySem.W.Frag) : Sp := fun vs H Q _ => ∃ (a b : Addr) (xs ys : List V) (es : List Ev), vs = [.ref a, .ref b] ∧ H a = some (.lst xs) ∧ H b = some (.lst ys) ∧ Paired (EvAt K H) xs es ∧ Paired (EvAt K H) ys es ∧ es.length ≤ 9 ∧ ∀ H', Same H H' → Q (.bl true) H'
theorem kbS : kitB "str" "bool" = some false := by decide +kernel
theorem kbL : kitB "list" "tuple" = some false := by decide +kernel
theorem kaT {K : PySem.W.Frag} : PySem.W.kitAny K (.type "tuple") [.type "tuple", .type "list"] = some true := by rfl
theorem kaL {K : PySem.W.Frag} : PySem.W.kitAny K (.type "list") [.type "tuple", .type "list"] = some true := by rfl
theorem kaS {K : PySem.W.Frag} : PySem.W.kitAny K (.type "str") [.type "tuple", .type "list"] = some false := by rfl

section
variable {P : Program} {w : World} {K : PySem.W.Frag} {mg : Str → Option Value} {base : Heap}

theorem ok_al0 {fd : FuncData} (T : Txt K mg) (F : FunD K "_law_alike" "_law_alike" (C8.fnArgs s_law_alike) (C8.fnBody s_law_alike) (C8.fnScope s_law_alike) [] [] (He.ga K "_law_alike") fd) :
    C8.Cal P w K mg base 1 "_law_alike" sp_al0 [] := by
  refine C8.cal0 (N := ["_law_one", "_law_due", "_law_k"]) (ds := []) ⟨fun_c8 F, T.f__law_alike, F.kp⟩ (F.bindsN (ps := ["_law_one", "_law_due"]) fun _ _ _ _ _ _ us hl => match us, hl with | [_, _], _ => rfl) .nil (C8.fnScope_by (by decide +kernel)) (fun vs H Q E h => h.elim) (fun cdv A outer s H vs Q E hr h => h.elim)
abbrev N_alS : List Str := ["_law_one", "_law_due", "_law_k"]
theorem sc_alS : FnScope N_alS ["_law_one", "_law_due"] (C8.fnScope s_law_alike) := C8.fnScope_by (by decide +kernel)
theorem ok_alS {fd : FuncData} (T : Txt K mg) (F : FunD K "_law_alike" "_law_alike" (C8.fnArgs s_law_alike) (C8.fnBody s_law_alike) (C8.fnScope s_law_alike) [] [] (He.ga K "_law_alike") fd) (c__law_alike : C8.Cal P w K mg base 1 "_law_alike" sp_al0 []) :
    C8.Cal P w K mg base 2 "_law_alike" sp_alS [] := by
  refine C8.cal0 (ds := []) ⟨fun_c8 F, T.f__law_alike, F.kp⟩ (F.bindsN fun _ _ _ _ _ _ us hl => match us, hl with | [_, _], _ => rfl) .nil sc_alS (fun vs H Q E h => ?_) (fun cdv A outer s H vs Q E hr h => ?_)
  · obtain ⟨_, rfl, _⟩ := h
    rfl
  · have nd := sc_alS.nd
    have hu := hu_of hr
    obtain ⟨x, rfl, q⟩ := h
    refine ⟨_, (pss_cons (ps_if (PW.pt (pw_and (pt_val (pe_callB call_isiT (by rfl) T.n_isinstance (by decide +kernel) (pa_cons (pv 0) (pa_cons (pe_tup (pa_cons (pe_bltn (v := .ty "tuple") rfl T.n_tuple (by decide +kernel) rfl) (pa_cons (pe_bltn (v := .ty "list") rfl T.n_list (by decide +kernel) rfl) pa_nil))) pa_nil)))) (pw_and1 (pt_val (pe_callB call_isiT (by rfl) T.n_isinstance (by decide +kernel) (pa_cons (pv 1) (pa_cons (pe_tup (pa_cons (pe_bltn (v := .ty "tuple") rfl T.n_tuple (by decide +kernel) rfl) (pa_cons (pe_bltn (v := .ty "list") rfl T.n_list (by decide +kernel) rfl) pa_nil))) pa_nil))))))) (pss_cons (ps_if (PW.pt (pw_or (pt_cmpR op_ne (pe_callB call_is (by rfl) T.n_isinstance (by decide +kernel) (pa_cons (pv 0) (pa_cons (pe_bltn (v := .ty "tuple") rfl T.n_tuple (by decide +kernel) rfl) pa_nil))) (pe_callB call_is (by rfl) T.n_isinstance (by decide +kernel) (pa_cons (pv 1) (pa_cons (pe_bltn (v := .ty "tuple") rfl T.n_tuple (by decide +kernel) rfl) pa_nil))) (nomark _)) (pw_or1 (pt_cmpR op_ne (pe_callB call_len_seq (by rfl) T.n_len (by decide +kernel) (pa_cons (pv 0) pa_nil)) (pe_callB call_len_seq (by rfl) T.n_len (by decide +kernel) (pa_cons (pv 1) pa_nil)) (nomark _))))) (pss_one (ps_ret pe_bl)) pss_nil)
      (pss_one (ps_ret (pe_cmpR (op_eqD (hu64_of hr)) (pe_lc (own := [("_law_k", 2)]) rfl nd (pi_range1 (by rfl) T.n_range (pa_cons (pe_callB call_len_seq (by rfl) T.n_len (by decide +kernel) (pa_cons (pv 0) pa_nil)) pa_nil)) (blkOk_by (own := [("_law_k", 2)]) (N := N_alS) (sc := (C8.fnScope s_law_alike)) (by decide +kernel)) (fun _ _ _ _ _ => (pg_name (i := 2) nd rfl (Or.inl rfl))) (fun _ _ _ _ _ => (pts_one (pt_not (pt_val (C8.pe_c c__law_alike hr (by decide) rfl (pa_cons (pe_ix (ix_seq : IxR _ (rIx K)) (pv 0) (pv 2) (fun _ _ => rfl)) (pa_cons (pe_ix (ix_seq : IxR _ (rIx K)) (pv 1) (pv 2) (fun _ _ => rfl)) pa_nil))))))) (fun _ _ _ _ _ => (pv 2))) (pe_lst pa_nil) (nomark _))))) pss_nil)
      (pss_one (ps_ret (pe_and (pe_cmpR op_eq (pv 0) (pv 1) (nomark _)) (pe_one (pe_cmpR op_eq (pe_callB call_is (by rfl) T.n_isinstance (by decide +kernel) (pa_cons (pv 0) (pa_cons (pe_bltn (v := .ty "bool") rfl T.n_bool (by decide +kernel) rfl) pa_nil))) (pe_callB call_is (by rfl) T.n_isinstance (by decide +kernel) (pa_cons (pv 1) (pa_cons (pe_bltn (v := .ty "bool") rfl T.n_bool (by decide +kernel) rfl) pa_nil))) (nomark _))))))), ?_⟩
    refine ⟨_, rfl, small8 (by simp), fun t ht => ?_⟩
    have g1 := same_new (o := .tup [.ty "tuple", .ty "list"]) (Same.refl H) ht
    refine ⟨_, t, _, _, _, false, rfl, upd_same, .cons (.ty "tuple") (.cons (.ty "list") .nil), ty_str, kaS, false, rfl, iteF (iteF ?_)⟩
    refine ⟨_, rfl, _, rfl, rfl, true, congrArg V.bl (decide_eq_true rfl), iteT ?_⟩
    refine ⟨_, rfl, _, _, _, _, rfl, ty_str, kbS, _, rfl, _, _, _, _, rfl, ty_str, kbS, rfl, ?_⟩
    exact q _ g1
abbrev N_alP : List Str := ["_law_one", "_law_due", "_law_k"]
theorem sc_alP : FnScope N_alP ["_law_one", "_law_due"] (C8.fnScope s_law_alike) := C8.fnScope_by (by decide +kernel)
theorem ok_alP {fd : FuncData} (T : Txt K mg) (F : FunD K "_law_alike" "_law_alike" (C8.fnArgs s_law_alike) (C8.fnBody s_law_alike) (C8.fnScope s_law_alike) [] [] (He.ga K "_law_alike") fd) (c__law_alike : C8.Cal P w K mg base 2 "_law_alike" sp_alS []) :
    C8.Cal P w K mg base 3 "_law_alike" (sp_alP K) [] := by
  refine C8.cal0 (ds := []) ⟨fun_c8 F, T.f__law_alike, F.kp⟩ (F.bindsN fun _ _ _ _ _ _ us hl => match us, hl with | [_, _], _ => rfl) .nil sc_alP (fun vs H Q E h => ?_) (fun cdv A outer s H vs Q E hr h => ?_)
  · obtain ⟨_, _, _, rfl, _⟩ := h
    rfl
  · have nd := sc_alP.nd
    have hu := hu_of hr
    obtain ⟨v, u, e, rfl, ⟨a, rfl, ha⟩, ⟨b, rfl, hb⟩, q⟩ := h
    have tA : ∀ H1, Same H H1 → TyX K H1 (.ref a) (.type "tuple") := fun H1 g => ty_tup (Same.tup g ha)
    have tB : ∀ H1, Same H H1 → TyX K H1 (.ref b) (.type "tuple") := fun H1 g => ty_tup (Same.tup g hb)
    refine ⟨_, (pss_cons (ps_if (PW.pt (pw_and (pt_val (pe_callB call_isiT (by rfl) T.n_isinstance (by decide +kernel) (pa_cons (pv 0) (pa_cons (pe_tup (pa_cons (pe_bltn (v := .ty "tuple") rfl T.n_tuple (by decide +kernel) rfl) (pa_cons (pe_bltn (v := .ty "list") rfl T.n_list (by decide +kernel) rfl) pa_nil))) pa_nil)))) (pw_and1 (pt_val (pe_callB call_isiT (by rfl) T.n_isinstance (by decide +kernel) (pa_cons (pv 1) (pa_cons (pe_tup (pa_cons (pe_bltn (v := .ty "tuple") rfl T.n_tuple (by decide +kernel) rfl) (pa_cons (pe_bltn (v := .ty "list") rfl T.n_list (by decide +kernel) rfl) pa_nil))) pa_nil))))))) (pss_cons (ps_if (PW.pt (pw_or (pt_cmpR op_ne (pe_callB call_is (by rfl) T.n_isinstance (by decide +kernel) (pa_cons (pv 0) (pa_cons (pe_bltn (v := .ty "tuple") rfl T.n_tuple (by decide +kernel) rfl) pa_nil))) (pe_callB call_is (by rfl) T.n_isinstance (by decide +kernel) (pa_cons (pv 1) (pa_cons (pe_bltn (v := .ty "tuple") rfl T.n_tuple (by decide +kernel) rfl) pa_nil))) (nomark _)) (pw_or1 (pt_cmpR op_ne (pe_callB call_len_seq (by rfl) T.n_len (by decide +kernel) (pa_cons (pv 0) pa_nil)) (pe_callB call_len_seq (by rfl) T.n_len (by decide +kernel) (pa_cons (pv 1) pa_nil)) (nomark _))))) (pss_one (ps_ret pe_bl)) pss_nil)
      (pss_one (ps_ret (pe_cmpR (op_eqD (hu64_of hr)) (pe_lc (own := [("_law_k", 2)]) rfl nd (pi_range1 (by rfl) T.n_range (pa_cons (pe_callB call_len_seq (by rfl) T.n_len (by decide +kernel) (pa_cons (pv 0) pa_nil)) pa_nil)) (blkOk_by (own := [("_law_k", 2)]) (N := N_alP) (sc := (C8.fnScope s_law_alike)) (by decide +kernel)) (fun _ _ _ _ _ => (pg_name (i := 2) nd rfl (Or.inl rfl))) (fun _ _ _ _ _ => (pts_one (pt_not (pt_val (C8.pe_c c__law_alike hr (by decide) rfl (pa_cons (pe_ix (ix_seq : IxR _ (rIx K)) (pv 0) (pv 2) (fun _ _ => rfl)) (pa_cons (pe_ix (ix_seq : IxR _ (rIx K)) (pv 1) (pv 2) (fun _ _ => rfl)) pa_nil))))))) (fun _ _ _ _ _ => (pv 2))) (pe_lst pa_nil) (nomark _))))) pss_nil)
      (pss_one (ps_ret (pe_and (pe_cmpR op_eq (pv 0) (pv 1) (nomark _)) (pe_one (pe_cmpR op_eq (pe_callB call_is (by rfl) T.n_isinstance (by decide +kernel) (pa_cons (pv 0) (pa_cons (pe_bltn (v := .ty "bool") rfl T.n_bool (by decide +kernel) rfl) pa_nil))) (pe_callB call_is (by rfl) T.n_isinstance (by decide +kernel) (pa_cons (pv 1) (pa_cons (pe_bltn (v := .ty "bool") rfl T.n_bool (by decide +kernel) rfl) pa_nil))) (nomark _))))))), ?_⟩
    refine ⟨_, rfl, small8 (by simp), fun t ht => ?_⟩
    have g1 := same_new (o := .tup [.ty "tuple", .ty "list"]) (Same.refl H) ht
    refine ⟨_, t, _, _, _, true, rfl, upd_same, .cons (.ty "tuple") (.cons (.ty "list") .nil), tA _ g1, kaT, true, rfl, iteT ?_⟩
    refine ⟨_, rfl, small8 (by simp), fun t2 ht2 => ?_⟩
    have g2 := Same.tr g1 (same_new (o := .tup [.ty "tuple", .ty "list"]) (Same.refl _) ht2)
    refine ⟨_, t2, _, _, _, true, rfl, upd_same, .cons (.ty "tuple") (.cons (.ty "list") .nil), tB _ g2, kaT, true, rfl, iteT ?_⟩
    generalize hG : upd (upd H t (.tup [.ty "tuple", .ty "list"])) t2 (.tup [.ty "tuple", .ty "list"]) = H1 at g2
    refine ⟨_, rfl, _, _, _, _, rfl, tA _ g2, kb4, _, rfl, _, _, _, _, rfl, tB _ g2, kb4, rfl, false, rfl, iteF ?_⟩
    refine ⟨_, rfl, _, _, rfl, .inr (Same.tup g2 ha), _, rfl, _, _, rfl, .inr (Same.tup g2 hb), rfl, false, rfl, iteF ?_⟩
    refine ⟨_, rfl, _, _, rfl, .inr (Same.tup g2 ha), _, rfl, (by simp; try omega), (by simp; try omega), fun D hD => ?_⟩
    refine lc_it (walk_range (lo := 0) (n := 2)) (fun _ H' => Sep H1 H' [(D, .lst [])]) (Sep.nil.own hD) (fun _ _ _ _ => trivial) ?_ ?_
    · rintro i v H2 H3 hi sp ⟨rfl, rfl⟩
      have gq := Same.tr g2 sp.ext
      have fin : ∀ {x : Str} {i : Int}, atI [V.str e.word, .str e.name] i = some (.str x) → _ := fun {x i} hx => (⟨_, hx⟩ : ∃ z, atI [V.str e.word, V.str e.name] i = some z)
      obtain ⟨x, hx⟩ : ∃ x : Str, atI [V.str e.word, .str e.name] ((0 : Int) + (i : Nat)) = some (.str x) := by
        match i, hi with
        | 0, _ => exact ⟨_, rfl⟩
        | 1, _ => exact ⟨_, rfl⟩
      refine ⟨rfl, ⟨_, rfl, _, rfl, .inr (.inl ⟨_, _, _, _, rfl, rfl, Same.tup gq ha, hx, _, rfl, _, rfl, .inr (.inl ⟨_, _, _, _, rfl, rfl, Same.tup gq hb, hx, x, rfl, fun H4 g4 => ⟨true, rfl, iteF (sp.grow g4)⟩⟩)⟩)⟩⟩
    rintro H2 sp
    refine ⟨Nat.zero_le _, fun q2 hq2 => ?_⟩
    have sp2 := sp.drop (o := .lst []) hq2
    exact ⟨.list [], .list [], .lst (l_of sp2.c0) .nil, .lst (l_of upd_same) .nil, flat_sh (l := []) (fun _ m => by cases m), flat_sh (l := []) (fun _ m => by cases m), by
      rw [show PyData.eqv (.list []) (.list []) = true from flat_nil []]
      exact q _ (Same.tr g2 sp2.ext)⟩
abbrev N_alL : List Str := ["_law_one", "_law_due", "_law_k"]
theorem sc_alL : FnScope N_alL ["_law_one", "_law_due"] (C8.fnScope s_law_alike) := C8.fnScope_by (by decide +kernel)
theorem ok_alL {fd : FuncData} (T : Txt K mg) (F : FunD K "_law_alike" "_law_alike" (C8.fnArgs s_law_alike) (C8.fnBody s_law_alike) (C8.fnScope s_law_alike) [] [] (He.ga K "_law_alike") fd) (c__law_alike : C8.Cal P w K mg base 3 "_law_alike" (sp_alP K) []) :
    C8.Cal P w K mg base 4 "_law_alike" (sp_alL K) [] := by
  refine C8.cal0 (ds := []) ⟨fun_c8 F, T.f__law_alike, F.kp⟩ (F.bindsN fun _ _ _ _ _ _ us hl => match us, hl with | [_, _], _ => rfl) .nil sc_alL (fun vs H Q E h => ?_) (fun cdv A outer s H vs Q E hr h => ?_)
  · obtain ⟨_, _, _, _, _, rfl, _⟩ := h
    rfl
  · have nd := sc_alL.nd
    have hu := hu_of hr
    obtain ⟨a, b, xs, ys, es, rfl, ha, hb, hp1, hp2, hel, q⟩ := h
    have hl1 := hp1.length
    have hl2 := hp2.length
    have tA : ∀ H1, Same H H1 → TyX K H1 (.ref a) (.type "list") := fun H1 g => .base (.lst (g _ _ ha))
    have tB : ∀ H1, Same H H1 → TyX K H1 (.ref b) (.type "list") := fun H1 g => .base (.lst (g _ _ hb))
    refine ⟨_, (pss_cons (ps_if (PW.pt (pw_and (pt_val (pe_callB call_isiT (by rfl) T.n_isinstance (by decide +kernel) (pa_cons (pv 0) (pa_cons (pe_tup (pa_cons (pe_bltn (v := .ty "tuple") rfl T.n_tuple (by decide +kernel) rfl) (pa_cons (pe_bltn (v := .ty "list") rfl T.n_list (by decide +kernel) rfl) pa_nil))) pa_nil)))) (pw_and1 (pt_val (pe_callB call_isiT (by rfl) T.n_isinstance (by decide +kernel) (pa_cons (pv 1) (pa_cons (pe_tup (pa_cons (pe_bltn (v := .ty "tuple") rfl T.n_tuple (by decide +kernel) rfl) (pa_cons (pe_bltn (v := .ty "list") rfl T.n_list (by decide +kernel) rfl) pa_nil))) pa_nil))))))) (pss_cons (ps_if (PW.pt (pw_or (pt_cmpR op_ne (pe_callB call_is (by rfl) T.n_isinstance (by decide +kernel) (pa_cons (pv 0) (pa_cons (pe_bltn (v := .ty "tuple") rfl T.n_tuple (by decide +kernel) rfl) pa_nil))) (pe_callB call_is (by rfl) T.n_isinstance (by decide +kernel) (pa_cons (pv 1) (pa_cons (pe_bltn (v := .ty "tuple") rfl T.n_tuple (by decide +kernel) rfl) pa_nil))) (nomark _)) (pw_or1 (pt_cmpR op_ne (pe_callB call_len_seq (by rfl) T.n_len (by decide +kernel) (pa_cons (pv 0) pa_nil)) (pe_callB call_len_seq (by rfl) T.n_len (by decide +kernel) (pa_cons (pv 1) pa_nil)) (nomark _))))) (pss_one (ps_ret pe_bl)) pss_nil)
      (pss_one (ps_ret (pe_cmpR (op_eqD (hu64_of hr)) (pe_lc (own := [("_law_k", 2)]) rfl nd (pi_range1 (by rfl) T.n_range (pa_cons (pe_callB call_len_seq (by rfl) T.n_len (by decide +kernel) (pa_cons (pv 0) pa_nil)) pa_nil)) (blkOk_by (own := [("_law_k", 2)]) (N := N_alL) (sc := (C8.fnScope s_law_alike)) (by decide +kernel)) (fun _ _ _ _ _ => (pg_name (i := 2) nd rfl (Or.inl rfl))) (fun _ _ _ _ _ => (pts_one (pt_not (pt_val (C8.pe_c c__law_alike hr (by decide) rfl (pa_cons (pe_ix (ix_seq : IxR _ (rIx K)) (pv 0) (pv 2) (fun _ _ => rfl)) (pa_cons (pe_ix (ix_seq : IxR _ (rIx K)) (pv 1) (pv 2) (fun _ _ => rfl)) pa_nil))))))) (fun _ _ _ _ _ => (pv 2))) (pe_lst pa_nil) (nomark _))))) pss_nil)
      (pss_one (ps_ret (pe_and (pe_cmpR op_eq (pv 0) (pv 1) (nomark _)) (pe_one (pe_cmpR op_eq (pe_callB call_is (by rfl) T.n_isinstance (by decide +kernel) (pa_cons (pv 0) (pa_cons (pe_bltn (v := .ty "bool") rfl T.n_bool (by decide +kernel) rfl) pa_nil))) (pe_callB call_is (by rfl) T.n_isinstance (by decide +kernel) (pa_cons (pv 1) (pa_cons (pe_bltn (v := .ty "bool") rfl T.n_bool (by decide +kernel) rfl) pa_nil))) (nomark _))))))), ?_⟩
    refine ⟨_, rfl, small8 (by simp), fun t ht => ?_⟩
    have g1 := same_new (o := .tup [.ty "tuple", .ty "list"]) (Same.refl H) ht
    refine ⟨_, t, _, _, _, true, rfl, upd_same, .cons (.ty "tuple") (.cons (.ty "list") .nil), tA _ g1, kaL, true, rfl, iteT ?_⟩
    refine ⟨_, rfl, small8 (by simp), fun t2 ht2 => ?_⟩
    have g2 := Same.tr g1 (same_new (o := .tup [.ty "tuple", .ty "list"]) (Same.refl _) ht2)
    refine ⟨_, t2, _, _, _, true, rfl, upd_same, .cons (.ty "tuple") (.cons (.ty "list") .nil), tB _ g2, kaL, true, rfl, iteT ?_⟩
    generalize hG : upd (upd H t (.tup [.ty "tuple", .ty "list"])) t2 (.tup [.ty "tuple", .ty "list"]) = H1 at g2
    refine ⟨_, rfl, _, _, _, _, rfl, tA _ g2, kbL, _, rfl, _, _, _, _, rfl, tB _ g2, kbL, rfl, false, rfl, iteF ?_⟩
    refine ⟨_, rfl, _, _, rfl, .inl (l_of (g2 _ _ ha)), _, rfl, _, _, rfl, .inl (l_of (g2 _ _ hb)), rfl, false, congrArg V.bl (by simp [hl1, hl2]), iteF ?_⟩
    refine ⟨_, rfl, _, _, rfl, .inl (l_of (g2 _ _ ha)), _, rfl, (by simp; try omega), (by simp; try omega), fun D hD => ?_⟩
    refine lc_it (walk_range (lo := 0) (n := ((xs.length : Int)).toNat)) (fun _ H' => Sep H1 H' [(D, .lst [])]) (Sep.nil.own hD) (fun _ _ _ _ => trivial) ?_ ?_
    · rintro i v H2 H3 hi sp ⟨rfl, rfl⟩
      have gq := Same.tr g2 sp.ext
      have hiv : i < xs.length := by omega
      have hiu : i < ys.length := by omega
      have hx := List.getElem?_eq_getElem hiv
      have hy := List.getElem?_eq_getElem hiu
      obtain ⟨e, he, hxe⟩ := pget hp1 hx
      obtain ⟨e', he', hye⟩ := pget hp2 hy
      obtain rfl : e = e' := Option.some.inj (he.symm.trans he')
      have hz : ((0 : Int) + (i : Nat)) = (i : Nat) := by omega
      have ax : atI xs ((0 : Int) + (i : Nat)) = some xs[i] := by rw [hz]; exact atIn hx
      have ay : atI ys ((0 : Int) + (i : Nat)) = some ys[i] := by rw [hz]; exact atIn hy
      refine ⟨rfl, ⟨_, rfl, _, rfl, .inl ⟨_, _, _, _, rfl, rfl, l_of (gq _ _ ha), ax, _, rfl, _, rfl, .inl ⟨_, _, _, _, rfl, rfl, l_of (gq _ _ hb), ay, _, _, e, rfl, EvAt.up gq hxe, EvAt.up gq hye, fun H4 g4 => ⟨true, rfl, iteF (sp.grow g4)⟩⟩⟩⟩⟩
    rintro H2 sp
    refine ⟨Nat.zero_le _, fun q2 hq2 => ?_⟩
    have sp2 := sp.drop (o := .lst []) hq2
    exact ⟨.list [], .list [], .lst (l_of sp2.c0) .nil, .lst (l_of upd_same) .nil, flat_sh (l := []) (fun _ m => by cases m), flat_sh (l := []) (fun _ m => by cases m), by
      rw [show PyData.eqv (.list []) (.list []) = true from flat_nil []]
      exact q _ (Same.tr g2 sp2.ext)⟩
end
end Cb

namespace Cb
open PySem PySem.Spec PyProof.Rows L2
theorem if_cut {D : Ends} {tb te : TS} {σ : L2.St} {H : Hp} {c : Bool} (W : L2.St → Hp → Prop) (ht : c = true → ∀ N : L2.St → Hp → Prop, (∀ σ' H', W σ' H' → N σ' H') → tb { D with nx := N } σ H)
    (he : c = false → ∀ N : L2.St → Hp → Prop, (∀ σ' H', W σ' H' → N σ' H') → te { D with nx := N } σ H) (hW : ∀ σ' H', W σ' H' → D.nx σ' H') : if c = true then tb D σ H else te D σ H := by
  cases c
  · exact iteF (he rfl D.nx hW)
  · exact iteT (ht rfl D.nx hW)
/-! lines and calls as data -/
def sdD : SD → PyData
  | .run n => .tuple [.str "run", .int n]
  | .later w => .tuple [.str "later", .str w]
def lnD (l : LineD) : PyData := .tuple [.str l.name, .str (kindS l.lvl), .int l.rank, .tuple (l.steps.map sdD)]
def cdD (c : CallD) : PyData := .tuple [.str c.line.name, .int (c.step : Nat), .int c.ticks]
def Runs (sts : List SD) : Prop := ∀ s ∈ sts, ∃ n, s = SD.run n
theorem sds_dp {K : PySem.W.Frag} {H : Hp} : ∀ {hs : List V} {sts : List SD}, Paired (StepAt K H) hs sts → DpAll K H hs (sts.map sdD)
  | _, _, .nil => .nil
  | _, st :: _, .cons ⟨t, e, h⟩ p => by
    subst e
    cases st with
    | run n => exact .cons (.tup h (.cons (.str _) (.cons (.int _) .nil))) (sds_dp p)
    | later w => exact .cons (.tup h (.cons (.str _) (.cons (.str _) .nil))) (sds_dp p)
theorem lns_dp {K : PySem.W.Frag} {H : Hp} : ∀ {xs : List V} {lns : List LineD}, Paired (LineAt K H) xs lns → DpAll K H xs (lns.map lnD)
  | _, _, .nil => .nil
  | _, _, .cons ⟨a, h, hs, e, ha, hh, hp⟩ p => by
    subst e
    exact .cons (.tup ha (.cons (.str _) (.cons (.str _) (.cons (.int _) (.cons (.tup hh (sds_dp hp)) .nil))))) (lns_dp p)
theorem cds_dp {K : PySem.W.Frag} {H : Hp} : ∀ {xs : List V} {cs : List CallD}, Paired (C3At K H) xs cs → DpAll K H xs (cs.map cdD)
  | _, _, .nil => .nil
  | _, _, .cons ⟨t, e, h⟩ p => by
    subst e
    exact .cons (.tup h (.cons (.str _) (.cons (.int _) (.cons (.int _) .nil)))) (cds_dp p)
theorem sok_run : PyData.strOk "run" = true := by decide +kernel
theorem sok_edge : PyData.strOk "edge" = true := by decide +kernel
theorem sds_lay : ∀ {sts : List SD}, Runs sts → PyData.canLayAll0 (sts.map sdD) = true ∧ PyData.depthAll (sts.map sdD) ≤ 2
  | [], _ => by simp [PyData.canLayAll0, PyData.depthAll]
  | s :: sts, h => by
    have z := sds_lay (sts := sts) fun x m => h x (List.mem_cons_of_mem _ m)
    obtain ⟨n, rfl⟩ := h s List.mem_cons_self
    refine ⟨?_, ?_⟩
    · simp [sdD, PyData.canLayAll0, PyData.canLay0, z.1, sok_run]
    · have := z.2
      simp [sdD, PyData.depthAll, PyData.depth]
      omega
theorem lns_lay : ∀ {lns : List LineD}, (∀ l ∈ lns, nameOk l.name ∧ l.lvl = false ∧ Runs l.steps) → PyData.canLayAll0 (lns.map lnD) = true ∧ PyData.depthAll (lns.map lnD) ≤ 4
  | [], _ => by simp [PyData.canLayAll0, PyData.depthAll]
  | l :: lns, h => by
    have z := lns_lay (lns := lns) fun x m => h x (List.mem_cons_of_mem _ m)
    obtain ⟨h1, h2, h3⟩ := h l List.mem_cons_self
    have y := sds_lay h3
    have k : PyData.strOk (kindS l.lvl) = true := by rw [h2]; exact sok_edge
    refine ⟨?_, ?_⟩
    · simp [lnD, PyData.canLayAll0, PyData.canLay0, z.1, y.1, k, sok h1]
    · have := z.2
      have := y.2
      simp [lnD, PyData.depthAll, PyData.depth]
      omega
theorem lns_sh {lns : List LineD} (h : ∀ l ∈ lns, nameOk l.name ∧ l.lvl = false ∧ Runs l.steps) : SeqAt.shaped (.tuple (lns.map lnD)) = true := by
  have z := lns_lay h
  unfold SeqAt.shaped
  simp [PyData.canLay0, z.1, PyData.depth]
  omega
theorem lns_nil (lns : List LineD) : PyData.eqv (.tuple (lns.map lnD)) (.tuple []) = lns.isEmpty := by
  cases lns <;> simp [PyData.eqv, PyData.eqvAll]
theorem cds_lay : ∀ {cs : List CallD}, (∀ c ∈ cs, nameOk c.line.name) → PyData.canLayAll0 (cs.map cdD) = true ∧ PyData.depthAll (cs.map cdD) ≤ 2
  | [], _ => by simp [PyData.canLayAll0, PyData.depthAll]
  | l :: lns, h => by
    have z := cds_lay (cs := lns) fun x m => h x (List.mem_cons_of_mem _ m)
    have h1 := h l List.mem_cons_self
    refine ⟨?_, ?_⟩
    · simp [cdD, PyData.canLayAll0, PyData.canLay0, z.1, sok h1]
    · have := z.2
      simp [cdD, PyData.depthAll, PyData.depth]
      omega
theorem cds_sh {cs : List CallD} (h : ∀ c ∈ cs, nameOk c.line.name) : SeqAt.shaped (.list (cs.map cdD)) = true := by
  have z := cds_lay h
  unfold SeqAt.shaped
  simp [PyData.canLay0, z.1, PyData.depth]
  omega
theorem cds_all : ∀ cs : List CallD, PyData.eqvAll (cs.map cdD) (cs.map cdD) = true
  | [] => by simp [PyData.eqvAll]
  | c :: cs => by
    have z := cds_all cs
    simp [PyData.eqvAll, cdD, PyData.eqv, z]
theorem cds_eq (cs : List CallD) : PyData.eqv (.list (cs.map cdD)) (.list (cs.map cdD)) = true := by
  unfold PyData.eqv
  exact cds_all cs
/-! what is drawn -/
theorem pw_inj {α : Type} {f : α → Int} : ∀ {l : List α}, (l.Pairwise fun a b => f a ≠ f b) → ∀ a ∈ l, ∀ b ∈ l, f a = f b → a = b
  | [], _, _, ha, _, _, _ => by cases ha
  | x :: l, h, a, ha, b, hb, e => by
    have h2 := List.pairwise_cons.mp h
    rcases List.mem_cons.mp ha with e1 | m1
    · rcases List.mem_cons.mp hb with e2 | m2
      · rw [e1, e2]
      · subst e1
        exact absurd e (h2.1 b m2)
    · rcases List.mem_cons.mp hb with e2 | m2
      · subst e2
        exact absurd e.symm (h2.1 a m1)
      · exact pw_inj h2.2 a m1 b m2 e
theorem N6_nd : N6.Nodup := by
  unfold N6
  simp
  decide +kernel
theorem R9_nd : R9.Nodup := by
  unfold R9
  simp
theorem PlainDraw.ok {lns : List LineD} {k : Nat} {nv rv : List V} (pd : PlainDraw lns k nv rv) (hnv : nv.Perm N6) (hrv : rv.Perm R9) (h1 : 1 ≤ k) (h6 : k ≤ 6) : LsOk lns ∧ (∀ a ∈ lns, ∀ b ∈ lns, a.rank = b.rank → a = b) := by
  have l6 := hnv.length_eq
  have l9 := hrv.length_eq
  have hlen : lns.length = k := by
    have z := congrArg List.length pd.nm
    simp [names, N6] at z l6
    omega
  have ndn : (names lns).Nodup := by
    rw [pd.nm]
    exact (hnv.nodup_iff.mpr N6_nd).sublist (List.take_sublist _ _)
  have ndr : (lns.map (fun l => V.int l.rank)).Nodup := by
    rw [pd.rk]
    exact (hrv.nodup_iff.mpr R9_nd).sublist (List.take_sublist _ _)
  refine ⟨⟨fun l m => ?_, ?_, ?_, by omega⟩, ?_⟩
  · have hn : V.str l.name ∈ names lns := List.mem_map_of_mem m
    rw [pd.nm] at hn
    have hn2 := N6_flat _ (hnv.mem_iff.mp (List.mem_of_mem_take hn))
    have hr : V.int l.rank ∈ lns.map (fun l => V.int l.rank) := List.mem_map_of_mem m
    rw [pd.rk] at hr
    have hr2 := hrv.mem_iff.mp (List.mem_of_mem_take hr)
    have b := pd.bd l m
    have hrk : 1 ≤ l.rank ∧ l.rank ≤ 9 := by
      simp only [R9, List.mem_cons, List.not_mem_nil, or_false, V.int.injEq] at hr2
      omega
    refine ⟨?_, hrk.1, hrk.2, b.1, by omega⟩
    rcases hn2 with ⟨i, e⟩ | ⟨s, e, h⟩
    · cases e
    · injection e with e
      exact e ▸ h
  · refine List.pairwise_map.mpr ((List.pairwise_map.mp ndn).imp fun h e => h ?_)
    exact congrArg V.str e
  · intro e
    rw [e] at hlen
    simp at hlen
    omega
  · exact pw_inj ((List.pairwise_map.mp ndr).imp fun h e => h (congrArg V.int e))
theorem LsOk.filt {ls : List LineD} (h : LsOk ls) (f : LineD → Bool) (ne : ls.filter f ≠ []) : LsOk (ls.filter f) :=
  ⟨fun l m => h.ok l (List.mem_filter.mp m).1, h.nd.sublist (List.filter_sublist.map _), ne, Nat.le_trans (List.length_filter_le _ _) h.le⟩
/-! two processors -/
structure Fr where
  si : Addr
  dx : Addr
  now : Int
  m : Addr
  c : Str → Int
def frL (K : PySem.W.Frag) (A : Ad) (S : SetD) (f : Fr) : List (Addr × HO) := [(f.si, siI K A f.dx f.now), (f.m, .dK (md S.order f.c))]
structure Duo (K : PySem.W.Frag) (A1 : Ad) (S1 : SetD) (A2 : Ad) (S2 : SetD) (K0 H : Hp) (s1 s2 : StD) (F1 F2 : Fr) (M : List (Addr × HO)) : Prop where
  fb1 : BoardAt K K0 A1.bo A1.su S1 A1.r A1.u
  fj1 : JobsAt K K0 A1.jo S1.ws A1.ro
  fm1 : MgAt K K0 A1.bo F1.m
  fb2 : BoardAt K K0 A2.bo A2.su S2 A2.r A2.u
  fj2 : JobsAt K K0 A2.jo S2.ws A2.ro
  fm2 : MgAt K K0 A2.bo F2.m
  ex : ∃ sv1 rv1 sv2 rv2, Paired (CallAt K K0) sv1 s1.stack ∧ Paired (RowAt K K0) rv1 s1.rows ∧ Paired (CallAt K K0) sv2 s2.stack ∧ Paired (RowAt K K0) rv2 s2.rows ∧
    Sep K0 H (lay K A1 S1 s1 sv1 rv1 (frL K A1 S1 F1 ++ lay K A2 S2 s2 sv2 rv2 (frL K A2 S2 F2 ++ M)))
section
variable {K : PySem.W.Frag} {A1 A2 : Ad} {S1 S2 : SetD} {K0 H : Hp} {s1 s2 : StD} {F1 F2 : Fr} {M : List (Addr × HO)}
theorem lay_app {A : Ad} {S : SetD} {s : StD} {sv rv : List V} : lay K A S s sv rv M = lay K A S s sv rv [] ++ M := rfl
theorem Duo.swap (d : Duo K A1 S1 A2 S2 K0 H s1 s2 F1 F2 M) : Duo K A2 S2 A1 S1 K0 H s2 s1 F2 F1 M := by
  obtain ⟨sv1, rv1, sv2, rv2, h1, h2, h3, h4, sp⟩ := d.ex
  refine ⟨d.fb2, d.fj2, d.fm2, d.fb1, d.fj1, d.fm1, sv2, rv2, sv1, rv1, h3, h4, h1, h2, sp.perm ?_⟩
  rw [lay_app (A := A2) (M := _ ++ lay _ _ _ _ _ _ _), lay_app (A := A1) (M := frL K A1 S1 F1 ++ M), lay_app (A := A1) (M := _ ++ lay _ _ _ _ _ _ _), lay_app (A := A2) (M := frL K A2 S2 F2 ++ M)]
  generalize lay K A1 S1 s1 sv1 rv1 [] = L1
  generalize lay K A2 S2 s2 sv2 rv2 [] = L2
  generalize frL K A1 S1 F1 = f1
  generalize frL K A2 S2 F2 = f2
  have z : ((L2 ++ f2) ++ (L1 ++ f1) ++ M).Perm ((L1 ++ f1) ++ (L2 ++ f2) ++ M) := List.perm_append_comm.append_right M
  simpa only [List.append_assoc] using z
theorem Duo.one (d : Duo K A1 S1 A2 S2 K0 H s1 s2 F1 F2 M) : ∃ N, Own K A1 S1 K0 H s1 (frL K A1 S1 F1 ++ N) ∧
    ∀ K1 H' s1' F1', F1'.m = F1.m → Same K0 K1 → Own K A1 S1 K1 H' s1' (frL K A1 S1 F1' ++ N) → Duo K A1 S1 A2 S2 K1 H' s1' s2 F1' F2 M := by
  obtain ⟨sv1, rv1, sv2, rv2, h1, h2, h3, h4, sp⟩ := d.ex
  refine ⟨_, ⟨d.fb1, d.fj1, sv1, rv1, h1, h2, sp⟩, fun K1 H' s1' F1' em g ow => ?_⟩
  obtain ⟨sv, rv, k1, k2, sp'⟩ := ow.ex
  exact ⟨ow.fb, ow.fj, em ▸ MgAt.up g d.fm1, BoardAt.up g d.fb2, JobsAt.up g d.fj2, MgAt.up g d.fm2, sv, rv, sv2, rv2, k1, k2, h3.mono fun _ _ z => CallAt.up g z, h4.mono fun _ _ z => RowAt.up g z, sp'⟩
theorem Duo.same (d : Duo K A1 S1 A2 S2 K0 H s1 s2 F1 F2 M) : Same K0 H := by
  obtain ⟨sv1, rv1, sv2, rv2, h1, h2, h3, h4, sp⟩ := d.ex
  exact sp.ext
theorem Duo.si1 (d : Duo K A1 S1 A2 S2 K0 H s1 s2 F1 F2 M) : H F1.si = some (siI K A1 F1.dx F1.now) := by
  obtain ⟨N, ow, _⟩ := d.one
  exact ow.fr
theorem Duo.si2 (d : Duo K A1 S1 A2 S2 K0 H s1 s2 F1 F2 M) : H F2.si = some (siI K A2 F2.dx F2.now) := d.swap.si1
theorem duoL {A1 A2 : Ad} {S1 S2 : SetD} {s1 s2 : StD} {sv1 rv1 sv2 rv2 : List V} {F1 F2 : Fr} {M : List (Addr × HO)} {e : Addr × HO} : (lay K A1 S1 s1 sv1 rv1 (frL K A1 S1 F1 ++ lay K A2 S2 s2 sv2 rv2 (frL K A2 S2 F2 ++ (e :: M)))).Perm (e :: lay K A1 S1 s1 sv1 rv1 (frL K A1 S1 F1 ++ lay K A2 S2 s2 sv2 rv2 (frL K A2 S2 F2 ++ M))) := by
  rw [lay_app (A := A1) (M := _ ++ lay _ _ _ _ _ _ (frL K A2 S2 F2 ++ (e :: M))), lay_app (A := A2) (M := frL K A2 S2 F2 ++ (e :: M)), lay_app (A := A1) (M := _ ++ lay _ _ _ _ _ _ (frL K A2 S2 F2 ++ M)), lay_app (A := A2) (M := frL K A2 S2 F2 ++ M)]
  generalize lay K A1 S1 s1 sv1 rv1 [] = L1
  generalize lay K A2 S2 s2 sv2 rv2 [] = L2
  generalize frL K A1 S1 F1 = f1
  generalize frL K A2 S2 F2 = f2
  have z : ((L1 ++ (f1 ++ (L2 ++ f2))) ++ e :: M).Perm (e :: ((L1 ++ (f1 ++ (L2 ++ f2))) ++ M)) := List.perm_middle
  simpa only [List.append_assoc] using z
/-- what is owned besides -/
theorem Duo.own (d : Duo K A1 S1 A2 S2 K0 H s1 s2 F1 F2 M) {p : Addr} {o : HO} (h : H p = none) : Duo K A1 S1 A2 S2 K0 (upd H p o) s1 s2 F1 F2 ((p, o) :: M) := by
  obtain ⟨sv1, rv1, sv2, rv2, h1, h2, h3, h4, sp⟩ := d.ex
  exact ⟨d.fb1, d.fj1, d.fm1, d.fb2, d.fj2, d.fm2, sv1, rv1, sv2, rv2, h1, h2, h3, h4, (sp.own h).perm duoL⟩
theorem Duo.grow {H' : Hp} (d : Duo K A1 S1 A2 S2 K0 H s1 s2 F1 F2 M) (g : Same H H') : Duo K A1 S1 A2 S2 K0 H' s1 s2 F1 F2 M := by
  obtain ⟨sv1, rv1, sv2, rv2, h1, h2, h3, h4, sp⟩ := d.ex
  exact ⟨d.fb1, d.fj1, d.fm1, d.fb2, d.fj2, d.fm2, sv1, rv1, sv2, rv2, h1, h2, h3, h4, sp.grow g⟩
theorem Duo.at0 {p : Addr} {o : HO} (d : Duo K A1 S1 A2 S2 K0 H s1 s2 F1 F2 ((p, o) :: M)) : H p = some o := by
  obtain ⟨sv1, rv1, sv2, rv2, h1, h2, h3, h4, sp⟩ := d.ex
  exact (sp.perm duoL.symm).c0
theorem Duo.put {p : Addr} {o o' : HO} (d : Duo K A1 S1 A2 S2 K0 H s1 s2 F1 F2 ((p, o) :: M)) : Duo K A1 S1 A2 S2 K0 (upd H p o') s1 s2 F1 F2 ((p, o') :: M) := by
  obtain ⟨sv1, rv1, sv2, rv2, h1, h2, h3, h4, sp⟩ := d.ex
  exact ⟨d.fb1, d.fj1, d.fm1, d.fb2, d.fj2, d.fm2, sv1, rv1, sv2, rv2, h1, h2, h3, h4, (sp.perm duoL.symm).put0.perm duoL⟩
theorem Duo.tail {e : Addr × HO} (d : Duo K A1 S1 A2 S2 K0 H s1 s2 F1 F2 (e :: M)) : Duo K A1 S1 A2 S2 K0 H s1 s2 F1 F2 M := by
  obtain ⟨sv1, rv1, sv2, rv2, h1, h2, h3, h4, sp⟩ := d.ex
  exact ⟨d.fb1, d.fj1, d.fm1, d.fb2, d.fj2, d.fm2, sv1, rv1, sv2, rv2, h1, h2, h3, h4, (sp.perm duoL.symm).tail⟩
theorem Duo.freeze {p : Addr} {o : HO} (d : Duo K A1 S1 A2 S2 K0 H s1 s2 F1 F2 ((p, o) :: M)) : Duo K A1 S1 A2 S2 (upd K0 p o) H s1 s2 F1 F2 M ∧ Same K0 (upd K0 p o) := by
  obtain ⟨sv1, rv1, sv2, rv2, h1, h2, h3, h4, sp⟩ := d.ex
  have g := (sp.perm duoL.symm).new0
  exact ⟨⟨BoardAt.up g d.fb1, JobsAt.up g d.fj1, MgAt.up g d.fm1, BoardAt.up g d.fb2, JobsAt.up g d.fj2, MgAt.up g d.fm2, sv1, rv1, sv2, rv2, h1.mono fun _ _ z => CallAt.up g z, h2.mono fun _ _ z => RowAt.up g z, h3.mono fun _ _ z => CallAt.up g z, h4.mono fun _ _ z => RowAt.up g z, (sp.perm duoL.symm).freeze⟩, g⟩
theorem Duo.dropN (d : Duo K A1 S1 A2 S2 K0 H s1 s2 F1 F2 M) {p : Addr} {o : HO} (h : H p = none) : Duo K A1 S1 A2 S2 K0 (upd H p o) s1 s2 F1 F2 M := d.grow (same_new (Same.refl H) h)
def DuD (K : PySem.W.Frag) (A1 : Ad) (S1 : SetD) (A2 : Ad) (S2 : SetD) (K0 H : Hp) (s1 s2 : StD) (F1 F2 : Fr) (row sc : Addr) (M : List (Addr × HO)) : Prop := ∃ i g x, 0 ≤ i ∧ (0 ≤ g ∧ g < 2147483647) ∧ Duo K A1 S1 A2 S2 K0 H s1 s2 F1 F2 ((row, rowO sc i g x) :: M)
theorem DuD.dr {row sc : Addr} (d : DuD K A1 S1 A2 S2 K0 H s1 s2 F1 F2 row sc M) : ∃ N, Dr K0 H row sc N ∧ ∀ H', Dr K0 H' row sc N → DuD K A1 S1 A2 S2 K0 H' s1 s2 F1 F2 row sc M := by
  obtain ⟨i, g, x, hi, hg, du⟩ := d
  obtain ⟨sv1, rv1, sv2, rv2, h1, h2, h3, h4, sp⟩ := du.ex
  exact ⟨_, ⟨i, g, x, hi, hg, sp.perm duoL.symm⟩, fun H' ⟨i', g', x', hi', hg', sp'⟩ => ⟨i', g', x', hi', hg', du.fb1, du.fj1, du.fm1, du.fb2, du.fj2, du.fm2, sv1, rv1, sv2, rv2, h1, h2, h3, h4, sp'.perm duoL⟩⟩
end
theorem take_ev {S : SetD} (ok : SetOk S) {s : StD} {r : List LineD} (hr : ∀ l ∈ r, l ∈ S.ls) : ∀ e ∈ (takeP s r).2, ∃ l ∈ S.ls, e = .bgn l ∨ e = .fin l := by
  cases r with
  | nil => intro e m; cases m
  | cons l r =>
    have hl := hr l List.mem_cons_self
    rw [take_one (ok.ok.ok l hl).s1]
    intro e m
    split at m
    · rcases List.mem_cons.mp m with rfl | m
      · exact ⟨l, hl, .inl rfl⟩
      · cases m
    · cases m
theorem spend_ev {S : SetD} {s : StD} (g : GoodP S s) : ∀ e ∈ (spendP s).2, ∃ l ∈ S.ls, e = .bgn l ∨ e = .fin l := by
  intro e m
  rcases List.eq_nil_or_concat s.stack with e1 | ⟨rest, c, e1⟩
  · rw [spend_nil e1] at m
    cases m
  rw [List.concat_eq_append] at e1
  have hc := g.calls c (by rw [e1]; simp)
  obtain ⟨n, hn, _⟩ := hc.st
  rw [spend_form e1 hn] at m
  split at m
  · cases m
  split at m
  · cases m
  rcases List.mem_cons.mp m with rfl | m
  · exact ⟨c.line, hc.ln, .inr rfl⟩
  · cases m
theorem tick_ev {S : SetD} (ok : SetOk S) (pl : PlainS S) {s : StD} (g : GoodP S s) : ∀ e ∈ (tickP S s).2, ∃ l ∈ S.ls, e = .bgn l ∨ e = .fin l := by
  have hr : ∀ l ∈ readyL S s, l ∈ S.ls := fun l m => ((mem_readyL ok).mp m).1
  intro e m
  unfold tickP at m
  rcases List.mem_append.mp m with m | m
  · exact take_ev ok hr e m
  · exact spend_ev (takeP_good pl g hr).1 e m
theorem tick_len {S : SetD} (ok : SetOk S) (pl : PlainS S) {s : StD} (g : GoodP S s) : (tickP S s).2.length ≤ 3 ∧ (tickP S s).1.stack.length ≤ s.stack.length + 1 := by
  have hr : ∀ l ∈ readyL S s, l ∈ S.ls := fun l m => ((mem_readyL ok).mp m).1
  have h1 := takeP_good pl g hr
  have h2 := spendP_len (takeP s (readyL S s)).1
  have h3 := (spendP_good pl h1.1)
  unfold tickP
  refine ⟨?_, ?_⟩
  · have := h1.2.2
    rw [List.length_append]
    omega
  · have := h3.2
    have := h1.2.1
    simp only
    omega
end Cb

namespace Cb
open PySem PySem.Spec PyProof.Rows L2

theorem takenDu {K : PySem.W.Frag} {A1 A2 : Ad} {S1 S2 : SetD} {s1 s2 : StD} {F1 F2 : Fr} {row sc : Addr} {m : Int} {ns : List Int} {K0 H : Hp} {M : List (Addr × HO)} {σ : L2.St} {Q : VK} {E : XK} (hσ : σ[1]? = some (some (V.ref row))) (hm : 0 < m) (hm2 : m < 1000) (hsc : SqL K K0 sc (ns.map V.int)) (d : DuD K A1 S1 A2 S2 K0 H s1 s2 F1 F2 row sc M) (q : ∀ H' r, 0 ≤ r → r < m → DuD K A1 S1 A2 S2 K0 H' s1 s2 F1 F2 row sc M → Q (.int r) H') : tCall (sp_law_taken K) [] E (tCons (tVar 1) (tCons (tC (.int m)) tNil)) σ H Q := by
  obtain ⟨N, d1, d2⟩ := d.dr
  exact takenT hσ hm hm2 hsc d1 fun H' r a b d' => q H' r a b (d2 H' d')
theorem takenDuL {K : PySem.W.Frag} {A1 A2 : Ad} {S1 S2 : SetD} {s1 s2 : StD} {F1 F2 : Fr} {row sc : Addr} {v : Nat} {p : Addr} {acc : List V} {ns : List Int} {K0 H : Hp} {M : List (Addr × HO)} {σ : L2.St} {Q : VK} {E : XK} (hσ : σ[1]? = some (some (V.ref row))) (hv : σ[v]? = some (some (V.ref p))) (hp : SqT K H p acc) (h0 : 0 < acc.length) (hm2 : acc.length < 900) (hsc : SqL K K0 sc (ns.map V.int)) (d : DuD K A1 S1 A2 S2 K0 H s1 s2 F1 F2 row sc M) (q : ∀ H' r, 0 ≤ r → r < (acc.length : Int) → DuD K A1 S1 A2 S2 K0 H' s1 s2 F1 F2 row sc M → Q (.int r) H') : tCall (sp_law_taken K) [] E (tCons (tVar 1) (tCons (tCB (fun xs H Q => ∃ p ys, xs = [V.ref p] ∧ (SqL K H p ys ∨ SqT K H p ys) ∧ Q (V.int ys.length) H) (tCons (tVar v) tNil)) tNil)) σ H Q := by
  obtain ⟨N, d1, d2⟩ := d.dr
  exact ⟨_, hσ, _, hv, p, acc, rfl, .inr hp, taken (E := E) (by omega) (by omega) hsc d1 fun H' r a b d' => q H' r a b (d2 H' d')⟩
theorem inV_iff {U : List LineD} {n : Str} : inV (.str n) (names U) = decide (n ∈ U.map (·.name)) := by
  by_cases h : n ∈ U.map (·.name)
  · rw [decide_eq_true h]
    obtain ⟨l, hl, rfl⟩ := List.mem_map.mp h
    unfold inV names
    rw [List.any_eq_true]
    exact ⟨_, List.mem_map_of_mem hl, by simp [eqV]⟩
  · rw [decide_eq_false h]
    have e : names U = (U.map (·.name)).map V.str := by simp [names, Function.comp_def]
    rw [e]
    exact inV_not h
/-- the lines that count -/
structure Up (lns U : List LineD) (m : Int) : Prop where
  ok1 : LsOk lns
  rk : ∀ a ∈ lns, ∀ b ∈ lns, a.rank = b.rank → a = b
  hu : ∀ l, l ∈ U ↔ l ∈ lns ∧ upL m l = true
  ok2 : LsOk U
  pl : ∀ l ∈ lns, l.lvl = false ∧ ∀ s ∈ l.steps, ∃ n, s = SD.run n ∧ 1 ≤ n ∧ n ≤ 99
theorem Up.of {lns : List LineD} {r : Int} (ok : LsOk lns) (rk : ∀ a ∈ lns, ∀ b ∈ lns, a.rank = b.rank → a = b) (pl : ∀ l ∈ lns, l.lvl = false ∧ ∀ s ∈ l.steps, ∃ n, s = SD.run n ∧ 1 ≤ n ∧ n ≤ 99) (ne : lns.filter (upL r) ≠ []) : Up lns (lns.filter (upL r)) r :=
  ⟨ok, rk, fun l => List.mem_filter, ok.filt _ ne, pl⟩
theorem Up.all {lns : List LineD} (ok : LsOk lns) (rk : ∀ a ∈ lns, ∀ b ∈ lns, a.rank = b.rank → a = b) (pl : ∀ l ∈ lns, l.lvl = false ∧ ∀ s ∈ l.steps, ∃ n, s = SD.run n ∧ 1 ≤ n ∧ n ≤ 99) : Up lns lns 0 :=
  ⟨ok, rk, fun l => ⟨fun m => ⟨m, by have := (ok.ok l m).r1; simp [upL]; omega⟩, fun h => h.1⟩, ok, pl⟩
theorem Up.pl2 {lns U : List LineD} {m : Int} (h : Up lns U m) : ∀ l ∈ U, l.lvl = false ∧ ∀ s ∈ l.steps, ∃ n, s = SD.run n ∧ 1 ≤ n ∧ n ≤ 99 := fun l hl => h.pl l ((h.hu l).mp hl).1
theorem inj_pw {α β : Type} {f : α → β} : ∀ {l : List α}, (l.Pairwise fun a b => f a ≠ f b) → ∀ a ∈ l, ∀ b ∈ l, f a = f b → a = b
  | [], _, _, ha, _, _, _ => by cases ha
  | x :: l, h, a, ha, b, hb, e => by
    have h2 := List.pairwise_cons.mp h
    rcases List.mem_cons.mp ha with e1 | m1
    · rcases List.mem_cons.mp hb with e2 | m2
      · rw [e1, e2]
      · subst e1
        exact absurd e (h2.1 b m2)
    · rcases List.mem_cons.mp hb with e2 | m2
      · subst e2
        exact absurd e.symm (h2.1 a m1)
      · exact inj_pw h2.2 a m1 b m2 e
theorem Up.mem {lns U : List LineD} {m : Int} (h : Up lns U m) {l : LineD} (hl : l ∈ lns) : decide (l.name ∈ U.map (·.name)) = upL m l := by
  cases e : upL m l with
  | true => exact decide_eq_true (List.mem_map_of_mem ((h.hu l).mpr ⟨hl, e⟩))
  | false =>
    refine decide_eq_false fun z => ?_
    obtain ⟨k, hk, hn⟩ := List.mem_map.mp z
    have hk2 := (h.hu k).mp hk
    have : k = l := by
      have nd := h.ok1.nd
      have pw := List.pairwise_map.mp nd
      exact inj_pw pw _ hk2.1 _ hl hn
    subst this
    rw [hk2.2] at e
    cases e
theorem plain_all {U : List LineD} (h : ∀ l ∈ U, l.lvl = false ∧ ∀ s ∈ l.steps, ∃ n, s = SD.run n ∧ 1 ≤ n ∧ n ≤ 99) : AllOk U [] := fun l hl s hs => by
  obtain ⟨n, rfl, h1, h2⟩ := (h l hl).2 s hs
  exact ⟨h1, h2⟩
structure TI (S S2 : SetD) (m : Int) (s1 s2 : StD) (i : Nat) : Prop where
  bis : Bis m S s1 s2
  g2 : GoodP S2 s2
  l1 : s1.stack.length ≤ i
  l2 : s2.stack.length ≤ i
theorem wsOk_nil : WsOk [] := ⟨(fun _ m => by cases m), .nil, by simp⟩

section
variable {P : Program} {w : World} {K : PySem.W.Frag} {mg : Str → Option Value} {base : Heap}

abbrev N_law : List Str := ["_law_script", "_law_row", "_law_turn", "_law_lines", "_law_least", "_law_upper", "_law_line", "_law_names", "_law_one", "_law_two", "_law_tick", "_law_k", "_law_name", "_law_told", "_law_events", "_law_event", "_law_call"]
theorem sc_law : FnScope N_law ["_law_script"] (C8.fnScope s_law) := C8.fnScope_by (by decide +kernel)
theorem ok_law {fd : FuncData} (T : Txt K mg) (F : FunD K "law" "law" (C8.fnArgs s_law) (C8.fnBody s_law) (C8.fnScope s_law) [] [] (He.ga K "law") fd) (c__law_taken : C8.Cal P w K mg base 1 "_law_taken" (sp_law_taken K) []) (c__law_plain : C8.Cal P w K mg base 3 "_law_plain" (sp_law_plain K) []) (c_Setup : C8.Mak P w K mg base 6 "Setup" (aC "Setup" K) (sp_Setup_init K) [.ref (He.dflAt ("Setup", some "__init__") 0 K)]) (c_Single : C8.Mak P w K mg base 7 "Single" (aC "Single" K) (sp_Single_init K) []) (c_ring : C8.Met P w K mg base 4 (aC "Single" K) "ring" (sp_Single_ring K) []) (c_tick : C8.Met P w K mg base 8 (aC "Single" K) "tick" (spP_tick K) []) (c_calls : FnP P w K mg base 2 (prA "Single" "calls" K) (sp_Single_calls K)) (c__law_alike : C8.Cal P w K mg base 4 "_law_alike" (sp_alL K) []) :
    FnOk P w K mg base C8.CX0 10 (He.ga K "law") fd ["_law_script"] (sp_law K) := by
  refine C8.fn0 (fun_c8 F) sc_law (fun vs H Q E h => ?_) (fun cdv A outer s H vs Q E hr h => ?_)
  · obtain ⟨_, _, rfl, _⟩ := h
    rfl
  · have nd := sc_law.nd
    have hu := hu_of hr
    obtain ⟨sc, ns, rfl, hsc, q⟩ := h
    obtain ⟨pc, hpc⟩ := T.p_Single_calls
    refine ⟨_, (pss_cons (ps_set (i := 1) nd rfl (Or.inl rfl) (pe_lst (pa_cons (pv 0) (pa_cons pe_int (pa_cons pe_int (pa_cons pe_int pa_nil))))))
      (pss_cons (ps_for PassesOwn.never rfl (pi_range1 (by rfl) T.n_range (pa_cons pe_int pa_nil)) (pg_name (i := 2) nd rfl (Or.inl rfl)) (pss_cons (ps_set (i := 3) nd rfl (Or.inl rfl) (C8.pe_c c__law_plain hr (by decide) rfl (pa_cons (pv 1) (pa_cons pe_int (pa_cons pe_int pa_nil)))))
      (pss_cons (ps_set (i := 4) nd rfl (Or.inr rfl) (C8.pe_c c__law_taken hr (by decide) rfl (pa_cons (pv 1) (pa_cons pe_int pa_nil))))
      (pss_cons (ps_set (i := 5) nd rfl (Or.inl rfl) (pe_callTy call_tuple_of (by rfl) T.n_tuple (by decide +kernel) (pa_cons (pe_lc (own := [("_law_line", 6)]) rfl nd (pi_tup (pv 3)) (blkOk_by (own := [("_law_line", 6)]) (N := N_law) (sc := (C8.fnScope s_law)) (by decide +kernel)) (fun _ _ _ _ _ => (pg_name (i := 6) nd rfl (Or.inl rfl))) (fun _ _ _ _ _ => (pts_one (pt_cmpR op_ge (pe_ix (ix_tup : IxR _ (rIxT K)) (pv 6) pe_int (fun _ _ => rfl)) (pv 4) (nomark _)))) (fun _ _ _ _ _ => (pv 6))) pa_nil)))
      (pss_cons (ps_if (pt_cmpR (op_eqD (hu64_of hr)) (pv 5) (pe_tup pa_nil) (nomark _)) (pss_one (ps_set (i := 5) nd rfl (Or.inl rfl) (pv 3))) pss_nil)
      (pss_cons (ps_set (i := 7) nd rfl (Or.inr rfl) (pe_lc (own := [("_law_line", 6)]) rfl nd (pi_tup (pv 5)) (blkOk_by (own := [("_law_line", 6)]) (N := N_law) (sc := (C8.fnScope s_law)) (by decide +kernel)) (fun _ _ _ _ _ => (pg_name (i := 6) nd rfl (Or.inl rfl))) (fun _ _ _ _ _ => pts_nil) (fun _ _ _ _ _ => (pe_ix (ix_tup : IxR _ (rIxT K)) (pv 6) pe_int (fun _ _ => rfl)))))
      (pss_cons (ps_par (i := 8) (j := 9) rfl nd rfl rfl (by decide) rfl rfl (pa_cons (C8.pe_mk c_Single hr (by decide) rfl (pa_cons (C8.pe_mk c_Setup hr (by decide) rfl (pa_cons (pv 3) pa_nil)) pa_nil)) (pa_cons (C8.pe_mk c_Single hr (by decide) rfl (pa_cons (C8.pe_mk c_Setup hr (by decide) rfl (pa_cons (pv 5) pa_nil)) pa_nil)) pa_nil)) rfl)
      (pss_one (ps_for PassesOwn.never rfl (pi_range1 (by rfl) T.n_range (pa_cons pe_int pa_nil)) (pg_name (i := 10) nd rfl (Or.inl rfl)) (pss_cons (ps_for PassesOwn.never rfl (pi_range1 (by rfl) T.n_range (pa_cons (C8.pe_c c__law_taken hr (by decide) rfl (pa_cons (pv 1) (pa_cons pe_int pa_nil))) pa_nil)) (pg_name (i := 11) nd rfl (Or.inl rfl)) (pss_cons (ps_set (i := 12) nd rfl (Or.inl rfl) (pe_ix ix_tup (pe_ix ix_tup (pv 3) (C8.pe_c c__law_taken hr (by decide) rfl (pa_cons (pv 1) (pa_cons (pe_callB call_len_seq (by rfl) T.n_len (by decide +kernel) (pa_cons (pv 3) pa_nil)) pa_nil))) (fun _ _ => rfl)) pe_int (fun _ _ => rfl)))
      (pss_cons (ps_set (i := 13) nd rfl (Or.inl rfl) (C8.pe_mt c_ring hr (by decide) (pv 8) (pa_cons (pv 12) pa_nil)))
      (pss_one (ps_if (PW.pt (pw_and (pt_cmpR op_in_seq (pv 12) (pv 7) (by rfl)) (pw_and1 (pt_cmpR op_ne (C8.pe_mt c_ring hr (by decide) (pv 9) (pa_cons (pv 12) pa_nil)) (pv 13) (nomark _))))) (pss_one (ps_ret pe_bl)) pss_nil)))))
      (pss_cons (ps_setLc (i := 14) (own := [("_law_event", 15)]) rfl nd rfl rfl (sw_true rfl rfl rfl (by decide +kernel)) (pi_list (C8.pe_mt0 c_tick hr (by decide) (pv 8))) (blkOk_by (own := [("_law_event", 15)]) (N := N_law) (sc := (C8.fnScope s_law)) (by decide +kernel)) (fun _ _ _ _ _ => (pg_name (i := 15) nd rfl (Or.inl rfl))) (fun _ _ _ _ _ => (pts_one (pt_cmpR (op_in_seq : OpR _ _ (rIn K false)) (pe_ix (ix_tup : IxR _ (rIxT K)) (pv 15) pe_int (fun _ _ => rfl)) (pv 7) (by rfl)))) (fun _ _ _ _ _ => (pv 15)))
      (pss_one (ps_if (PW.pt (pw_or (pt_not (pt_val (C8.pe_c c__law_alike hr (by decide) rfl (pa_cons (C8.pe_mt0 c_tick hr (by decide) (pv 9)) (pa_cons (pv 14) pa_nil))))) (pw_or1 (pt_cmpR (op_neD (hu64_of hr)) (pe_lc (own := [("_law_call", 16)]) rfl nd (pi_list (C_prop hpc T.cl_Single c_calls hr (by decide) (pv 8))) (blkOk_by (own := [("_law_call", 16)]) (N := N_law) (sc := (C8.fnScope s_law)) (by decide +kernel)) (fun _ _ _ _ _ => (pg_name (i := 16) nd rfl (Or.inl rfl))) (fun _ _ _ _ _ => (pts_one (pt_cmpR (op_in_seq : OpR _ _ (rIn K false)) (pe_ix (ix_tup : IxR _ (rIxT K)) (pv 16) pe_int (fun _ _ => rfl)) (pv 7) (by rfl)))) (fun _ _ _ _ _ => (pv 16))) (C_prop hpc T.cl_Single c_calls hr (by decide) (pv 9)) (nomark _))))) (pss_one (ps_ret pe_bl)) pss_nil)))))))))))))
      (pss_one (ps_ret pe_bl)))), ?_⟩
    refine ⟨_, rfl, small8 (by simp), fun row hrow => ?_⟩
    have sp0 : Sep H _ [(row, rowO sc 0 0 0)] := Sep.nil.own hrow
    refine ⟨_, rfl, by decide, by decide, ?_⟩
    refine for_it (walk_range (lo := 0) (n := 3)) (fun _ σ H' => ∃ y2 y3 y4 y5 y6 y7 y8 y9 y10 y11 y12 y13 y14 y15 y16 K', σ = [some (.ref sc), some (.ref row), y2, y3, y4, y5, y6, y7, y8, y9, y10, y11, y12, y13, y14, y15, y16] ∧ Same H K' ∧ Dr K' H' row sc []) ⟨_, _, _, _, _, _, _, _, _, _, _, _, _, _, _, H, rfl, Same.refl H, 0, 0, 0, by omega, by omega, sp0⟩ (fun _ _ _ _ _ => trivial) ?_ (fun σ H' _ => q H')
    rintro i v σ H1 H2 hi ⟨y2, y3, y4, y5, y6, y7, y8, y9, y10, y11, y12, y13, y14, y15, y16, K1, rfl, g1, d1⟩ ⟨rfl, rfl⟩
    have sc1 := Same.lst g1 hsc
    refine ⟨_, rfl, row, sc, 6, 6, ns, K1, [], rfl, by decide, by decide, by decide, by decide, sc1, d1, fun K2 H3 p lns nv rv k g2 d2 hL hnv hrv hk1 hk6 pd => ?_⟩
    have sc2 := Same.lst g2 sc1
    have hok := pd.ok hnv hrv hk1 hk6
    have hpla : ∀ l ∈ lns, l.lvl = false ∧ ∀ s ∈ l.steps, ∃ n, s = SD.run n ∧ 1 ≤ n ∧ n ≤ 99 := fun l m => ⟨(pd.bd l m).2.2.1, (pd.bd l m).2.2.2⟩
    refine takenT rfl (by decide) (by decide) sc2 d2 fun H4 r a1 a2 d3 => ?_
    obtain ⟨xs, hxs, hpl⟩ := hL
    refine ⟨_, rfl, _, rfl, ⟨_, Same.tup d3.ext hxs⟩, fun D hD => ?_⟩
    have hxl := hpl.length
    have hll := hok.1.le
    refine lc_it (walk_tup (xs := xs)) (fun i H' => ∃ acc, Dr K2 H' row sc [(D, .lst acc)] ∧ Paired (LineAt K K2) acc ((lns.take i).filter (upL r)) ∧ acc.length ≤ i) ⟨[], d3.own hD, .nil, Nat.le_refl _⟩ ?_ ?_ ?_
    · rintro i H' _ ⟨acc, d, _, _⟩
      exact Same.tup d.ext hxs
    · rintro i v H5 H6 hi ⟨acc, d, pr, hle⟩ ⟨rfl, e2⟩
      obtain ⟨l, hl, hL1⟩ := pget hpl e2
      have hL2 := hL1
      obtain ⟨a, h, hs, rfl, ha, hh, hst⟩ := hL2
      refine ⟨rfl, _, rfl, _, _, _, _, rfl, rfl, Same.tup d.ext ha, rfl, _, rfl, _, _, rfl, rfl, decide (r ≤ l.rank), rfl, ?_⟩
      rw [filter_snoc (upL r) hl]
      by_cases hu : r ≤ l.rank
      · rw [decide_eq_true hu, if_pos (show upL r l = true from decide_eq_true hu)]
        exact iteT ⟨_, rfl, acc, d.at0, sm (m := 12) (by omega) (by decide), _, d.put, Paired.snoc pr hL1, by simp; omega⟩
      · rw [decide_eq_false hu, if_neg (by simp [upL, hu]), List.append_nil]
        exact iteF ⟨acc, d, pr, by omega⟩
    rintro H5 ⟨acc, d4, pr, hle⟩
    rw [List.take_of_length_le (by omega)] at pr
    refine ⟨_, _, rfl, .inl ⟨l_of d4.at0, fun up hup => ?_⟩⟩
    have kk := d4.tail.keep (o := .tup acc) hup
    have hup1 : upd K2 up (.tup acc) up = some (.tup acc) := upd_same
    revert kk hup1
    generalize upd K2 up (.tup acc) = K3
    rintro ⟨d5, g3⟩ hup1
    refine ⟨_, rfl, small8 (by simp), fun et het => ?_⟩
    have d6 := d5.drop (o := .tup []) het
    have pr3 := pr.mono fun _ _ z => LineAt.up g3 z
    have hfok : ∀ l ∈ lns.filter (upL r), nameOk l.name ∧ l.lvl = false ∧ Runs l.steps := fun l m => by
      have m := (List.mem_filter.mp m).1
      exact ⟨(hok.1.ok l m).nm, (hpla l m).1, fun s ms => ((hpla l m).2 s ms).elim fun n h => ⟨n, h.1⟩⟩
    refine ⟨.tuple ((lns.filter (upL r)).map lnD), .tuple [], .tup (t_of (d6.ext _ _ hup1)) (lns_dp (pr3.mono fun _ _ z => LineAt.up d6.ext z)), .tup (t_of upd_same) .nil, lns_sh hfok, lns_sh (lns := []) (fun _ m => by cases m), (lns.filter (upL r)).isEmpty, by rw [lns_nil], ?_⟩
    refine if_cut (fun σ H' => ∃ y2 y6 y7 y8 y9 y10 y11 y12 y13 y14 y15 y16 up xu U mm, σ = [some (.ref sc), some (.ref row), y2, some (.ref p), some (.int r), some (.ref up), y6, y7, y8, y9, y10, y11, y12, y13, y14, y15, y16] ∧ Dr K3 H' row sc [] ∧ SqT K K3 up xu ∧ Paired (LineAt K K3) xu U ∧ Up lns U mm) (fun hb N hN => ?_) (fun hb N hN => ?_) ?_
    · refine ⟨_, rfl, hN _ _ ⟨_, _, _, _, _, _, _, _, _, _, _, _, p, xs, lns, 0, rfl, d6, Same.tup g3 hxs, hpl.mono fun _ _ z => LineAt.up g3 z, Up.all hok.1 hok.2 hpla⟩⟩
    · refine hN _ _ ⟨_, _, _, _, _, _, _, _, _, _, _, _, up, acc, _, r, rfl, d6, t_of hup1, pr3, Up.of hok.1 hok.2 hpla fun e => ?_⟩
      rw [e] at hb
      cases hb
    rintro σ H6 ⟨y2, y6, y7, y8, y9, y10, y11, y12, y13, y14, y15, y16, up, xu, U, mm, rfl, d7, hxu, hpu, hU⟩
    have hul := hpu.length
    have hu12 := hU.ok2.le
    refine ⟨_, rfl, _, rfl, ⟨_, Same.tup d7.ext hxu⟩, fun nm hnm => ?_⟩
    refine lc_it (walk_tup (xs := xu)) (fun i H' => Dr K3 H' row sc [(nm, .lst (names (U.take i)))]) (d7.own hnm) ?_ ?_ ?_
    · rintro i H' _ d
      exact Same.tup d.ext hxu
    · rintro i v H7 H8 hi d ⟨rfl, e2⟩
      obtain ⟨l, hl, a, h, hs, rfl, ha, hh, hst⟩ := pget hpu e2
      refine ⟨rfl, _, rfl, _, _, _, _, rfl, rfl, Same.tup d.ext ha, rfl, _, d.at0, sm (m := 12) (by simp [names]; omega) (by decide), ?_⟩
      rw [take_snoc hl]
      have z := d.put (o' := .lst (names (U.take i) ++ [V.str l.name]))
      unfold names at z ⊢
      rw [List.map_append]
      exact z
    rintro H7 d8
    rw [List.take_of_length_le (by omega)] at d8
    have fz := d8.freeze
    have hnm1 : upd K3 nm (.lst (names U)) nm = some (.lst (names U)) := upd_same
    revert fz hnm1
    generalize upd K3 nm (.lst (names U)) = K4
    rintro ⟨d9, g4⟩ hnm1
    obtain ⟨ri, rg, rx, hri, hrg, sp9⟩ := d9
    refine ⟨_, rfl, fun su sd hsu hsd hne => ?_⟩
    have so := sp9.obj (o := .own su) (o' := .ins (aC "Setup" K) sd []) hsu hsd hne
    have g34 : Same K2 K4 := Same.tr g3 g4
    refine ⟨su, sd, p, _, lns, [], K4, _, rfl, so, ⟨xs, Same.tup g34 hxs, hpl.mono fun _ _ z => LineAt.up g34 z⟩, ⟨[], T.d_Setup _, .nil⟩, hU.ok1, wsOk_nil, plain_all hU.pl, fun K5 H8 S g5 s5 hS hls hws hokS => ⟨rfl, ?_⟩⟩
    refine fun si sd2 hsi hsd2 hne2 => ?_
    have so2 := s5.obj (o := .own si) (o' := .ins (aC "Single" K) sd2 []) hsi hsd2 hne2
    have hSe : ∀ l ∈ S.ls, l.lvl = false := fun l m => (hU.pl l (hls ▸ m)).1
    refine ⟨si, sd2, su, S, K5, _, rfl, so2, hS, hokS, hSe, fun K6 H9 A m g6 eA hM ow => ⟨rfl, ?_⟩⟩
    obtain ⟨sv, rv', k1, k2, sp⟩ := ow.ex
    refine ⟨_, rfl, fun su2 sd3 hsu2 hsd3 hne3 => ?_⟩
    have so3 := sp.obj (o := .own su2) (o' := .ins (aC "Setup" K) sd3 []) hsu2 hsd3 hne3
    have g46 : Same K4 K6 := Same.tr g5 g6
    refine ⟨su2, sd3, up, _, U, [], K6, _, rfl, so3, ⟨xu, Same.tup (Same.tr g4 g46) hxu, hpu.mono fun _ _ z => LineAt.up (Same.tr g4 g46) z⟩, ⟨[], T.d_Setup _, .nil⟩, hU.ok2, wsOk_nil, plain_all hU.pl2, fun K7 H10 S2 g7 s7 hS2 hls2 hws2 hokS2 => ⟨rfl, ?_⟩⟩
    refine fun si2 sd4 hsi2 hsd4 hne4 => ?_
    have so4 := s7.obj (o := .own si2) (o' := .ins (aC "Single" K) sd4 []) hsi2 hsd4 hne4
    have hSe2 : ∀ l ∈ S2.ls, l.lvl = false := fun l m => (hU.pl2 l (hls2 ▸ m)).1
    refine ⟨si2, sd4, su2, S2, K7, _, rfl, so4, hS2, hokS2, hSe2, fun K8 H11 A2 m2 g8 eA2 hM2 ow2 => ⟨rfl, ?_⟩⟩
    refine ⟨_, _, rfl, ?_⟩
    obtain ⟨sv2, rv2, j1, j2, sp2⟩ := ow2.ex
    have g68 := Same.tr g7 g8
    have du : Duo K A S A2 S2 K8 H11 st0 st0 ⟨si, sd2, 0, m, no0⟩ ⟨si2, sd4, 0, m2, no0⟩ [(row, rowO sc ri rg rx)] :=
      Duo.swap ⟨ow2.fb, ow2.fj, hM2, BoardAt.up g68 ow.fb, JobsAt.up g68 ow.fj, MgAt.up g68 hM, sv2, rv2, sv, rv', j1, j2, k1.mono fun _ _ z => CallAt.up g68 z, k2.mono fun _ _ z => RowAt.up g68 z, sp2⟩
    subst hls hls2
    have plS : PlainS S := fun l hl st ms => ((hU.pl l hl).2 st ms).elim fun n h => ⟨n, h.1, h.2.1⟩
    have plS2 : PlainS S2 := fun l hl st ms => ((hU.pl2 l hl).2 st ms).elim fun n h => ⟨n, h.1, h.2.1⟩
    have rkS : Ranks S := hU.rk
    have g28 : Same K2 K8 := Same.tr g34 (Same.tr g46 g68)
    have g48 : Same K4 K8 := Same.tr g46 g68
    have sc8 : SqL K K8 sc (ns.map V.int) := Same.lst g28 sc2
    have hxs8 := Same.tup g28 hxs
    have hpl8 := hpl.mono fun _ _ z => LineAt.up g28 z
    have hnm8 : K8 nm = some (.lst (names S2.ls)) := g48 _ _ hnm1
    have hpos : 0 < xs.length := by
      have := hU.ok1.ne
      rcases e : S.ls with _ | ⟨a, b⟩
      · exact absurd e this
      · rw [hxl, e]
        simp
    refine ⟨_, rfl, by decide, by decide, ?_⟩
    refine for_it (walk_range (lo := 0) (n := 40)) (fun i σ H' => ∃ y2 y4 y6 y10 y11 y12 y13 y14 y15 y16 K' s1 s2 c1 c2, σ = [some (.ref sc), some (.ref row), y2, some (.ref p), y4, some (.ref up), y6, some (.ref nm), some (.ref si), some (.ref si2), y10, y11, y12, y13, y14, y15, y16] ∧ Same K8 K' ∧ DuD K A S A2 S2 K' H' s1 s2 ⟨si, sd2, (i : Nat), m, c1⟩ ⟨si2, sd4, (i : Nat), m2, c2⟩ row sc [] ∧ TI S S2 mm s1 s2 i) ⟨_, _, _, _, _, _, _, _, _, _, K8, st0, st0, no0, no0, rfl, Same.refl _, ⟨ri, rg, rx, hri, hrg, du⟩, ⟨bis_0, ⟨(fun _ q => by cases q), rfl⟩, Nat.le_refl _, Nat.le_refl _⟩⟩ (fun _ _ _ _ _ => trivial) ?_ ?_
    · rintro i v σ H12 H13 hi ⟨y2, y4, y6, y10, y11, y12, y13, y14, y15, y16, K', s1, s2, c1, c2, rfl, g, d, ti⟩ ⟨rfl, rfl⟩
      refine takenDu rfl (by decide) (by decide) (Same.lst g sc8) d fun H14 r1 b1 b2 d => ?_
      refine ⟨_, rfl, by omega, by omega, ?_⟩
      refine for_it (walk_range (lo := 0) (n := r1.toNat)) (fun _ σ H' => ∃ y2 y4 y6 y10 y11 y12 y13 y14 y15 y16 K' s1 s2 c1 c2, σ = [some (.ref sc), some (.ref row), y2, some (.ref p), y4, some (.ref up), y6, some (.ref nm), some (.ref si), some (.ref si2), y10, y11, y12, y13, y14, y15, y16] ∧ Same K8 K' ∧ DuD K A S A2 S2 K' H' s1 s2 ⟨si, sd2, (i : Nat), m, c1⟩ ⟨si2, sd4, (i : Nat), m2, c2⟩ row sc [] ∧ TI S S2 mm s1 s2 i) ⟨_, _, _, _, _, _, _, _, _, _, K', s1, s2, c1, c2, rfl, g, d, ti⟩ (fun _ _ _ _ _ => trivial) ?_ ?_
      · rintro j v σ H15 H16 hj ⟨y2, y4, y6, y10, y11, y12, y13, y14, y15, y16, K', s1, s2, c1, c2, rfl, g, d, ti⟩ ⟨rfl, rfl⟩
        have hxs' := Same.tup g hxs8
        have ds : Same K' H16 := by
          obtain ⟨_, _, _, _, _, du⟩ := d
          exact du.same
        refine ⟨_, rfl, takenDuL rfl rfl (Same.tup ds hxs') hpos (by omega) (Same.lst g sc8) d fun H17 r2 b3 b4 d => ?_⟩
        obtain ⟨xi, xg, xx, hxi, hxg, du⟩ := d
        have hrl : r2.toNat < xs.length := by omega
        have hv1 : xs[r2.toNat]? = some xs[r2.toNat] := List.getElem?_eq_getElem hrl
        obtain ⟨l, hl, la, lh, lhs, hle, hla, _⟩ := pget hpl8 hv1
        have hrr : atI xs r2 = some (.ref la) := by
          have z := atIn hv1
          rw [show ((r2.toNat : Nat) : Int) = r2 by omega, hle] at z
          exact z
        have hlS : l ∈ S.ls := List.mem_of_getElem? hl
        refine ⟨_, _, _, _, rfl, rfl, Same.tup du.same hxs', hrr, _, _, _, _, rfl, rfl, Same.tup (Same.tr g du.same) hla, rfl, ?_⟩
        obtain ⟨N1, ow1, back1⟩ := du.one
        refine ⟨_, rfl, si, sd2, _, rfl, ow1.fr, rfl, _, rfl, A, S, K', s1, si, sd2, _, N1, l, m, c1, rfl, du.fm1, ow1, hlS, fun H18 x c1' ex ow1' => ?_⟩
        have du' := back1 K' H18 _ ⟨si, sd2, (i : Nat), m, c1'⟩ rfl (Same.refl _) ow1'
        refine ⟨_, rfl, _, rfl, nm, _, rfl, .inl (l_of (du'.same _ _ (g _ _ hnm8))), rfl, flat_strs2 _, ?_⟩
        refine ⟨upL mm l, congrArg V.bl (inV_iff.trans (hU.mem hlS)), ?_⟩
        have hfz := ti.bis.g1
        cases hup : upL mm l with
        | false =>
          refine iteF ?_
          exact iteF ⟨_, _, _, _, _, _, _, _, _, _, K', { s1 with rung := fset s1.rung l.name true }, s2, c1', c2, rfl, g, ⟨xi, xg, xx, hxi, hxg, du'⟩, ⟨bis_ring_low hokS ti.bis hlS hup, ti.g2, ti.l1, ti.l2⟩⟩
        | true =>
          have hlS2 : l ∈ S2.ls := (hU.hu l).mpr ⟨hlS, hup⟩
          obtain ⟨N2, ow2', back2⟩ := du'.swap.one
          refine iteT ⟨_, rfl, si2, sd4, _, rfl, ow2'.fr, rfl, _, rfl, A2, S2, K', s2, si2, sd4, _, N2, l, m2, c2, rfl, du'.fm2, ow2', hlS2, fun H19 x2 c2' ex2 ow2'' => ?_⟩
          have du2 := (back2 K' H19 _ ⟨si2, sd4, (i : Nat), m2, c2'⟩ rfl (Same.refl _) ow2'').swap
          refine ⟨_, rfl, rfl, false, congrArg V.bl (by rw [ex, ex2, (ti.bis.rg l hlS hup).1]; simp), iteF ?_⟩
          exact ⟨_, _, _, _, _, _, _, _, _, _, K', { s1 with rung := fset s1.rung l.name true }, { s2 with rung := fset s2.rung l.name true }, c1', c2', rfl, g, ⟨xi, xg, xx, hxi, hxg, du2⟩, ⟨bis_ring hokS ti.bis hlS hup, ⟨ti.g2.calls, ti.g2.rows⟩, ti.l1, ti.l2⟩⟩
      · rintro σ H15 ⟨y2, y4, y6, y10, y11, y12, y13, y14, y15, y16, K', s1, s2, c1, c2, rfl, g, d, ti⟩
        obtain ⟨xi, xg, xx, hxi, hxg, du⟩ := d
        have tl1 := ti.l1
        have tl2 := ti.l2
        obtain ⟨N1, ow1, back1⟩ := du.one
        refine ⟨_, rfl, si, sd2, _, rfl, ow1.fr, rfl, A, S, K', s1, si, sd2, _, (m, .dK (md S.order c1)) :: N1, rfl, ow1, ti.bis.g1, plS, by omega, fun Ka H16 pe ev evs s1' ga ow1' hpe hev he => ?_⟩
        have he1 : s1' = (tickP S s1).1 := congrArg Prod.fst he
        have he2 : evs = (tickP S s1).2 := congrArg Prod.snd he
        have dua := back1 Ka H16 s1' ⟨si, sd2, (i : Nat) + 1, m, c1⟩ rfl ga ow1'
        have htl := tick_len hokS plS ti.bis.g1
        have hte := tick_ev hokS plS ti.bis.g1
        have hbt := bis_tick2 hokS hokS2 rkS plS hU.hu ti.bis
        rw [← he2] at hte htl hbt
        rw [← he1] at htl hbt
        have hevl := hev.length
        have gA : Same K8 Ka := Same.tr g ga
        refine ⟨_, rfl, ⟨_, l_of (dua.same _ _ hpe)⟩, fun De hDe => ?_⟩
        refine lc_it (walk_list (xs := ev)) (fun q H' => ∃ acc, Duo K A S A2 S2 Ka H' s1' s2 ⟨si, sd2, (i : Nat) + 1, m, c1⟩ ⟨si2, sd4, (i : Nat), m2, c2⟩ [(De, .lst acc), (row, rowO sc xi xg xx)] ∧ Paired (EvAt K Ka) acc ((evs.take q).filter (upE mm)) ∧ acc.length ≤ q) ⟨[], dua.own hDe, .nil, Nat.le_refl _⟩ ?_ ?_ ?_
        · rintro q H' _ ⟨acc, d, _, _⟩
          exact l_of (d.same _ _ hpe)
        · rintro q v H17 H18 hq ⟨acc, d, pr, hle⟩ ⟨rfl, e2⟩
          obtain ⟨e, hee, hE⟩ := pget hev e2
          have hE2 := hE
          obtain ⟨t, rfl, ht⟩ := hE2
          obtain ⟨l, hl, hbf⟩ := hte e (List.mem_of_getElem? hee)
          have hin : inV (.str e.name) (names S2.ls) = upE mm e := by
            rcases hbf with rfl | rfl
            · exact inV_iff.trans (hU.mem hl)
            · exact inV_iff.trans (hU.mem hl)
          refine ⟨rfl, _, rfl, _, _, _, _, rfl, rfl, Same.tup d.same ht, rfl, _, rfl, nm, _, rfl, .inl (l_of (d.same _ _ (gA _ _ hnm8))), rfl, flat_strs2 _, upE mm e, congrArg V.bl hin, ?_⟩
          cases hue : upE mm e with
          | true =>
            have hfs : (evs.take (q + 1)).filter (upE mm) = (evs.take q).filter (upE mm) ++ [e] := by rw [filter_snoc (upE mm) hee, if_pos hue]
            rw [hfs]
            exact iteT ⟨_, rfl, acc, d.at0, sm (m := 12) (by omega) (by decide), _, d.put, Paired.snoc pr hE, by simp; omega⟩
          | false =>
            have hfs : (evs.take (q + 1)).filter (upE mm) = (evs.take q).filter (upE mm) := by rw [filter_snoc (upE mm) hee, if_neg (by simp [hue]), List.append_nil]
            rw [hfs]
            exact iteF ⟨acc, d, pr, by omega⟩
        rintro H17 ⟨acc, dub, pr, hle⟩
        rw [List.take_of_length_le (by omega)] at pr
        have hfr := dub.freeze
        have hDe1 : upd Ka De (.lst acc) De = some (.lst acc) := upd_same
        revert hfr hDe1
        generalize upd Ka De (.lst acc) = Kb
        rintro ⟨duc, gb⟩ hDe1
        obtain ⟨N2, ow2', back2⟩ := duc.swap.one
        refine ⟨_, rfl, si2, sd4, _, rfl, ow2'.fr, rfl, A2, S2, Kb, s2, si2, sd4, _, (m2, .dK (md S2.order c2)) :: N2, rfl, ow2', ti.g2, plS2, by omega, fun Kc H18 pe2 ev2 evs2 s2' gc ow2'' hpe2 hev2 hee2 => ?_⟩
        have hf1 : s2' = (tickP S2 s2).1 := congrArg Prod.fst hee2
        have hf2 : evs2 = (tickP S2 s2).2 := congrArg Prod.snd hee2
        have dud := (back2 Kc H18 s2' ⟨si2, sd4, (i : Nat) + 1, m2, c2⟩ rfl gc ow2'').swap
        have htl2 := tick_len hokS2 plS2 ti.g2
        rw [← hf1, ← hf2] at hbt
        rw [← hf1, ← hf2] at htl2
        have ga' : Same Ka Kc := Same.tr gb gc
        rw [← hbt.2] at pr
        refine ⟨_, rfl, pe2, De, ev2, acc, evs2, rfl, dud.same _ _ hpe2, dud.same _ _ (gc _ _ hDe1), hev2.mono fun _ _ z => EvAt.up dud.same z, pr.mono fun _ _ z => EvAt.up (Same.tr ga' dud.same) z, by omega, fun H19 g19 => ?_⟩
        have due := dud.grow g19
        refine ⟨true, rfl, iteF ?_⟩
        have g2' : GoodP S2 s2' := by
          rw [hf1]
          unfold tickP
          exact (spendP_good plS2 (takeP_good plS2 ti.g2 fun l m => ((mem_readyL hokS2).mp m).1).1).1
        have hst := hbt.1.st
        obtain ⟨N3, ow3, back3⟩ := due.one
        refine ⟨_, rfl, si, sd2, _, rfl, ow3.fr, A, S, Kc, s1', si, sd2, _, (m, .dK (md S.order c1)) :: N3, rfl, ow3, by omega, fun Kd H20 pc cv gd ow3' hpc hcv => ?_⟩
        have duf := back3 Kd H20 s1' ⟨si, sd2, (i : Nat) + 1, m, c1⟩ rfl gd ow3'
        have hcl := hcv.length
        have gD : Same K8 Kd := Same.tr gA (Same.tr ga' gd)
        refine ⟨_, rfl, ⟨_, l_of (duf.same _ _ hpc)⟩, fun Dc hDc => ?_⟩
        refine lc_it (walk_list (xs := cv)) (fun q H' => ∃ acc, Duo K A S A2 S2 Kd H' s1' s2' ⟨si, sd2, (i : Nat) + 1, m, c1⟩ ⟨si2, sd4, (i : Nat) + 1, m2, c2⟩ [(Dc, .lst acc), (row, rowO sc xi xg xx)] ∧ Paired (C3At K Kd) acc ((s1'.stack.take q).filter (upC mm)) ∧ acc.length ≤ q) ⟨[], duf.own hDc, .nil, Nat.le_refl _⟩ ?_ ?_ ?_
        · rintro q H' _ ⟨acc, d, _, _⟩
          exact l_of (d.same _ _ hpc)
        · rintro q v H21 H22 hq ⟨acc, d, pr, hle⟩ ⟨rfl, e2⟩
          obtain ⟨c, hcc, hC⟩ := pget hcv e2
          have hC2 := hC
          obtain ⟨t, rfl, ht⟩ := hC2
          have hco := hbt.1.g1.calls c (List.mem_of_getElem? hcc)
          refine ⟨rfl, _, rfl, _, _, _, _, rfl, rfl, Same.tup d.same ht, rfl, _, rfl, nm, _, rfl, .inl (l_of (d.same _ _ (gD _ _ hnm8))), rfl, flat_strs2 _, upC mm c, congrArg V.bl (inV_iff.trans (hU.mem hco.ln)), ?_⟩
          cases hue : upC mm c with
          | true =>
            have hfs : (s1'.stack.take (q + 1)).filter (upC mm) = (s1'.stack.take q).filter (upC mm) ++ [c] := by rw [filter_snoc (upC mm) hcc, if_pos hue]
            rw [hfs]
            exact iteT ⟨_, rfl, acc, d.at0, sm (m := 60) (by omega) (by decide), _, d.put, Paired.snoc pr hC, by simp; omega⟩
          | false =>
            have hfs : (s1'.stack.take (q + 1)).filter (upC mm) = (s1'.stack.take q).filter (upC mm) := by rw [filter_snoc (upC mm) hcc, if_neg (by simp [hue]), List.append_nil]
            rw [hfs]
            exact iteF ⟨acc, d, pr, by omega⟩
        rintro H21 ⟨acc2, dug, pr2, hle2⟩
        rw [List.take_of_length_le (by omega), ← hst] at pr2
        have hfr2 := dug.freeze
        have hDc1 : upd Kd Dc (.lst acc2) Dc = some (.lst acc2) := upd_same
        revert hfr2 hDc1
        generalize upd Kd Dc (.lst acc2) = Ke
        rintro ⟨duh, gE⟩ hDc1
        obtain ⟨N4, ow4, back4⟩ := duh.swap.one
        refine ⟨_, rfl, si2, sd4, _, rfl, ow4.fr, A2, S2, Ke, s2', si2, sd4, _, (m2, .dK (md S2.order c2)) :: N4, rfl, ow4, by omega, fun Kf H23 pc2 cv2 gf ow4' hpc2 hcv2 => ?_⟩
        have dui := (back4 Kf H23 s2' ⟨si2, sd4, (i : Nat) + 1, m2, c2⟩ rfl gf ow4').swap
        have hnm2 : ∀ c ∈ s2'.stack, nameOk c.line.name := fun c mc => (hokS2.ok.ok _ (g2'.calls c mc).ln).nm
        refine ⟨.list (s2'.stack.map cdD), .list (s2'.stack.map cdD), .lst (l_of (dui.same _ _ (gf _ _ hDc1))) (cds_dp (pr2.mono fun _ _ z => C3At.up (Same.tr gE (Same.tr gf dui.same)) z)), .lst (l_of (dui.same _ _ hpc2)) (cds_dp (hcv2.mono fun _ _ z => C3At.up dui.same z)), cds_sh hnm2, cds_sh hnm2, false, congrArg V.bl (by rw [cds_eq]; rfl), iteF ?_⟩
        exact ⟨_, _, _, _, _, _, _, _, _, _, Kf, s1', s2', c1, c2, rfl, Same.tr gD (Same.tr gE gf), ⟨xi, xg, xx, hxi, hxg, dui⟩, ⟨hbt.1, g2', by omega, by omega⟩⟩
    · rintro σ H12 ⟨y2, y4, y6, y10, y11, y12, y13, y14, y15, y16, K', s1, s2, c1, c2, rfl, g, d, ti⟩
      obtain ⟨xi, xg, xx, hxi, hxg, du⟩ := d
      obtain ⟨sv1, rv1, sv2, rv2, _, _, _, _, spz⟩ := du.ex
      exact ⟨_, _, _, _, _, _, _, _, _, _, _, _, _, _, _, K', rfl, Same.tr g1 (Same.tr g2 (Same.tr g28 g)), xi, xg, xx, hxi, hxg, Sep.weak (L := [_]) (spz.perm duoL.symm)⟩
end
end Cb

namespace Cb
open PySem PySem.Spec PyProof.Rows L2
theorem facts {P : Program} {w : World} {K : PySem.W.Frag} {h : Heap} {mg : Str → Option Value} {f : Addr} (X : K.In h) (G : h.Ns mainGlobals mg) (hfa : mg ("law" : Str) = some (.ref f)) (c : SaysM exM fn tsM w K) :
    ∃ fd : FuncData, (∀ (s : Shared) (v : Value), BindsTo s fd ⟨[v], []⟩ [("_law_script", v)]) ∧ ∀ base : Heap, K.In base → base.Ns mainGlobals mg → FnOk P w K mg base C8.CX0 10 f fd ["_law_script"] (sp_law K) := by
  have T := txt_of X G c.exok
  obtain ⟨es, nn, D⟩ := c.tab 0
  obtain ⟨_, F_is_integer⟩ := c.def_ 0 (d := D_is_integer) rfl
  obtain ⟨_, F_is_letters⟩ := c.def_ 1 (d := D_is_letters) rfl
  obtain ⟨_, F_is_name⟩ := c.def_ 2 (d := D_is_name) rfl
  obtain ⟨_, F_is_line⟩ := c.def_ 3 (d := D_is_line) rfl
  obtain ⟨_, F_is_work⟩ := c.def_ 4 (d := D_is_work) rfl
  obtain ⟨_, F_is_step⟩ := c.def_ 5 (d := D_is_step) rfl
  obtain ⟨_, F_spoilt_named⟩ := c.def_ 6 (d := D_spoilt_named) rfl
  obtain ⟨_, F_spoilt_line⟩ := c.def_ 7 (d := D_spoilt_line) rfl
  obtain ⟨_, F_spoilt_work⟩ := c.def_ 8 (d := D_spoilt_work) rfl
  obtain ⟨_, F_spoilt_handler⟩ := c.def_ 9 (d := D_spoilt_handler) rfl
  obtain ⟨_, F_check_setup⟩ := c.def_ 15 (d := D_check_setup) rfl
  obtain ⟨_, F_Setup_contains⟩ := c.def_ 11 (d := D_Setup_contains) rfl
  obtain ⟨_, F_Setup_init⟩ := c.def_ 10 (d := D_Setup_init) rfl
  obtain ⟨_, F_Setup_getitem⟩ := c.def_ 12 (d := D_Setup_getitem) rfl
  obtain ⟨_, F_Setup_order⟩ := c.def_ 14 (d := D_Setup_order) rfl
  obtain ⟨_, F_put_changed⟩ := c.def_ 16 (d := D_put_changed) rfl
  obtain ⟨_, F_Board_check_line⟩ := c.def_ 18 (d := D_Board_check_line) rfl
  obtain ⟨_, F_Board_is_edge⟩ := c.def_ 19 (d := D_Board_is_edge) rfl
  obtain ⟨_, F_Board_ring⟩ := c.def_ 20 (d := D_Board_ring) rfl
  obtain ⟨_, F_Board_begin⟩ := c.def_ 21 (d := D_Board_begin) rfl
  obtain ⟨_, F_Board_end⟩ := c.def_ 22 (d := D_Board_end) rfl
  obtain ⟨_, F_Board_waits⟩ := c.def_ 24 (d := D_Board_waits) rfl
  obtain ⟨_, F_Board_is_enabled⟩ := c.def_ 23 (d := D_Board_is_enabled) rfl
  obtain ⟨_, F_Board_waiting_lines⟩ := c.def_ 25 (d := D_Board_waiting_lines) rfl
  obtain ⟨_, F_Board_init⟩ := c.def_ 17 (d := D_Board_init) rfl
  obtain ⟨_, F_Board_ready_lines⟩ := c.def_ 26 (d := D_Board_ready_lines) rfl
  obtain ⟨_, F_WorkQueue_rows⟩ := c.def_ 28 (d := D_WorkQueue_rows) rfl
  obtain ⟨_, F_WorkQueue_is_empty⟩ := c.def_ 29 (d := D_WorkQueue_is_empty) rfl
  obtain ⟨_, F_WorkQueue_init⟩ := c.def_ 27 (d := D_WorkQueue_init) rfl
  obtain ⟨_, F_WorkQueue_put⟩ := c.def_ 30 (d := D_WorkQueue_put) rfl
  obtain ⟨_, F_WorkQueue_spend⟩ := c.def_ 31 (d := D_WorkQueue_spend) rfl
  obtain ⟨_, F_Setup_works⟩ := c.def_ 13 (d := D_Setup_works) rfl
  obtain ⟨_, F_Processor_takes_no_tick⟩ := c.def_ 40 (d := D_Processor_takes_no_tick) rfl
  obtain ⟨_, F_Processor_present_step⟩ := c.def_ 38 (d := D_Processor_present_step) rfl
  obtain ⟨_, F_Processor_passes_flag⟩ := c.def_ 39 (d := D_Processor_passes_flag) rfl
  obtain ⟨_, F_Processor_act⟩ := c.def_ 41 (d := D_Processor_act) rfl
  obtain ⟨_, F_Processor_lets_by⟩ := c.def_ 37 (d := D_Processor_lets_by) rfl
  obtain ⟨_, F_Processor_go_through⟩ := c.def_ 42 (d := D_Processor_go_through) rfl
  obtain ⟨_, F_Processor_spend_beside_calls⟩ := c.def_ 44 (d := D_Processor_spend_beside_calls) rfl
  obtain ⟨_, F_Processor_spend⟩ := c.def_ 43 (d := D_Processor_spend) rfl
  obtain ⟨_, F_Processor_go_on⟩ := c.def_ 34 (d := D_Processor_go_on) rfl
  obtain ⟨_, F_Processor_take⟩ := c.def_ 33 (d := D_Processor_take) rfl
  obtain ⟨_, F_Processor_spent_ticks⟩ := c.def_ 36 (d := D_Processor_spent_ticks) rfl
  obtain ⟨_, F_Processor_call_rows⟩ := c.def_ 35 (d := D_Processor_call_rows) rfl
  obtain ⟨_, F_Processor_init⟩ := c.def_ 32 (d := D_Processor_init) rfl
  obtain ⟨_, F_Single_ring⟩ := c.def_ 46 (d := D_Single_ring) rfl
  obtain ⟨_, F_Single_calls⟩ := c.def_ 48 (d := D_Single_calls) rfl
  obtain ⟨_, F_Single_spent⟩ := c.def_ 49 (d := D_Single_spent) rfl
  obtain ⟨_, F_Single_tick⟩ := c.def_ 47 (d := D_Single_tick) rfl
  obtain ⟨_, F_Single_init⟩ := c.def_ 45 (d := D_Single_init) rfl
  obtain ⟨_, F_law_taken⟩ := c.def_ 50 (d := D_law_taken) rfl
  obtain ⟨_, F_law_mixed⟩ := c.def_ 52 (d := D_law_mixed) rfl
  obtain ⟨_, F_law_plain⟩ := c.def_ 53 (d := D_law_plain) rfl
  obtain ⟨_, F_law_alike⟩ := c.def_ 51 (d := D_law_alike) rfl
  obtain ⟨_, F_law⟩ := c.def_ 54 (d := D_law) rfl
  have e := hfa.symm.trans T.f_law
  cases e
  have b := FunD.bindsA (ps := ["_law_script"]) F_law fun _ _ _ _ _ _ us hl => match us, hl with | [_], _ => rfl
  refine ⟨_, fun s v => b s [v] rfl, fun base _ _ => ?_⟩
  have c_is_integer := ok_is_integer (P := P) (w := w) (base := base) T F_is_integer 
  have c_is_letters := ok_is_letters (P := P) (w := w) (base := base) T F_is_letters 
  have c_is_name := ok_is_name (P := P) (w := w) (base := base) T F_is_name c_is_letters
  have c_is_line := ok_is_line (P := P) (w := w) (base := base) T F_is_line c_is_integer c_is_name
  have c_is_work := ok_is_work (P := P) (w := w) (base := base) T F_is_work c_is_integer c_is_name
  have c_is_step := ok_is_step (P := P) (w := w) (base := base) T F_is_step c_is_integer D
  have c_spoilt_named := ok_spoilt_named (P := P) (w := w) (base := base) T F_spoilt_named 
  have c_spoilt_line := ok_spoilt_line (P := P) (w := w) (base := base) T F_spoilt_line c_is_line c_spoilt_named
  have c_spoilt_work := ok_spoilt_work (P := P) (w := w) (base := base) T F_spoilt_work c_is_work c_spoilt_named
  have c_spoilt_handler := ok_spoilt_handler (P := P) (w := w) (base := base) T F_spoilt_handler c_is_step
  have c_check_setup := ok_check_setup (P := P) (w := w) (base := base) T F_check_setup c_spoilt_line c_spoilt_work c_spoilt_handler
  have c_Setup_contains := ok_Setup_contains (P := P) (w := w) (base := base) T F_Setup_contains 
  have c_Setup_init := ok_Setup_init (P := P) (w := w) (base := base) T F_Setup_init c_check_setup
  have c_Setup_init1 := ok_Setup_init1 (P := P) (w := w) (base := base) T F_Setup_init c_check_setup
  have c_Setup_getitem := ok_Setup_getitem (P := P) (w := w) (base := base) T F_Setup_getitem c_Setup_contains
  have c_Setup_order := ok_Setup_order (P := P) (w := w) (base := base) T F_Setup_order 
  have c_put_changed := ok_put_changed (P := P) (w := w) (base := base) T F_put_changed 
  have c_Board_check_line := ok_Board_check_line (P := P) (w := w) (base := base) T F_Board_check_line c_Setup_contains
  have c_Board_is_edge := ok_Board_is_edge (P := P) (w := w) (base := base) T F_Board_is_edge c_Setup_getitem
  have c_Board_ring := ok_Board_ring (P := P) (w := w) (base := base) T F_Board_ring c_Board_check_line c_put_changed
  have c_Board_begin := ok_Board_begin (P := P) (w := w) (base := base) T F_Board_begin c_Board_is_edge
  have c_Board_end := ok_Board_end (P := P) (w := w) (base := base) T F_Board_end 
  have c_Board_waits := ok_Board_waits (P := P) (w := w) (base := base) T F_Board_waits c_Board_is_edge
  have c_Board_is_enabled := ok_Board_is_enabled (P := P) (w := w) (base := base) T F_Board_is_enabled 
  have c_Board_waiting_lines := ok_Board_waiting_lines (P := P) (w := w) (base := base) T F_Board_waiting_lines c_Setup_order c_Board_waits
  have c_Board_init := ok_Board_init (P := P) (w := w) (base := base) T F_Board_init c_Setup_order
  have c_Board_ready_lines := ok_Board_ready_lines (P := P) (w := w) (base := base) T F_Board_ready_lines c_Board_waiting_lines c_Board_is_enabled
  have c_WorkQueue_rows := ok_WorkQueue_rows (P := P) (w := w) (base := base) T F_WorkQueue_rows 
  have c_WorkQueue_is_empty := ok_WorkQueue_is_empty (P := P) (w := w) (base := base) T F_WorkQueue_is_empty 
  have c_WorkQueue_init := ok_WorkQueue_init (P := P) (w := w) (base := base) T F_WorkQueue_init 
  have c_WorkQueue_put := ok_WorkQueue_put (P := P) (w := w) (base := base) T F_WorkQueue_put 
  have c_WorkQueue_put1 := ok_WorkQueue_put1 (P := P) (w := w) (base := base) T F_WorkQueue_put 
  have c_WorkQueue_spend := ok_WorkQueue_spend (P := P) (w := w) (base := base) T F_WorkQueue_spend 
  have c_Setup_works := ok_Setup_works (P := P) (w := w) (base := base) T F_Setup_works 
  have c_Processor_takes_no_tick := ok_Processor_takes_no_tick (P := P) (w := w) (base := base) T F_Processor_takes_no_tick 
  have c_Processor_present_step := ok_Processor_present_step (P := P) (w := w) (base := base) T F_Processor_present_step c_Setup_getitem
  have c_Processor_passes_flag := ok_Processor_passes_flag (P := P) (w := w) (base := base) T F_Processor_passes_flag c_Processor_present_step
  have c_Processor_act := ok_Processor_act (P := P) (w := w) (base := base) T F_Processor_act c_WorkQueue_put1
  have c_Processor_lets_by := ok_Processor_lets_by (P := P) (w := w) (base := base) T F_Processor_lets_by c_Setup_getitem
  have c_Processor_go_through := ok_Processor_go_through (P := P) (w := w) (base := base) T F_Processor_go_through c_Setup_getitem c_Processor_takes_no_tick c_Processor_act c_Board_end
  have c_Processor_spend_beside_calls := ok_Processor_spend_beside_calls (P := P) (w := w) (base := base) T F_Processor_spend_beside_calls c_WorkQueue_is_empty c_WorkQueue_spend
  have c_Processor_spend := ok_Processor_spend (P := P) (w := w) (base := base) T F_Processor_spend c_Processor_spend_beside_calls c_Processor_present_step c_Processor_go_through
  have c_Processor_go_on := ok_Processor_go_on (P := P) (w := w) (base := base) T F_Processor_go_on c_Processor_passes_flag c_Processor_spend
  have c_Processor_take := ok_Processor_take (P := P) (w := w) (base := base) T F_Processor_take c_Processor_lets_by c_Board_begin c_Processor_go_through
  have c_Processor_spent_ticks := ok_Processor_spent_ticks (P := P) (w := w) (base := base) T F_Processor_spent_ticks 
  have c_Processor_call_rows := ok_Processor_call_rows (P := P) (w := w) (base := base) T F_Processor_call_rows 
  have c_Processor_init := ok_Processor_init (P := P) (w := w) (base := base) T F_Processor_init c_Setup_works c_WorkQueue_init
  have c_Single_ring := ok_Single_ring (P := P) (w := w) (base := base) T F_Single_ring c_Board_ring
  have c_Single_calls := ok_Single_calls (P := P) (w := w) (base := base) T F_Single_calls c_Processor_call_rows
  have c_Single_spent := ok_Single_spent (P := P) (w := w) (base := base) T F_Single_spent c_Processor_spent_ticks
  have c_Single_tick := ok_Single_tick (P := P) (w := w) (base := base) T F_Single_tick c_Processor_take c_Board_ready_lines c_Processor_go_on
  have c_Single_init := ok_Single_init (P := P) (w := w) (base := base) T F_Single_init c_Board_init c_Processor_init
  have c_law_taken := ok_law_taken (P := P) (w := w) (base := base) T F_law_taken 
  have cP_Processor_lets_by := okP_Processor_lets_by (P := P) (w := w) (base := base) T F_Processor_lets_by c_Setup_getitem
  have cP_Processor_go_through := okP_Processor_go_through (P := P) (w := w) (base := base) T F_Processor_go_through c_Setup_getitem c_Processor_takes_no_tick c_Processor_act c_Board_end
  have cP_Processor_spend_beside_calls := okP_Processor_spend_beside_calls (P := P) (w := w) (base := base) T F_Processor_spend_beside_calls c_WorkQueue_is_empty c_WorkQueue_spend
  have cP_Processor_spend := okP_Processor_spend (P := P) (w := w) (base := base) T F_Processor_spend cP_Processor_spend_beside_calls c_Processor_present_step cP_Processor_go_through
  have cP_Processor_go_on := okP_Processor_go_on (P := P) (w := w) (base := base) T F_Processor_go_on c_Processor_passes_flag cP_Processor_spend
  have cP_Processor_take := okP_Processor_take (P := P) (w := w) (base := base) T F_Processor_take cP_Processor_lets_by c_Board_begin cP_Processor_go_through
  have cP_Single_tick := okP_Single_tick (P := P) (w := w) (base := base) T F_Single_tick cP_Processor_take c_Board_ready_lines cP_Processor_go_on
  have c_law_mixed := ok_law_mixed (P := P) (w := w) (base := base) T F_law_mixed c_law_taken
  have c_law_plain := ok_law_plain (P := P) (w := w) (base := base) T F_law_plain c_law_taken c_law_mixed
  have c_al0 := ok_al0 (P := P) (w := w) (base := base) T F_law_alike 
  have c_alS := ok_alS (P := P) (w := w) (base := base) T F_law_alike c_al0
  have c_alP := ok_alP (P := P) (w := w) (base := base) T F_law_alike c_alS
  have c_alL := ok_alL (P := P) (w := w) (base := base) T F_law_alike c_alP
  exact ok_law T F_law c_law_taken c_law_plain c_Setup_init1 c_Single_init c_Single_ring cP_Single_tick c_Single_calls c_alL
end Cb
open PySem PySem.W PySem.Calls PyProof.Rows
theorem PySem.Challenge.cw_callbells_k19_whole_lower_ranks_do_not_m_holds : PySem.Challenge.rw_callbells_k19_whole_lower_ranks_do_not_m.Holds := by
  w_on; o_law
  refine HandSHeadRun.head_any (r := OpenLaw.row PySem.Challenge.rw_callbells_k19_whole_lower_ranks_do_not_m) (q := view (OpenLaw.row PySem.Challenge.rw_callbells_k19_whole_lower_ranks_do_not_m).prog [49]) (H := Cb.hk) (ob := Cb.ob) (M := 30000) (loose := Cb.nms) (d := HandSHeadRun.topDef (OpenLaw.row PySem.Challenge.rw_callbells_k19_whole_lower_ranks_do_not_m).prog 49) (kwd := []) Cb.ob_eq
    (by kernel_rfl) (fun s => by kernel_rfl) Cb.run (by kernel_rfl) (by kernel_rfl) (by kernel_rfl) (by rfl) (by first | assumption | decide +kernel) (by decide +kernel) ⟨rfl, rfl, rfl, rfl, rfl, by decide +kernel⟩ ?hw ?hc
  case hw => w_witness2
  case hc =>
    refine L2.walk_ofE (l := PySem.Challenge.rw_callbells_k19_whole_lower_ranks_do_not_m) (n := 63) (k := 10) (x := "_law_script") (CX := C8.CX0) rfl (by decide) (by kernel_rfl) ⟨rfl, by decide, by decide⟩ ?F (fun _ _ _ _ z => z)
    intro w mg fa h Y G hmg0
    obtain ⟨K, KX, c⟩ := Y
    have hmg : mg ("law" : PySem.Str) = some (.ref fa) := by
      have e : (HandSHeadRun.topDef (OpenLaw.row PySem.Challenge.rw_callbells_k19_whole_lower_ranks_do_not_m).prog 49).name = ("law" : PySem.Str) := by kernel_rfl
      rw [← e]
      exact hmg0
    obtain ⟨fd, hb, hF⟩ := Cb.facts (P := (PySem.Challenge.rw_callbells_k19_whole_lower_ranks_do_not_m).prog) (w := w) KX G hmg c
    exact ⟨K, fd, Cb.sp_law K, KX, hb, fun H a ns hl _ hS => ⟨a, ns, rfl, hS, fun _ => rfl⟩, hF⟩

