import PyProof.Rows.All
import Wide.All
import OpenK.AllK
import Wide.FinOn
import PySem.Challenge.RW_callbells_k71_least_spread
import KE.KStateDown
import KE.GoesEnum
import HandS.ForExc
import HandS.ForMost
import HandS.Defaults
import HandS.More
import HandS.Star
import HandS.IsInst
import HandS.DictComp
import HandS.Property
import HandS.ClsMeth
import HandS.Walk
import HandS.Sort
import HandS.SortOrd
import HandS.SortRule
import KE.GoesZip
import KE.GoesMore
import HandS.Zip
import KE.SortData
import PyProof.P3Eq
import HandS.Flow
import HandS.Codes
import HandS.Head0
import HandS.Head1
import HandS.Head2
import HandS.HeadEnd
import HandS.HeadHook1
import HandS.HeadHook2
import HandS.HeadHook3
import HandS.HeadNt
import HandS.StrMore
import HandS.Conv
import HandS.TupAny
import HandS.Style
set_option Elab.async false
set_option linter.all false
set_option maxRecDepth 100000
set_option maxHeartbeats 0
/-! own rules: in and [] by an own class, enumerate over a tuple, an item for an augmented store -/
namespace Cb
open PySem PySem.Spec PyProof.Rows L2
section
variable {X : Cx} {CX : CXT} {k : Nat} {C f : Addr} {fd : FuncData} {ps : List Str} {sp : Sp} {E : XK}

/-- the promise of a method at an object, called by an operator -/
def rOwnB (C : Addr) (sp : Sp) (E : XK) (g : Bool → Bool) : R2 := fun x y H Q =>
  ∃ a dx fs, y = .ref a ∧ H a = some (.ins C dx fs) ∧ sp [.ref a, x] H (fun v H' => ∃ b, v = .bl b ∧ Q (.bl (g b)) H') E
def rOwnI (C : Addr) (sp : Sp) (E : XK) : R2 := fun x y H Q => ∃ a dx fs, x = .ref a ∧ H a = some (.ins C dx fs) ∧ sp [.ref a, y] H Q E

theorem op_inOwn (F : FnOk X.prog X.w X.K X.mg X.base CX k f fd ps sp) (hr : Room k X.A) (hb : Binds X.K fd ps []) (hx : Passes CX X E)
    (hs : PySem.W.findIn X.K (.ref C) "__contains__" = some (some (.ref f))) (hf : PySem.W.isFn X.K (.ref f) = true) : OpR X (compareOp .In) (rOwnB C sp E id) := by
  intro pins s σ H x y v u Q I rx ry h
  obtain ⟨a, dx, fs, rfl, ha, hq⟩ := h
  cases ry
  obtain ⟨_, J0, _⟩ := ins_get I.hok ha
  obtain ⟨_, J, _⟩ := J0.look
  obtain ⟨m, hF⟩ := I.fr
  refine PySem.W.in_K hF I.ok.mod.kin J hs hf ?_
  refine thn (run_fn (us := [.ref a, v]) (vs := [.ref a, x]) F hr hb (.nil : Vals [] []) hx I (.cons rfl (.cons rx .nil)) hq) fun w s1 z => ?_
  obtain ⟨r, H1, I1, rw1, b, rfl, q⟩ := z
  cases rw1
  exact wpAny_truthy_bool ⟨.bl b, H1, I1, rfl, q⟩
theorem op_ninOwn (F : FnOk X.prog X.w X.K X.mg X.base CX k f fd ps sp) (hr : Room k X.A) (hb : Binds X.K fd ps []) (hx : Passes CX X E)
    (hs : PySem.W.findIn X.K (.ref C) "__contains__" = some (some (.ref f))) (hf : PySem.W.isFn X.K (.ref f) = true) : OpR X (compareOp .NotIn) (rOwnB C sp E not) := by
  intro pins s σ H x y v u Q I rx ry h
  obtain ⟨a, dx, fs, rfl, ha, hq⟩ := h
  cases ry
  obtain ⟨_, J0, _⟩ := ins_get I.hok ha
  obtain ⟨_, J, _⟩ := J0.look
  obtain ⟨m, hF⟩ := I.fr
  refine PySem.W.notIn_K hF I.ok.mod.kin J hs hf ?_
  refine thn (run_fn (us := [.ref a, v]) (vs := [.ref a, x]) F hr hb (.nil : Vals [] []) hx I (.cons rfl (.cons rx .nil)) hq) fun w s1 z => ?_
  obtain ⟨r, H1, I1, rw1, b, rfl, q⟩ := z
  cases rw1
  exact wpAny_truthy_bool ⟨.bl (!b), H1, I1, rfl, q⟩
theorem get_own (F : FnOk X.prog X.w X.K X.mg X.base CX k f fd ps sp) (hr : Room k X.A) (hb : Binds X.K fd ps []) (hx : Passes CX X E) (hq0 : PySem.W.noSeq X.K C = true)
    (hs : PySem.W.findIn X.K (.ref C) "__getitem__" = some (some (.ref f))) (hf : PySem.W.isFn X.K (.ref f) = true) : PGet X (rOwnI C sp E) := by
  intro pins s σ H x y v u Q I rx ry h
  obtain ⟨a, dx, fs, rfl, ha, hq⟩ := h
  cases rx
  obtain ⟨_, J0, _⟩ := ins_get I.hok ha
  obtain ⟨_, J, _⟩ := J0.look
  obtain ⟨m, hF⟩ := I.fr
  refine PySem.W.getItem_K hF I.ok.mod.kin J hq0 hs hf ?_
  exact run_fn (us := [.ref a, u]) (vs := [.ref a, y]) F hr hb (.nil : Vals [] []) hx I (.cons rfl (.cons ry .nil)) hq

theorem pe_ixOwn {a b : Expr} {ta tb : TE} {pos : Pos} (F : FnOk X.prog X.w X.K X.mg X.base CX k f fd ps sp) (hr : Room (k + 1) X.A) (hb : Binds X.K fd ps []) (hx : Passes CX X E)
    (hs : PySem.W.findIn X.K (.ref C) "__getitem__" = some (some (.ref f))) (hf : PySem.W.isFn X.K (.ref f) = true) (hfn : PySem.W.fnIn X.K f = true) (ha : PE X a ta) (hi : PE X b tb)
    (hsl : ∀ o i, subscripted b true o i = runValue (.builtin "lifetime.subscript" ⟨[o, i], []⟩) := by intro _ _; rfl) : PE X (.Subscript a b pos) (tOp (rOwnI C sp E) ta tb) := by
  refine ⟨fun pins s0 σ H0 Q I0 h => ?_⟩
  refine Subscript_ (binT ha hi I0 h fun v u s x y H I rx ry hq1 => ?_)
  obtain ⟨a, dx, fs, rfl, hA, hq⟩ := hq1
  cases rx
  obtain ⟨_, J0, _⟩ := ins_get I.hok hA
  obtain ⟨_, J, _⟩ := J0.look
  obtain ⟨m, hF⟩ := I.fr
  refine PySem.W.sub_K hF I.ok.mod.kin J hs hfn hf ?_ (hsl _ _)
  have r2 : Vals [V.ref a, y] [Value.ref a, u] := .cons rfl (.cons ry .nil)
  have hl : ([Value.ref a, u] : List Value).length = ps.length := F.len _ _ _ _ hq
  have bt := hb s [Value.ref a, u] I.kIn (by simpa using hl)
  rw [List.append_nil] at bt
  refine wpAny_call (codeAny_mono (F.run X.A.in1 X.stack s H ⟨[.ref a, u], []⟩ _ _ Q E hr.in1 I.env0.in1 bt r2 hq) fun r s' z => ?_)
  cases r with
  | error e => exact hx pins σ H s e s' I z
  | ok fl => cases fl with
    | ret w => exact I.after z
    | _ => exact False.elim z
end
end Cb

namespace Cb
open PySem PySem.Spec PyProof.Rows L2
open Sem (wp)
/-! enumerate over a tuple -/
abbrev itO (t : Addr) : Obj := { cls := .type "tuple_iterator", data := .fields #[.ref t, .int 0 0] }
abbrev enO (i : Addr) : Obj := { cls := .type "enumerate", data := .fields #[.none, .bool false, .ref i, rawInt 0, .none, .none] }
theorem newT (t : Addr) (its : Array Value) :
    Meets (Builtin.«enumerate.__new__» ⟨[.type "enumerate", .ref t], []⟩) (fun _ R s => s.heap.IsTuple t its ∧ R (.ok (.ret (.ref (s.heap.push (itO t)).objs.size)))
        { s with heap := (s.heap.push (itO t)).push (enO s.heap.objs.size) }) := by
  refine .of_wp fun prog w A R s h => ?_
  obtain ⟨hp, g, d, tk, os⟩ := s
  obtain ⟨h1, h⟩ := h
  have sub0 := sub_enumerate
  have q1 : ∀ {A' : Around} {E : Value → Shared → Prop} {Q : Value → Shared → Prop}, Q (.ref hp.objs.size) ⟨hp.push (itO t), g, d, tk, os⟩ → wpAny (model prog w) A' (pyIter (.ref t)) Q E ⟨hp, g, d, tk, os⟩ :=
    fun q => (begins_tuple t its).iter prog w _ _ ⟨hp, g, d, tk, os⟩ _ h1 q
  wp_walk using q1
  refine wpAny_stack_any fun st => wpAny_pure ?_
  split
  · rename_i c _ _ _ _ _
    cases (c == Value.type "enumerate") <;> (wp_walk using q1; exact ⟨_, rfl, h⟩)
  · wp_walk using q1
    exact ⟨_, rfl, h⟩
section
variable {prog : Program} {w : World} {A : Around} {E : Value → Shared → Prop} {s : Shared}
theorem call_enumT {t : Addr} {its : Array Value} {Q : Value → Shared → Prop} (hL : s.heap.IsTuple t its)
    (h : ∀ h', IsEnum h' (s.heap.objs.size + 1) s.heap.objs.size 0 .none → h'.IsTupleIter s.heap.objs.size t 0 → h'.objs.size = s.heap.objs.size + 2 →
      (∀ b o, s.heap.get? b = some o → h'.get? b = some o) → Q (.ref (s.heap.objs.size + 1)) { s with heap := h' }) :
    wpAny (model prog w) A (call (.type "enumerate") [.ref t]) Q E s := by
  refine callType_new F.called_enumerate (by decide) (F.typeCall_enumerate_1 _) (F.newCall_enumerate_1 _) (fun obj => F.args_object_init_2 obj _) F.entry_enumerate_new (newT t its) ⟨hL, ?_⟩
  have hz : (s.heap.push (itO t)).objs.size = s.heap.objs.size + 1 := Heap.size_push ..
  show _ ∧ _
  rw [hz]
  have he : IsEnum ((s.heap.push (itO t)).push (enO s.heap.objs.size)) (s.heap.objs.size + 1) s.heap.objs.size 0 .none := by
    have z := Heap.get?_push_size (s.heap.push (itO t)) (o := enO s.heap.objs.size) rfl
    rw [hz] at z
    exact z
  exact ⟨⟨_, he, rfl⟩, h _ he ⟨_, Heap.get?_push_of_some _ (Heap.get?_push_size _ rfl), rfl, rfl⟩ (by rw [Heap.size_push, hz]) fun b o x => Heap.get?_push_of_some _ (Heap.get?_push_of_some _ x)⟩
end
/-- the tuple at a, each item in a new pair -/
def Iet (K : PySem.W.Frag) (a : Addr) : It :=
  ⟨fun i H => ∃ (xs : List V) (x : V), SqT K H a xs ∧ xs[i]? = some x,
   fun i H v H' => ∃ T x, v = .ref T ∧ H T = none ∧ H' = upd H T (.tup [.int (i : Nat), x]) ∧ ∀ xs, SqT K H a xs → xs[i]? = some x,
   fun i H => ∃ xs : List V, SqT K H a xs ∧ xs.length ≤ i⟩
theorem turn_enumT {P : Program} {w : World} {K : PySem.W.Frag} {elts : List Expr} {kk : Nat} {tpos : Pos} (a e it : Addr) :
    Turn P w K (.Tuple elts kk tpos) (Iet K a) [e, it] e (fun i h => (∃ old, IsEnum h e it ((i : Nat) : Int) old) ∧ h.IsTupleIter it a i ∧ e ≠ it) where
  mem := by simp
  obj := fun i h st b hb => by
    obtain ⟨⟨old, he⟩, ⟨o, ho, hc, hd⟩, _⟩ := st
    rcases List.mem_cons.mp hb with z | z
    · subst z
      exact ⟨_, he, fun v q => nomatch q⟩
    · rw [List.mem_singleton.mp z]
      exact ⟨o, ho, fun v q => by rw [hd] at q; cases q⟩
  keep := fun i h h' st k => by
    obtain ⟨⟨old, he⟩, hi, hne⟩ := st
    exact ⟨⟨old, k e (by simp) _ he⟩, hi.at fun o q => k it (by simp) o q, hne⟩
  item := by
    intro X hP hw hK hc i pins s σ H E I hf st hg
    subst hP hw hK
    obtain ⟨⟨old, he⟩, hit, hne⟩ := st
    obtain ⟨xs, x, hq, hx⟩ := hg
    obtain ⟨its, rv, p, hz⟩ := I.tuple hq
    have pT : s.heap.IsTuple a its.toArray := p
    obtain ⟨u, hu, ru⟩ := rv.get hx
    have hel : e < s.heap.objs.size := Heap.lt_size he
    have hil : it < s.heap.objs.size := by
      obtain ⟨_, q, _⟩ := hit
      exact Heap.lt_size q
    obtain ⟨ot, hot, hct, _⟩ := id pT
    have nea : e ≠ a := by
      rintro rfl
      rw [he] at hot
      have z := Option.some.inj hot
      rw [← z] at hct
      injection hct with z3
      exact absurd z3 (by decide)
    have nia : a ≠ it := by
      rintro rfl
      obtain ⟨o2, ho2, hc2, _⟩ := id hit
      rw [ho2] at hot
      have z := Option.some.inj hot
      rw [z, hct] at hc2
      injection hc2 with z3
      exact absurd z3 (by decide)
    have D := Draws.tuple (prog := X.prog) (w := X.w) (A := X.A.in1) (by exact I.ok.hd hc) it a nia its.toArray
    have hlt : i < its.toArray.size := by
      have z := (List.getElem?_eq_some_iff.mp hu).1
      simpa using z
    refine wpAny_pyNext_enum_itemD D he ⟨hit, pT⟩ hlt hne (by simp [hne, nea]) fun y h' tk hy ho hit' hT hsz hk => ?_
    have ey : y = u := by
      have z : its[i]? = some y := by simpa using hy
      exact Option.some.inj (z.symm.trans hu)
    subst ey
    refine ⟨_, rfl, wpAny_letOwnedTupleGo_enum (s := { s with heap := h', toks := tk + 1 }) ho fun h'' he' sb => ?_⟩
    have hT2 : h''.get? s.heap.objs.size = some { cls := .type "tuple", data := .seq #[.int i tk, y] } := (sb.2 _ (Nat.ne_of_gt hel)).trans hT
    have new : ObjOk X.prog X.w (upd H s.heap.objs.size (.tup [.int (i : Nat), x])) h'' s.heap.objs.size (.tup [.int (i : Nat), x]) :=
      ⟨by show 2 ≤ sizeLine; decide, [.int i tk, y], .cons ⟨_, rfl⟩ (.cons ru .nil), ⟨_, hT2, rfl, _, rfl⟩⟩
    have I1 : Inv X pins σ (upd H s.heap.objs.size (.tup [.int (i : Nat), x])) { s with heap := h'', toks := tk + 1 } := by
      refine I.turnedNew (ch := [e, it]) (fun b ob hb q => ?_) hf (Nat.le_refl _) new
      have b1 : b ≠ e := fun z => hb (by simp [z])
      have b2 : b ≠ it := fun z => hb (by simp [z])
      exact (sb.2 b b1).trans (hk b ob b1 b2 q)
    refine ⟨.ref s.heap.objs.size, _, I1, rfl, ⟨_, x, rfl, I.hok.fresh (Nat.le_refl _), rfl, fun ys hy => by rw [I.tuple_inj hy hq]; exact hx⟩, ⟨⟨y, ?_⟩, hit'.1.at fun o q => (sb.2 it (Ne.symm hne)).trans q, hne⟩, fun b hb => ?_⟩
    · rw [show ((i + 1 : Nat) : Int) = (i : Int) + 1 by omega]
      exact he'
    · have hb' : b < s.heap.objs.size := by
        rcases List.mem_cons.mp hb with z | z
        · rw [z]
          exact hel
        · rw [List.mem_singleton.mp z]
          exact hil
      rw [upd_ne (Nat.ne_of_lt hb')]
      exact (hf b hb).1
  done := by
    intro X hP hw hK hc i pins s σ H E I hf st hg
    subst hP hw hK
    obtain ⟨⟨old, he⟩, hit, hne⟩ := st
    obtain ⟨xs, hq, hx⟩ := hg
    obtain ⟨its, rv, p, hz⟩ := I.tuple hq
    have pT : s.heap.IsTuple a its.toArray := p
    obtain ⟨f0, f1, f2, f3, f4, f5⟩ := hf it (by simp)
    obtain ⟨ot, hot, hct, _⟩ := id pT
    have nia : a ≠ it := by
      rintro rfl
      obtain ⟨o2, ho2, hc2, _⟩ := id hit
      rw [ho2] at hot
      have z := Option.some.inj hot
      rw [z, hct] at hc2
      injection hc2 with z3
      exact absurd z3 (by decide)
    have hT : s.TypeIs (.ref e) "enumerate" := ⟨_, he, rfl⟩
    have hlen : its.toArray.size ≤ i := by
      have z := rv.length
      simp
      omega
    unfold pyNext
    refine wpAny_bind (wpAny_attempt (wpAny_callSpecial?_slot (name := Str.ofString "__next__") hT F.slot_enumerate_next (wpAny_call_entry F.slot_enumerate_next hT F.entry_enumerate_next ?_ (F.args_enumerate_next_1 _))))
    show wpAny _ _ (field (.ref e) 2 >>= _) _ _ _
    refine wpAny_bind (wpAny_field he rfl (x := .ref it) rfl ?_)
    refine wpAny_bind (wpAny_nextOf_tuple_end (A := X.A.in1) (by exact I.ok.hd hc) hit pT (by simpa using hlen) fun h' x he' hx' => ?_)
    obtain ⟨o, ho, hc'⟩ := hx'
    refine wpAny_bind (wpAny_isInstance (T := "StopIteration") (b := true) ⟨o, ho, hc'⟩ isSubtype_stop ?_)
    exact wpAny_pure ⟨rfl, I.turned (t' := s.toks) (fun b o hb q => he' b o hb q) f0 f1 f3 f4 f5⟩
  self := fun A i s Q E st h => let ⟨⟨_, he⟩, _⟩ := st; wpAny_pyIter_enum he h
def iEnumT (K : PySem.W.Frag) (ta : TA) : TI := fun σ H R => ta σ H fun vs H1 => ∃ a xs, vs = [.ref a] ∧ SqT K H1 a xs ∧ R (Iet K a) H1
theorem pi_enumT {X : Cx} {e : Expr} {ta : TA} {p pos tpos : Pos} {elts : List Expr} {kk : Nat} (hg : Gl X "enumerate") (hm : X.mg "enumerate" = none) (ha : PA X [e] ta)
    (hs : starEach [e] X.env = [(false, eval e X.env)] := by rfl) : PI X (.Tuple elts kk tpos) (.Call (.Name "enumerate" p) [e] [] pos) (iEnumT X.K ta) := by
  refine ⟨fun pins s σ H R I h => ?_⟩
  refine Call_ (ld_blt I hg hm boot_enumerate (PyProof.Rows.callWith_type1 (thn (ha.run pos pins s σ H _ I h) fun us s1 z => ?_) hs rfl))
  obtain ⟨vs, H1, I1, r1, a, xs, ex, hq, q⟩ := z
  subst ex
  cases r1 with
  | cons r rr =>
    cases rr
    cases r
    obtain ⟨its, rv, p', hz⟩ := I1.tuple hq
    have pT : s1.heap.IsTuple a its.toArray := p'
    refine call_enumT pT fun h' he hit hsz hk => wpAny_pyIter_enum he ?_
    have I2 : Inv X pins σ H1 { s1 with heap := h' } := I1.kept (t' := s1.toks) hk
    refine ⟨s1.heap.objs.size + 1, [s1.heap.objs.size + 1, s1.heap.objs.size], _, _, H1, rfl, I2, turn_enumT a (s1.heap.objs.size + 1) s1.heap.objs.size, ⟨⟨.none, he⟩, hit, Nat.succ_ne_self _⟩, fun b hb => ?_, q⟩
    have hle : s1.heap.objs.size ≤ b := by
      rcases List.mem_cons.mp hb with y | y
      · exact y ▸ Nat.le_succ _
      · exact Nat.le_of_eq (List.mem_singleton.mp y).symm
    exact I1.fpOk hle (I1.hok.fresh hle)
theorem walk_enumT {K : PySem.W.Frag} {a : Addr} {xs : List V} : Walk (Iet K a) xs.length (fun H => SqT K H a xs) (YPair (fun i => some (.int (i : Nat))) (fun i => xs[i]?)) := by
  refine ⟨fun i _ hi q => ⟨xs, xs[i], q, by simp [hi]⟩, fun _ q => ⟨xs, q, Nat.le_refl _⟩, fun i H v H' _ q y => ?_⟩
  obtain ⟨T, x, y1, y2, y3, y4⟩ := y
  exact ⟨T, _, x, y1, y2, y3, rfl, y4 xs q⟩
/-- a dict comprehension over a walk -/
theorem dc_it {J : It} {n : Nat} {G : Hp → Prop} {Y : Nat → Hp → V → Hp → Prop} (w : Walk J n G Y) {g : TG} {tt : TT} {tk tv : TE} {vs : List Nat} {σ : L2.St} {H1 : Hp} {D : Addr} {Qd : Hp → Prop}
    (Pv : Nat → Hp → Prop) (h0 : Pv 0 (upd H1 D (.dK []))) (hG : ∀ i H, i ≤ n → Pv i H → G H)
    (hs : ∀ i x H H', i < n → Pv i H → Y i H x H' → g x (wipe σ vs) H' fun σ2 H2 => wipe σ2 vs = wipe σ vs ∧ tt σ2 H2 fun b H3 =>
      if b = true then tk σ2 H3 fun y H4 => tv σ2 H4 fun z H5 => ∃ kvs k, y = kV k ∧ H5 D = some (.dK kvs) ∧ kvs.length < sizeLine ∧ Pv (i + 1) (upd H5 D (.dK (putK kvs k z))) else Pv (i + 1) H3)
    (hd : ∀ H, Pv n H → Qd H) :
    ∃ W : Nat → Nat → Hp → Prop, (∃ m, W 0 m (upd H1 D (.dK []))) ∧ ∀ i m H, W i m H →
      (J.stop i H ∧ Qd H) ∨ (J.go i H ∧ ∃ Nx : Hp → Prop, (∀ H', Nx H' → ∃ m', m' < m ∧ W (i + 1) m' H') ∧ ∀ x H', J.yld i H x H' → g x (wipe σ vs) H' fun σ2 H2 => wipe σ2 vs = wipe σ vs ∧ tt σ2 H2 fun b H3 =>
        if b = true then tk σ2 H3 fun y H4 => tv σ2 H4 fun z H5 => ∃ kvs k, y = kV k ∧ H5 D = some (.dK kvs) ∧ kvs.length < sizeLine ∧ Nx (upd H5 D (.dK (putK kvs k z))) else Nx H3) := by
  refine ⟨fun i m H => m = n - i ∧ i ≤ n ∧ Pv i H, ⟨n, by simp, Nat.zero_le _, h0⟩, ?_⟩
  rintro i m H ⟨rfl, hi, p⟩
  have q := hG i H hi p
  rcases Nat.lt_or_ge i n with hlt | hge
  · exact .inr ⟨w.goes i H hlt q, Pv (i + 1), fun H' p' => ⟨n - (i + 1), by omega, rfl, hlt, p'⟩, fun x H' y => hs i x H H' hlt p (w.yields i H x H' hlt q y)⟩
  · obtain rfl : i = n := by omega
    exact .inl ⟨w.stops H q, hd H p⟩
/-- an item, for an augmented store -/
theorem get_list {X : Cx} : PGet X (fun x y H Q => ∃ p xs j v, x = .ref p ∧ y = .int (j : Nat) ∧ SqL X.K H p xs ∧ xs[j]? = some v ∧ Q v H) := by
  intro pins s σ H x y v u Q I rx ry h
  obtain ⟨p, xs, j, z, rfl, rfl, hq, he, q⟩ := h
  cases rx
  obtain ⟨t, rfl⟩ := ry
  obtain ⟨its, r, pl, hz⟩ := I.list hq
  obtain ⟨w, ew, rw'⟩ := r.get he
  have hj : j < its.length := (List.getElem?_eq_some_iff.mp ew).1
  have h63 := line63
  have hl := r.length
  exact wpAny_getItem_list pl.isList (by omega) (by omega) (by simpa using ew) ⟨z, H, I, rw', q⟩
end Cb

/-! sorted of pairs of an int and a text -/
namespace Cb
open PySem PySem.Spec PyProof.Rows L2
def strLt (x y : Str) : Bool := decide (x.cps.toList < y.cps.toList)
def lexIS (p q : Int × Str) : Bool := if p.1 = q.1 then strLt p.2 q.2 else decide (p.1 < q.1)
theorem strLt_asym {x y : Str} (h : strLt x y = true) : strLt y x = false := by
  have a : x.cps.toList < y.cps.toList := of_decide_eq_true h
  exact decide_eq_false (List.lt_asymm a)
theorem strLt_tr {x y z : Str} (h1 : strLt y x = false) (h2 : strLt z y = false) : strLt z x = false := by
  have a : ¬ y.cps.toList < x.cps.toList := of_decide_eq_false h1
  have b : ¬ z.cps.toList < y.cps.toList := of_decide_eq_false h2
  exact decide_eq_false (List.not_lt.mpr (List.le_trans (List.not_lt.mp a) (List.not_lt.mp b)))
theorem lexIS_swo {α : Type} (k : α → Int × Str) : SrtO.Swo fun v u => lexIS (k v) (k u) := by
  refine ⟨fun x y h => ?_, fun x y z h1 h2 => ?_⟩
  · unfold lexIS at h ⊢
    by_cases e : (k x).1 = (k y).1
    · rw [if_pos e] at h
      rw [if_pos e.symm]
      exact strLt_asym h
    · rw [if_neg e, decide_eq_true_eq] at h
      rw [if_neg (Ne.symm e), decide_eq_false_iff_not]
      omega
  · unfold lexIS at h1 h2 ⊢
    by_cases e1 : (k y).1 = (k x).1
    · rw [if_pos e1] at h1
      by_cases e2 : (k z).1 = (k y).1
      · rw [if_pos e2] at h2
        rw [if_pos (e2.trans e1)]
        exact strLt_tr h1 h2
      · rw [if_neg e2, decide_eq_false_iff_not] at h2
        rw [if_neg (by omega), decide_eq_false_iff_not]
        omega
    · rw [if_neg e1, decide_eq_false_iff_not] at h1
      by_cases e2 : (k z).1 = (k y).1
      · rw [if_neg (by omega), decide_eq_false_iff_not]
        omega
      · rw [if_neg e2, decide_eq_false_iff_not] at h2
        rw [if_neg (by omega), decide_eq_false_iff_not]
        omega
def IsIS (h : Heap) (v : Value) (x : Int) (y : Str) : Prop := ∃ a o t u n, v = .ref a ∧ h.get? a = some o ∧ o.cls = .type "tuple" ∧ o.data = .seq #[.int x t, .str y u] n
theorem IsIS.keeps {h h' : Heap} {v : Value} {x : Int} {y : Str} (p : IsIS h v x y) (k : ∀ b o, h.get? b = some o → o.cls = .type "tuple" → h'.get? b = some o) : IsIS h' v x y := by
  obtain ⟨a, o, t, u, n, e, ho, hc, hd⟩ := p
  exact ⟨a, o, t, u, n, e, k _ _ ho hc, hc, hd⟩
section
variable {prog : Program} {w : World} {A : Around} {E : Value → Shared → Prop} {s : Shared}
theorem cmp_IS {vs : List Value} {k : Value → Int × Str} (hp : ∀ v ∈ vs, IsIS s.heap v (k v).1 (k v).2) : SrtO.Cmp prog w A s (tuples' true) (fun p => p.1 ∈ vs) (SrtO.lt2 fun v u => lexIS (k v) (k u)) := by
  intro p q hm hm'
  have g1 := hp _ hm
  have g2 := hp _ hm'
  show wpAny (model prog w) A (keyLt' (tuples' true) p.1 q.1) (fun r s' => s' = s ∧ r = lexIS (k p.1) (k q.1)) (fun _ _ => False) s
  generalize k p.1 = kp at g1 ⊢
  generalize k q.1 = kq at g2 ⊢
  obtain ⟨x, y⟩ := kp
  obtain ⟨x', y'⟩ := kq
  obtain ⟨a, o, t, u, n, e, ho, hc, hd⟩ := g1
  obtain ⟨a', o', t', u', n', e', ho', hc', hd'⟩ := g2
  rw [e, e']
  refine PySem.W.kat_lt ho hd ho' hd' ?_
  show PySem.W.KatLex prog w A true (decide (2 < 2)) _ [(.int x t, .int x' t'), (.str y u, .str y' u')] 0 s
  refine PySem.W.kat_cons (SeqAt.EqAt.int_int x t x' t' prog w _ _ ?_)
  refine PySem.W.kat_go (fun e1 => ?_) (fun e1 => ?_)
  · obtain rfl : x = x' := by simpa using e1
    refine PySem.W.kat_yes (PySem.W.kat_cons (wpAny_eqBool_str ?_))
    refine PySem.W.kat_go (fun e2 => ?_) (fun e2 => ?_)
    · obtain rfl : y = y' := of_decide_eq_true e2
      refine PySem.W.kat_yes (PySem.W.kat_nil ⟨rfl, ?_⟩)
      unfold lexIS strLt
      rw [if_pos rfl]
      exact (decide_eq_false (List.lt_irrefl _)).symm
    · refine PySem.W.kat_no (PySem.W.kat_one _ _ (PyProof.Rows.lt_str ?_))
      refine (show s = s ∧ decide (y.cps.toList < y'.cps.toList) = _ from ⟨rfl, ?_⟩)
      unfold lexIS strLt
      exact (if_pos rfl).symm
  · have ex : ¬ x = x' := by simpa using e1
    refine PySem.W.kat_no (oneLt_int ⟨rfl, ?_⟩)
    unfold lexIS
    exact (if_neg ex).symm
theorem firsts_IS {h : Heap} : ∀ {vs : List Value}, (∀ v ∈ vs, ∃ x y, IsIS h v x y) → ∃ fs, PySem.W.KatTups h vs fs ∧ fs.length = vs.length ∧ ∀ f ∈ fs, ∃ x t, f = Value.int x t
  | [], _ => ⟨[], .nil, rfl, fun _ z => nomatch z⟩
  | v :: vs, hv => by
    obtain ⟨x, y, a, o, t, u, n, rfl, ho, hc, hd⟩ := hv v List.mem_cons_self
    obtain ⟨fs, f1, f2, f3⟩ := firsts_IS (vs := vs) fun z hz => hv z (List.mem_cons_of_mem _ hz)
    refine ⟨.int x t :: fs, .cons ho hc hd rfl f1, by simp [f2], fun f hf => ?_⟩
    rcases List.mem_cons.mp hf with z | z
    · exact ⟨x, t, z⟩
    · exact f3 f z
theorem sortable_IS {a : Addr} {vs : List Value} {k : Value → Int × Str} (h0 : 0 < vs.length) (hp : ∀ v ∈ vs, IsIS s.heap v (k v).1 (k v).2) (ha : ∀ o, s.heap.get? a = some o → o.cls ≠ .type "tuple") :
    SrtO.SortableO prog w A s a vs fun v u => lexIS (k v) (k u) := by
  intro h' keep
  have hp' : ∀ v ∈ vs, IsIS h' v (k v).1 (k v).2 := fun v hm => (hp v hm).keeps fun b o e c => keep b o (fun z => ha o (z ▸ e) c) e
  obtain ⟨fs, f1, f2, f3⟩ := firsts_IS fun v hm => ⟨_, _, hp' v hm⟩
  refine ⟨tuples' true, fun Q E hq => ?_, cmp_IS hp'⟩
  refine PySem.W.kat_kind (T := .type "int") f1 (by omega) (fun f hm => ?_) (by rfl) ?_
  · obtain ⟨x, t, rfl⟩ := f3 f hm
    exact PySem.W.Looks.now
  · rw [show (Value.type "int" != Value.type "tuple") = true by first | decide +kernel | rfl]
    exact hq
theorem sorted_IS {l : Addr} {vs : List Value} {k : Value → Int × Str} {Q : Value → Shared → Prop} (hl : s.heap.IsList l vs.toArray) (hz : vs.length ≤ sizeLine) (hp : ∀ v ∈ vs, IsIS s.heap v (k v).1 (k v).2)
    (h : ∀ (h' : Heap) (d : Addr) (out : List Value), SrtO.Srtd (fun v u => lexIS (k v) (k u)) out → SrtO.Stb (fun v u => lexIS (k v) (k u)) out vs → (∀ b o, s.heap.get? b = some o → h'.get? b = some o) → s.heap.objs.size ≤ d →
      (∃ n, h'.get? d = some (seqObj "list" out.toArray n)) → Q (.ref d) { s with heap := h' }) : wpAny (model prog w) A (call (.builtin "sorted") [.ref l]) Q E s := by
  refine SrtO.sorted_ord (lexIS_swo k) hl hz (fun h2 h₁ a ha kk => ?_) fun out hs hb => h _ _ out hs hb (fun b o e => sortedAll_old e) (Nat.le_succ _) (sortedAll_at s.heap vs out.toArray)
  refine sortable_IS (s := { s with heap := h₁ }) (by omega) (fun v hm => (hp v hm).keeps fun b o e _ => (kk b o e).2) fun o e => ?_
  cases (show some o = some (seqObj "list" vs.toArray 0) from e.symm.trans ha)
  intro c
  exact absurd (Value.type.inj c) (by decide)
end
/-- sorted(xs), xs a list of pairs of an int and a text -/
def rSortIS (K : PySem.W.Frag) : List V → Hp → VK → Prop := fun vs H Q => ∃ (a : Addr) (xs : List V) (k : V → Int × Str), vs = [V.ref a] ∧ SqL K H a xs ∧ (∀ x ∈ xs, ∃ t, x = V.ref t ∧ H t = some (.tup [.int (k x).1, .str (k x).2])) ∧
  ∀ ys p, SrtO.Srtd (fun v u => lexIS (k v) (k u)) ys → SrtO.Stb (fun v u => lexIS (k v) (k u)) ys xs → H p = none → Q (.ref p) (upd H p (.lst ys))
theorem cr_sortIS {X : Cx} : CallR X (.builtin "sorted") (rSortIS X.K) := by
  intro pins s σ H vs us Q I r h
  obtain ⟨a, xs, k, rfl, hs, hx, q⟩ := h
  obtain ⟨its, rv, hl, hz⟩ := I.list hs
  obtain ⟨u, rfl, ru⟩ := vals1 r
  obtain rfl : u = Value.ref a := ru
  obtain ⟨e1, e2⟩ := refs_back rv fun x m => by
    obtain ⟨t, e, _⟩ := hx x m
    exact ⟨t, e⟩
  have hzz : its.length ≤ sizeLine := by
    rw [← rv.length]
    exact hz
  refine sorted_IS (k := fun u => k (backV u)) hl.isList hzz (fun v hv => ?_) fun h' d out o1 o2 kp hd hn => ?_
  · obtain ⟨t, rfl⟩ := e2 v hv
    have hm : V.ref t ∈ xs := by
      rw [e1]
      exact List.mem_map.mpr ⟨_, hv, rfl⟩
    obtain ⟨t', e, ht⟩ := hx _ hm
    cases e
    obtain ⟨_, its2, r2, o, ho, hc, n, hd⟩ := I.hok _ _ ht
    obtain ⟨u1, u2, rfl, ri, rj⟩ := vals2 r2
    obtain ⟨t1, rfl⟩ := ri
    obtain ⟨t2, rfl⟩ := rj
    exact ⟨t, o, t1, t2, n, rfl, ho, hc, hd⟩
  · have h3 : ∀ u ∈ out, ∃ a, u = Value.ref a := fun u hu => e2 u (o2.perm.mem_iff.mp hu)
    obtain ⟨n, hn⟩ := hn
    have hb : SrtO.Stb (fun v u => lexIS (k v) (k u)) (out.map backV) xs := by
      rw [e1]
      exact SrtO.Stb.map (lexIS_swo k) backV o2
    have hlen : (out.map backV).length ≤ sizeLine := by
      rw [hb.len]
      exact hz
    exact ⟨.ref d, upd H d (.lst (out.map backV)), I.laid (t' := s.toks) kp hd ⟨hlen, out, n, vals_back h3, hn⟩, rfl, q _ d (SrtO.srtd_map o1) hb (I.hok.fresh hd)⟩
end Cb

namespace Cb
open PySem PySem.Spec PyProof.Rows L2
section
variable {prog : Program} {w : World} {A : Around} {E : Value → Shared → Prop} {s : Shared}
theorem sumT_raw {t : Addr} {its : List Value} {ns : List Int} {Q : Value → Shared → Prop} (hh : A.handled = none) (hl : s.heap.IsTuple t its.toArray) (hi : ∀ (i : Nat) v, its[i]? = some v → ∃ tk, v = Value.int (ns.getD i 0) tk) (hn : its.length = ns.length)
    (h : ∀ h' tk t', (∀ b o, s.heap.get? b = some o → h'.get? b = some o) → Q (.int ns.sum t') { s with heap := h', toks := tk }) : wpAny (model prog w) A (call (.builtin "sum") [.ref t]) Q E s := by
  have ht : t < s.heap.objs.size := by
    obtain ⟨o, ho, _⟩ := hl
    exact Heap.lt_size ho
  refine call_sum_walkG (wpAny_pyIter_tuple hl ⟨s.heap.objs.size, _, _, _, _, _, fun i => ns.getD i 0, rfl, Walks.tuple (by simpa using hh) _ t (Nat.ne_of_lt ht) its.toArray, ⟨?_, ?_⟩, ?_, ?_, ?_⟩)
  · exact ⟨_, Heap.get?_push_size _ rfl, rfl, rfl⟩
  · exact hl.at fun o q => Heap.get?_push_of_some _ q
  · intro b hb
    show b < (s.heap.push _).objs.size
    rw [Heap.size_push]
    rcases List.mem_cons.mp hb with z | z
    · rw [z]
      exact Nat.lt_succ_self _
    · rw [List.mem_singleton.mp z]
      exact Nat.lt_succ_of_lt ht
  · intro i v e
    exact hi i v (by simpa using e)
  · intro h' tk t' k
    have e : preSum (fun i => ns.getD i 0) its.toArray.size = ns.sum := by
      rw [preSum_getD]
      simp [hn]
    rw [e]
    refine h h' tk t' fun b o hb => k b o ?_ ?_
    · exact fun z => Nat.ne_of_lt (Heap.lt_size hb) (List.mem_singleton.mp z)
    · exact Heap.get?_push_of_some _ hb
end
def rSumT (K : PySem.W.Frag) : List V → Hp → VK → Prop := fun vs H Q => ∃ (a : Addr) (ns : List Int), vs = [V.ref a] ∧ SqT K H a (ns.map V.int) ∧ Q (.int ns.sum) H
theorem cr_sumT {X : Cx} (hc : X.calm = true) : CallR X (.builtin "sum") (rSumT X.K) := by
  intro pins s σ H vs us Q I r h
  obtain ⟨a, ns, rfl, hs, q⟩ := h
  obtain ⟨its, rv, p, hz⟩ := I.tuple hs
  obtain ⟨u, rfl, ru⟩ := vals1 r
  obtain rfl : u = Value.ref a := ru
  have hlen : its.length = ns.length := by
    have := rv.length
    simpa using this.symm
  refine sumT_raw (I.ok.hd hc) p (fun i v hv => ?_) hlen fun h' tk t' k => ⟨.int ns.sum, H, I.kept k, ⟨t', rfl⟩, q⟩
  have hi : i < ns.length := by
    rw [← hlen]
    exact (List.getElem?_eq_some_iff.mp hv).1
  have hx : (ns.map V.int)[i]? = some (.int (ns.getD i 0)) := by simp [hi]
  obtain ⟨u, hu, tk, ru⟩ := rv.get hx
  exact ⟨tk, (Option.some.inj (hv.symm.trans hu)).trans ru⟩
end Cb

/-! own heaps: what is owned, what stays -/
namespace Cb
open PySem PySem.Spec PyProof.Rows L2
theorem same_new {H H1 : Hp} {p : Addr} {o : HO} (e : Same H H1) (h : H1 p = none) : Same H (upd H1 p o) := fun b u q => by
  have z := e b u q
  rw [upd_ne (ne_of_none z h)]
  exact z
theorem same_mut {H H1 : Hp} {p : Addr} {o : HO} (e : Same H H1) (h : H p = none) : Same H (upd H1 p o) := fun b u q => by
  rw [upd_ne (ne_of_none q h)]
  exact e b u q
theorem Same.rd {H H' : Hp} {a : Addr} {u : HO} (e : Same H H') (h : Rd H a u) : Rd H' a u := h.elim (fun h => .inl (e _ _ h)) fun ⟨o, h⟩ => .inr ⟨o, e _ _ h⟩
theorem Same.tup {K : PySem.W.Frag} {H H' : Hp} {a : Addr} {xs : List V} (e : Same H H') (h : SqT K H a xs) : SqT K H' a xs := h.elim (fun h => .inl (Same.rd e h)) .inr
theorem t_of {K : PySem.W.Frag} {H : Hp} {a : Addr} {xs : List V} (h : H a = some (.tup xs)) : SqT K H a xs := .inl (.inl h)
theorem l_of {K : PySem.W.Frag} {H : Hp} {a : Addr} {xs : List V} (h : H a = some (.lst xs)) : SqL K H a xs := .inl (.inl h)
theorem sqt_inj {K : PySem.W.Frag} {H : Hp} {a : Addr} {xs ys : List V} (h : H a = some (.tup xs)) (h' : H a = some (.tup ys)) : xs = ys := by
  rw [h] at h'
  injection h' with e
  injection e

/-! ### isinstance by type names -/
def rIs (K : PySem.W.Frag) : List V → Hp → VK → Prop := fun xs H Q => ∃ (x : V) (b a : String) (r : Bool), xs = [x, .ty b] ∧ TyX K H x (.type a) ∧ kitB a b = some r ∧ Q (.bl r) H
theorem call_is {X : Cx} : CallR X (.builtin "isinstance") (rIs X.K) := by
  intro pins s σ H xs us Q I r h
  obtain ⟨x, b, a, z, rfl, ty, e, q⟩ := h
  exact call_isi pins s σ H _ us Q I r ⟨x, .ty b, .type a, .type b, z, rfl, .ty b, ty, kit_ty e, q⟩
section
variable {K : PySem.W.Frag} {H : Hp}
theorem ty_int {i : Int} : TyX K H (.int i) (.type "int") := .base (.int i)
theorem ty_str {x : Str} : TyX K H (.str x) (.type "str") := .base (.str x)
theorem ty_tup {a : Addr} {xs : List V} (h : SqT K H a xs) : TyX K H (.ref a) (.type "tuple") := by
  rcases h with (h | ⟨o, h⟩) | ⟨o, _, _, e, c, _⟩
  · exact .base (.tup h)
  · exact .fTuple h
  · exact .kTuple e c
theorem kb1 : kitB "int" "int" = some true := by decide +kernel
theorem kb2 : kitB "int" "bool" = some false := by decide +kernel
theorem kb3 : kitB "str" "str" = some true := by decide +kernel
theorem kb4 : kitB "tuple" "tuple" = some true := by decide +kernel
theorem kb5 : kitB "str" "int" = some false := by decide +kernel
end

/-! ### owned cells over what stays -/
def Cells (H : Hp) : List (Addr × HO) → Prop
  | [] => True
  | e :: r => H e.1 = some e.2 ∧ Cells H r
def adrs (L : List (Addr × HO)) : List Addr := L.map (·.1)
/-- K0: what stays as it is; L: what is owned, and may change -/
structure Sep (K0 H : Hp) (L : List (Addr × HO)) : Prop where
  ext : Same K0 H
  nd : (adrs L).Nodup
  fr : ∀ a ∈ adrs L, K0 a = none
  cs : Cells H L
theorem Cells.mem {H : Hp} : ∀ {L : List (Addr × HO)}, Cells H L → ∀ e ∈ L, H e.1 = some e.2
  | _ :: _, c, e, m => by
    rcases List.mem_cons.mp m with z | z
    · exact z ▸ c.1
    · exact Cells.mem c.2 e z
theorem Cells.of {H : Hp} : ∀ {L : List (Addr × HO)}, (∀ e ∈ L, H e.1 = some e.2) → Cells H L
  | [], _ => True.intro
  | e :: _, h => ⟨h e List.mem_cons_self, Cells.of fun x m => h x (List.mem_cons_of_mem _ m)⟩
theorem Sep.nil {H : Hp} : Sep H H [] := ⟨Same.refl H, List.nodup_nil, (fun _ m => nomatch m), True.intro⟩
theorem Sep.at_ {K0 H : Hp} {L : List (Addr × HO)} (s : Sep K0 H L) {a : Addr} {o : HO} (m : (a, o) ∈ L) : H a = some o := s.cs.mem _ m
/-- a store at an owned cell -/
theorem Sep.put {K0 H : Hp} {L1 L2 : List (Addr × HO)} {a : Addr} {o o' : HO} (s : Sep K0 H (L1 ++ (a, o) :: L2)) : Sep K0 (upd H a o') (L1 ++ (a, o') :: L2) := by
  have ea : adrs (L1 ++ (a, o') :: L2) = adrs (L1 ++ (a, o) :: L2) := by simp [adrs]
  have ha : K0 a = none := s.fr a (by simp [adrs])
  refine ⟨same_mut s.ext ha, ea ▸ s.nd, ea ▸ s.fr, Cells.of fun e m => ?_⟩
  have nd : (adrs (L1 ++ (a, o) :: L2)).Nodup := s.nd
  simp only [adrs, List.map_append, List.map_cons, List.nodup_append, List.nodup_cons] at nd
  rcases List.mem_append.mp m with z | z
  · have ne : e.1 ≠ a := nd.2.2 e.1 (List.mem_map_of_mem z) a List.mem_cons_self
    rw [upd_ne ne]
    exact s.cs.mem e (List.mem_append_left _ z)
  · rcases List.mem_cons.mp z with z | z
    · subst z
      exact upd_same
    · have ne : e.1 ≠ a := fun q => nd.2.1.1 (q ▸ List.mem_map_of_mem z)
      rw [upd_ne ne]
      exact s.cs.mem e (List.mem_append_right _ (List.mem_cons_of_mem _ z))
theorem Sep.free {K0 H : Hp} {L : List (Addr × HO)} (s : Sep K0 H L) {p : Addr} (h : H p = none) : K0 p = none ∧ p ∉ adrs L := by
  refine ⟨Same.free s.ext h, fun m => ?_⟩
  obtain ⟨e, me, rfl⟩ := List.mem_map.mp m
  rw [s.cs.mem e me] at h
  cases h
theorem Sep.cells_new {K0 H : Hp} {L : List (Addr × HO)} (s : Sep K0 H L) {p : Addr} {o : HO} (h : H p = none) : Cells (upd H p o) L := by
  refine Cells.of fun e m => ?_
  rw [upd_ne (ne_of_none (s.cs.mem e m) h)]
  exact s.cs.mem e m
/-- a new thing that nobody asks for -/
theorem Sep.drop {K0 H : Hp} {L : List (Addr × HO)} (s : Sep K0 H L) {p : Addr} {o : HO} (h : H p = none) : Sep K0 (upd H p o) L := ⟨same_new s.ext h, s.nd, s.fr, s.cells_new h⟩
/-- .. that stays as it is -/
theorem Sep.keep {K0 H : Hp} {L : List (Addr × HO)} (s : Sep K0 H L) {p : Addr} {o : HO} (h : H p = none) : Sep (upd K0 p o) (upd H p o) L := by
  obtain ⟨h0, hm⟩ := s.free h
  refine ⟨fun b u q => ?_, s.nd, fun a ma => ?_, s.cells_new h⟩
  · by_cases e : b = p
    · subst e
      rw [upd_same] at q ⊢
      exact q
    · rw [upd_ne e] at q ⊢
      exact s.ext b u q
  · have ne : a ≠ p := fun q => hm (q ▸ ma)
    rw [upd_ne ne]
    exact s.fr a ma
/-- .. that is owned -/
theorem Sep.own {K0 H : Hp} {L : List (Addr × HO)} (s : Sep K0 H L) {p : Addr} {o : HO} (h : H p = none) : Sep K0 (upd H p o) ((p, o) :: L) := by
  obtain ⟨h0, hm⟩ := s.free h
  refine ⟨same_new s.ext h, List.nodup_cons.mpr ⟨hm, s.nd⟩, fun a ma => ?_, upd_same, s.cells_new h⟩
  rcases List.mem_cons.mp ma with z | z
  · exact z ▸ h0
  · exact s.fr a z
theorem Sep.perm {K0 H : Hp} {L M : List (Addr × HO)} (s : Sep K0 H L) (p : M.Perm L) : Sep K0 H M :=
  ⟨s.ext, (List.Perm.nodup_iff (p.map (Prod.fst : Addr × HO → Addr))).mpr s.nd, fun a m => s.fr a ((p.map (Prod.fst : Addr × HO → Addr)).mem_iff.mp m), Cells.of fun e m => s.cs.mem e (p.mem_iff.mp m)⟩
theorem Sep.weak {K0 H : Hp} {L M : List (Addr × HO)} (s : Sep K0 H (L ++ M)) : Sep K0 H L :=
  ⟨s.ext, (List.nodup_append.mp (by have z := s.nd; unfold adrs at z; rw [List.map_append] at z; exact z)).1, fun a m => s.fr a (by unfold adrs at m ⊢; rw [List.map_append]; exact List.mem_append_left _ m), Cells.of fun e m => s.cs.mem e (List.mem_append_left _ m)⟩
/-- all but the owned -/
noncomputable def less (H : Hp) (L : List (Addr × HO)) : Hp := fun a => if a ∈ adrs L then none else H a
theorem less_in {H : Hp} {L : List (Addr × HO)} {a : Addr} (m : a ∈ adrs L) : less H L a = none := if_pos m
theorem less_out {H : Hp} {L : List (Addr × HO)} {a : Addr} (m : a ∉ adrs L) : less H L a = H a := if_neg m
theorem Sep.rebase {K0 H : Hp} {L : List (Addr × HO)} (s : Sep K0 H L) : Sep (less H L) H L ∧ Same K0 (less H L) := by
  refine ⟨⟨fun b o q => ?_, s.nd, fun a m => less_in m, s.cs⟩, fun b o q => ?_⟩
  · by_cases m : b ∈ adrs L
    · rw [less_in m] at q
      cases q
    · rwa [less_out m] at q
  · rw [less_out fun m => by rw [s.fr b m] at q; cases q]
    exact s.ext b o q
/-- a part of what is owned, handed to a callee; what it hands back -/
theorem Sep.part {K0 H : Hp} {L M : List (Addr × HO)} (s : Sep K0 H (L ++ M)) : Sep (less H L) H L ∧ Same K0 (less H L) := s.weak.rebase
theorem Sep.back {K0 H H' K1 : Hp} {L M L2 : List (Addr × HO)} (s : Sep K0 H (L ++ M)) (g : Same (less H L) K1) (t : Sep K1 H' L2) : Sep K0 H' (L2 ++ M) := by
  have nd : (adrs L ++ adrs M).Nodup := by
    have z := s.nd
    unfold adrs at z ⊢
    rw [List.map_append] at z
    exact z
  obtain ⟨n1, n2, n3⟩ := List.nodup_append.mp nd
  have keepM : ∀ e ∈ M, K1 e.1 = some e.2 := fun e m => by
    refine g _ _ ?_
    rw [less_out fun q => n3 _ q _ (List.mem_map_of_mem m) rfl]
    exact s.cs.mem e (List.mem_append_right _ m)
  have ext : Same K0 K1 := fun b o q => g b o (s.part.2 b o q)
  refine ⟨fun b o q => t.ext b o (ext b o q), ?_, fun a m => ?_, Cells.of fun e m => ?_⟩
  · unfold adrs
    rw [List.map_append]
    refine List.nodup_append.mpr ⟨t.nd, n2, fun a ma b mb q => ?_⟩
    subst q
    obtain ⟨e, me, rfl⟩ := List.mem_map.mp mb
    have z := t.fr _ ma
    rw [keepM e me] at z
    cases z
  · unfold adrs at m
    rw [List.map_append] at m
    rcases List.mem_append.mp m with z | z
    · have h1 := t.fr a z
      cases q : K0 a with
      | none => rfl
      | some o =>
        rw [ext a o q] at h1
        cases h1
    · exact s.fr a (by unfold adrs; rw [List.map_append]; exact List.mem_append_right _ z)
  · rcases List.mem_append.mp m with z | z
    · exact t.cs.mem e z
    · exact t.ext _ _ (keepM e z)
end Cb

/-! generic lemmas: pairs of lists, what is owned -/
namespace Cb
open PySem PySem.Spec PyProof.Rows L2
theorem pget {α β : Type} {F : α → β → Prop} : ∀ {l₁ : List α} {l₂ : List β}, Paired F l₁ l₂ → ∀ {i : Nat} {a : α}, l₁[i]? = some a → ∃ b, l₂[i]? = some b ∧ F a b
  | _, _, .nil, i, a, h => by simp at h
  | _, _, .cons f p, 0, a, h => ⟨_, rfl, by simp at h; exact h ▸ f⟩
  | _, _, .cons f p, i + 1, a, h => by
    simp at h
    simpa using pget p h
theorem pgetr {α β : Type} {F : α → β → Prop} : ∀ {l₁ : List α} {l₂ : List β}, Paired F l₁ l₂ → ∀ {i : Nat} {b : β}, l₂[i]? = some b → ∃ a, l₁[i]? = some a ∧ F a b
  | _, _, .nil, i, a, h => by simp at h
  | _, _, .cons f p, 0, a, h => ⟨_, rfl, by simp at h; exact h ▸ f⟩
  | _, _, .cons f p, i + 1, a, h => by
    simp at h
    simpa using pgetr p h
theorem take_snoc {α : Type} {l : List α} {i : Nat} {x : α} (h : l[i]? = some x) : l.take (i + 1) = l.take i ++ [x] := by
  rw [List.take_add_one, h]
  rfl
theorem nodup_take {α : Type} {l : List α} (h : l.Nodup) {i : Nat} {x : α} (hx : l[i]? = some x) : x ∉ l.take i := by
  intro m
  obtain ⟨j, hj, e⟩ := List.mem_iff_getElem.mp m
  have hj2 : j < i := by simp at hj; omega
  have hi : i < l.length := by
    rcases Nat.lt_or_ge i l.length with z | z
    · exact z
    · rw [List.getElem?_eq_none z] at hx; cases hx
  rw [List.getElem?_eq_getElem hi] at hx
  have e1 : l[j]'(by omega) = l[i] := by
    rw [List.getElem_take] at e
    exact e.trans (Option.some.inj hx).symm
  exact absurd ((List.getElem_inj h).mp e1) (by omega)
theorem Sep.c0 {K0 H : Hp} {L : List (Addr × HO)} {a : Addr} {o : HO} (s : Sep K0 H ((a, o) :: L)) : H a = some o := s.cs.1
theorem Sep.c1 {K0 H : Hp} {L : List (Addr × HO)} {a : Addr} {o : HO} {e1 : Addr × HO} (s : Sep K0 H (e1 :: (a, o) :: L)) : H a = some o := s.cs.2.1
theorem Sep.tail {K0 H : Hp} {L : List (Addr × HO)} {e : Addr × HO} (s : Sep K0 H (e :: L)) : Sep K0 H L := ⟨s.ext, (List.nodup_cons.mp s.nd).2, fun a m => s.fr a (List.mem_cons_of_mem _ m), s.cs.2⟩
theorem Sep.put0 {K0 H : Hp} {L : List (Addr × HO)} {a : Addr} {o o' : HO} (s : Sep K0 H ((a, o) :: L)) : Sep K0 (upd H a o') ((a, o') :: L) := Sep.put (L1 := []) s
theorem Sep.freeze {K0 H : Hp} {L : List (Addr × HO)} {a : Addr} {o : HO} (s : Sep K0 H ((a, o) :: L)) : Sep (upd K0 a o) H L := by
  have ha : K0 a = none := s.fr a List.mem_cons_self
  have n := List.nodup_cons.mp s.nd
  refine ⟨fun b u q => ?_, n.2, fun b m => ?_, s.cs.2⟩
  · by_cases e : b = a
    · subst e
      rw [upd_same] at q
      exact (Option.some.inj q) ▸ s.cs.1
    · rw [upd_ne e] at q
      exact s.ext b u q
  · have ne : b ≠ a := fun q => n.1 (q ▸ m)
    rw [upd_ne ne]
    exact s.fr b (List.mem_cons_of_mem _ m)
theorem Sep.new0 {K0 H : Hp} {L : List (Addr × HO)} {a : Addr} {o : HO} (s : Sep K0 H ((a, o) :: L)) : Same K0 (upd K0 a o) := same_new (Same.refl K0) (s.fr a List.mem_cons_self)
theorem Sep.newk {K0 H : Hp} {L : List (Addr × HO)} (s : Sep K0 H L) {p : Addr} {o : HO} (h : H p = none) : Same K0 (upd K0 p o) := same_new (Same.refl K0) (s.free h).1
theorem Same.tr {A B C : Hp} (h : Same A B) (g : Same B C) : Same A C := fun b o z => g b o (h b o z)
theorem Sep.grow {K0 H H1 : Hp} {L : List (Addr × HO)} (s : Sep K0 H L) (g : Same H H1) : Sep K0 H1 L := ⟨Same.tr s.ext g, s.nd, s.fr, Cells.of fun e m => g _ _ (s.cs.mem e m)⟩
theorem Sep.swap {K0 H : Hp} {L : List (Addr × HO)} {e f : Addr × HO} (s : Sep K0 H (e :: f :: L)) : Sep K0 H (f :: e :: L) := s.perm (List.Perm.swap _ _ _)
theorem Sep.own' {K0 H H' : Hp} {L : List (Addr × HO)} (s : Sep K0 H L) (g : Same H H') {p : Addr} {o : HO} (h : H p = none) (h' : H' p = some o) : Sep K0 H' ((p, o) :: L) := by
  obtain ⟨h0, hm⟩ := s.free h
  refine ⟨Same.tr s.ext g, List.nodup_cons.mpr ⟨hm, s.nd⟩, fun a ma => ?_, h', (s.grow g).cs⟩
  rcases List.mem_cons.mp ma with z | z
  · exact z ▸ h0
  · exact s.fr a z
theorem atIm {v : V} {l : List V} : atI (l ++ [v]) (-1) = some v := by
  unfold atI ixN
  rw [if_neg (by decide), if_pos (by simp; omega)]
  simp
  rw [show (-1 + ((l.length : Int) + 1)).toNat = l.length by omega]
  simp
theorem atIn {α : Type} {l : List α} {n : Nat} {v : α} (h : l[n]? = some v) : atI l (n : Nat) = some v := by
  have hn : n < l.length := by
    rcases Nat.lt_or_ge n l.length with z | z
    · exact z
    · rw [List.getElem?_eq_none z] at h; cases h
  unfold atI ixN
  rw [if_pos (by omega), if_pos (by omega)]
  simpa using h
theorem psnoc {α β : Type} {F : α → β → Prop} {m : List β} {b : β} : ∀ {l : List α}, Paired F l (m ++ [b]) → ∃ l' a, l = l' ++ [a] ∧ Paired F l' m ∧ F a b := by
  induction m with
  | nil =>
    intro l h
    cases h with
    | cons f p => cases p with
      | nil => exact ⟨[], _, rfl, .nil, f⟩
  | cons c m ih =>
    intro l h
    cases h with
    | cons f p =>
      obtain ⟨l', a, rfl, p', f'⟩ := ih p
      exact ⟨_ :: l', a, rfl, .cons f p', f'⟩
theorem Same.lst {K : PySem.W.Frag} {H H' : Hp} {a : Addr} {xs : List V} (e : Same H H') (h : SqL K H a xs) : SqL K H' a xs := h.elim (fun h => .inl (Same.rd e h)) .inr
section
variable {K0 H : Hp} {L : List (Addr × HO)} {a1 a2 a3 a4 a5 : Addr × HO} {a : Addr} {x y : HO}
theorem Sep.c2 (s : Sep K0 H (a1 :: a2 :: (a, x) :: L)) : H a = some x := s.cs.2.2.1
theorem Sep.c3 (s : Sep K0 H (a1 :: a2 :: a3 :: (a, x) :: L)) : H a = some x := s.cs.2.2.2.1
theorem Sep.c4 (s : Sep K0 H (a1 :: a2 :: a3 :: a4 :: (a, x) :: L)) : H a = some x := s.cs.2.2.2.2.1
theorem Sep.c5 (s : Sep K0 H (a1 :: a2 :: a3 :: a4 :: a5 :: (a, x) :: L)) : H a = some x := s.cs.2.2.2.2.2.1
theorem Sep.put1 (s : Sep K0 H (a1 :: (a, x) :: L)) : Sep K0 (upd H a y) (a1 :: (a, y) :: L) := Sep.put (L1 := [a1]) s
theorem Sep.put2 (s : Sep K0 H (a1 :: a2 :: (a, x) :: L)) : Sep K0 (upd H a y) (a1 :: a2 :: (a, y) :: L) := Sep.put (L1 := [a1, a2]) s
theorem Sep.put3 (s : Sep K0 H (a1 :: a2 :: a3 :: (a, x) :: L)) : Sep K0 (upd H a y) (a1 :: a2 :: a3 :: (a, y) :: L) := Sep.put (L1 := [a1, a2, a3]) s
theorem Sep.put4 (s : Sep K0 H (a1 :: a2 :: a3 :: a4 :: (a, x) :: L)) : Sep K0 (upd H a y) (a1 :: a2 :: a3 :: a4 :: (a, y) :: L) := Sep.put (L1 := [a1, a2, a3, a4]) s
theorem Sep.put5 (s : Sep K0 H (a1 :: a2 :: a3 :: a4 :: a5 :: (a, x) :: L)) : Sep K0 (upd H a y) (a1 :: a2 :: a3 :: a4 :: a5 :: (a, y) :: L) := Sep.put (L1 := [a1, a2, a3, a4, a5]) s
end
theorem Sep.up2 {K0 H : Hp} {L : List (Addr × HO)} {a1 a2 e : Addr × HO} (s : Sep K0 H (a1 :: a2 :: e :: L)) : Sep K0 H (e :: a1 :: a2 :: L) := s.perm (List.perm_middle (l₁ := [a1, a2])).symm
theorem small8 {n : Nat} (h : n ≤ 8) : n ≤ sizeLine := Nat.le_trans h (by decide)
theorem sm {n m : Nat} (h : n ≤ m) (h2 : m ≤ sizeLine := by decide) : n ≤ sizeLine := Nat.le_trans h h2
theorem hu64_of {k : Nat} {A : Around} (h : Room k A) : A.units + 64 < cLine := by
  have := h.un
  omega
theorem pmap {α β γ : Type} {F : γ → β → Prop} {f : α → γ} {g : α → β} : ∀ {l : List α}, (∀ a ∈ l, F (f a) (g a)) → Paired F (l.map f) (l.map g)
  | [], _ => .nil
  | a :: l, h => .cons (h a List.mem_cons_self) (pmap fun b m => h b (List.mem_cons_of_mem _ m))
theorem papp {α β : Type} {F : α → β → Prop} {l2 : List α} {m2 : List β} (h2 : Paired F l2 m2) : ∀ {l1 : List α} {m1 : List β}, Paired F l1 m1 → Paired F (l1 ++ l2) (m1 ++ m2)
  | _, _, .nil => h2
  | _, _, .cons a p => .cons a (papp h2 p)
theorem psnoc' {α β : Type} {F : α → β → Prop} {l : List α} {m : List β} {a : α} {b : β} (h : Paired F l m) (f : F a b) : Paired F (l ++ [a]) (m ++ [b]) := papp (.cons f .nil) h
theorem ptake {α β : Type} {F : α → β → Prop} : ∀ {l : List α} {m : List β}, Paired F l m → ∀ i, Paired F (l.take i) (m.take i)
  | _, _, .nil, i => by simp; exact .nil
  | _, _, .cons a p, 0 => .nil
  | _, _, .cons a p, i + 1 => .cons a (ptake p i)
theorem prev {α β : Type} {F : α → β → Prop} : ∀ {l : List α} {m : List β}, Paired F l m → Paired F l.reverse m.reverse
  | _, _, .nil => .nil
  | _, _, .cons a p => by
    rw [List.reverse_cons, List.reverse_cons]
    exact psnoc' (prev p) a
theorem lookup_mapk {f : Str × NameKind → Str × NameKind} (h1 : ∀ p, (f p).1 = p.1) (h2 : ∀ p : Str × NameKind, (p.2 = .cell ∨ p.2 = .free) → ((f p).2 = .cell ∨ (f p).2 = .free)) : ∀ {names : List (Str × NameKind)} {x : Str}, (names.lookup x = some .cell ∨ names.lookup x = some .free) → ((names.map f).lookup x = some .cell ∨ (names.map f).lookup x = some .free)
  | [], _, h => by simp at h
  | p :: r, x, h => by
    have ih := lookup_mapk h1 h2 (names := r) (x := x)
    rw [List.map_cons]
    obtain ⟨n, k⟩ := p
    generalize hf : f (n, k) = q
    obtain ⟨n', k'⟩ := q
    have e1 : n' = n := by
      have z := h1 (n, k)
      rw [hf] at z
      exact z
    have e2 : (k = .cell ∨ k = .free) → (k' = .cell ∨ k' = .free) := fun z => by
      have y := h2 (n, k) z
      rw [hf] at y
      exact y
    subst e1
    rw [List.lookup_cons]
    rw [List.lookup_cons] at h
    cases hx : x == n' with
    | true =>
      rw [hx] at h
      simp only [Option.some.injEq] at h ⊢
      exact e2 h
    | false =>
      rw [hx] at h
      exact ih h
/-- a comprehension within one: its block is well-formed in the relabelled scope, too -/
theorem blkOk_rel {N : List Str} {sc scope : Scope} {own : List (Str × Nat)} {env : Env} (h : blkC N sc scope own = true) : BlkOk N (relabel sc env) scope own := by
  have b := blkOk_by h
  refine ⟨b.kind, b.uniq, b.ix, fun y hy e => ?_, b.own⟩
  refine lookup_mapk (f := fun p => if (p.2 == NameKind.free && env.scope.kind == .function && env.kindOf p.1 == some .cell) then (p.1, NameKind.cell) else (p.1, p.2)) (fun p => ?_) (fun p hp => ?_) (b.free y hy e)
  · split <;> rfl
  · split
    · exact .inl rfl
    · exact hp
end Cb

/-! zip of a tuple and a list -/
namespace Cb
open PySem PySem.Spec PyProof.Rows L2
/-- turn by turn, the tuple's and the list's item in a fresh pair -/
def ItzM (K : PySem.W.Frag) (a b : Addr) : It :=
  ⟨fun i H => ∃ (us vs : List V) (u v : V), SqT K H a us ∧ SqL K H b vs ∧ us[i]? = some u ∧ vs[i]? = some v,
   fun i H r H' => ∃ T u v, r = .ref T ∧ H T = none ∧ H' = upd H T (.tup [u, v]) ∧ (∀ us, SqT K H a us → us[i]? = some u) ∧ ∀ vs, SqL K H b vs → vs[i]? = some v,
   fun i H => ∃ us vs : List V, SqT K H a us ∧ SqL K H b vs ∧ us.length = i ∧ vs.length = i⟩
structure ZmSt (z TI TO i1 i2 a b : Addr) (i : Nat) (h : Heap) : Prop where
  zp : IsZip h z TI TO .none
  ti : IsTupOf2 h TI (.ref i1) (.ref i2)
  to_ : ∃ x y, IsTupOf2 h TO x y
  t1 : h.IsTupleIter i1 a i
  t2 : h.IsListIter i2 b i
theorem turn_zipM {P : Program} {w : World} {K : PySem.W.Frag} {elts : List Expr} {kk : Nat} {tpos : Pos} {a b z TI TO i1 i2 : Addr} (S : ZipSep2 z TI TO i1 i2 [i1, a] [i2, b]) :
    Turn P w K (.Tuple elts kk tpos) (ItzM K a b) [z, TI, TO, i1, i2] z (ZmSt z TI TO i1 i2 a b) where
  mem := List.mem_cons_self
  obj := fun i h st c m => by
    obtain ⟨o1, e1, _, d1⟩ := st.t1
    obtain ⟨o2, e2, _, d2⟩ := st.t2
    obtain ⟨x, y, e3⟩ := st.to_
    simp only [List.mem_cons, List.not_mem_nil, or_false] at m
    rcases m with rfl | rfl | rfl | rfl | rfl
    · exact ⟨_, st.zp, fun v q => nomatch q⟩
    · exact ⟨_, st.ti, fun v q => nomatch q⟩
    · exact ⟨_, e3, fun v q => nomatch q⟩
    · exact ⟨o1, e1, fun v q => by rw [d1] at q; cases q⟩
    · exact ⟨o2, e2, fun v q => by rw [d2] at q; cases q⟩
  keep := fun i h h' st k => by
    obtain ⟨x, y, e3⟩ := st.to_
    exact ⟨k z (by simp) _ st.zp, k TI (by simp) _ st.ti, ⟨x, y, k TO (by simp) _ e3⟩, st.t1.at fun o q => k i1 (by simp) o q, st.t2.at fun o q => k i2 (by simp) o q⟩
  item := by
    intro X hP hw hK hc i pins s σ H E I hf st hg
    subst hP hw hK
    obtain ⟨us, vs, u, v, q1, q2, e1, e2⟩ := hg
    obtain ⟨l1, r1, p1, _⟩ := I.tuple q1
    obtain ⟨l2, r2, p2, _⟩ := I.list q2
    obtain ⟨u', hu, ru⟩ := r1.get e1
    obtain ⟨v', hv, rv⟩ := r2.get e2
    obtain ⟨x0, y0, hTO⟩ := st.to_
    have zlt : z < s.heap.objs.size := Heap.lt_size st.zp
    have n1 : a ≠ i1 := fun e => by
      obtain ⟨o, ho, hc1, _⟩ := st.t1
      obtain ⟨o2, ho2, hc2, _⟩ := (show s.heap.IsTuple a l1.toArray from p1)
      rw [e, ho] at ho2
      cases ho2
      rw [hc1] at hc2
      exact absurd (Value.type.inj hc2) (by decide)
    have n2 : b ≠ i2 := fun e => by
      obtain ⟨o, ho, hc1, _⟩ := st.t2
      obtain ⟨o2, ho2, hc2, _⟩ := p2.isList
      rw [e, ho] at ho2
      cases ho2
      rw [hc1] at hc2
      exact absurd (Value.type.inj hc2) (by decide)
    have D1 := Draws.tuple (prog := X.prog) (w := X.w) (A := X.A.in1) (I.ok.hd hc) i1 a n1 l1.toArray
    have D2 := Draws.list (prog := X.prog) (w := X.w) (A := X.A.in1) (I.ok.hd hc) i2 b n2 l2.toArray
    have hi1 : i < l1.toArray.size := by simpa using (List.getElem?_eq_some_iff.mp hu).1
    have hi2 : i < l2.toArray.size := by simpa using (List.getElem?_eq_some_iff.mp hv).1
    refine wpAny_pyNext_zipD2_item S D1 D2 st.zp st.ti hTO ⟨st.t1, p1⟩ ⟨st.t2, p2.isList⟩ hi1 hi2 fun x1 x2 h' tk y1 y2 z' TO' s1' s2' hT hsz hk => ?_
    have g1 : x1 = u' := Option.some.inj ((show l1[i]? = some x1 by simpa using y1).symm.trans hu)
    have g2 : x2 = v' := Option.some.inj ((show l2[i]? = some x2 by simpa using y2).symm.trans hv)
    subst g1 g2
    refine ⟨_, rfl, wpAny_letOwnedTupleGo_zip (s := { s with heap := h', toks := tk }) z' fun h'' z'' sb => ?_⟩
    have far : ∀ c, c ≠ z → ∀ o, h'.get? c = some o → h''.get? c = some o := fun c hc' o q => (sb.2 c hc').trans q
    have hT2 : h''.get? s.heap.objs.size = some { cls := .type "tuple", data := .seq #[x1, x2] } := far _ (Nat.ne_of_gt zlt) _ hT
    have new : ObjOk X.prog X.w (upd H s.heap.objs.size (.tup [u, v])) h'' s.heap.objs.size (.tup [u, v]) :=
      ⟨by show 2 ≤ sizeLine; decide, [x1, x2], .cons ru (.cons rv .nil), ⟨_, hT2, rfl, _, rfl⟩⟩
    have I1 : Inv X pins σ (upd H s.heap.objs.size (.tup [u, v])) { s with heap := h'', toks := tk } := by
      refine I.turnedNew (ch := [z, TI, TO, i1, i2]) (fun c o m q => ?_) hf (Nat.le_refl _) new
      simp only [List.mem_cons, List.not_mem_nil, or_false, not_or] at m
      exact far c m.1 o (hk c o m.1 m.2.2.1 m.2.2.2.1 m.2.2.2.2 q)
    refine ⟨.ref s.heap.objs.size, _, I1, rfl, ⟨_, u, v, rfl, I.hok.fresh (Nat.le_refl _), rfl, fun ys h => by rw [I.tuple_inj h q1]; exact e1, fun ys h => by rw [I.list_inj h q2]; exact e2⟩, ⟨z'', ?_, ⟨x1, x2, ?_⟩, ?_, ?_⟩, fun c m => ?_⟩
    · exact far _ S.TIz _ (hk _ _ S.TIz S.TITO S.TIi1 S.TIi2 st.ti)
    · exact far _ S.TOz _ TO'
    · exact s1'.1.at fun o q => far _ S.zi1.symm o q
    · exact s2'.1.at fun o q => far _ S.zi2.symm o q
    · have hlt : c < s.heap.objs.size := by
        simp only [List.mem_cons, List.not_mem_nil, or_false] at m
        rcases m with rfl | rfl | rfl | rfl | rfl
        · exact zlt
        · exact Heap.lt_size st.ti
        · exact Heap.lt_size hTO
        · exact st.t1.elim fun _ q => Heap.lt_size q.1
        · exact st.t2.elim fun _ q => Heap.lt_size q.1
      rw [upd_ne (Nat.ne_of_lt hlt)]
      exact (hf c m).1
  done := by
    intro X hP hw hK hc i pins s σ H E I hf st hg
    subst hP hw hK
    obtain ⟨us, vs, q1, q2, hl, hle⟩ := hg
    obtain ⟨l1, r1, p1, _⟩ := I.tuple q1
    obtain ⟨l2, r2, p2, _⟩ := I.list q2
    obtain ⟨x0, y0, hTO⟩ := st.to_
    have z1 := r1.length
    have z2 := r2.length
    have n1 : a ≠ i1 := fun e => by
      obtain ⟨o, ho, hc1, _⟩ := st.t1
      obtain ⟨o2, ho2, hc2, _⟩ := (show s.heap.IsTuple a l1.toArray from p1)
      rw [e, ho] at ho2
      cases ho2
      rw [hc1] at hc2
      exact absurd (Value.type.inj hc2) (by decide)
    have n2 : b ≠ i2 := fun e => by
      obtain ⟨o, ho, hc1, _⟩ := st.t2
      obtain ⟨o2, ho2, hc2, _⟩ := p2.isList
      rw [e, ho] at ho2
      cases ho2
      rw [hc1] at hc2
      exact absurd (Value.type.inj hc2) (by decide)
    have D1 := Draws.tuple (prog := X.prog) (w := X.w) (A := X.A.in1) (I.ok.hd hc) i1 a n1 l1.toArray
    have D2 := Draws.list (prog := X.prog) (w := X.w) (A := X.A.in1) (I.ok.hd hc) i2 b n2 l2.toArray
    have g1 : i = l1.toArray.size := by
      rw [List.size_toArray]
      omega
    have g2 : i = l2.toArray.size := by
      rw [List.size_toArray]
      omega
    refine wpAny_pyNext_zipD2_end (A := X.A) S D1 D2 st.zp st.ti hTO ⟨st.t1, p1⟩ ⟨st.t2, p2.isList⟩ (Nat.le_of_eq g1) (Nat.le_of_eq g2) (.inl g1) fun h' tk hk => ⟨rfl, ?_⟩
    refine I.turnedL (ch := [z, TI, TO, i1, i2]) (fun c o m q => ?_) hf
    simp only [List.mem_cons, List.not_mem_nil, or_false, not_or] at m
    exact hk c o m.1 m.2.2.1 m.2.2.2.1 m.2.2.2.2 q
  self := fun A i s Q E st h => wpAny_pyIter_zip st.zp h
def iZipM (K : PySem.W.Frag) (ta : TA) : TI := fun σ H R => ta σ H fun vs H1 => ∃ a b us ws, vs = [.ref a, .ref b] ∧ SqT K H1 a us ∧ SqL K H1 b ws ∧ R (ItzM K a b) H1
theorem pi_zipM {X : Cx} {e e2 : Expr} {ta : TA} {p pos tpos : Pos} {elts : List Expr} {kk : Nat} (hg : Gl X "zip") (hm : X.mg "zip" = none) (ha : PA X [e, e2] ta)
    (hs : starEach [e, e2] X.env = (false, eval e X.env) :: starEach [e2] X.env := by rfl) (hpl : (backTo pos (starEach [e2] X.env)).any (·.1) = false := by rfl) : PI X (.Tuple elts kk tpos) (.Call (.Name "zip" p) [e, e2] [] pos) (iZipM X.K ta) := by
  refine ⟨fun pins s σ H R I h => ?_⟩
  refine Call_ (ld_blt I hg hm boot_zip (callWith_type1 (thn (ha.run pos pins s σ H _ I h) fun us s1 zz => ?_) hs hpl))
  obtain ⟨vs, H1, I1, r1, a, b, xs, ys, ex, hx, hy, q⟩ := zz
  subst ex
  cases r1 with
  | cons r rr =>
    cases rr with
    | cons r' rr =>
      cases rr
      cases r
      cases r'
      obtain ⟨l1, w1, p1, _⟩ := I1.tuple hx
      obtain ⟨l2, w2, p2, _⟩ := I1.list hy
      have la : a < s1.heap.objs.size := by
        obtain ⟨o, ho, _⟩ := (show s1.heap.IsTuple a l1.toArray from p1)
        exact Heap.lt_size ho
      have lb : b < s1.heap.objs.size := p2.lt
      refine zip_begins2 (begins_tuple a l1.toArray) (begins_list b l2.toArray) p1 p2.isList fun h' hz hTI hTO g1 g2 hsz hk => wpAny_pyIter_zip hz ?_
      have I2 : Inv X pins σ H1 { s1 with heap := h' } := I1.kept (t' := s1.toks) hk
      refine ⟨s1.heap.objs.size + 4, [s1.heap.objs.size + 4, s1.heap.objs.size + 2, s1.heap.objs.size + 3, s1.heap.objs.size, s1.heap.objs.size + 1], _, _, H1, rfl, I2, turn_zipM (zip_sep2 (fun c m => by rw [List.mem_singleton.mp m]; exact la) fun c m => by rw [List.mem_singleton.mp m]; exact lb), ⟨hz, hTI, ⟨_, _, hTO⟩, ⟨_, g1, rfl, rfl⟩, ⟨_, g2, rfl, rfl⟩⟩, fun c m => ?_, q⟩
      have hle : s1.heap.objs.size ≤ c := by
        simp only [List.mem_cons, List.not_mem_nil, or_false] at m
        rcases m with rfl | rfl | rfl | rfl | rfl
        · exact Nat.le_add_right _ _
        · exact Nat.le_add_right _ _
        · exact Nat.le_add_right _ _
        · exact Nat.le_refl _
        · exact Nat.le_add_right _ _
      exact I1.fpOk hle (I1.hok.fresh hle)
theorem walk_zipM {K : PySem.W.Frag} {a b : Addr} {us vs : List V} (hl : us.length = vs.length) : Walk (ItzM K a b) us.length (fun H => SqT K H a us ∧ SqL K H b vs) (YPair (fun i => us[i]?) (fun i => vs[i]?)) := by
  refine ⟨fun i H hi q => ⟨us, vs, us[i], vs[i], q.1, q.2, by simp [hi], by simp [hl ▸ hi]⟩, fun H q => ⟨us, vs, q.1, q.2, rfl, hl.symm⟩, fun i H v H' hi q y => ?_⟩
  obtain ⟨T, u, v, y1, y2, y3, y4, y5⟩ := y
  exact ⟨T, u, v, y1, y2, y3, y4 us q.1, y5 vs q.2⟩
end Cb

/-! balance, without Python: moves of loads, their spreads -/
namespace Cb
abbrev Mv := Int × Int
def mxL : List Int → Int
  | [] => 0
  | x :: xs => xs.foldl max x
def mnL : List Int → Int
  | [] => 0
  | x :: xs => xs.foldl min x
theorem foldl_max_le {xs : List Int} {x : Int} : x ≤ xs.foldl max x ∧ ∀ y ∈ xs, y ≤ xs.foldl max x := by
  induction xs generalizing x with
  | nil => exact ⟨Int.le_refl _, fun _ m => nomatch m⟩
  | cons z zs ih =>
    obtain ⟨h1, h2⟩ := ih (x := max x z)
    refine ⟨Int.le_trans (Int.le_max_left _ _) h1, fun y m => ?_⟩
    rcases List.mem_cons.mp m with e | m
    · rw [e]
      exact Int.le_trans (Int.le_max_right _ _) h1
    · exact h2 y m
theorem foldl_max_mem {xs : List Int} {x : Int} : xs.foldl max x ∈ x :: xs := by
  induction xs generalizing x with
  | nil => exact List.mem_singleton.mpr rfl
  | cons z zs ih =>
    have h := ih (x := max x z)
    rcases List.mem_cons.mp h with e | m
    · show List.foldl max (max x z) zs ∈ _
      rw [e]
      by_cases c : x ≤ z
      · rw [Int.max_eq_right c]
        simp
      · rw [Int.max_eq_left (by omega)]
        simp
    · exact List.mem_cons_of_mem _ (List.mem_cons_of_mem _ m)
theorem mxL_of {ns : List Int} {m : Int} (h : m ∈ ns) (h2 : ∀ y, y ∈ ns → y ≤ m) : m = mxL ns := by
  cases ns with
  | nil => cases h
  | cons x xs =>
    obtain ⟨a, b⟩ := foldl_max_le (xs := xs) (x := x)
    have c := h2 _ (foldl_max_mem (xs := xs) (x := x))
    refine Int.le_antisymm ?_ c
    rcases List.mem_cons.mp h with e | m
    · exact e ▸ a
    · exact b _ m
theorem foldl_min_le {xs : List Int} {x : Int} : xs.foldl min x ≤ x ∧ ∀ y ∈ xs, xs.foldl min x ≤ y := by
  induction xs generalizing x with
  | nil => exact ⟨Int.le_refl _, fun _ m => nomatch m⟩
  | cons z zs ih =>
    obtain ⟨h1, h2⟩ := ih (x := min x z)
    refine ⟨Int.le_trans h1 (Int.min_le_left _ _), fun y m => ?_⟩
    rcases List.mem_cons.mp m with e | m
    · rw [e]
      exact Int.le_trans h1 (Int.min_le_right _ _)
    · exact h2 y m
theorem foldl_min_mem {xs : List Int} {x : Int} : xs.foldl min x ∈ x :: xs := by
  induction xs generalizing x with
  | nil => exact List.mem_singleton.mpr rfl
  | cons z zs ih =>
    have h := ih (x := min x z)
    rcases List.mem_cons.mp h with e | m
    · show List.foldl min (min x z) zs ∈ _
      rw [e]
      by_cases c : x ≤ z
      · rw [Int.min_eq_left c]
        simp
      · rw [Int.min_eq_right (by omega)]
        simp
    · exact List.mem_cons_of_mem _ (List.mem_cons_of_mem _ m)
theorem mnL_mem {ns : List Int} (h : ns ≠ []) : mnL ns ∈ ns := by
  cases ns with
  | nil => exact absurd rfl h
  | cons x xs => exact foldl_min_mem
theorem mnL_le {ns : List Int} {y : Int} (h : y ∈ ns) : mnL ns ≤ y := by
  cases ns with
  | nil => cases h
  | cons x xs =>
    obtain ⟨a, b⟩ := foldl_min_le (xs := xs) (x := x)
    rcases List.mem_cons.mp h with e | m
    · exact e ▸ a
    · exact b _ m
theorem mnL_of {ns : List Int} {m : Int} (h : m ∈ ns) (h2 : ∀ y, y ∈ ns → m ≤ y) : m = mnL ns :=
  Int.le_antisymm (h2 _ (mnL_mem fun e => by rw [e] at h; cases h)) (mnL_le h)
theorem mxL_mem {ns : List Int} (h : ns ≠ []) : mxL ns ∈ ns := by
  cases ns with
  | nil => exact absurd rfl h
  | cons x xs => exact foldl_max_mem

/-- the sum of the first i loads that are at p -/
def sumTo (ls ps : List Int) (i : Nat) (p : Int) : Int := (((List.range i).filter fun k => decide (ps.getD k 0 = p)).map fun k => ls.getD k 0).sum
theorem sumTo_zero {ls ps : List Int} {p : Int} : sumTo ls ps 0 p = 0 := rfl
theorem sumTo_succ {ls ps : List Int} {i : Nat} {p : Int} : sumTo ls ps (i + 1) p = sumTo ls ps i p + if ps.getD i 0 = p then ls.getD i 0 else 0 := by
  unfold sumTo
  rw [List.range_succ, List.filter_append, List.map_append, List.sum_append]
  congr 1
  by_cases h : ps.getD i 0 = p
  · rw [if_pos h]
    simp only [List.filter_cons, List.filter_nil, decide_eq_true h, if_true]
    simp
  · rw [if_neg h]
    simp only [List.filter_cons, List.filter_nil, decide_eq_false h]
    rfl
def sums (ls ps : List Int) (c : Nat) : List Int := (List.range c).map fun p => sumTo ls ps ls.length (p : Nat)
def diffI (ls ps : List Int) (c : Nat) : Int := mxL (sums ls ps c) - mnL (sums ls ps c)
theorem sumTo_bd {ls ps : List Int} (h : ∀ x ∈ ls, 0 ≤ x ∧ x ≤ 1000) : ∀ (i : Nat) (p : Int), 0 ≤ sumTo ls ps i p ∧ sumTo ls ps i p ≤ 1000 * i
  | 0, p => by rw [sumTo_zero]; omega
  | i + 1, p => by
    have a := sumTo_bd (ps := ps) h i p
    have b : 0 ≤ ls.getD i 0 ∧ ls.getD i 0 ≤ 1000 := by
      rw [List.getD_eq_getElem?_getD]
      cases e : ls[i]? with
      | none => simp
      | some x => exact h x (List.mem_of_getElem? e)
    rw [sumTo_succ]
    split <;> omega
theorem diffI_bd {ls ps : List Int} {c : Nat} (hc : 0 < c) (h : ∀ x ∈ ls, 0 ≤ x ∧ x ≤ 1000) : 0 ≤ diffI ls ps c ∧ diffI ls ps c ≤ 1000 * ls.length := by
  have ne : sums ls ps c ≠ [] := by
    unfold sums
    intro e
    have := congrArg List.length e
    simp at this
    omega
  have bd : ∀ y ∈ sums ls ps c, 0 ≤ y ∧ y ≤ 1000 * ls.length := fun y m => by
    obtain ⟨p, _, rfl⟩ := List.mem_map.mp m
    exact sumTo_bd h _ _
  have a := bd _ (mxL_mem ne)
  have b := bd _ (mnL_mem ne)
  have d := mnL_le (mxL_mem ne)
  unfold diffI
  omega

/-- what moves make of the places -/
def movedL (ps : List Int) (ms : List Mv) : List Int := ms.foldl (fun l m => l.set m.1.toNat m.2) ps
theorem movedL_len {ms : List Mv} : ∀ {ps : List Int}, (movedL ps ms).length = ps.length := by
  induction ms with
  | nil => intro ps; rfl
  | cons m ms ih =>
    intro ps
    show (movedL (ps.set m.1.toNat m.2) ms).length = _
    rw [ih, List.length_set]
theorem movedL_snoc {ps : List Int} {ms : List Mv} {m : Mv} : movedL ps (ms ++ [m]) = (movedL ps ms).set m.1.toNat m.2 := by
  unfold movedL
  rw [List.foldl_append]
  rfl
/-- moves of loads of the list, to processors, each to another one than it is on -/
def MvOk (ps : List Int) (c : Nat) (m : Mv) : Prop := 0 ≤ m.1 ∧ m.1 < ps.length ∧ 0 ≤ m.2 ∧ m.2 < c ∧ ps.getD m.1.toNat 0 ≠ m.2
theorem movedL_bd {c : Nat} {ms : List Mv} : ∀ {ps qs : List Int}, (∀ m ∈ ms, MvOk ps c m) → (∀ x ∈ qs, 0 ≤ x ∧ x < (c : Int)) → ∀ x ∈ movedL qs ms, 0 ≤ x ∧ x < (c : Int) := by
  induction ms with
  | nil => intro ps qs _ h; exact h
  | cons m ms ih =>
    intro ps qs h1 h2
    refine ih (ps := ps) (fun z mz => h1 z (List.mem_cons_of_mem _ mz)) fun x mx => ?_
    rcases List.mem_or_eq_of_mem_set mx with a | a
    · exact h2 x a
    · have := h1 m List.mem_cons_self
      exact a ▸ ⟨this.2.2.1, this.2.2.2.1⟩

/-- the lists of so many moves of loads from the s-th on -/
def rowF (ps : List Int) (c : Nat) (at_ : Nat) (behind : List (List Mv)) : List (List Mv) :=
  (List.range c).flatMap fun p => if ((p : Nat) : Int) = ps.getD at_ 0 then [] else behind.map fun ms => ((at_ : Int), ((p : Nat) : Int)) :: ms
def mlists (ps : List Int) (c : Nat) : Nat → Nat → List (List Mv)
  | 0, _ => [[]]
  | L + 1, s => (List.range (ps.length - s)).flatMap fun j => rowF ps c (s + j) (mlists ps c L (s + j + 1))
theorem mem_rowF {ps : List Int} {c at_ : Nat} {b : List (List Mv)} {ms : List Mv} (h : ms ∈ rowF ps c at_ b) : ∃ (p : Nat) (r : List Mv), p < c ∧ (p : Int) ≠ ps.getD at_ 0 ∧ r ∈ b ∧ ms = ((at_ : Int), (p : Int)) :: r := by
  unfold rowF at h
  obtain ⟨p, hp, h⟩ := List.mem_flatMap.mp h
  by_cases e : ((p : Nat) : Int) = ps.getD at_ 0
  · rw [if_pos e] at h
    cases h
  · rw [if_neg e] at h
    obtain ⟨r, hr, rfl⟩ := List.mem_map.mp h
    exact ⟨p, r, List.mem_range.mp hp, e, hr, rfl⟩
structure MsOk (ps : List Int) (c L s : Nat) (ms : List Mv) : Prop where
  len : ms.length = L
  ok : ∀ m ∈ ms, MvOk ps c m
  lo : ∀ m ∈ ms, (s : Int) ≤ m.1
  asc : (ms.map (·.1)).Pairwise (· < ·)
theorem mlists_ok {ps : List Int} {c : Nat} : ∀ {L s : Nat} {ms : List Mv}, ms ∈ mlists ps c L s → MsOk ps c L s ms
  | 0, s, ms, h => by
    obtain rfl : ms = [] := List.mem_singleton.mp h
    exact ⟨rfl, fun _ m => (nomatch m), fun _ m => (nomatch m), List.Pairwise.nil⟩
  | L + 1, s, ms, h => by
    obtain ⟨j, hj, h⟩ := List.mem_flatMap.mp h
    have hj' := List.mem_range.mp hj
    obtain ⟨p, r, hp, hne, hr, rfl⟩ := mem_rowF h
    have ih := mlists_ok hr
    refine ⟨by simp [ih.len], fun m hm => ?_, fun m hm => ?_, ?_⟩
    · rcases List.mem_cons.mp hm with e | hm
      · subst e
        refine ⟨by show (0 : Int) ≤ ((s + j : Nat) : Int); omega, by show ((s + j : Nat) : Int) < _; omega, by show (0 : Int) ≤ (p : Int); omega, by show (p : Int) < _; omega, ?_⟩
        show ps.getD (((s + j : Nat) : Int)).toNat 0 ≠ (p : Int)
        rw [Int.toNat_natCast]
        exact Ne.symm hne
      · exact ih.ok m hm
    · rcases List.mem_cons.mp hm with e | hm
      · subst e
        show (s : Int) ≤ ((s + j : Nat) : Int)
        omega
      · have := ih.lo m hm
        omega
    · rw [List.map_cons, List.pairwise_cons]
      refine ⟨fun x hx => ?_, ih.asc⟩
      obtain ⟨m, hm, rfl⟩ := List.mem_map.mp hx
      have := ih.lo m hm
      show ((s + j : Nat) : Int) < m.1
      omega
theorem flatMap_len_le {α β : Type} {f : α → List β} {k : Nat} : ∀ {l : List α}, (∀ x ∈ l, (f x).length ≤ k) → (l.flatMap f).length ≤ l.length * k
  | [], _ => by simp
  | x :: xs, h => by
    have a := h x List.mem_cons_self
    have b := flatMap_len_le (f := f) (k := k) (l := xs) fun y m => h y (List.mem_cons_of_mem _ m)
    rw [List.flatMap_cons, List.length_append, List.length_cons, Nat.add_mul]
    omega
theorem rowF_len {ps : List Int} {c at_ : Nat} {b : List (List Mv)} : (rowF ps c at_ b).length ≤ c * b.length := by
  have := flatMap_len_le (f := fun p : Nat => if ((p : Nat) : Int) = ps.getD at_ 0 then [] else b.map fun ms => ((at_ : Int), ((p : Nat) : Int)) :: ms) (k := b.length) (l := List.range c) fun x _ => by
    split <;> simp
  simpa [rowF] using this
theorem flatMap_pow {β : Type} {c : Nat} : ∀ {k : Nat} {f : Nat → List β}, (∀ j, j < k → (f j).length ≤ c * (c + 1) ^ (k - 1 - j)) → ((List.range k).flatMap f).length + 1 ≤ (c + 1) ^ k
  | 0, f, _ => by simp
  | k + 1, f, h => by
    have a := h 0 (by omega)
    have b := flatMap_pow (c := c) (k := k) (f := fun j => f (j + 1)) fun j hj => by
      have z := h (j + 1) (by omega)
      rwa [show k + 1 - 1 - (j + 1) = k - 1 - j by omega] at z
    rw [List.range_succ_eq_map, List.flatMap_cons, List.length_append, List.flatMap_map]
    rw [show k + 1 - 1 - 0 = k by omega] at a
    have d : (c + 1) ^ (k + 1) = c * (c + 1) ^ k + (c + 1) ^ k := by
      rw [Nat.pow_succ, Nat.mul_comm, Nat.add_mul, Nat.one_mul]
    rw [d]
    show (f 0).length + ((List.range k).flatMap fun j => f (j + 1)).length + 1 ≤ _
    omega
theorem mlists_len {ps : List Int} {c : Nat} : ∀ {L s : Nat}, (mlists ps c L s).length ≤ (c + 1) ^ (ps.length - s)
  | 0, s => by
    show 1 ≤ _
    exact Nat.one_le_pow _ _ (by omega)
  | L + 1, s => by
    have h := flatMap_pow (c := c) (k := ps.length - s) (f := fun j => rowF ps c (s + j) (mlists ps c L (s + j + 1))) fun j hj => by
      refine Nat.le_trans rowF_len (Nat.mul_le_mul_left _ (Nat.le_trans mlists_len ?_))
      exact Nat.pow_le_pow_right (by omega) (by omega)
    exact Nat.le_of_lt h
theorem mlists_len7 {ps : List Int} {c L s : Nat} (hc : c ≤ 4) (hp : ps.length ≤ 7) : (mlists ps c L s).length ≤ 78125 := by
  refine Nat.le_trans mlists_len (Nat.le_trans (Nat.pow_le_pow_left (by omega : c + 1 ≤ 5) _) ?_)
  exact Nat.le_trans (Nat.pow_le_pow_right (by omega) (by omega : ps.length - s ≤ 7)) (by decide)
/-- all lists, the shortest first -/
def allL (ps : List Int) (c k : Nat) : List (List Mv) := (List.range k).flatMap fun L => mlists ps c L 0
theorem mem_allL {ps : List Int} {c k : Nat} {ms : List Mv} : ms ∈ allL ps c k ↔ ∃ L, L < k ∧ ms ∈ mlists ps c L 0 := by
  unfold allL
  simp [List.mem_flatMap]
def leastP (ls ps : List Int) (c k : Nat) : Int := mnL ((allL ps c (min k ls.length + 1)).map fun ms => diffI ls (movedL ps ms) c)
def goodB (ls ps : List Int) (c : Nat) (b : Int) (ms : List Mv) : Bool := decide (diffI ls (movedL ps ms) c ≤ b)
def fewP (ls ps : List Int) (c : Nat) (b : Int) : Option (List Mv) := (allL ps c (ls.length + 1)).find? (goodB ls ps c b)
theorem nil_allL {ps : List Int} {c k : Nat} : ([] : List Mv) ∈ allL ps c (k + 1) := mem_allL.mpr ⟨0, by omega, List.mem_singleton.mpr rfl⟩
theorem least_ne {ls ps : List Int} {c k : Nat} : (allL ps c (k + 1)).map (fun ms => diffI ls (movedL ps ms) c) ≠ [] := fun e => by
  have z := List.mem_map_of_mem (f := fun ms => diffI ls (movedL ps ms) c) (nil_allL (ps := ps) (c := c) (k := k))
  rw [e] at z
  cases z
/-- the least spread is at most b: some list of at most so many moves does it -/
theorem least_le {ls ps : List Int} {c k : Nat} {b : Int} : leastP ls ps c k ≤ b ↔ ∃ L ms, L ≤ k ∧ L ≤ ls.length ∧ ms ∈ mlists ps c L 0 ∧ diffI ls (movedL ps ms) c ≤ b := by
  constructor
  · intro h
    obtain ⟨ms, hm, e⟩ := List.mem_map.mp (mnL_mem (least_ne (ls := ls) (ps := ps) (c := c) (k := min k ls.length)))
    obtain ⟨L, hL, hm⟩ := mem_allL.mp hm
    refine ⟨L, ms, by omega, by omega, hm, ?_⟩
    exact Int.le_trans (Int.le_of_eq e) h
  · rintro ⟨L, ms, h1, h2, hm, h3⟩
    refine Int.le_trans (mnL_le (y := diffI ls (movedL ps ms) c) ?_) h3
    exact List.mem_map_of_mem (f := fun ms => diffI ls (movedL ps ms) c) (mem_allL.mpr ⟨L, by omega, hm⟩)
theorem least_mono {ls ps : List Int} {c k k' : Nat} (h : k ≤ k') : leastP ls ps c k' ≤ leastP ls ps c k := by
  obtain ⟨L, ms, a, b, d, e⟩ := least_le.mp (Int.le_refl (leastP ls ps c k))
  exact least_le.mpr ⟨L, ms, Nat.le_trans a h, b, d, e⟩
theorem least_zero {ls ps : List Int} {c : Nat} : leastP ls ps c 0 = diffI ls ps c := by
  refine Int.le_antisymm (least_le.mpr ⟨0, [], Nat.le_refl _, Nat.zero_le _, List.mem_singleton.mpr rfl, Int.le_refl _⟩) ?_
  obtain ⟨L, ms, a, _, d, e⟩ := least_le.mp (Int.le_refl (leastP ls ps c 0))
  obtain rfl : L = 0 := by omega
  obtain rfl : ms = [] := List.mem_singleton.mp d
  exact e
theorem least_bd {ls ps : List Int} {c k : Nat} (hc : 0 < c) (h : ∀ x ∈ ls, 0 ≤ x ∧ x ≤ 1000) : 0 ≤ leastP ls ps c k ∧ leastP ls ps c k ≤ 1000 * ls.length := by
  obtain ⟨ms, hm, e⟩ := List.mem_map.mp (mnL_mem (least_ne (ls := ls) (ps := ps) (c := c) (k := min k ls.length)))
  have z := diffI_bd (ps := movedL ps ms) hc h
  rw [show leastP ls ps c k = diffI ls (movedL ps ms) c from e.symm]
  exact z
theorem few_none {ls ps : List Int} {c : Nat} {b : Int} : fewP ls ps c b = none ↔ ¬ leastP ls ps c ls.length ≤ b := by
  unfold fewP
  rw [List.find?_eq_none, least_le]
  constructor
  · rintro h ⟨L, ms, h1, h2, h3, h4⟩
    exact h ms (mem_allL.mpr ⟨L, by omega, h3⟩) (decide_eq_true h4)
  · intro h ms hm hg
    obtain ⟨L, hL, hm⟩ := mem_allL.mp hm
    exact h ⟨L, ms, by omega, by omega, hm, of_decide_eq_true hg⟩
theorem find_flat {α β : Type} {f : α → List β} {p : β → Bool} {x : β} : ∀ {l : List α}, (l.flatMap f).find? p = some x → ∃ l1 a l2, l = l1 ++ a :: l2 ∧ x ∈ f a ∧ ∀ y ∈ l1, ∀ z ∈ f y, p z = false
  | [], h => by cases h
  | a :: l, h => by
    rw [List.flatMap_cons, List.find?_append] at h
    cases e : (f a).find? p with
    | some y =>
      rw [e] at h
      obtain rfl : y = x := Option.some.inj h
      exact ⟨[], a, l, rfl, List.mem_of_find?_eq_some e, fun _ m => nomatch m⟩
    | none =>
      rw [e] at h
      obtain ⟨l1, b, l2, e1, e2, e3⟩ := find_flat (l := l) h
      refine ⟨a :: l1, b, l2, by rw [e1]; rfl, e2, fun y hy z hz => ?_⟩
      rcases List.mem_cons.mp hy with q | q
      · subst q
        have := List.find?_eq_none.mp e z hz
        simpa using this
      · exact e3 y q z hz
/-- what the fewest moves are: good ones, and no shorter list is good -/
theorem few_some {ls ps : List Int} {c : Nat} {b : Int} {ms : List Mv} (h : fewP ls ps c b = some ms) : MsOk ps c ms.length 0 ms ∧ ms.length ≤ ls.length ∧ diffI ls (movedL ps ms) c ≤ b ∧ ∀ k, leastP ls ps c k ≤ b ↔ ms.length ≤ k := by
  have hg := List.find?_some h
  have hg' : diffI ls (movedL ps ms) c ≤ b := of_decide_eq_true hg
  obtain ⟨l1, L, l2, e1, e2, e3⟩ := find_flat (f := fun L => mlists ps c L 0) h
  have ok := mlists_ok e2
  have hL : L = l1.length := by
    have z : (List.range (ls.length + 1))[l1.length]? = some L := by
      rw [e1]
      simp
    have := (List.getElem?_eq_some_iff.mp z)
    obtain ⟨q, q2⟩ := this
    rw [List.getElem_range] at q2
    exact q2.symm
  have hlt : L < ls.length + 1 := List.mem_range.mp (e1 ▸ List.mem_append_right _ List.mem_cons_self)
  have hl := ok.len
  refine ⟨by rw [hl]; exact ok, by omega, hg', fun k => ⟨fun hk => ?_, fun hk => ?_⟩⟩
  · obtain ⟨L', ms', a1, a2, a3, a4⟩ := least_le.mp hk
    rcases Nat.lt_or_ge L' L with c1 | c1
    · have m1 : L' ∈ l1 := by
        have z : (List.range (ls.length + 1))[L']? = some L' := by
          rw [List.getElem?_eq_some_iff]
          exact ⟨by simp; omega, by simp⟩
        rw [e1, List.getElem?_append_left (by omega)] at z
        exact List.mem_of_getElem? z
      have := e3 L' m1 ms' a3
      rw [show goodB ls ps c b ms' = true from decide_eq_true a4] at this
      cases this
    · omega
  · exact least_le.mpr ⟨L, ms, by omega, by omega, e2, hg'⟩
/-- moves of different loads in any order -/
theorem set_set_comm {ps : List Int} {i j : Nat} {x y : Int} (h : i ≠ j) : (ps.set i x).set j y = (ps.set j y).set i x := List.set_comm x y h
theorem movedL_set {ms : List Mv} : ∀ {ps : List Int} {i : Nat} {x : Int}, (∀ m ∈ ms, m.1.toNat ≠ i) → movedL (ps.set i x) ms = (movedL ps ms).set i x := by
  induction ms with
  | nil => intro ps i x _; rfl
  | cons m ms ih =>
    intro ps i x h
    show movedL ((ps.set i x).set m.1.toNat m.2) ms = (movedL (ps.set m.1.toNat m.2) ms).set i x
    rw [List.set_comm _ _ (Ne.symm (h m List.mem_cons_self)), ih fun z hz => h z (List.mem_cons_of_mem _ hz)]
theorem movedL_rev {ps : List Int} {ms : List Mv} (h : (ms.map fun m => m.1.toNat).Nodup) : movedL ps ms.reverse = movedL ps ms := by
  induction ms generalizing ps with
  | nil => rfl
  | cons m ms ih =>
    rw [List.map_cons, List.nodup_cons] at h
    rw [List.reverse_cons, movedL_snoc, ih h.2]
    show _ = movedL (ps.set m.1.toNat m.2) ms
    rw [movedL_set fun z hz e => h.1 (List.mem_map.mpr ⟨z, hz, e⟩)]
theorem asc_nodup {ms : List Mv} (h0 : ∀ m ∈ ms, 0 ≤ m.1) (h : (ms.map (·.1)).Pairwise (· < ·)) : (ms.map fun m => m.1.toNat).Nodup := by
  induction ms with
  | nil => exact List.nodup_nil
  | cons m ms ih =>
    rw [List.map_cons, List.pairwise_cons] at h
    rw [List.map_cons, List.nodup_cons]
    refine ⟨fun q => ?_, ih (fun z hz => h0 z (List.mem_cons_of_mem _ hz)) h.2⟩
    obtain ⟨z, hz, e⟩ := List.mem_map.mp q
    have a := h.1 z.1 (List.mem_map_of_mem hz)
    have b := h0 m List.mem_cons_self
    have c := h0 z (List.mem_cons_of_mem _ hz)
    have e' : z.1.toNat = m.1.toNat := e
    omega
theorem few_self {ls ps : List Int} {c : Nat} : fewP ls ps c (diffI ls ps c) = some [] := by
  unfold fewP allL
  rw [List.range_succ_eq_map, List.flatMap_cons]
  show List.find? _ ([([] : List Mv)] ++ _) = _
  rw [List.singleton_append, List.find?_cons]
  rw [show goodB ls ps c (diffI ls ps c) [] = true from decide_eq_true (Int.le_refl _)]
end Cb

/-! sorted of a list of things that read as data -/
namespace Cb
open PySem PySem.Spec PyProof.Rows L2
open PySem.W (AllAlike Sortable dataLe EachIs alike dataLt)
/-- the items with their data, sorted by these -/
noncomputable def srtD (xs : List V) (ds : List PyData) : List (V × PyData) := (xs.zip ds).mergeSort (dataLe false Prod.snd)
def rSortDt (K : PySem.W.Frag) : List V → Hp → VK → Prop := fun vs H Q => ∃ (a : Addr) (xs : List V) (ds : List PyData), vs = [V.ref a] ∧ SqL K H a xs ∧ DpAll K H xs ds ∧ AllAlike ds ∧ Sortable ds ∧ (∀ d ∈ ds, d.depth ≤ 60) ∧
  ∀ p, H p = none → Q (.ref p) (upd H p (.lst ((srtD xs ds).map Prod.fst)))
theorem dpAll_len {K : PySem.W.Frag} {H : Hp} : ∀ {xs : List V} {ds : List PyData}, DpAll K H xs ds → xs.length = ds.length
  | _, _, .nil => rfl
  | _, _, .cons _ t => by rw [List.length_cons, List.length_cons, dpAll_len t]
theorem each_zip {X : Cx} {pins : List (Addr × Obj)} {σ : L2.St} {H : Hp} {s : Shared} (I : Inv X pins σ H s) : ∀ {xs : List V} {ds : List PyData} {us : List Value}, DpAll X.K H xs ds → Vals xs us →
    EachIs (fun (u : Value) (b : V × PyData) => RelV b.1 u) us (xs.zip ds) ∧ EachIs (fun (u : Value) (b : V × PyData) => ∃ as, Reads s.heap u b.2 as) us (xs.zip ds)
  | _, _, _, .nil, .nil => ⟨.nil, .nil⟩
  | _, _, _, .cons h t, .cons r rr => by
    obtain ⟨a, b⟩ := each_zip I t rr
    exact ⟨.cons r a, .cons (Dp.reads I _ _ _ h r) b⟩
theorem zip_snd : ∀ {xs : List V} {ds : List PyData}, xs.length = ds.length → (xs.zip ds).map Prod.snd = ds
  | [], [], _ => rfl
  | _ :: _, [], h => by cases h
  | [], _ :: _, h => by cases h
  | x :: xs, d :: ds, h => by
    rw [List.zip_cons_cons, List.map_cons, zip_snd (by simpa using h)]
theorem each_vals : ∀ {us : List Value} {bs : List (V × PyData)}, EachIs (fun (u : Value) (b : V × PyData) => RelV b.1 u) us bs → Vals (bs.map Prod.fst) us
  | _, _, .nil => .nil
  | _, _, .cons h t => .cons h (each_vals t)
theorem cr_sortDt {X : Cx} (hu : X.A.units + 64 < cLine) : CallR X (.builtin "sorted") (rSortDt X.K) := by
  intro pins s σ H vs us Q I r h
  obtain ⟨a, xs, ds, rfl, hs, hd, hal, hso, hdep, q⟩ := h
  obtain ⟨its, rv, hl, hz⟩ := I.list hs
  rw [Vals.ref1 r]
  have hlen := dpAll_len hd
  obtain ⟨e1, e2⟩ := each_zip I hd rv
  have em := zip_snd hlen
  have hzl : (xs.zip ds).length = xs.length := by rw [List.length_zip]; omega
  refine PySem.W.sorted_data (bs := xs.zip ds) (enc := Prod.snd) hl.isList e1 e2 (by rw [em]; exact hal) (by rw [em]; exact hso) (by rw [hzl]; exact hz) (fun b hb => ?_) fun out ho he => ?_
  · have := hdep b.2 (em ▸ List.mem_map_of_mem hb)
    omega
  · have hv := each_vals he
    have hln : ((srtD xs ds).map Prod.fst).length ≤ sizeLine := by
      rw [List.length_map]
      unfold srtD
      rw [List.length_mergeSort, hzl]
      exact hz
    refine ⟨.ref (s.heap.objs.size + 1), upd H (s.heap.objs.size + 1) (.lst ((srtD xs ds).map Prod.fst)), I.laid (t' := s.toks) (fun b o e => sortedAll_old e) (Nat.le_succ _) ⟨hln, out, ?_⟩, rfl, q _ (I.hok.fresh (Nat.le_succ _))⟩
    obtain ⟨n, hn⟩ := sortedAll_at s.heap its out.toArray
    exact ⟨n, hv, hn⟩
end Cb

/-! all goals of loads, with the moves that lead there -/
namespace Cb
open PySem PySem.Spec PyProof.Rows L2
open PySem.W (AllAlike Sortable dataLe EachIs alike alikeAll dataLt)
abbrev GM := List Int × List Mv
def wayStep (ps : List Int) (c k : Nat) (w : GM) : List GM := (List.range c).map fun p : Nat => (w.1 ++ [(p : Int)], w.2 ++ if (p : Int) ≠ ps.getD k 0 then [((k : Int), (p : Int))] else [])
def waysR (ps : List Int) (c : Nat) : Nat → List GM
  | 0 => [([], [])]
  | k + 1 => (waysR ps c k).flatMap (wayStep ps c k)
abbrev Way := List Mv × Int
def wayD (w : Way) : PyData := .tuple [.int (w.1.length : Nat), .tuple (w.1.map fun m => .tuple [.int m.1, .int m.2]), .int w.2]
def waysT (ls ps : List Int) (c : Nat) : List Way := (waysR ps c ls.length).map fun w => (w.2, diffI ls w.1 c)
noncomputable def waysS (ls ps : List Int) (c : Nat) : List Way := (waysT ls ps c).mergeSort (dataLe false wayD)
theorem waysS_perm {ls ps : List Int} {c : Nat} : (waysS ls ps c).Perm (waysT ls ps c) := List.mergeSort_perm _ _
theorem waysR_len {ps : List Int} {c : Nat} : ∀ k, (waysR ps c k).length ≤ c ^ k
  | 0 => Nat.le_refl _
  | k + 1 => by
    have h := flatMap_len_le (f := wayStep ps c k) (k := c) (l := waysR ps c k) fun w _ => by simp [wayStep]
    rw [Nat.pow_succ]
    exact Nat.le_trans h (Nat.mul_le_mul_right _ (waysR_len k))
/-- a way of the first k loads: goal and moves belong together -/
structure GmOk (ps : List Int) (c k : Nat) (w : GM) : Prop where
  gl : w.1.length = k
  gb : ∀ x ∈ w.1, 0 ≤ x ∧ x < (c : Int)
  mv : ∀ m ∈ w.2, 0 ≤ m.1 ∧ m.1 < (k : Int) ∧ 0 ≤ m.2 ∧ m.2 < (c : Int) ∧ ps.getD m.1.toNat 0 ≠ m.2
  asc : (w.2.map (·.1)).Pairwise (· < ·)
  go : movedL ps w.2 = w.1 ++ ps.drop k
theorem waysR_ok {ps : List Int} {c : Nat} (hps : ∀ x ∈ ps, 0 ≤ x ∧ x < (c : Int)) : ∀ (k : Nat), k ≤ ps.length → ∀ w ∈ waysR ps c k, GmOk ps c k w
  | 0, _, w, h => by
    obtain rfl : w = ([], []) := List.mem_singleton.mp h
    exact ⟨rfl, fun _ m => (nomatch m), fun _ m => (nomatch m), List.Pairwise.nil, rfl⟩
  | k + 1, hk, w, h => by
    obtain ⟨v, hv, hw⟩ := List.mem_flatMap.mp h
    have ih := waysR_ok hps k (by omega) v hv
    obtain ⟨p, hp, rfl⟩ := List.mem_map.mp hw
    have hpc := List.mem_range.mp hp
    have hkl : k < ps.length := by omega
    have hd : ps.drop k = ps.getD k 0 :: ps.drop (k + 1) := by
      rw [List.drop_eq_getElem_cons hkl]
      simp [List.getD_eq_getElem?_getD, hkl]
    refine ⟨by simp [ih.gl], fun x hx => ?_, fun m hm => ?_, ?_, ?_⟩
    · rcases List.mem_append.mp hx with q | q
      · exact ih.gb x q
      · rw [List.mem_singleton.mp q]
        omega
    · rcases List.mem_append.mp hm with q | q
      · have := ih.mv m q
        exact ⟨this.1, by omega, this.2.2⟩
      · by_cases e : (p : Int) ≠ ps.getD k 0
        · rw [if_pos e] at q
          rw [List.mem_singleton.mp q]
          exact ⟨by show (0 : Int) ≤ (k : Int); omega, by show (k : Int) < ((k + 1 : Nat) : Int); omega, by show (0 : Int) ≤ (p : Int); omega, by show (p : Int) < (c : Int); omega, by
            show ps.getD ((k : Int)).toNat 0 ≠ (p : Int)
            rw [Int.toNat_natCast]
            exact Ne.symm e⟩
        · rw [if_neg e] at q
          cases q
    · show ((v.2 ++ _).map (·.1)).Pairwise (· < ·)
      rw [List.map_append]
      refine List.pairwise_append.mpr ⟨ih.asc, ?_, fun x hx y hy => ?_⟩
      · split
        · exact List.pairwise_singleton _ _
        · exact List.Pairwise.nil
      · obtain ⟨m, hm, rfl⟩ := List.mem_map.mp hx
        have a := (ih.mv m hm).2.1
        obtain ⟨m2, hm2, rfl⟩ := List.mem_map.mp hy
        by_cases e : (p : Int) ≠ ps.getD k 0
        · rw [if_pos e] at hm2
          rw [List.mem_singleton.mp hm2]
          exact a
        · rw [if_neg e] at hm2
          cases hm2
    · show movedL ps (v.2 ++ _) = v.1 ++ [(p : Int)] ++ ps.drop (k + 1)
      have hl := ih.gl
      by_cases e : (p : Int) ≠ ps.getD k 0
      · rw [if_pos e, movedL_snoc, ih.go, hd, List.set_append_right _ _ (by rw [hl]; show k ≤ ((k : Int)).toNat; omega)]
        rw [show ((k : Int)).toNat - v.1.length = 0 by rw [hl]; omega]
        simp
      · have e' : (p : Int) = ps.getD k 0 := Decidable.not_not.mp e
        rw [if_neg e, List.append_nil, ih.go, hd, e']
        simp
theorem waysT_ok {ls ps : List Int} {c : Nat} (hl : ls.length = ps.length) (hps : ∀ x ∈ ps, 0 ≤ x ∧ x < (c : Int)) {w : Way} (h : w ∈ waysT ls ps c) : (∀ m ∈ w.1, MvOk ps c m) ∧ (w.1.map (·.1)).Pairwise (· < ·) ∧ w.2 = diffI ls (movedL ps w.1) c := by
  obtain ⟨v, hv, rfl⟩ := List.mem_map.mp h
  have ok := waysR_ok hps ls.length (by omega) v hv
  refine ⟨fun m hm => ?_, ok.asc, ?_⟩
  · have := ok.mv m hm
    exact ⟨this.1, by rw [← hl]; exact this.2.1, this.2.2⟩
  · show diffI ls v.1 c = diffI ls (movedL ps v.2) c
    rw [ok.go, hl, List.drop_length, List.append_nil]
theorem nodup_small' {l : List Int} {n : Nat} (h : l.Nodup) (hb : ∀ x ∈ l, 0 ≤ x ∧ x < (n : Int)) : l.length ≤ n := by
  have h2 : l ⊆ (List.range n).map fun k : Nat => (k : Int) := fun x hx => by
    have := hb x hx
    exact List.mem_map.mpr ⟨x.toNat, List.mem_range.mpr (by omega), by omega⟩
  have z := List.Nodup.length_le_of_subset h h2
  simpa using z
theorem mem_mlists {ps : List Int} {c : Nat} : ∀ {ms : List Mv} {s : Nat}, (∀ m ∈ ms, MvOk ps c m) → (∀ m ∈ ms, (s : Int) ≤ m.1) → (ms.map (·.1)).Pairwise (· < ·) → ms ∈ mlists ps c ms.length s
  | [], _, _, _, _ => List.mem_singleton.mpr rfl
  | m :: ms, s, h1, h2, h3 => by
    rw [List.map_cons, List.pairwise_cons] at h3
    have om := h1 m List.mem_cons_self
    have lm := h2 m List.mem_cons_self
    obtain ⟨o1, o2, o3, o4, o5⟩ := om
    have ih := mem_mlists (ms := ms) (s := m.1.toNat + 1) (fun z hz => h1 z (List.mem_cons_of_mem _ hz)) (fun z hz => by
      have := h3.1 z.1 (List.mem_map_of_mem hz)
      omega) h3.2
    refine List.mem_flatMap.mpr ⟨m.1.toNat - s, List.mem_range.mpr (by omega), ?_⟩
    rw [show s + (m.1.toNat - s) = m.1.toNat by omega]
    refine List.mem_flatMap.mpr ⟨m.2.toNat, List.mem_range.mpr (by omega), ?_⟩
    rw [if_neg (fun e => o5 (by omega))]
    refine List.mem_map.mpr ⟨ms, ih, ?_⟩
    rw [show ((m.1.toNat : Nat) : Int) = m.1 by omega, show ((m.2.toNat : Nat) : Int) = m.2 by omega]
theorem mem_waysR {ps : List Int} {c : Nat} (hps : ∀ x ∈ ps, 0 ≤ x ∧ x < (c : Int)) : ∀ (k : Nat), k ≤ ps.length → ∀ ms : List Mv, (∀ m ∈ ms, 0 ≤ m.1 ∧ m.1 < (k : Int) ∧ 0 ≤ m.2 ∧ m.2 < (c : Int) ∧ ps.getD m.1.toNat 0 ≠ m.2) → (ms.map (·.1)).Pairwise (· < ·) → ∃ g, (g, ms) ∈ waysR ps c k
  | 0, _, ms, h, _ => by
    cases ms with
    | nil => exact ⟨[], List.mem_singleton.mpr rfl⟩
    | cons m ms =>
      have := h m List.mem_cons_self
      omega
  | k + 1, hk, ms, h, ha => by
    rcases List.eq_nil_or_concat ms with e | ⟨ms', m, e⟩
    · subst e
      obtain ⟨g, hg⟩ := mem_waysR hps k (by omega) [] (fun _ m => nomatch m) List.Pairwise.nil
      have hp := hps _ (List.getElem_mem (show k < ps.length by omega))
      refine ⟨g ++ [((ps[k].toNat : Nat) : Int)], List.mem_flatMap.mpr ⟨_, hg, List.mem_map.mpr ⟨ps[k].toNat, List.mem_range.mpr (by omega), ?_⟩⟩⟩
      rw [if_neg]
      · rfl
      · rw [List.getD_eq_getElem?_getD, List.getElem?_eq_getElem (show k < ps.length by omega)]
        simp only [Option.getD_some, ne_eq, Decidable.not_not]
        omega
    · rw [List.concat_eq_append] at e
      subst e
      rw [List.map_append] at ha
      obtain ⟨a1, _, a3⟩ := List.pairwise_append.mp ha
      have hm := h m (List.mem_append_right _ List.mem_cons_self)
      by_cases em : m.1 = (k : Int)
      · obtain ⟨g, hg⟩ := mem_waysR hps k (by omega) ms' (fun z hz => by
          have hz1 := h z (List.mem_append_left _ hz)
          have hz2 := a3 z.1 (List.mem_map_of_mem hz) m.1 (List.mem_map_of_mem List.mem_cons_self)
          exact ⟨hz1.1, by omega, hz1.2.2⟩) a1
        refine ⟨g ++ [((m.2.toNat : Nat) : Int)], List.mem_flatMap.mpr ⟨_, hg, List.mem_map.mpr ⟨m.2.toNat, List.mem_range.mpr (by omega), ?_⟩⟩⟩
        have hne := hm.2.2.2.2
        rw [em, Int.toNat_natCast] at hne
        have e2 : ((m.2.toNat : Nat) : Int) = m.2 := by omega
        rw [if_pos (by rw [e2]; exact Ne.symm hne), e2, ← em]
      · have hp := hps _ (List.getElem_mem (show k < ps.length by omega))
        obtain ⟨g, hg⟩ := mem_waysR hps k (by omega) (ms' ++ [m]) (fun z hz => by
          have hz1 := h z hz
          refine ⟨hz1.1, ?_, hz1.2.2⟩
          rcases List.mem_append.mp hz with q | q
          · have hz2 := a3 z.1 (List.mem_map_of_mem q) m.1 (List.mem_map_of_mem List.mem_cons_self)
            omega
          · rw [List.mem_singleton.mp q]
            omega) (by rw [List.map_append]; exact ha)
        refine ⟨g ++ [((ps[k].toNat : Nat) : Int)], List.mem_flatMap.mpr ⟨_, hg, List.mem_map.mpr ⟨ps[k].toNat, List.mem_range.mpr (by omega), ?_⟩⟩⟩
        rw [if_neg]
        · rw [List.append_nil]
        · rw [List.getD_eq_getElem?_getD, List.getElem?_eq_getElem (show k < ps.length by omega)]
          simp only [Option.getD_some, ne_eq, Decidable.not_not]
          omega
theorem waysT_mem {ls ps : List Int} {c L : Nat} (hl : ls.length = ps.length) (hps : ∀ x ∈ ps, 0 ≤ x ∧ x < (c : Int)) {ms : List Mv} (h : ms ∈ mlists ps c L 0) : (ms, diffI ls (movedL ps ms) c) ∈ waysT ls ps c := by
  have ok := mlists_ok h
  obtain ⟨g, hg⟩ := mem_waysR hps ls.length (by omega) ms (fun m hm => by
    obtain ⟨o1, o2, o3⟩ := ok.ok m hm
    exact ⟨o1, by omega, o3⟩) ok.asc
  have hw : (ms, diffI ls g c) ∈ waysT ls ps c := List.mem_map.mpr ⟨_, hg, rfl⟩
  have e := (waysT_ok hl hps hw).2.2
  have e' : diffI ls g c = diffI ls (movedL ps ms) c := e
  rwa [e'] at hw
/-- the least spread is the least of all ways that are short enough -/
theorem least_ways {ls ps : List Int} {c k : Nat} (hl : ls.length = ps.length) (hps : ∀ x ∈ ps, 0 ≤ x ∧ x < (c : Int)) {l : List Int} (hmem : ∀ x, x ∈ l ↔ ∃ w ∈ waysT ls ps c, w.1.length ≤ k ∧ w.2 = x) : leastP ls ps c k ∈ l ∧ ∀ y ∈ l, leastP ls ps c k ≤ y := by
  have lo : ∀ y ∈ l, leastP ls ps c k ≤ y := fun y hy => by
    obtain ⟨w, hw, hk, rfl⟩ := (hmem y).mp hy
    obtain ⟨h1, h2, h3⟩ := waysT_ok hl hps hw
    have hm := mem_mlists (s := 0) h1 (fun m hm => (h1 m hm).1) h2
    have hok := mlists_ok hm
    have hnd : (w.1.map (·.1)).Nodup := h2.imp fun z => Int.ne_of_lt z
    have hle : w.1.length ≤ ls.length := by
      have h4 : (w.1.map (·.1)) ⊆ (List.range ps.length).map fun k : Nat => (k : Int) := fun x hx => by
        obtain ⟨m, hm', rfl⟩ := List.mem_map.mp hx
        have := h1 m hm'
        have q1 := this.1
        have q2 := this.2.1
        exact List.mem_map.mpr ⟨m.1.toNat, List.mem_range.mpr (by omega), by omega⟩
      have z := List.Nodup.length_le_of_subset hnd h4
      simp at z
      omega
    exact least_le.mpr ⟨w.1.length, w.1, hk, hle, hm, by rw [h3]; exact Int.le_refl _⟩
  refine ⟨?_, lo⟩
  obtain ⟨L, ms, a, b, d, e⟩ := least_le.mp (Int.le_refl (leastP ls ps c k))
  have hx : diffI ls (movedL ps ms) c ∈ l := (hmem _).mpr ⟨_, waysT_mem hl hps d, by rw [(mlists_ok d).len]; exact a, rfl⟩
  have := lo _ hx
  rwa [show leastP ls ps c k = diffI ls (movedL ps ms) c by omega]
end Cb

/-! values that read as data, lists as they stand -/
namespace Cb
open PySem PySem.Spec PyProof.Rows L2
mutual
def Dq (K : PySem.W.Frag) (H : Hp) : PyData → V → Prop
  | .none, v => v = .non
  | .bool b, v => v = .bl b
  | .int i, v => v = .int i
  | .str x, v => v = .str x
  | .list ds, v => ∃ a xs, v = .ref a ∧ H a = some (.lst xs) ∧ DqAll K H ds xs
  | .tuple ds, v => ∃ a xs, v = .ref a ∧ SqT K H a xs ∧ DqAll K H ds xs
  | .dict _, _ => False
def DqAll (K : PySem.W.Frag) (H : Hp) : List PyData → List V → Prop
  | [], xs => xs = []
  | d :: ds, xs => ∃ x r, xs = x :: r ∧ Dq K H d x ∧ DqAll K H ds r
end
section
variable {K : PySem.W.Frag} {H H' : Hp}
mutual
theorem Dq.up (e : Same H H') : ∀ (d : PyData) (v : V), Dq K H d v → Dq K H' d v
  | .none, _, h => by
    rw [Dq] at h ⊢
    exact h
  | .bool _, _, h => by
    rw [Dq] at h ⊢
    exact h
  | .int _, _, h => by
    rw [Dq] at h ⊢
    exact h
  | .str _, _, h => by
    rw [Dq] at h ⊢
    exact h
  | .list ds, v, h => by
    rw [Dq] at h ⊢
    obtain ⟨a, xs, h1, h2, h3⟩ := h
    exact ⟨a, xs, h1, e _ _ h2, DqAll.up e ds xs h3⟩
  | .tuple ds, v, h => by
    rw [Dq] at h ⊢
    obtain ⟨a, xs, h1, h2, h3⟩ := h
    exact ⟨a, xs, h1, Same.tup e h2, DqAll.up e ds xs h3⟩
  | .dict _, _, h => by
    rw [Dq] at h
    exact h.elim
theorem DqAll.up (e : Same H H') : ∀ (ds : List PyData) (xs : List V), DqAll K H ds xs → DqAll K H' ds xs
  | [], xs, h => by
    rw [DqAll] at h ⊢
    exact h
  | d :: ds, xs, h => by
    rw [DqAll] at h ⊢
    obtain ⟨x, r, h1, h2, h3⟩ := h
    exact ⟨x, r, h1, Dq.up e d x h2, DqAll.up e ds r h3⟩
end
mutual
theorem Dq.dp : ∀ (d : PyData) (v : V), Dq K H d v → Dp K H v d
  | .none, _, h => by
    rw [Dq] at h
    subst h
    exact .non
  | .bool _, _, h => by
    rw [Dq] at h
    subst h
    exact .bl _
  | .int _, _, h => by
    rw [Dq] at h
    subst h
    exact .int _
  | .str _, _, h => by
    rw [Dq] at h
    subst h
    exact .str _
  | .list ds, v, h => by
    rw [Dq] at h
    obtain ⟨a, xs, rfl, h2, h3⟩ := h
    exact .lst (l_of h2) (DqAll.dp ds xs h3)
  | .tuple ds, v, h => by
    rw [Dq] at h
    obtain ⟨a, xs, rfl, h2, h3⟩ := h
    exact .tup h2 (DqAll.dp ds xs h3)
  | .dict _, _, h => by
    rw [Dq] at h
    exact h.elim
theorem DqAll.dp : ∀ (ds : List PyData) (xs : List V), DqAll K H ds xs → DpAll K H xs ds
  | [], xs, h => by
    rw [DqAll] at h
    subst h
    exact .nil
  | d :: ds, xs, h => by
    rw [DqAll] at h
    obtain ⟨x, r, rfl, h2, h3⟩ := h
    exact .cons (Dq.dp d x h2) (DqAll.dp ds r h3)
end
theorem DqAll.len : ∀ {ds : List PyData} {xs : List V}, DqAll K H ds xs → xs.length = ds.length
  | [], xs, h => by
    rw [DqAll] at h
    subst h
    rfl
  | d :: ds, xs, h => by
    rw [DqAll] at h
    obtain ⟨x, r, rfl, h2, h3⟩ := h
    rw [List.length_cons, List.length_cons, DqAll.len h3]
theorem DqAll.get : ∀ {ds : List PyData} {xs : List V}, DqAll K H ds xs → ∀ {i : Nat} {x : V}, xs[i]? = some x → ∃ d, ds[i]? = some d ∧ Dq K H d x
  | [], xs, h, i, x, e => by
    rw [DqAll] at h
    subst h
    simp at e
  | d :: ds, xs, h, i, x, e => by
    rw [DqAll] at h
    obtain ⟨y, r, rfl, h2, h3⟩ := h
    cases i with
    | zero =>
      simp at e
      subst e
      exact ⟨d, rfl, h2⟩
    | succ i =>
      simp at e
      obtain ⟨z, hz, hq⟩ := DqAll.get h3 e
      exact ⟨z, by simpa using hz, hq⟩
theorem dqAll_of {α : Type} {F : V → α → Prop} {g : α → PyData} (hf : ∀ v a, F v a → Dq K H (g a) v) : ∀ {xs : List V} {as : List α}, Paired F xs as → DqAll K H (as.map g) xs
  | _, _, .nil => by
    rw [List.map_nil, DqAll]
  | _, _, .cons h p => by
    rw [List.map_cons, DqAll]
    exact ⟨_, _, rfl, hf _ _ h, dqAll_of hf p⟩
theorem dq_ints : ∀ {l : List Int}, DqAll K H (l.map PyData.int) (l.map V.int)
  | [] => by rw [List.map_nil, DqAll, List.map_nil]
  | i :: l => by
    rw [List.map_cons, List.map_cons, DqAll]
    exact ⟨_, _, rfl, by rw [Dq], dq_ints⟩
theorem depth_le_all : ∀ {ds : List PyData} {d : PyData}, d ∈ ds → d.depth ≤ PyData.depthAll ds
  | [], _, h => by cases h
  | e :: ds, d, h => by
    rw [PyData.depthAll]
    rcases List.mem_cons.mp h with q | q
    · rw [q]
      omega
    · have := depth_le_all q
      omega
end
mutual
/-- no list or tuple within is very long -/
def wOk : PyData → Prop
  | .list ds => ds.length ≤ 10000 ∧ wOkAll ds
  | .tuple ds => ds.length ≤ 10000 ∧ wOkAll ds
  | _ => True
def wOkAll : List PyData → Prop
  | [] => True
  | d :: ds => wOk d ∧ wOkAll ds
end
theorem wOkAll.mem : ∀ {ds : List PyData} {d : PyData}, wOkAll ds → d ∈ ds → wOk d
  | [], _, _, h => by cases h
  | e :: ds, d, w, h => by
    rw [wOkAll] at w
    rcases List.mem_cons.mp h with q | q
    · rw [q]
      exact w.1
    · exact wOkAll.mem w.2 q
theorem wOkAll.of : ∀ {ds : List PyData}, (∀ d ∈ ds, wOk d) → wOkAll ds
  | [], _ => by rw [wOkAll]; trivial
  | e :: ds, h => by
    rw [wOkAll]
    exact ⟨h e List.mem_cons_self, wOkAll.of fun d m => h d (List.mem_cons_of_mem _ m)⟩
theorem wOk.int (i : Int) : wOk (.int i) := by rw [wOk] <;> first | trivial | (intro _ h; cases h)
theorem kbS : kitB "str" "bool" = some false := by decide +kernel
theorem kbL : kitB "list" "tuple" = some false := by decide +kernel
theorem kbB : kitB "bool" "bool" = some true := by decide +kernel
theorem kbN : kitB "NoneType" "bool" = some false := by decide +kernel
theorem kaT {K : PySem.W.Frag} : PySem.W.kitAny K (.type "tuple") [.type "tuple", .type "list"] = some true := by rfl
theorem kaL {K : PySem.W.Frag} : PySem.W.kitAny K (.type "list") [.type "tuple", .type "list"] = some true := by rfl
theorem kaS {K : PySem.W.Frag} : PySem.W.kitAny K (.type "str") [.type "tuple", .type "list"] = some false := by rfl
theorem kaI {K : PySem.W.Frag} : PySem.W.kitAny K (.type "int") [.type "tuple", .type "list"] = some false := by rfl
theorem kaB {K : PySem.W.Frag} : PySem.W.kitAny K (.type "bool") [.type "tuple", .type "list"] = some false := by rfl
theorem kaN {K : PySem.W.Frag} : PySem.W.kitAny K (.type "NoneType") [.type "tuple", .type "list"] = some false := by rfl
end Cb

namespace Cb
open PySem PySem.Spec PyProof.Rows L2

def top (i : Nat) : Stmt := PySem.Challenge.pw_callbells_k71_least_spread.main.body.getD i (.Pass ⟨0, 0, 0, 0⟩)
abbrev s_is_integer : Stmt := top 5
abbrev s_check_number : Stmt := top 6
abbrev s_least_spread : Stmt := top 11
abbrev s_judge_moves : Stmt := top 12
abbrev s_check_loads : Stmt := top 13
abbrev s_are_integers : Stmt := top 14
abbrev s_is_move : Stmt := top 15
abbrev s_move_lists : Stmt := top 16
abbrev s_moved : Stmt := top 17
abbrev s_difference : Stmt := top 18
abbrev s_law_ways : Stmt := top 20
abbrev s_law_taken : Stmt := top 21
abbrev s_law_alike : Stmt := top 22
abbrev s_law_loads : Stmt := top 23
abbrev s_law_spread : Stmt := top 24
abbrev s_law : Stmt := top 25
def prA (C f : Str) (K : PySem.W.Frag) : Addr := match PySem.W.findIn K (.ref (He.ga K C)) f with
  | some (some (.ref p)) => (match PySem.W.recIn K p "property" with
    | some (.ref g :: _) => g
    | _ => 0)
  | _ => 0
abbrev aC (x : Str) (K : PySem.W.Frag) : Addr := He.ga K x
def argL : List (Str × He.Dv) := [("run", .str "ticks"), ("ring", .str "line"), ("quiet", .str "level"), ("mask", .str "line"), ("unmask", .str "line"), ("set", .str "flag"), ("clear", .str "flag"), ("await", .str "flag"), ("bar", .str "bar"), ("later", .str "work")]
def tupAtB (K : PySem.W.Frag) (a : Addr) (vs : List He.Dv) : Bool := match K.lookup a with
  | some ⟨.type c, _, .seq its _, _⟩ => decide (c = "tuple") && (decide (its.size ≤ sizeLine) && He.relAll (vs.map (He.Dv.v K)) its.toList)
  | _ => false
theorem tupAtB_ok {K : PySem.W.Frag} {a : Addr} {vs : List He.Dv} (h : tupAtB K a vs = true) (H : Hp) : SqT K H a (vs.map (He.Dv.v K)) := by
  unfold tupAtB at h
  cases q : K.lookup a with
  | none =>
    rw [q] at h
    cases h
  | some o =>
    obtain ⟨oc, od, dt, osl⟩ := o
    rw [q] at h
    cases oc with
    | type c =>
      cases dt with
      | seq its n =>
        obtain ⟨h1, h2⟩ := He.ba (show (decide (c = "tuple") && (decide (its.size ≤ sizeLine) && He.relAll (vs.map (He.Dv.v K)) its.toList)) = true from h)
        obtain ⟨h3, h4⟩ := He.ba h2
        exact .inr ⟨_, its, n, q, congrArg Value.type (of_decide_eq_true h1), rfl, of_decide_eq_true h3, He.relAll_ok h4⟩
      | _ => cases h
    | _ => cases dt <;> cases h
theorem int_rel {mg : Str → Option Value} {x : Str} {i : Int} (h : ∃ t, mg x = some (.int i t)) : ∃ u, mg x = some u ∧ RelV (.int i) u := let ⟨t, e⟩ := h; ⟨_, e, t, rfl⟩
def propB (K : PySem.W.Frag) (C f : Str) : Bool := match PySem.W.findIn K (.ref (aC C K)) f with
  | some (some (.ref p)) => He.eqO (PySem.W.specialIn K (.ref p) "__get__") (some (some (.builtin "property.__get__"))) && (decide (PySem.W.takesIn K (.ref p) = some true) && (match PySem.W.recIn K p "property" with
    | some (.ref g :: _) => decide (g = prA C f K)
    | _ => false))
  | _ => false
theorem propB_ok {K : PySem.W.Frag} {C f : Str} (h : propB K C f = true) : ∃ p, PropOf K (aC C K) f p (prA C f K) := by
  unfold propB at h
  cases e : PySem.W.findIn K (.ref (aC C K)) f with
  | none => rw [e] at h; cases h
  | some r => cases r with
    | none => rw [e] at h; cases h
    | some v => cases v with
      | ref p =>
        rw [e] at h
        obtain ⟨h1, h⟩ := He.ba h
        obtain ⟨h2, h3⟩ := He.ba h
        refine ⟨p, e, He.eqO_ok h1, of_decide_eq_true h2, ?_⟩
        cases q : PySem.W.recIn K p "property" with
        | none => rw [q] at h3; cases h3
        | some l => cases l with
          | nil => rw [q] at h3; cases h3
          | cons g r => cases g with
            | ref g =>
              rw [q] at h3
              exact ⟨r, by rw [show g = prA C f K from of_decide_eq_true h3]⟩
            | _ => rw [q] at h3; cases h3
      | _ => rw [e] at h; cases h
def creadB (K : PySem.W.Frag) (C : Addr) : Bool := PySem.W.readsIn K C (.type "type") && He.eqO (PySem.W.specialIn K (.ref C) "__getattribute__") (some (some (.builtin "type.__getattribute__")))
theorem creadB_ok {K : PySem.W.Frag} {C : Addr} (h : creadB K C = true) : ClX.CRead K C (.type "type") := ⟨(He.ba h).1, He.eqO_ok (He.ba h).2⟩
def cvalB (K : PySem.W.Frag) (C : Addr) (f : Str) (i : Int) : Bool := match PySem.W.findCls K (.ref C) (.type "type") f with
  | some (.val (.int j _)) => decide (j = i)
  | _ => false
theorem cvalB_ok {K : PySem.W.Frag} {C : Addr} {f : Str} {i : Int} (h : cvalB K C f i = true) : ∃ u, ClX.CVal K C (.type "type") f (.int i) u := by
  unfold cvalB at h
  split at h
  · rename_i j t e
    obtain rfl : j = i := of_decide_eq_true h
    exact ⟨_, e, t, rfl⟩
  · cases h
structure Txt (K : PySem.W.Frag) (mg : Str → Option Value) : Prop where
  n_len : mg "len" = none
  n_isinstance : mg "isinstance" = none
  n_enumerate : mg "enumerate" = none
  n_range : mg "range" = none
  n_tuple : mg "tuple" = none
  n_list : mg "list" = none
  n_dict : mg "dict" = none
  n_sorted : mg "sorted" = none
  n_all : mg "all" = none
  n_sum : mg "sum" = none
  n_max : mg "max" = none
  n_int : mg "int" = none
  n_bool : mg "bool" = none
  n_str : mg "str" = none
  n_min : mg "min" = none
  n_set : mg "set" = none
  n_zip : mg "zip" = none
  k_MAX_LOADS : ∃ u, mg "MAX_LOADS" = some u ∧ RelV (.int 7) u
  k_MAX_LOAD : ∃ u, mg "MAX_LOAD" = some u ∧ RelV (.int 1000) u
  k_MAX_PROCESSORS : ∃ u, mg "MAX_PROCESSORS" = some u ∧ RelV (.int 4) u
  f_is_integer : mg "is_integer" = some (.ref (He.ga K "is_integer"))
  f_check_number : mg "check_number" = some (.ref (He.ga K "check_number"))
  f_least_spread : mg "least_spread" = some (.ref (He.ga K "least_spread"))
  f_judge_moves : mg "judge_moves" = some (.ref (He.ga K "judge_moves"))
  f_check_loads : mg "check_loads" = some (.ref (He.ga K "check_loads"))
  f_are_integers : mg "are_integers" = some (.ref (He.ga K "are_integers"))
  f_is_move : mg "is_move" = some (.ref (He.ga K "is_move"))
  f_move_lists : mg "move_lists" = some (.ref (He.ga K "move_lists"))
  f_moved : mg "moved" = some (.ref (He.ga K "moved"))
  f_difference : mg "difference" = some (.ref (He.ga K "difference"))
  f__law_ways : mg "_law_ways" = some (.ref (He.ga K "_law_ways"))
  f__law_taken : mg "_law_taken" = some (.ref (He.ga K "_law_taken"))
  f__law_alike : mg "_law_alike" = some (.ref (He.ga K "_law_alike"))
  f__law_loads : mg "_law_loads" = some (.ref (He.ga K "_law_loads"))
  f__law_spread : mg "_law_spread" = some (.ref (He.ga K "_law_spread"))
  f_law : mg "law" = some (.ref (He.ga K "law"))
def exL (K : PySem.W.Frag) : List Bool := [(He.Fa.free "len").ok K,
  (He.Fa.free "isinstance").ok K,
  (He.Fa.free "enumerate").ok K,
  (He.Fa.free "range").ok K,
  (He.Fa.free "tuple").ok K,
  (He.Fa.free "list").ok K,
  (He.Fa.free "dict").ok K,
  (He.Fa.free "sorted").ok K,
  (He.Fa.free "all").ok K,
  (He.Fa.free "sum").ok K,
  (He.Fa.free "max").ok K,
  (He.Fa.free "int").ok K,
  (He.Fa.free "bool").ok K,
  (He.Fa.free "str").ok K,
  (He.Fa.free "min").ok K,
  (He.Fa.free "set").ok K,
  (He.Fa.free "zip").ok K,
  (He.Fa.int "MAX_LOADS" 7).ok K,
  (He.Fa.int "MAX_LOAD" 1000).ok K,
  (He.Fa.int "MAX_PROCESSORS" 4).ok K,
  (He.Fa.glo "is_integer").ok K,
  (He.Fa.glo "check_number").ok K,
  (He.Fa.glo "least_spread").ok K,
  (He.Fa.glo "judge_moves").ok K,
  (He.Fa.glo "check_loads").ok K,
  (He.Fa.glo "are_integers").ok K,
  (He.Fa.glo "is_move").ok K,
  (He.Fa.glo "move_lists").ok K,
  (He.Fa.glo "moved").ok K,
  (He.Fa.glo "difference").ok K,
  (He.Fa.glo "_law_ways").ok K,
  (He.Fa.glo "_law_taken").ok K,
  (He.Fa.glo "_law_alike").ok K,
  (He.Fa.glo "_law_loads").ok K,
  (He.Fa.glo "_law_spread").ok K,
  (He.Fa.glo "law").ok K]
def exM (K : PySem.W.Frag) : Bool := (exL K).all id
theorem ex_at {K : PySem.W.Frag} (h : exM K = true) (i : Nat) {b : Bool} (e : (exL K)[i]? = some b := by rfl) : b = true := List.all_eq_true.mp h b (List.mem_of_getElem? e)
theorem txt_of {K : PySem.W.Frag} {mg : Str → Option Value} {hp : Heap} (X : K.In hp) (G : hp.Ns mainGlobals mg) (h0 : exM K = true) : Txt K mg where
  n_len := have h := ex_at h0 0; He.free_ok X G h
  n_isinstance := have h := ex_at h0 1; He.free_ok X G h
  n_enumerate := have h := ex_at h0 2; He.free_ok X G h
  n_range := have h := ex_at h0 3; He.free_ok X G h
  n_tuple := have h := ex_at h0 4; He.free_ok X G h
  n_list := have h := ex_at h0 5; He.free_ok X G h
  n_dict := have h := ex_at h0 6; He.free_ok X G h
  n_sorted := have h := ex_at h0 7; He.free_ok X G h
  n_all := have h := ex_at h0 8; He.free_ok X G h
  n_sum := have h := ex_at h0 9; He.free_ok X G h
  n_max := have h := ex_at h0 10; He.free_ok X G h
  n_int := have h := ex_at h0 11; He.free_ok X G h
  n_bool := have h := ex_at h0 12; He.free_ok X G h
  n_str := have h := ex_at h0 13; He.free_ok X G h
  n_min := have h := ex_at h0 14; He.free_ok X G h
  n_set := have h := ex_at h0 15; He.free_ok X G h
  n_zip := have h := ex_at h0 16; He.free_ok X G h
  k_MAX_LOADS := have h := ex_at h0 17; int_rel (He.int_ok X G h)
  k_MAX_LOAD := have h := ex_at h0 18; int_rel (He.int_ok X G h)
  k_MAX_PROCESSORS := have h := ex_at h0 19; int_rel (He.int_ok X G h)
  f_is_integer := have h := ex_at h0 20; He.glo_ok X G h
  f_check_number := have h := ex_at h0 21; He.glo_ok X G h
  f_least_spread := have h := ex_at h0 22; He.glo_ok X G h
  f_judge_moves := have h := ex_at h0 23; He.glo_ok X G h
  f_check_loads := have h := ex_at h0 24; He.glo_ok X G h
  f_are_integers := have h := ex_at h0 25; He.glo_ok X G h
  f_is_move := have h := ex_at h0 26; He.glo_ok X G h
  f_move_lists := have h := ex_at h0 27; He.glo_ok X G h
  f_moved := have h := ex_at h0 28; He.glo_ok X G h
  f_difference := have h := ex_at h0 29; He.glo_ok X G h
  f__law_ways := have h := ex_at h0 30; He.glo_ok X G h
  f__law_taken := have h := ex_at h0 31; He.glo_ok X G h
  f__law_alike := have h := ex_at h0 32; He.glo_ok X G h
  f__law_loads := have h := ex_at h0 33; He.glo_ok X G h
  f__law_spread := have h := ex_at h0 34; He.glo_ok X G h
  f_law := have h := ex_at h0 35; He.glo_ok X G h
structure FnP (P : Program) (w : World) (K : PySem.W.Frag) (mg : Str → Option Value) (base : Heap) (k : Nat) (f : Addr) (sp : Sp) : Prop where
  ex : ∃ (fd : FuncData) (ps : List Str), FnOk P w K mg base CX0 k f fd ps sp ∧ Binds K fd ps []
theorem fun_c8 {K : PySem.W.Frag} {x qual : Str} {st : Stmt} {f : Addr} {fd : FuncData} {dvs : List V} {kws : List (Str × V)} (F : FunD K x qual (C8.fnArgs st) (C8.fnBody st) (C8.fnScope st) dvs kws f fd) : C8.Fun K x qual st f fd := by
  obtain ⟨oc, od, dV, kV, doc, pm, an, cdv, ct, osl, e, l, c, _⟩ := F.ex
  exact ⟨oc, od, dV, kV, doc, pm, an, cdv, ct, osl, e, l, c⟩
theorem fnP_mk {P : Program} {w : World} {K : PySem.W.Frag} {mg : Str → Option Value} {base : Heap} {m qual : Str} {st : Stmt} {f : Addr} {fd : FuncData} {N ps : List Str} {k : Nat} {sp : Sp} (F : C8.Fun K m qual st f fd) (b : Binds K fd ps []) (S : FnScope N ps (C8.fnScope st))
    (len : ∀ vs H Q E, sp vs H Q E → vs.length = ps.length)
    (hbody : ∀ (cdv : Value) (A : Around) (outer : List Env) (s : Shared) (H : Hp) (vs : List V) (Q : VK) (E : XK), Room k (A.deeper (envOfC qual (C8.fnScope st) s.heap.objs.size f cdv)) → sp vs H Q E →
      ∃ t, PSs (cxOf CX0 P w K mg base N qual (C8.fnScope st) f cdv A outer s H E).nox (C8.fnBody st) t ∧ t { nx := fun _ H' => Q .non H', rt := Q } (start N vs) H) : FnP P w K mg base (k + 1) f sp :=
  ⟨fd, ps, C8.fn0 F S len hbody, b⟩
end Cb

namespace Cb
open PySem PySem.Spec PyProof.Rows L2
abbrev AlM : Type := (Bool × List He5.FnW) × List (Option (List (Option (Str × Int))))
def obsM (ex : PySem.W.Frag → Bool) (fn : List He5.DefA) (ts : List He.Tab) (K : PySem.W.Frag) : AlM := ((ex K && fn.all fun d => d.ok K, fn.map fun d => He5.fnA K (d.at_ K)), ts.map fun t => He.dicW K (t.1 K))
def valM (fn : List He5.DefA) (ts : List He.Tab) (w : World) : AlM := ((true, fn.map He5.DefA.val), ts.map fun t => some (He.keysIn w.params t.2))
def SaysM (ex : PySem.W.Frag → Bool) (fn : List He5.DefA) (ts : List He.Tab) (w : World) (K : PySem.W.Frag) : Prop := obsM ex fn ts K = valM fn ts w
def asL : List Addr := List.range 600
def obsMG (n : Nat) (ex : PySem.W.Frag → Bool) (fn : List He5.DefA) (ts : List He.Tab) (g : Addr → Option Obj) : AlM := obsM ex fn ts (He.frG g asL)
def hookM (n : Nat) (ex : PySem.W.Frag → Bool) (fn : List He5.DefA) (ts : List He.Tab) : PySem.W.Hook where
  α := AlM
  obs := fun s => obsMG n ex fn ts s.heap.get?
  val := fun w => valM fn ts w
  says := fun w h => ∃ K : PySem.W.Frag, K.In h ∧ SaysM ex fn ts w K
  of := fun _ _ e => ⟨_, He.frG_in, e⟩
  keeps := fun _ _ _ ⟨K, hK, c⟩ k => ⟨K, PySem.W.Frag.In.keeps hK k, c⟩
theorem obsMG_eq {n : Nat} {ex : PySem.W.Frag → Bool} {fn : List He5.DefA} {ts : List He.Tab} {g : Addr → Option Obj} {s : Shared} (h : ∀ a, g a = s.heap.get? a) : obsMG n ex fn ts g = (hookM n ex fn ts).obs s := by
  have e : g = s.heap.get? := funext h
  rw [e] <;> rfl
section
variable {ex : PySem.W.Frag → Bool} {fn : List He5.DefA} {ts : List He.Tab} {w : World} {K : PySem.W.Frag}
theorem SaysM.exok (c : SaysM ex fn ts w K) : ex K = true := (He.ba (show (ex K && fn.all fun d => d.ok K) = true from congrArg (fun z : AlM => z.1.1) c)).1
theorem SaysM.def_ (c : SaysM ex fn ts w K) (i : Nat) {d : He5.DefA} (h : fn[i]? = some d := by rfl) : ∃ fd, FunD K d.name d.qual d.params d.body d.scope (d.dvs K) (d.kws K) (d.at_ K) fd := by
  have c2 := (He.ba (show (ex K && fn.all fun d => d.ok K) = true from congrArg (fun z : AlM => z.1.1) c)).2
  have e : fn.map (fun d => He5.fnA K (d.at_ K)) = fn.map He5.DefA.val := congrArg (fun z : AlM => z.1.2) c
  have e2 : (fn.map fun d => He5.fnA K (d.at_ K))[i]? = (fn.map He5.DefA.val)[i]? := by rw [e]
  rw [List.getElem?_map, List.getElem?_map, h] at e2
  exact He5.DefA.funD (Option.some.inj e2) (List.all_eq_true.mp c2 d (List.mem_of_getElem? h))
theorem SaysM.tab (c : SaysM ex fn ts w K) (i : Nat) {t : He.Tab} (h : ts[i]? = some t := by rfl) : ∃ es n, KDict K w (t.1 K) es n := by
  have e : ts.map (fun t => He.dicW K (t.1 K)) = ts.map fun t => some (He.keysIn w.params t.2) := congrArg (fun z : AlM => z.2) c
  have e2 : (ts.map fun t => He.dicW K (t.1 K))[i]? = (ts.map fun t => some (He.keysIn w.params t.2))[i]? := by rw [e]
  rw [List.getElem?_map, List.getElem?_map, h] at e2
  exact He.dicW_ok (Option.some.inj e2)
end

def D_is_integer : He5.DefA := ⟨fun K => He.ga K "is_integer", "is_integer", "is_integer", C8.fnArgs s_is_integer, C8.fnBody s_is_integer, C8.fnScope s_is_integer, [], []⟩
def D_check_number : He5.DefA := ⟨fun K => He.ga K "check_number", "check_number", "check_number", C8.fnArgs s_check_number, C8.fnBody s_check_number, C8.fnScope s_check_number, [], []⟩
def D_least_spread : He5.DefA := ⟨fun K => He.ga K "least_spread", "least_spread", "least_spread", C8.fnArgs s_least_spread, C8.fnBody s_least_spread, C8.fnScope s_least_spread, [], []⟩
def D_judge_moves : He5.DefA := ⟨fun K => He.ga K "judge_moves", "judge_moves", "judge_moves", C8.fnArgs s_judge_moves, C8.fnBody s_judge_moves, C8.fnScope s_judge_moves, [], []⟩
def D_check_loads : He5.DefA := ⟨fun K => He.ga K "check_loads", "check_loads", "check_loads", C8.fnArgs s_check_loads, C8.fnBody s_check_loads, C8.fnScope s_check_loads, [], []⟩
def D_are_integers : He5.DefA := ⟨fun K => He.ga K "are_integers", "are_integers", "are_integers", C8.fnArgs s_are_integers, C8.fnBody s_are_integers, C8.fnScope s_are_integers, [], []⟩
def D_is_move : He5.DefA := ⟨fun K => He.ga K "is_move", "is_move", "is_move", C8.fnArgs s_is_move, C8.fnBody s_is_move, C8.fnScope s_is_move, [], []⟩
def D_move_lists : He5.DefA := ⟨fun K => He.ga K "move_lists", "move_lists", "move_lists", C8.fnArgs s_move_lists, C8.fnBody s_move_lists, C8.fnScope s_move_lists, [.int 0], []⟩
def D_moved : He5.DefA := ⟨fun K => He.ga K "moved", "moved", "moved", C8.fnArgs s_moved, C8.fnBody s_moved, C8.fnScope s_moved, [], []⟩
def D_difference : He5.DefA := ⟨fun K => He.ga K "difference", "difference", "difference", C8.fnArgs s_difference, C8.fnBody s_difference, C8.fnScope s_difference, [], []⟩
def D_law_ways : He5.DefA := ⟨fun K => He.ga K "_law_ways", "_law_ways", "_law_ways", C8.fnArgs s_law_ways, C8.fnBody s_law_ways, C8.fnScope s_law_ways, [], []⟩
def D_law_taken : He5.DefA := ⟨fun K => He.ga K "_law_taken", "_law_taken", "_law_taken", C8.fnArgs s_law_taken, C8.fnBody s_law_taken, C8.fnScope s_law_taken, [], []⟩
def D_law_alike : He5.DefA := ⟨fun K => He.ga K "_law_alike", "_law_alike", "_law_alike", C8.fnArgs s_law_alike, C8.fnBody s_law_alike, C8.fnScope s_law_alike, [], []⟩
def D_law_loads : He5.DefA := ⟨fun K => He.ga K "_law_loads", "_law_loads", "_law_loads", C8.fnArgs s_law_loads, C8.fnBody s_law_loads, C8.fnScope s_law_loads, [], []⟩
def D_law_spread : He5.DefA := ⟨fun K => He.ga K "_law_spread", "_law_spread", "_law_spread", C8.fnArgs s_law_spread, C8.fnBody s_law_spread, C8.fnScope s_law_spread, [], []⟩
def D_law : He5.DefA := ⟨fun K => He.ga K "law", "law", "law", C8.fnArgs s_law, C8.fnBody s_law, C8.fnScope s_law, [], []⟩
def fn : List He5.DefA := [D_is_integer, D_check_number, D_least_spread, D_judge_moves, D_check_loads, D_are_integers, D_is_move, D_move_lists, D_moved, D_difference, D_law_ways, D_law_taken, D_law_alike, D_law_loads, D_law_spread, D_law]
def tsM : List He.Tab := []
def nm0 : List Str := [("BellError" : Str), ("InvalidNumber" : Str), ("InvalidMove" : Str), ("is_integer" : Str), ("check_number" : Str), ("MAX_LOADS" : Str), ("MAX_LOAD" : Str), ("MAX_PROCESSORS" : Str), ("least_spread" : Str), ("judge_moves" : Str), ("check_loads" : Str), ("are_integers" : Str), ("is_move" : Str), ("move_lists" : Str), ("moved" : Str), ("difference" : Str), ("_law_ways" : Str), ("_law_taken" : Str), ("_law_alike" : Str), ("_law_loads" : Str), ("_law_spread" : Str)]
def nms : List Str := nm0
abbrev R : PySem.W.OpenRow := PySem.W.OpenLaw.row PySem.Challenge.rw_callbells_k71_least_spread
abbrev hk : PySem.W.Hook := hookM 5 exM fn tsM
def ob (s : PySem.W.SharedT) : AlM := obsMG 5 exM fn tsM (HandSHeadRun.getT s)
theorem ob_eq (s : PySem.W.SharedT) : ob s = hk.obs s.abs := obsMG_eq (HandSHeadRun.getT_eq s)
theorem run_f (w : World) : HandSHeadRun.RunEq R (PySem.W.view R.prog [25]) hk ob 30000 nms (w.withFollow "special-get-raises" false) := by
  intro os
  kernel_rfl
theorem run_t (w : World) : HandSHeadRun.RunEq R (PySem.W.view R.prog [25]) hk ob 30000 nms (w.withFollow "special-get-raises" true) := by
  intro os
  kernel_rfl
theorem run (w : World) : HandSHeadRun.RunEq R (PySem.W.view R.prog [25]) hk ob 30000 nms w :=
  PySem.W.byRow2 "special-get-raises" (P := fun w => HandSHeadRun.RunEq R (PySem.W.view R.prog [25]) hk ob 30000 nms w) run_f run_t w
end Cb

namespace Cb
open PySem PySem.Spec PyProof.Rows L2

def sp_is_integer : Sp := fun vs H Q _ => ∃ i lo hi : Int, vs = [.int i, .int lo, .int hi] ∧ Q (.bl (decide (lo ≤ i) && decide (i ≤ hi))) H
def sp_check_number : Sp := fun vs H Q _ => ∃ i lo hi : Int, vs = [.int i, .int lo, .int hi] ∧ lo ≤ i ∧ i ≤ hi ∧ Q .non H
def sp_are_integers (K : PySem.W.Frag) : Sp := fun vs H Q _ => ∃ (a : Addr) (ns : List Int) (hi : Int), vs = [.ref a, .int hi] ∧ SqT K H a (ns.map V.int) ∧ ns.length ≤ 1000 ∧ (∀ n ∈ ns, 0 ≤ n ∧ n ≤ hi) ∧ ∀ H', Same H H' → Q (.bl true) H'
def sp_check_loads (K : PySem.W.Frag) : Sp := fun vs H Q _ => ∃ (a b : Addr) (ls ps : List Int) (c : Nat), vs = [.ref a, .ref b, .int c] ∧ SqT K H a (ls.map V.int) ∧ SqT K H b (ps.map V.int) ∧ ls.length = ps.length ∧ 1 ≤ ls.length ∧ ls.length ≤ 7 ∧ 1 ≤ c ∧ c ≤ 4 ∧ (∀ n ∈ ls, 0 ≤ n ∧ n ≤ 1000) ∧ (∀ n ∈ ps, 0 ≤ n ∧ n < (c : Int)) ∧ ∀ H', Same H H' → Q .non H'
def sp_is_move (K : PySem.W.Frag) : Sp := fun vs H Q _ => ∃ (a t : Addr) (ps : List Int) (c : Nat) (m : Mv), vs = [.ref a, .int c, .ref t] ∧ SqT K H a (ps.map V.int) ∧ SqT K H t [.int m.1, .int m.2] ∧ MvOk ps c m ∧ Q (.bl true) H

section
variable {P : Program} {w : World} {K : PySem.W.Frag} {mg : Str → Option Value} {base : Heap}

abbrev N_is_integer : List Str := ["value", "low", "high"]
theorem sc_is_integer : FnScope N_is_integer ["value", "low", "high"] (C8.fnScope s_is_integer) := C8.fnScope_by (by decide +kernel)
theorem ok_is_integer {fd : FuncData} (T : Txt K mg) (F : FunD K "is_integer" "is_integer" (C8.fnArgs s_is_integer) (C8.fnBody s_is_integer) (C8.fnScope s_is_integer) [] [] (He.ga K "is_integer") fd) :
    C8.Cal P w K mg base 1 "is_integer" sp_is_integer [] := by
  refine C8.cal0 (ds := []) ⟨fun_c8 F, T.f_is_integer, F.kp⟩ (F.bindsN fun _ _ _ _ _ _ us hl => match us, hl with | [_, _, _], _ => rfl) .nil sc_is_integer (fun vs H Q E h => ?_) (fun cdv A outer s H vs Q E hr h => ?_)
  · obtain ⟨_, _, _, rfl, _⟩ := h
    rfl
  · have nd := sc_is_integer.nd
    have hu := hu_of hr
    obtain ⟨i, lo, hi, rfl, q⟩ := h
    refine ⟨_, (pss_one (ps_ret (pe_and (pe_callB call_is (by rfl) T.n_isinstance (by decide +kernel) (pa_cons (pv 0) (pa_cons (pe_bltn (v := .ty "int") rfl T.n_int (by decide +kernel) rfl) pa_nil))) (pe_and (pe_not (pe_callB call_is (by rfl) T.n_isinstance (by decide +kernel) (pa_cons (pv 0) (pa_cons (pe_bltn (v := .ty "bool") rfl T.n_bool (by decide +kernel) rfl) pa_nil)))) (pe_one (pe_chain op_le op_le (pv 1) (pv 0) (pv 2))))))), ?_⟩
    refine ⟨_, rfl, _, _, _, _, rfl, ty_int, kb1, true, rfl, iteT ?_⟩
    refine ⟨_, rfl, _, _, _, _, rfl, ty_int, kb2, false, rfl, true, rfl, iteT ?_⟩
    refine ⟨_, rfl, _, rfl, _, _, rfl, rfl, _, rfl, ?_⟩
    cases e1 : decide (lo ≤ i) with
    | true =>
      rw [e1] at q
      refine iteT ⟨_, rfl, _, _, rfl, rfl, ?_⟩
      rw [Bool.true_and] at q
      exact q
    | false =>
      rw [e1, Bool.false_and] at q
      exact iteF q
abbrev N_check_number : List Str := ["value", "low", "high"]
theorem sc_check_number : FnScope N_check_number ["value", "low", "high"] (C8.fnScope s_check_number) := C8.fnScope_by (by decide +kernel)
theorem ok_check_number {fd : FuncData} (T : Txt K mg) (F : FunD K "check_number" "check_number" (C8.fnArgs s_check_number) (C8.fnBody s_check_number) (C8.fnScope s_check_number) [] [] (He.ga K "check_number") fd) (c_is_integer : C8.Cal P w K mg base 1 "is_integer" sp_is_integer []) :
    C8.Cal P w K mg base 2 "check_number" sp_check_number [] := by
  refine C8.cal0 (ds := []) ⟨fun_c8 F, T.f_check_number, F.kp⟩ (F.bindsN fun _ _ _ _ _ _ us hl => match us, hl with | [_, _, _], _ => rfl) .nil sc_check_number (fun vs H Q E h => ?_) (fun cdv A outer s H vs Q E hr h => ?_)
  · obtain ⟨_, _, _, rfl, _⟩ := h
    rfl
  · have nd := sc_check_number.nd
    have hu := hu_of hr
    obtain ⟨i, lo, hi, rfl, h1, h2, q⟩ := h
    refine ⟨_, (pss_one (ps_if (pt_not (pt_val (C8.pe_c c_is_integer hr (by decide) rfl (pa_cons (pv 0) (pa_cons (pv 1) (pa_cons (pv 2) pa_nil)))))) (pss_one ps_never) pss_nil)), ?_⟩
    refine ⟨_, rfl, _, rfl, _, rfl, _, _, _, rfl, true, by simp [h1, h2], iteF q⟩
abbrev N_are_integers : List Str := ["values", "high", "value"]
theorem sc_are_integers : FnScope N_are_integers ["values", "high"] (C8.fnScope s_are_integers) := C8.fnScope_by (by decide +kernel)
theorem ok_are_integers {fd : FuncData} (T : Txt K mg) (F : FunD K "are_integers" "are_integers" (C8.fnArgs s_are_integers) (C8.fnBody s_are_integers) (C8.fnScope s_are_integers) [] [] (He.ga K "are_integers") fd) (c_is_integer : C8.Cal P w K mg base 1 "is_integer" sp_is_integer []) :
    C8.Cal P w K mg base 2 "are_integers" (sp_are_integers K) [] := by
  refine C8.cal0 (ds := []) ⟨fun_c8 F, T.f_are_integers, F.kp⟩ (F.bindsN fun _ _ _ _ _ _ us hl => match us, hl with | [_, _], _ => rfl) .nil sc_are_integers (fun vs H Q E h => ?_) (fun cdv A outer s H vs Q E hr h => ?_)
  · obtain ⟨_, _, _, rfl, _⟩ := h
    rfl
  · have nd := sc_are_integers.nd
    have hu := hu_of hr
    obtain ⟨a, ns, hi, rfl, ha, hn, hb, q⟩ := h
    refine ⟨_, (pss_one (ps_ret (pe_and (pe_callB call_is (by rfl) T.n_isinstance (by decide +kernel) (pa_cons (pv 0) (pa_cons (pe_bltn (v := .ty "tuple") rfl T.n_tuple (by decide +kernel) rfl) pa_nil))) (pe_one (pe_callB (cr_all rfl) (by rfl) T.n_all (by decide +kernel) (pa_cons (pe_lc (own := [("value", 2)]) rfl nd (pi_tup (pv 0)) (blkOk_by (own := [("value", 2)]) (N := N_are_integers) (sc := (C8.fnScope s_are_integers)) (by decide +kernel)) (fun _ _ _ _ _ => (pg_name (i := 2) nd rfl (Or.inl rfl))) (fun _ _ _ _ _ => pts_nil) (fun _ _ _ _ _ => (C8.pe_c c_is_integer hr (by decide) rfl (pa_cons (pv 2) (pa_cons pe_int (pa_cons (pv 1) pa_nil)))))) pa_nil)))))), ?_⟩
    refine ⟨_, rfl, _, _, _, _, rfl, ty_tup ha, kb4, true, rfl, iteT ?_⟩
    refine ⟨_, rfl, a, rfl, ⟨_, ha⟩, fun D hD => ?_⟩
    refine lc_it (walk_tup (xs := ns.map V.int)) (fun i H' => Sep H H' [(D, .lst (List.replicate i (.bl true)))]) (Sep.nil.own hD) ?_ ?_ ?_
    · rintro i H' _ sp
      exact Same.tup sp.ext ha
    · rintro i v H1 H2 hi' sp ⟨rfl, e2⟩
      rw [List.getElem?_map] at e2
      obtain ⟨n, hn', rfl⟩ := Option.map_eq_some_iff.mp e2
      obtain ⟨h1, h2⟩ := hb n (List.mem_of_getElem? hn')
      refine ⟨rfl, _, rfl, _, rfl, _, _, _, rfl, _, sp.c0, sm (m := 1000) (by simp at hi' ⊢; omega), ?_⟩
      rw [decide_eq_true h1, decide_eq_true h2]
      rw [List.replicate_succ']
      exact sp.put0
    · rintro H1 sp
      have hl := sp.c0
      refine ⟨D, List.replicate (ns.map V.int).length true, rfl, l_of (by rw [List.map_replicate]; exact hl), ?_⟩
      rw [show (List.replicate (ns.map V.int).length true).all id = true by simp]
      exact q H1 sp.ext
abbrev N_check_loads : List Str := ["loads", "places", "count"]
theorem sc_check_loads : FnScope N_check_loads ["loads", "places", "count"] (C8.fnScope s_check_loads) := C8.fnScope_by (by decide +kernel)
theorem ok_check_loads {fd : FuncData} (T : Txt K mg) (F : FunD K "check_loads" "check_loads" (C8.fnArgs s_check_loads) (C8.fnBody s_check_loads) (C8.fnScope s_check_loads) [] [] (He.ga K "check_loads") fd) (c_check_number : C8.Cal P w K mg base 2 "check_number" sp_check_number []) (c_are_integers : C8.Cal P w K mg base 2 "are_integers" (sp_are_integers K) []) :
    C8.Cal P w K mg base 3 "check_loads" (sp_check_loads K) [] := by
  refine C8.cal0 (ds := []) ⟨fun_c8 F, T.f_check_loads, F.kp⟩ (F.bindsN fun _ _ _ _ _ _ us hl => match us, hl with | [_, _, _], _ => rfl) .nil sc_check_loads (fun vs H Q E h => ?_) (fun cdv A outer s H vs Q E hr h => ?_)
  · obtain ⟨_, _, _, _, _, rfl, _⟩ := h
    rfl
  · have nd := sc_check_loads.nd
    have hu := hu_of hr
    obtain ⟨a, b, ls, ps, c, rfl, ha, hb, hl, h1, h7, hc1, hc4, hls, hps, q⟩ := h
    refine ⟨_, (pss_cons (ps_expr (C8.pe_c c_check_number hr (by decide) rfl (pa_cons (pv 2) (pa_cons pe_int (pa_cons (C8.pe_gc rfl T.k_MAX_PROCESSORS) pa_nil)))))
      (pss_cons (ps_if (PW.pt (pw_or (pt_not (pt_val (C8.pe_c c_are_integers hr (by decide) rfl (pa_cons (pv 0) (pa_cons (C8.pe_gc rfl T.k_MAX_LOAD) pa_nil))))) (pw_or1 (pt_not (pt_chain op_le op_le pe_int (pe_callB call_len_seq (by rfl) T.n_len (by decide +kernel) (pa_cons (pv 0) pa_nil)) (C8.pe_gc rfl T.k_MAX_LOADS)))))) (pss_one ps_never) pss_nil)
      (pss_one (ps_if (PW.pt (pw_or (pt_not (pt_val (C8.pe_c c_are_integers hr (by decide) rfl (pa_cons (pv 1) (pa_cons (pe_op op_sub (pv 2) pe_int) pa_nil))))) (pw_or1 (pt_cmpR op_ne (pe_callB call_len_seq (by rfl) T.n_len (by decide +kernel) (pa_cons (pv 1) pa_nil)) (pe_callB call_len_seq (by rfl) T.n_len (by decide +kernel) (pa_cons (pv 0) pa_nil)) (nomark _))))) (pss_one ps_never) pss_nil)))), ?_⟩
    refine ⟨_, rfl, _, _, _, rfl, by omega, by omega, ?_⟩
    refine ⟨_, rfl, a, ls, 1000, rfl, ha, by omega, hls, fun H1 g1 => ⟨true, rfl, iteF ?_⟩⟩
    refine ⟨_, rfl, a, _, rfl, .inr (Same.tup g1 ha), _, _, rfl, rfl, true, congrArg V.bl (by simp; omega), iteT ⟨_, _, rfl, rfl, true, congrArg V.bl (by simp; omega), iteF ?_⟩⟩
    refine ⟨_, rfl, _, rfl, _, _, rfl, rfl, b, ps, _, rfl, Same.tup g1 hb, by omega, fun n hn => ⟨(hps n hn).1, by have := (hps n hn).2; omega⟩, fun H2 g2 => ⟨true, rfl, iteF ?_⟩⟩
    refine ⟨_, rfl, b, _, rfl, .inr (Same.tup g2 (Same.tup g1 hb)), _, rfl, a, _, rfl, .inr (Same.tup g2 (Same.tup g1 ha)), rfl, false, congrArg V.bl (by simp [hl]), iteF ?_⟩
    exact q H2 (Same.tr g1 g2)
abbrev N_is_move : List Str := ["places", "count", "move", "at", "processor"]
theorem sc_is_move : FnScope N_is_move ["places", "count", "move"] (C8.fnScope s_is_move) := C8.fnScope_by (by decide +kernel)
theorem ok_is_move {fd : FuncData} (T : Txt K mg) (F : FunD K "is_move" "is_move" (C8.fnArgs s_is_move) (C8.fnBody s_is_move) (C8.fnScope s_is_move) [] [] (He.ga K "is_move") fd) (c_is_integer : C8.Cal P w K mg base 1 "is_integer" sp_is_integer []) :
    C8.Cal P w K mg base 2 "is_move" (sp_is_move K) [] := by
  refine C8.cal0 (ds := []) ⟨fun_c8 F, T.f_is_move, F.kp⟩ (F.bindsN fun _ _ _ _ _ _ us hl => match us, hl with | [_, _, _], _ => rfl) .nil sc_is_move (fun vs H Q E h => ?_) (fun cdv A outer s H vs Q E hr h => ?_)
  · obtain ⟨_, _, _, _, _, rfl, _⟩ := h
    rfl
  · have nd := sc_is_move.nd
    have hu := hu_of hr
    obtain ⟨a, t, ps, c, m, rfl, ha, ht, ok, q⟩ := h
    refine ⟨_, (pss_cons (ps_if (PW.pt (pw_or (pt_not (pt_val (pe_callB call_is (by rfl) T.n_isinstance (by decide +kernel) (pa_cons (pv 2) (pa_cons (pe_bltn (v := .ty "tuple") rfl T.n_tuple (by decide +kernel) rfl) pa_nil))))) (pw_or1 (pt_cmpR op_ne (pe_callB call_len_seq (by rfl) T.n_len (by decide +kernel) (pa_cons (pv 2) pa_nil)) pe_int (nomark _))))) (pss_one (ps_ret pe_bl)) pss_nil)
      (pss_cons (ps_asg (pv 2) (pg_tup rfl (pgs_cons (pg_name (i := 3) nd rfl (Or.inl rfl)) (pgs_cons (pg_name (i := 4) nd rfl (Or.inl rfl)) pgs_nil))))
      (pss_cons (ps_if (PW.pt (pw_or (pt_not (pt_val (C8.pe_c c_is_integer hr (by decide) rfl (pa_cons (pv 3) (pa_cons pe_int (pa_cons (pe_op op_sub (pe_callB call_len_seq (by rfl) T.n_len (by decide +kernel) (pa_cons (pv 0) pa_nil)) pe_int) pa_nil)))))) (pw_or1 (pt_not (pt_val (C8.pe_c c_is_integer hr (by decide) rfl (pa_cons (pv 4) (pa_cons pe_int (pa_cons (pe_op op_sub (pv 1) pe_int) pa_nil))))))))) (pss_one (ps_ret pe_bl)) pss_nil)
      (pss_one (ps_ret (pe_cmpR op_ne (pe_ix ix_tup (pv 0) (pv 3) (fun _ _ => rfl)) (pv 4) (nomark _))))))), ?_⟩
    obtain ⟨o1, o2, o3, o4, o5⟩ := ok
    refine ⟨_, rfl, _, _, _, _, rfl, ty_tup ht, kb4, true, rfl, iteF ⟨_, rfl, _, _, rfl, .inr ht, rfl, false, rfl, iteF ?_⟩⟩
    refine ⟨_, rfl, _, _, rfl, ht, rfl, _, _, rfl, _, _, rfl, rfl, ?_⟩
    refine ⟨_, rfl, _, rfl, _, _, rfl, .inr ha, _, _, rfl, rfl, _, _, _, rfl, true, congrArg V.bl (by simp; omega), iteF ?_⟩
    refine ⟨_, rfl, _, rfl, _, _, rfl, rfl, _, _, _, rfl, true, congrArg V.bl (by simp; omega), iteF ?_⟩
    have hat : atI (ps.map V.int) m.1 = some (.int (ps.getD m.1.toNat 0)) := by
      rw [show m.1 = ((m.1.toNat : Nat) : Int) by omega]
      refine atIn ?_
      rw [List.getElem?_map, Int.toNat_natCast, List.getElem?_eq_getElem (by omega)]
      simp [List.getD_eq_getElem?_getD, List.getElem?_eq_getElem (show m.1.toNat < ps.length by omega)]
    refine ⟨_, rfl, _, rfl, _, _, _, _, rfl, rfl, ha, hat, _, rfl, rfl, ?_⟩
    rw [decide_eq_false (show ¬ V.int (ps.getD m.1.toNat 0) = V.int m.2 from fun e => o5 (V.int.inj e))]
    exact q
end
end Cb

namespace Cb
open PySem PySem.Spec PyProof.Rows L2

def MvAt (K : PySem.W.Frag) (H : Hp) (v : V) (m : Mv) : Prop := ∃ t, v = .ref t ∧ SqT K H t [.int m.1, .int m.2]
theorem MvAt.up {K : PySem.W.Frag} {H H' : Hp} {v : V} {m : Mv} (e : Same H H') (h : MvAt K H v m) : MvAt K H' v m := h.elim fun t h => ⟨t, h.1, Same.tup e h.2⟩
def MsAt (K : PySem.W.Frag) (H : Hp) (v : V) (ms : List Mv) : Prop := ∃ a vs, v = .ref a ∧ H a = some (.lst vs) ∧ Paired (MvAt K H) vs ms
theorem MsAt.up {K : PySem.W.Frag} {H H' : Hp} {v : V} {ms : List Mv} (e : Same H H') (h : MsAt K H v ms) : MsAt K H' v ms := by
  obtain ⟨a, vs, h1, h2, h3⟩ := h
  exact ⟨a, vs, h1, e _ _ h2, h3.mono fun _ _ z => MvAt.up e z⟩
theorem rep_flat {α : Type} {v : α} : ∀ n : Nat, (List.replicate n [v]).flatten = List.replicate n v
  | 0 => rfl
  | n + 1 => by rw [List.replicate_succ, List.flatten_cons, rep_flat n, List.replicate_succ]; rfl
theorem ixN_nat {n : Nat} {k : Int} (h0 : 0 ≤ k) (h : k < n) : ixN n k = some k.toNat := by
  unfold ixN
  rw [if_pos h0, if_pos (by omega)]
theorem ints_set {l : List Int} {j : Nat} {x : Int} : (l.map V.int).set j (V.int x) = (l.set j x).map V.int := List.map_set.symm
theorem sums_step {ls ps : List Int} {c i : Nat} (h0 : 0 ≤ ps.getD i 0) (h1 : ps.getD i 0 < c) : ((List.range c).map fun p : Nat => sumTo ls ps i p).set (ps.getD i 0).toNat (sumTo ls ps i (ps.getD i 0) + ls.getD i 0) = (List.range c).map fun p : Nat => sumTo ls ps (i + 1) p := by
  refine List.ext_getElem? fun j => ?_
  rw [List.getElem?_set, List.getElem?_map, List.getElem?_map]
  by_cases hj : j < c
  · rw [List.getElem?_eq_getElem (l := List.range c) (by simpa using hj), List.getElem_range]
    simp only [Option.map_some]
    by_cases e : (ps.getD i 0).toNat = j
    · rw [if_pos e, if_pos (by rw [List.length_map, List.length_range]; omega), sumTo_succ]
      have e' : ps.getD i 0 = (j : Int) := by omega
      rw [if_pos e', ← e']
    · rw [if_neg e, sumTo_succ, if_neg (fun q => e (by omega)), Int.add_zero]
  · have e : ¬ (ps.getD i 0).toNat = j := by omega
    rw [if_neg e, List.getElem?_eq_none (l := List.range c) (by simp; omega)]
    rfl
def sp_moved (K : PySem.W.Frag) : Sp := fun vs H Q _ => ∃ (a b : Addr) (ps : List Int) (xs : List V) (ms : List Mv), vs = [.ref a, .ref b] ∧ SqT K H a (ps.map V.int) ∧ SqL K H b xs ∧ Paired (MvAt K H) xs ms ∧ (∀ m ∈ ms, 0 ≤ m.1 ∧ m.1 < ps.length) ∧ ps.length ≤ 7 ∧
  ∀ H' p, Same H H' → H p = none → H' p = some (.lst ((movedL ps ms).map V.int)) → Q (.ref p) H'
def sp_difference (K : PySem.W.Frag) : Sp := fun vs H Q _ => ∃ (a b : Addr) (ls ps : List Int) (c : Nat), vs = [.ref a, .ref b, .int c] ∧ SqT K H a (ls.map V.int) ∧ SqL K H b (ps.map V.int) ∧ ls.length = ps.length ∧ ps.length ≤ 7 ∧ 1 ≤ c ∧ c ≤ 4 ∧ (∀ x ∈ ps, 0 ≤ x ∧ x < (c : Int)) ∧
  ∀ H', Same H H' → Q (.int (diffI ls ps c)) H'

section
variable {P : Program} {w : World} {K : PySem.W.Frag} {mg : Str → Option Value} {base : Heap}

abbrev N_moved : List Str := ["places", "moves", "changed", "at", "processor"]
theorem sc_moved : FnScope N_moved ["places", "moves"] (C8.fnScope s_moved) := C8.fnScope_by (by decide +kernel)
theorem ok_moved {fd : FuncData} (T : Txt K mg) (F : FunD K "moved" "moved" (C8.fnArgs s_moved) (C8.fnBody s_moved) (C8.fnScope s_moved) [] [] (He.ga K "moved") fd) :
    C8.Cal P w K mg base 1 "moved" (sp_moved K) [] := by
  refine C8.cal0 (ds := []) ⟨fun_c8 F, T.f_moved, F.kp⟩ (F.bindsN fun _ _ _ _ _ _ us hl => match us, hl with | [_, _], _ => rfl) .nil sc_moved (fun vs H Q E h => ?_) (fun cdv A outer s H vs Q E hr h => ?_)
  · obtain ⟨_, _, _, _, _, rfl, _⟩ := h
    rfl
  · have nd := sc_moved.nd
    have hu := hu_of hr
    obtain ⟨a, b, ps, xs, ms, rfl, ha, hb, hp, ok, h7, q⟩ := h
    refine ⟨_, (pss_cons (ps_set (i := 2) nd rfl (Or.inl rfl) (pe_callTy call_list_of (by rfl) T.n_list (by decide +kernel) (pa_cons (pv 0) pa_nil)))
      (pss_cons (ps_for PassesOwn.never rfl (pi_list (pv 1)) (pg_tup rfl (pgs_cons (pg_name (i := 3) nd rfl (Or.inl rfl)) (pgs_cons (pg_name (i := 4) nd rfl (Or.inl rfl)) pgs_nil))) (pss_one (ps_asg (pv 4) (pg_sub (pv 2) (pv 3) set_list))))
      (pss_one (ps_ret (pv 2))))), ?_⟩
    refine ⟨_, rfl, a, _, rfl, .inr ha, fun D hD => ?_⟩
    have sp0 := (Sep.nil (H := H)).own (o := .lst (ps.map V.int)) hD
    refine ⟨_, rfl, b, rfl, ⟨_, Same.lst sp0.ext hb⟩, ?_⟩
    refine for_it (walk_list (xs := xs)) (fun i σ H' => ∃ y3 y4, σ = [some (.ref a), some (.ref b), some (.ref D), y3, y4] ∧ Sep H H' [(D, .lst ((movedL ps (ms.take i)).map V.int))]) ⟨_, _, rfl, sp0⟩ ?_ ?_ ?_
    · rintro i σ H' _ ⟨y3, y4, rfl, sp⟩
      exact Same.lst sp.ext hb
    · rintro i v σ H2 H3 hi ⟨y3, y4, rfl, sp⟩ ⟨rfl, e2⟩
      obtain ⟨m, hm, t, rfl, ht⟩ := pget hp e2
      obtain ⟨m0, mlt⟩ := ok m (List.mem_of_getElem? hm)
      refine ⟨_, _, rfl, Same.tup sp.ext ht, rfl, _, _, rfl, _, _, rfl, rfl, ?_⟩
      refine ⟨_, rfl, _, rfl, _, rfl, _, _, _, m.1.toNat, rfl, rfl, sp.c0, ixN_nat m0 (by rw [List.length_map, movedL_len]; exact mlt), ?_⟩
      refine ⟨_, _, rfl, ?_⟩
      rw [take_snoc hm, movedL_snoc, ← ints_set]
      exact sp.put0
    · rintro σ H2 ⟨y3, y4, rfl, sp⟩
      rw [List.take_of_length_le (Nat.le_of_eq hp.length.symm)] at sp
      exact ⟨_, rfl, q H2 D sp.ext hD sp.c0⟩
abbrev N_difference : List Str := ["loads", "places", "count", "sums", "load", "place"]
theorem sc_difference : FnScope N_difference ["loads", "places", "count"] (C8.fnScope s_difference) := C8.fnScope_by (by decide +kernel)
theorem ok_difference {fd : FuncData} (T : Txt K mg) (F : FunD K "difference" "difference" (C8.fnArgs s_difference) (C8.fnBody s_difference) (C8.fnScope s_difference) [] [] (He.ga K "difference") fd) :
    C8.Cal P w K mg base 1 "difference" (sp_difference K) [] := by
  refine C8.cal0 (ds := []) ⟨fun_c8 F, T.f_difference, F.kp⟩ (F.bindsN fun _ _ _ _ _ _ us hl => match us, hl with | [_, _, _], _ => rfl) .nil sc_difference (fun vs H Q E h => ?_) (fun cdv A outer s H vs Q E hr h => ?_)
  · obtain ⟨_, _, _, _, _, rfl, _⟩ := h
    rfl
  · have nd := sc_difference.nd
    have hu := hu_of hr
    obtain ⟨a, b, ls, ps, c, rfl, ha, hb, hl, h7, hc1, hc4, hps, q⟩ := h
    refine ⟨_, (pss_cons (ps_set (i := 3) nd rfl (Or.inl rfl) (pe_op op_rep (pe_lst (pa_cons pe_int pa_nil)) (pv 2)))
      (pss_cons (ps_for PassesOwn.never rfl (pi_zipM (by rfl) T.n_zip (pa_cons (pv 0) (pa_cons (pv 1) pa_nil))) (pg_tup rfl (pgs_cons (pg_name (i := 4) nd rfl (Or.inl rfl)) (pgs_cons (pg_name (i := 5) nd rfl (Or.inl rfl)) pgs_nil))) (pss_one (ps_augS (pv 3) (pv 5) get_list (pv 4) ip_add set_list)))
      (pss_one (ps_ret (pe_op op_sub (pe_callB (cr_max rfl) (by rfl) T.n_max (by decide +kernel) (pa_cons (pv 3) pa_nil)) (pe_callB (cr_min rfl) (by rfl) T.n_min (by decide +kernel) (pa_cons (pv 3) pa_nil))))))), ?_⟩
    refine ⟨by decide, fun p0 hp0 => ⟨_, rfl, p0, (c : Int), [.int 0], rfl, rfl, upd_same, by omega, by omega, sm (m := 4) (by simp; omega), fun S hS => ?_⟩⟩
    have e0 : (List.replicate ((c : Int)).toNat [V.int 0]).flatten = ((List.range c).map fun p : Nat => sumTo ls ps 0 p).map V.int := by
      rw [Int.toNat_natCast, show (fun p : Nat => sumTo ls ps 0 p) = fun _ => (0 : Int) from rfl]
      rw [List.map_const', List.map_replicate, List.length_range, rep_flat]
    have sp0 := ((Sep.nil (H := H)).drop (o := .lst [.int 0]) hp0).own (o := .lst ((List.replicate ((c : Int)).toNat [V.int 0]).flatten)) hS
    rw [e0] at sp0 ⊢
    refine ⟨_, rfl, _, rfl, a, b, _, _, rfl, Same.tup sp0.ext ha, Same.lst sp0.ext hb, ?_⟩
    refine for_it (walk_zipM (us := ls.map V.int) (vs := ps.map V.int) (by simpa using hl)) (fun i σ H' => ∃ y4 y5, σ = [some (.ref a), some (.ref b), some (.int c), some (.ref S), y4, y5] ∧ Sep H H' [(S, .lst (((List.range c).map fun p : Nat => sumTo ls ps i p).map V.int))]) ⟨_, _, rfl, sp0⟩ ?_ ?_ ?_
    · rintro i σ H' _ ⟨y4, y5, rfl, sp⟩
      exact ⟨Same.tup sp.ext ha, Same.lst sp.ext hb⟩
    · rintro i x σ H2 H3 hi ⟨y4, y5, rfl, sp⟩ ⟨t, u, v, rfl, ht, rfl, e1, e2⟩
      rw [List.length_map] at hi
      have hi2 : i < ps.length := by omega
      have d1 : ls.getD i 0 = ls[i] := by simp [List.getD_eq_getElem?_getD, hi]
      have d2 : ps.getD i 0 = ps[i] := by simp [List.getD_eq_getElem?_getD, hi2]
      have e1 : (ls.map V.int)[i]? = some u := e1
      have e2 : (ps.map V.int)[i]? = some v := e2
      rw [List.getElem?_map, List.getElem?_eq_getElem hi] at e1
      rw [List.getElem?_map, List.getElem?_eq_getElem hi2] at e2
      cases e1
      cases e2
      have bd := hps ps[i] (List.getElem_mem hi2)
      rw [← d1, ← d2]
      rw [← d2] at bd
      have sp1 := sp.drop (o := .tup [.int (ls.getD i 0), .int (ps.getD i 0)]) ht
      have hS1 := sp1.c0
      refine ⟨_, _, rfl, t_of upd_same, rfl, _, _, rfl, _, _, rfl, rfl, ?_⟩
      refine ⟨_, rfl, _, rfl, S, _, (ps.getD i 0).toNat, .int (sumTo ls ps i (ps.getD i 0)), rfl, congrArg V.int (by omega), l_of hS1, ?_, ?_⟩
      · rw [List.getElem?_map, List.getElem?_map, List.getElem?_eq_getElem (l := List.range c) (by rw [List.length_range]; omega), List.getElem_range]
        simp only [Option.map_some]
        rw [show (((ps.getD i 0).toNat : Nat) : Int) = ps.getD i 0 by omega]
      refine ⟨_, rfl, _, _, rfl, rfl, S, _, _, (ps.getD i 0).toNat, rfl, rfl, hS1, ixN_nat bd.1 (by rw [List.length_map, List.length_map, List.length_range]; exact bd.2), ?_⟩
      refine ⟨_, _, rfl, ?_⟩
      rw [ints_set, sums_step bd.1 bd.2]
      have z := sp1.put0 (o' := .lst (((List.range c).map fun p : Nat => sumTo ls ps (i + 1) p).map V.int))
      exact z
    · rintro σ H2 ⟨y4, y5, rfl, sp⟩
      rw [List.length_map] at sp
      have hc0 := sp.c0
      have ne : 0 < ((List.range c).map fun p : Nat => sumTo ls ps ls.length p).length := by simp; omega
      refine ⟨_, rfl, S, (List.range c).map fun p : Nat => sumTo ls ps ls.length p, rfl, l_of hc0, ne, fun m m1 m2 => ?_⟩
      refine ⟨_, rfl, S, (List.range c).map fun p : Nat => sumTo ls ps ls.length p, rfl, l_of hc0, ne, fun k k1 k2 => ⟨_, _, rfl, rfl, ?_⟩⟩
      rw [mxL_of m1 m2, mnL_of k1 k2]
      exact q H2 sp.ext
end
end Cb

namespace Cb
open PySem PySem.Spec PyProof.Rows L2

def sp_move_lists (L : Nat) (K : PySem.W.Frag) : Sp := fun vs H Q _ => ∃ (pl : Addr) (ps : List Int) (c st : Nat) (K0 : Hp) (M : List (Addr × HO)), vs = [.ref pl, .int c, .int L, .int st] ∧ SqT K K0 pl (ps.map V.int) ∧ ps.length ≤ 7 ∧ c ≤ 4 ∧ st ≤ ps.length ∧ L ≤ 7 ∧ Sep K0 H M ∧
  ∀ K1 H' p xs, Same K0 K1 → Sep K1 H' M → K1 p = some (.lst xs) → Paired (MsAt K K1) xs (mlists ps c L st) → Q (.ref p) H'
def sp_ml (K : PySem.W.Frag) : Sp := fun vs H Q E => ∃ L, L ≤ 7 ∧ sp_move_lists L K vs H Q E

section
variable {P : Program} {w : World} {K : PySem.W.Frag} {mg : Str → Option Value} {base : Heap}

abbrev N_move_lists : List Str := ["places", "count", "length", "start", "lists", "at", "behind", "processor", "moves"]
theorem sc_move_lists : FnScope N_move_lists ["places", "count", "length", "start"] (C8.fnScope s_move_lists) := C8.fnScope_by (by decide +kernel)
theorem bind_ml {K : PySem.W.Frag} {fd : FuncData} (F : FunD K "move_lists" "move_lists" (C8.fnArgs s_move_lists) (C8.fnBody s_move_lists) (C8.fnScope s_move_lists) [.int 0] [] (He.ga K "move_lists") fd) : L2.Binds K fd ["places", "count", "length", "start"] [] := by
  obtain ⟨ds, hv, hb⟩ := F.binds1 (ps := ["places", "count", "length", "start"]) 4 1 (by simp) rfl (fun T kV doc pm an cdv ct us its h1 h2 => match us, its, h1, h2 with | [_, _, _, _], [_], _, _ => ⟨_, rfl, rfl⟩)
  cases hv
  exact hb
theorem calA_ml {fd : FuncData} {k : Nat} {sp : Sp} (T : Txt K mg) (F : FunD K "move_lists" "move_lists" (C8.fnArgs s_move_lists) (C8.fnBody s_move_lists) (C8.fnScope s_move_lists) [.int 0] [] (He.ga K "move_lists") fd) (h : FnOk P w K mg base C8.CX0 k (He.ga K "move_lists") fd ["places", "count", "length", "start"] sp) : C8.Cal P w K mg base k "move_lists" sp [] :=
  ⟨_, fd, _, [], h, T.f_move_lists, F.kp, bind_ml F, .nil⟩
theorem calB_ml {fd : FuncData} {k : Nat} {sp : Sp} (T : Txt K mg) (F : FunD K "move_lists" "move_lists" (C8.fnArgs s_move_lists) (C8.fnBody s_move_lists) (C8.fnScope s_move_lists) [.int 0] [] (He.ga K "move_lists") fd) (h : FnOk P w K mg base C8.CX0 k (He.ga K "move_lists") fd ["places", "count", "length", "start"] sp) : C8.Cal P w K mg base k "move_lists" sp [.int 0] := by
  obtain ⟨ds, hv, hb⟩ := F.binds1 (ps := ["places", "count", "length", "start"]) 3 0 (by simp) rfl (fun T kV doc pm an cdv ct us its h1 h2 => match us, its, h1, h2 with | [_, _, _], [_], _, _ => ⟨_, rfl, rfl⟩)
  exact ⟨_, fd, _, ds, h, T.f_move_lists, F.kp, hb, hv⟩
theorem ml_0 {fd : FuncData} (T : Txt K mg) (F : FunD K "move_lists" "move_lists" (C8.fnArgs s_move_lists) (C8.fnBody s_move_lists) (C8.fnScope s_move_lists) [.int 0] [] (He.ga K "move_lists") fd) :
    FnOk P w K mg base C8.CX0 (0 + 1) (He.ga K "move_lists") fd ["places", "count", "length", "start"] (sp_move_lists 0 K) := by
  refine C8.fn0 (fun_c8 F) sc_move_lists (fun vs H Q E h => ?_) (fun cdv A outer s H vs Q E hr h => ?_)
  · obtain ⟨_, _, _, _, _, _, rfl, _⟩ := h
    rfl
  · have nd := sc_move_lists.nd
    have hu := hu_of hr
    obtain ⟨pl, ps, c, st, K0, M, rfl, hpl, h7, hc, hst, hL, sp, q⟩ := h
    refine ⟨_, (pss_cons (ps_if (pt_cmpR op_eq (pv 2) pe_int (nomark _)) (pss_one (ps_ret (pe_lst (pa_cons (pe_lst pa_nil) pa_nil)))) pss_nil)
      (pss_cons ps_never
      (pss_cons ps_never
      (pss_one ps_never)))), ?_⟩
    refine ⟨_, rfl, rfl, true, congrArg V.bl (by simp), iteT ?_⟩
    refine ⟨by decide, fun p0 hp0 => ⟨small8 (by simp), fun p1 hp1 => ?_⟩⟩
    have s1 := sp.keep (o := .lst []) hp0
    have g1 := sp.newk (o := .lst []) hp0
    have s2 := s1.keep (o := .lst [.ref p0]) hp1
    have g2 := s1.newk (o := .lst [.ref p0]) hp1
    exact q _ _ p1 [.ref p0] (Same.tr g1 g2) s2 upd_same (.cons ⟨p0, [], rfl, g2 _ _ upd_same, .nil⟩ .nil)
theorem ml_S {fd : FuncData} {k L : Nat} (T : Txt K mg) (F : FunD K "move_lists" "move_lists" (C8.fnArgs s_move_lists) (C8.fnBody s_move_lists) (C8.fnScope s_move_lists) [.int 0] [] (He.ga K "move_lists") fd) (c_move_lists : C8.Cal P w K mg base k "move_lists" (sp_move_lists L K) []) :
    FnOk P w K mg base C8.CX0 (k + 1) (He.ga K "move_lists") fd ["places", "count", "length", "start"] (sp_move_lists (L + 1) K) := by
  refine C8.fn0 (fun_c8 F) sc_move_lists (fun vs H Q E h => ?_) (fun cdv A outer s H vs Q E hr h => ?_)
  · obtain ⟨_, _, _, _, _, _, rfl, _⟩ := h
    rfl
  · have nd := sc_move_lists.nd
    have hu := hu_of hr
    obtain ⟨pl, ps, c, st, K0, M, rfl, hpl, h7, hc, hst, hL, sp, q⟩ := h
    refine ⟨_, (pss_cons (ps_if (pt_cmpR op_eq (pv 2) pe_int (nomark _)) (pss_one (ps_ret (pe_lst (pa_cons (pe_lst pa_nil) pa_nil)))) pss_nil)
      (pss_cons (ps_set (i := 4) nd rfl (Or.inl rfl) (pe_lst pa_nil))
      (pss_cons (ps_for PassesOwn.never rfl (pi_range2 (by rfl) T.n_range (pa_cons (pv 3) (pa_cons (pe_callB call_len_seq (by rfl) T.n_len (by decide +kernel) (pa_cons (pv 0) pa_nil)) pa_nil))) (pg_name (i := 5) nd rfl (Or.inr rfl)) (pss_cons (ps_set (i := 6) nd rfl (Or.inl rfl) (C8.pe_c c_move_lists hr (Nat.le_refl _) rfl (pa_cons (pv 0) (pa_cons (pv 1) (pa_cons (pe_op op_sub (pv 2) pe_int) (pa_cons (pe_op op_add (pv 5) pe_int) pa_nil))))))
      (pss_one (ps_for PassesOwn.never rfl (pi_range1 (by rfl) T.n_range (pa_cons (pv 1) pa_nil)) (pg_name (i := 7) nd rfl (Or.inr rfl)) (pss_one (ps_if (pt_cmpR op_ne (pv 7) (pe_ix ix_tup (pv 0) (pv 5) (fun _ _ => rfl)) (nomark _)) (pss_one (ps_expr (pe_bm PySem.F.plainAttrs_list PySem.F.slot_list_extend PySem.F.type_list_extend mt_extend (pv 4) (pa_cons (pe_lc (own := [("moves", 8)]) rfl nd (pi_list (pv 6)) (blkOk_by (own := [("moves", 8)]) (N := N_move_lists) (sc := (C8.fnScope s_move_lists)) (by decide +kernel)) (fun _ _ _ _ _ => (pg_name (i := 8) nd rfl (Or.inl rfl))) (fun _ _ _ _ _ => pts_nil) (fun _ _ _ _ _ => (pe_lst (pa_cons (pe_tup (pa_cons (pv 5) (pa_cons (pv 7) pa_nil))) (StX.pa_star (pv 8) pa_nil : PA _ _ (StX.tStar K _ _)))))) pa_nil)))) pss_nil))))))
      (pss_one (ps_ret (pv 4)))))), ?_⟩
    refine ⟨_, rfl, rfl, false, congrArg V.bl (by simp; omega), iteF ?_⟩
    refine ⟨by decide, fun lp hlp => ?_⟩
    have sp1 := sp.own (o := .lst []) hlp
    refine ⟨_, rfl, _, rfl, pl, _, rfl, .inr (Same.tup sp1.ext hpl), (st : Int), (((ps.map V.int).length : Nat) : Int), rfl, ⟨by omega, by omega, by omega, by rw [List.length_map]; omega⟩, ?_⟩
    have en : ((((ps.map V.int).length : Nat) : Int) - (st : Int)).toNat = ps.length - st := by rw [List.length_map]; omega
    rw [en]
    have hlen7 : ∀ a, (rowF ps c a (mlists ps c L (a + 1))).length ≤ 312500 := fun a => Nat.le_trans rowF_len (Nat.mul_le_mul hc (mlists_len7 hc h7))
    refine for_it (walk_range (lo := (st : Int)) (n := ps.length - st)) (fun i σ H' => ∃ K1 y5 y6 y7 y8 acc, σ = [some (.ref pl), some (.int c), some (.int ((L + 1 : Nat) : Int)), some (.int st), some (.ref lp), y5, y6, y7, y8] ∧ Same K0 K1 ∧ Sep K1 H' ((lp, .lst acc) :: M) ∧ Paired (MsAt K K1) acc ((List.range i).flatMap fun j => rowF ps c (st + j) (mlists ps c L (st + j + 1)))) ⟨K0, _, _, _, _, [], rfl, Same.refl _, sp1, .nil⟩ (fun _ _ _ _ _ => trivial) ?_ ?_
    · rintro i x σ H1 H2 hi ⟨K1, y5, y6, y7, y8, acc, rfl, g1, sp1, hp1⟩ ⟨rfl, rfl⟩
      have hpl1 := Same.tup g1 hpl
      refine ⟨_, rfl, _, rfl, _, rfl, _, _, rfl, rfl, _, rfl, _, _, rfl, rfl, pl, ps, c, st + i + 1, K1, _, (by show [V.ref pl, V.int c, V.int (((L + 1 : Nat) : Int) - 1), V.int ((st : Int) + ((i : Nat) : Int) + 1)] = _; rw [show ((L + 1 : Nat) : Int) - 1 = (L : Int) by omega, show (st : Int) + ((i : Nat) : Int) + 1 = ((st + i + 1 : Nat) : Int) by omega]), hpl1, h7, hc, by omega, by omega, sp1, fun K2 H3 bp bs g2 sp2 hb hbp => ?_⟩
      refine ⟨_, rfl, (c : Int), rfl, by omega, by omega, ?_⟩
      rw [Int.toNat_natCast]
      have hpl2 := Same.tup g2 hpl1
      have el : (acc.length : Nat) ≤ 7 * 312500 := by
        rw [hp1.length]
        exact Nat.le_trans (flatMap_len_le (k := 312500) fun j _ => hlen7 _) (Nat.mul_le_mul_right _ (by simp; omega))
      refine for_it (walk_range (lo := 0) (n := c)) (fun j σ H' => ∃ K3 y7 y8 acc3, σ = [some (.ref pl), some (.int c), some (.int ((L + 1 : Nat) : Int)), some (.int st), some (.ref lp), some (.int ((st : Int) + (i : Nat))), some (.ref bp), y7, y8] ∧ Same K2 K3 ∧ Sep K3 H' ((lp, .lst acc3) :: M) ∧ Paired (MsAt K K3) acc3 (((List.range i).flatMap fun j => rowF ps c (st + j) (mlists ps c L (st + j + 1))) ++ (List.range j).flatMap fun p => if ((p : Nat) : Int) = ps.getD (st + i) 0 then [] else (mlists ps c L (st + i + 1)).map fun ms => (((st + i : Nat) : Int), ((p : Nat) : Int)) :: ms)) ⟨K2, _, _, acc, rfl, Same.refl _, sp2, by
        rw [List.range_zero, List.flatMap_nil, List.append_nil]
        exact hp1.mono fun _ _ z => MsAt.up g2 z⟩ (fun _ _ _ _ _ => trivial) ?_ ?_
      · rintro j x σ H4 H5 hj ⟨K3, y7, y8, acc3, rfl, g3, sp3, hp3⟩ ⟨rfl, hx⟩
        obtain rfl : x = V.int ((j : Nat) : Int) := hx.trans (congrArg V.int (by omega))
        have hpl3 := Same.tup sp3.ext (Same.tup g3 hpl2)
        have hat : atI (ps.map V.int) ((st : Int) + (i : Nat)) = some (.int (ps.getD (st + i) 0)) := by
          rw [show (st : Int) + ((i : Nat) : Int) = ((st + i : Nat) : Int) by omega]
          refine atIn ?_
          rw [List.getElem?_map, List.getElem?_eq_getElem (show st + i < ps.length by omega)]
          simp [List.getD_eq_getElem?_getD, List.getElem?_eq_getElem (show st + i < ps.length by omega)]
        have el3 : (acc3.length : Nat) ≤ 7 * 312500 + 4 * 78125 := by
          have z := hp3.length
          rw [List.length_append] at z
          have z1 := flatMap_len_le (f := fun j => rowF ps c (st + j) (mlists ps c L (st + j + 1))) (k := 312500) (l := List.range i) fun j _ => hlen7 _
          have z2 := flatMap_len_le (f := fun p : Nat => if ((p : Nat) : Int) = ps.getD (st + i) 0 then [] else (mlists ps c L (st + i + 1)).map fun ms => (((st + i : Nat) : Int), ((p : Nat) : Int)) :: ms) (k := 78125) (l := List.range j) fun p _ => by
            split
            · simp
            · rw [List.length_map]
              exact mlists_len7 hc h7
          have z3 := Nat.mul_le_mul_right 312500 (show (List.range i).length ≤ 7 by simp; omega)
          have z4 := Nat.mul_le_mul_right 78125 (show (List.range j).length ≤ 4 by simp; omega)
          omega
        refine ⟨_, rfl, _, rfl, _, rfl, _, _, _, _, rfl, rfl, hpl3, hat, rfl, _, rfl, ?_⟩
        by_cases he : ((j : Nat) : Int) = ps.getD (st + i) 0
        · rw [decide_eq_true (congrArg V.int he)]
          refine iteF ⟨K3, _, _, acc3, rfl, g3, sp3, ?_⟩
          rw [List.range_succ, List.flatMap_append, List.flatMap_singleton, if_pos he, List.append_nil]
          exact hp3
        · rw [decide_eq_false (show ¬ V.int ((j : Nat) : Int) = V.int (ps.getD (st + i) 0) from fun e => he (V.int.inj e))]
          refine iteT ⟨_, rfl, .inl ⟨rfl, _, .inl (.inl sp3.c0)⟩, _, rfl, bp, rfl, ⟨_, l_of (sp3.ext _ _ (g3 _ _ hb))⟩, fun D hD => ?_⟩
          refine lc_it (walk_list (xs := bs)) (fun n H' => ∃ K4 acc4, Same K3 K4 ∧ Sep K4 H' ((D, .lst acc4) :: (lp, .lst acc3) :: M) ∧ Paired (MsAt K K4) acc4 (((mlists ps c L (st + i + 1)).take n).map fun ms => (((st + i : Nat) : Int), ((j : Nat) : Int)) :: ms)) ⟨K3, [], Same.refl _, sp3.own hD, .nil⟩ ?_ ?_ ?_
          · rintro n H' _ ⟨K4, acc4, g4, sp4, hp4⟩
            exact l_of (sp4.ext _ _ (g4 _ _ (g3 _ _ hb)))
          · rintro n v H6 H7 hn ⟨K4, acc4, g4, sp4, hp4⟩ ⟨rfl, e2⟩
            obtain ⟨ms, hms, b, vs, rfl, hvs, hpv⟩ := pget hbp e2
            have g24 := Same.tr g3 g4
            have hvs4 := l_of (K := K) (g24 _ _ hvs)
            have hmok := mlists_ok (List.mem_of_getElem? hms)
            have hml := hmok.len
            have hvl := hpv.length
            refine ⟨rfl, _, rfl, _, rfl, small8 (by simp), fun t ht => ?_⟩
            have sp5 := sp4.keep (o := .tup [.int ((st : Int) + (i : Nat)), .int ((j : Nat) : Int)]) ht
            have g5 := sp4.newk (o := .tup [.int ((st : Int) + (i : Nat)), .int ((j : Nat) : Int)]) ht
            refine ⟨_, rfl, b, vs, rfl, .inr (Same.lst sp5.ext (Same.lst g5 hvs4)), sm (m := 16) (by simp; omega), fun l2 hl2 => ?_⟩
            have sp6 := sp5.keep (o := .lst (.ref t :: (vs ++ []))) hl2
            have g6 := sp5.newk (o := .lst (.ref t :: (vs ++ []))) hl2
            have h4l := hp4.length
            refine ⟨_, sp6.c0, ?_, ?_⟩
            · have z := mlists_len7 (ps := ps) (c := c) (L := L) (s := st + i + 1) hc h7
              rw [h4l, List.length_map, List.length_take]
              exact Nat.lt_of_le_of_lt (Nat.min_le_right _ _) (Nat.lt_of_le_of_lt z (by decide))
            · refine ⟨_, _, Same.tr g4 (Same.tr g5 g6), sp6.put0, ?_⟩
              rw [take_snoc hms, List.map_append]
              refine psnoc' (hp4.mono fun _ _ z => MsAt.up (Same.tr g5 g6) z) ⟨l2, .ref t :: (vs ++ []), rfl, upd_same, ?_⟩
              have zz := papp .nil (hpv.mono fun _ _ z => MvAt.up (Same.tr g24 (Same.tr g5 g6)) z)
              rw [List.append_nil ms] at zz
              refine .cons ⟨t, rfl, ?_⟩ zz
              have z : SqT K (upd K4 t (.tup [.int ((st : Int) + (i : Nat)), .int ((j : Nat) : Int)])) t [.int ((st : Int) + (i : Nat)), .int ((j : Nat) : Int)] := t_of upd_same
              exact Same.tup g6 z
          · rintro H6 ⟨K4, acc4, g4, sp4, hp4⟩
            have hbl := hbp.length
            rw [List.take_of_length_le (Nat.le_of_eq hbl.symm)] at hp4
            have h4l := hp4.length
            rw [List.length_map] at h4l
            have z := mlists_len7 (ps := ps) (c := c) (L := L) (s := st + i + 1) hc h7
            refine ⟨lp, D, acc3, acc4, rfl, rfl, sp4.c1, sp4.c0, sm (m := 3000000) (by omega), ?_⟩
            refine ⟨K4, _, _, acc3 ++ acc4, rfl, Same.tr g3 g4, sp4.put1.tail, ?_⟩
            rw [List.range_succ, List.flatMap_append, List.flatMap_singleton, if_neg he, ← List.append_assoc]
            exact papp hp4 (hp3.mono fun _ _ z => MsAt.up g4 z)
      · rintro σ H4 ⟨K3, y7, y8, acc3, rfl, g3, sp3, hp3⟩
        refine ⟨K3, _, _, _, _, acc3, rfl, Same.tr g1 (Same.tr g2 g3), sp3, ?_⟩
        rw [List.range_succ, List.flatMap_append, List.flatMap_singleton]
        exact hp3
    · rintro σ H1 ⟨K1, y5, y6, y7, y8, acc, rfl, g1, sp1, hp1⟩
      have g2 := sp1.new0
      exact ⟨_, rfl, q _ _ lp acc (Same.tr g1 g2) sp1.freeze upd_same (hp1.mono fun _ _ z => MsAt.up g2 z)⟩
end
end Cb

namespace Cb
open PySem PySem.Spec PyProof.Rows L2

theorem ints_at {l : List Int} {i : Nat} (h : i < l.length) : atI (l.map V.int) (i : Nat) = some (.int (l.getD i 0)) := by
  refine atIn ?_
  rw [List.getElem?_map, List.getElem?_eq_getElem h]
  simp [List.getD_eq_getElem?_getD, List.getElem?_eq_getElem h]
structure LdOk (ls ps : List Int) (c : Nat) : Prop where
  len : ls.length = ps.length
  l1 : 1 ≤ ls.length
  l7 : ls.length ≤ 7
  c1 : 1 ≤ c
  c4 : c ≤ 4
  hl : ∀ x ∈ ls, 0 ≤ x ∧ x ≤ 1000
  hp : ∀ x ∈ ps, 0 ≤ x ∧ x < (c : Int)
def fewV (K : PySem.W.Frag) (H : Hp) (v : V) : Option (List Mv) → Prop
  | none => v = .non
  | some ms => MsAt K H v ms
def sp_fewest_moves (K : PySem.W.Frag) : Sp := fun vs H Q _ => ∃ (a b : Addr) (ls ps : List Int) (c : Nat) (bd : Int) (K0 : Hp) (M : List (Addr × HO)), vs = [.ref a, .ref b, .int c, .int bd] ∧ SqT K K0 a (ls.map V.int) ∧ SqT K K0 b (ps.map V.int) ∧ LdOk ls ps c ∧ 0 ≤ bd ∧ bd ≤ 7000 ∧ Sep K0 H M ∧
  ∀ K1 H' v, Same K0 K1 → Sep K1 H' M → fewV K K1 v (fewP ls ps c bd) → Q v H'
def sp_least_spread (K : PySem.W.Frag) : Sp := fun vs H Q _ => ∃ (a b : Addr) (ls ps : List Int) (c k : Nat), vs = [.ref a, .ref b, .int c, .int k] ∧ SqT K H a (ls.map V.int) ∧ SqT K H b (ps.map V.int) ∧ LdOk ls ps c ∧ k ≤ 7 ∧
  ∀ H', Same H H' → Q (.int (leastP ls ps c k)) H'
def sp_judge_moves (K : PySem.W.Frag) : Sp := fun vs H Q _ => ∃ (a b l : Addr) (ls ps : List Int) (c : Nat) (xs : List V) (ms : List Mv), vs = [.ref a, .ref b, .int c, .ref l] ∧ SqT K H a (ls.map V.int) ∧ SqT K H b (ps.map V.int) ∧ LdOk ls ps c ∧ SqL K H l xs ∧ Paired (MvAt K H) xs ms ∧ (∀ m ∈ ms, MvOk ps c m) ∧ (ms.map (·.1)).Nodup ∧
  ∀ H', Same H H' → Q (.int (diffI ls (movedL ps ms) c)) H'
theorem inV_ints {l : List Int} {x : Int} (h : x ∉ l) : inV (.int x) (l.map V.int) = false := by
  unfold inV
  refine List.any_eq_false.mpr fun y m => ?_
  obtain ⟨z, hz, rfl⟩ := List.mem_map.mp m
  simp only [eqV, beq_iff_eq]
  exact fun e => h (e ▸ hz)
theorem flat_ints (l : List Int) : (l.map V.int).all flatV = true := by simp [flatV]
theorem map_snoc2 {α β γ : Type} {f : α → β} {g : β → γ} {l : List α} {x : α} : ((l ++ [x]).map f).map g = (l.map f).map g ++ [g (f x)] := by simp
theorem nodup_small : ∀ {l : List Int} {n : Nat}, l.Nodup → (∀ x ∈ l, 0 ≤ x ∧ x < (n : Int)) → l.length ≤ n := by
  intro l n h hb
  have h2 : l ⊆ (List.range n).map fun k : Nat => (k : Int) := fun x hx => by
    have := hb x hx
    exact List.mem_map.mpr ⟨x.toNat, List.mem_range.mpr (by omega), by omega⟩
  have z := List.Nodup.length_le_of_subset h h2
  simpa using z
theorem range_cut {i k : Nat} : List.range (i + (k + 1)) = List.range i ++ i :: (List.range k).map fun j => i + (j + 1) := by
  rw [List.range_add, List.range_succ_eq_map, List.map_cons, List.map_map]
  rfl
theorem allL_cut {ps : List Int} {c i n : Nat} (h : i < n) : ∃ r, allL ps c n = allL ps c i ++ (mlists ps c i 0 ++ r) := by
  obtain ⟨k, rfl⟩ : ∃ k, n = i + (k + 1) := ⟨n - i - 1, by omega⟩
  unfold allL
  rw [range_cut, List.flatMap_append, List.flatMap_cons]
  exact ⟨_, rfl⟩
theorem allL_succ {ps : List Int} {c i : Nat} : allL ps c (i + 1) = allL ps c i ++ mlists ps c i 0 := by
  unfold allL
  rw [List.range_succ, List.flatMap_append, List.flatMap_singleton]
theorem find_none {α : Type} {p : α → Bool} {l : List α} (h : ∀ x ∈ l, p x = false) : l.find? p = none := List.find?_eq_none.mpr fun x m => by rw [h x m]; decide
theorem few_of {ls ps : List Int} {c i j : Nat} {b : Int} {ms : List Mv} (hi : i ≤ ls.length) (h1 : ∀ z ∈ allL ps c i, goodB ls ps c b z = false) (h2 : ∀ z ∈ (mlists ps c i 0).take j, goodB ls ps c b z = false) (hj : (mlists ps c i 0)[j]? = some ms) (hg : goodB ls ps c b ms = true) : fewP ls ps c b = some ms := by
  unfold fewP
  obtain ⟨r, e⟩ := allL_cut (ps := ps) (c := c) (show i < ls.length + 1 by omega)
  rw [e, List.find?_append, find_none h1, Option.none_or, List.find?_append]
  have hs : mlists ps c i 0 = (mlists ps c i 0).take j ++ ms :: (mlists ps c i 0).drop (j + 1) := by
    have hlt : j < (mlists ps c i 0).length := (List.getElem?_eq_some_iff.mp hj).1
    have he : (mlists ps c i 0)[j] = ms := (List.getElem?_eq_some_iff.mp hj).2
    rw [← he, ← List.drop_eq_getElem_cons hlt, List.take_append_drop]
  rw [hs, List.find?_append, find_none h2, Option.none_or, List.find?_cons, hg]
  rfl
theorem movedL_ok {ls ps : List Int} {c : Nat} (ok : LdOk ls ps c) {ms : List Mv} (h : ∀ m ∈ ms, MvOk ps c m) : ls.length = (movedL ps ms).length ∧ (movedL ps ms).length ≤ 7 ∧ ∀ x ∈ movedL ps ms, 0 ≤ x ∧ x < (c : Int) := by
  have := ok.len
  have := ok.l7
  exact ⟨by rw [movedL_len]; omega, by rw [movedL_len]; omega, movedL_bd h ok.hp⟩

section
variable {P : Program} {w : World} {K : PySem.W.Frag} {mg : Str → Option Value} {base : Heap}

theorem ml_all {fd : FuncData} (T : Txt K mg) (F : FunD K "move_lists" "move_lists" (C8.fnArgs s_move_lists) (C8.fnBody s_move_lists) (C8.fnScope s_move_lists) [.int 0] [] (He.ga K "move_lists") fd) : ∀ L, FnOk P w K mg base C8.CX0 (L + 1) (He.ga K "move_lists") fd ["places", "count", "length", "start"] (sp_move_lists L K)
  | 0 => ml_0 T F
  | L + 1 => ml_S T F (calA_ml T F (ml_all T F L))
theorem ml_u {fd : FuncData} (T : Txt K mg) (F : FunD K "move_lists" "move_lists" (C8.fnArgs s_move_lists) (C8.fnBody s_move_lists) (C8.fnScope s_move_lists) [.int 0] [] (He.ga K "move_lists") fd) : C8.Cal P w K mg base 8 "move_lists" (sp_ml K) [.int 0] :=
  calB_ml T F ⟨fun vs H Q E h => h.elim fun L h => (ml_all (P := P) (w := w) (base := base) T F L).len _ _ _ _ h.2, fun A outer s H args us vs Q E hr he hb hv hs => hs.elim fun L h => ((ml_all T F L).mono (by have := h.1; omega)).run A outer s H args us vs Q E hr he hb hv h.2⟩
theorem ok_move_lists {fd : FuncData} (T : Txt K mg) (F : FunD K "move_lists" "move_lists" (C8.fnArgs s_move_lists) (C8.fnBody s_move_lists) (C8.fnScope s_move_lists) [.int 0] [] (He.ga K "move_lists") fd) :
    C8.Cal P w K mg base 8 "move_lists" (sp_ml K) [.int 0] := by
  exact ml_u T F

abbrev N_least_spread : List Str := ["loads", "places", "count", "most", "spreads", "length", "moves"]
theorem sc_least_spread : FnScope N_least_spread ["loads", "places", "count", "most"] (C8.fnScope s_least_spread) := C8.fnScope_by (by decide +kernel)
theorem ok_least_spread {fd : FuncData} (T : Txt K mg) (F : FunD K "least_spread" "least_spread" (C8.fnArgs s_least_spread) (C8.fnBody s_least_spread) (C8.fnScope s_least_spread) [] [] (He.ga K "least_spread") fd) (c_check_loads : C8.Cal P w K mg base 3 "check_loads" (sp_check_loads K) []) (c_check_number : C8.Cal P w K mg base 2 "check_number" sp_check_number []) (c_move_lists : C8.Cal P w K mg base 8 "move_lists" (sp_ml K) [.int 0]) (c_difference : C8.Cal P w K mg base 1 "difference" (sp_difference K) []) (c_moved : C8.Cal P w K mg base 1 "moved" (sp_moved K) []) :
    C8.Cal P w K mg base 9 "least_spread" (sp_least_spread K) [] := by
  refine C8.cal0 (ds := []) ⟨fun_c8 F, T.f_least_spread, F.kp⟩ (F.bindsN fun _ _ _ _ _ _ us hl => match us, hl with | [_, _, _, _], _ => rfl) .nil sc_least_spread (fun vs H Q E h => ?_) (fun cdv A outer s H vs Q E hr h => ?_)
  · obtain ⟨_, _, _, _, _, _, rfl, _⟩ := h
    rfl
  · have nd := sc_least_spread.nd
    have hu := hu_of hr
    obtain ⟨a, b, ls, ps, c, k, rfl, ha, hb, ok, hk, q⟩ := h
    refine ⟨_, (pss_cons (ps_expr (C8.pe_c c_check_loads hr (by decide) rfl (pa_cons (pv 0) (pa_cons (pv 1) (pa_cons (pv 2) pa_nil)))))
      (pss_cons (ps_expr (C8.pe_c c_check_number hr (by decide) rfl (pa_cons (pv 3) (pa_cons pe_int (pa_cons (C8.pe_gc rfl T.k_MAX_LOADS) pa_nil)))))
      (pss_cons (ps_set (i := 4) nd rfl (Or.inl rfl) (pe_lst pa_nil))
      (pss_cons (ps_for PassesOwn.never rfl (pi_range1 (by rfl) T.n_range (pa_cons (pe_op op_add (pe_callB (call_min2 rfl) (by rfl) T.n_min (by decide +kernel) (pa_cons (pv 3) (pa_cons (pe_callB call_len_seq (by rfl) T.n_len (by decide +kernel) (pa_cons (pv 0) pa_nil)) pa_nil))) pe_int) pa_nil)) (pg_name (i := 5) nd rfl (Or.inl rfl)) (pss_one (ps_for PassesOwn.never rfl (pi_list (C8.pe_c c_move_lists hr (by decide) rfl (pa_cons (pv 1) (pa_cons (pv 2) (pa_cons (pv 5) pa_nil))))) (pg_name (i := 6) nd rfl (Or.inl rfl)) (pss_one (ps_expr (pe_bm PySem.F.plainAttrs_list PySem.F.slot_list_append PySem.F.type_list_append mt_append (pv 4) (pa_cons (C8.pe_c c_difference hr (by decide) rfl (pa_cons (pv 0) (pa_cons (C8.pe_c c_moved hr (by decide) rfl (pa_cons (pv 1) (pa_cons (pv 6) pa_nil))) (pa_cons (pv 2) pa_nil)))) pa_nil)))))))
      (pss_one (ps_ret (pe_callB (cr_min rfl) (by rfl) T.n_min (by decide +kernel) (pa_cons (pv 4) pa_nil)))))))), ?_⟩
    have hlen := ok.len
    have h7 := ok.l7
    have hc4 := ok.c4
    refine ⟨_, rfl, _, rfl, _, rfl, a, b, ls, ps, c, rfl, ha, hb, ok.len, ok.l1, ok.l7, ok.c1, ok.c4, ok.hl, ok.hp, fun H1 g1 => ?_⟩
    refine ⟨_, rfl, (k : Int), 0, 7, rfl, by omega, by omega, ?_⟩
    refine ⟨Nat.zero_le _, fun S hS => ?_⟩
    have sp0 := ((Sep.nil (H := H)).grow g1).own (o := .lst []) hS
    have em : (if (((ls.map V.int).length : Nat) : Int) < (k : Int) then (((ls.map V.int).length : Nat) : Int) else (k : Int)) + 1 = ((min k ls.length + 1 : Nat) : Int) := by
      rw [List.length_map]
      split <;> omega
    refine ⟨_, rfl, _, rfl, a, _, rfl, .inr (Same.tup sp0.ext ha), _, _, rfl, _, _, rfl, rfl, ((min k ls.length + 1 : Nat) : Int), congrArg (fun z => [V.int z]) em, by omega, by omega, ?_⟩
    rw [Int.toNat_natCast]
    generalize hn : min k ls.length + 1 = n
    have hn8 : n ≤ 8 := by omega
    have all_len : ∀ i, i ≤ n → (allL ps c i).length ≤ i * 78125 := fun i _ => by
      have z := flatMap_len_le (f := fun L => mlists ps c L 0) (k := 78125) (l := List.range i) fun L _ => mlists_len7 hc4 (by omega)
      rwa [List.length_range] at z
    refine for_it (walk_range (lo := 0) (n := n)) (fun i σ H' => ∃ K1 y5 y6, σ = [some (.ref a), some (.ref b), some (.int c), some (.int k), some (.ref S), y5, y6] ∧ Same H K1 ∧ Sep K1 H' [(S, .lst (((allL ps c i).map fun ms => diffI ls (movedL ps ms) c).map V.int))]) ⟨H, _, _, rfl, Same.refl _, sp0⟩ (fun _ _ _ _ _ => trivial) ?_ ?_
    · rintro i x σ H2 H3 hi ⟨K1, y5, y6, rfl, g2, sp2⟩ ⟨rfl, hx⟩
      obtain rfl : x = V.int ((i : Nat) : Int) := hx.trans (congrArg V.int (by omega))
      have hb2 := Same.tup g2 hb
      refine ⟨_, rfl, _, rfl, _, rfl, i, by omega, b, ps, c, 0, K1, _, rfl, hb2, by omega, ok.c4, by omega, by omega, sp2, fun K2 H4 p xs g3 sp3 hpx hxs => ?_⟩
      refine ⟨p, rfl, ⟨xs, l_of (sp3.ext _ _ hpx)⟩, ?_⟩
      refine for_it (walk_list (xs := xs)) (fun j σ H' => ∃ y6, σ = [some (.ref a), some (.ref b), some (.int c), some (.int k), some (.ref S), some (.int ((i : Nat) : Int)), y6] ∧ Sep K2 H' [(S, .lst (((allL ps c i ++ (mlists ps c i 0).take j).map fun ms => diffI ls (movedL ps ms) c).map V.int))]) ⟨_, rfl, by
        rw [List.take_zero, List.append_nil]
        exact sp3⟩ ?_ ?_ ?_
      · rintro j σ H' _ ⟨y6, rfl, sp4⟩
        exact l_of (sp4.ext _ _ hpx)
      · rintro j v σ H5 H6 hj ⟨y6, rfl, sp4⟩ ⟨rfl, e2⟩
        obtain ⟨ms, hms, ml⟩ := pget hxs e2
        obtain ⟨m, vs, rfl, hvs, hpv⟩ := id ml
        have hmok := (mlists_ok (List.mem_of_getElem? hms)).ok
        have mok := movedL_ok ok hmok
        have a3 := Same.tup sp4.ext (Same.tup g3 (Same.tup g2 ha))
        have b3 := Same.tup sp4.ext (Same.tup g3 hb2)
        refine ⟨_, rfl, .inl ⟨rfl, _, .inl (.inl sp4.c0)⟩, _, rfl, _, rfl, _, rfl, b, m, ps, vs, ms, rfl, b3, l_of (sp4.ext _ _ hvs), hpv.mono fun _ _ z => MvAt.up sp4.ext z, fun z hz => ⟨(hmok z hz).1, (hmok z hz).2.1⟩, by omega, fun H7 p2 g5 hn2 hp2 => ?_⟩
        refine ⟨_, rfl, a, p2, ls, movedL ps ms, c, rfl, Same.tup g5 a3, l_of hp2, mok.1, mok.2.1, ok.c1, ok.c4, mok.2.2, fun H8 g6 => ?_⟩
        have sp5 := sp4.grow (Same.tr g5 g6)
        refine ⟨_, _, _, rfl, rfl, sp5.c0, ?_, ?_⟩
        · rw [List.length_map, List.length_map, List.length_append]
          have z1 := all_len i (by omega)
          have z2 := mlists_len7 (ps := ps) (c := c) (L := i) (s := 0) hc4 (by omega)
          have z3 : ((mlists ps c i 0).take j).length ≤ 78125 := by rw [List.length_take]; exact Nat.le_trans (Nat.min_le_right _ _) z2
          have z4 := Nat.mul_le_mul_right 78125 (show i ≤ 8 by omega)
          exact Nat.lt_of_le_of_lt (Nat.add_le_add (Nat.le_trans z1 z4) z3) (by decide)
        · refine ⟨_, rfl, ?_⟩
          rw [take_snoc hms, ← List.append_assoc, map_snoc2]
          exact sp5.put0
      · rintro σ H5 ⟨y6, rfl, sp4⟩
        rw [List.take_of_length_le (Nat.le_of_eq hxs.length.symm), ← allL_succ] at sp4
        exact ⟨K2, _, _, rfl, Same.tr g2 g3, sp4⟩
    · rintro σ H2 ⟨K1, y5, y6, rfl, g2, sp2⟩
      have ne : 0 < ((allL ps c n).map fun ms => diffI ls (movedL ps ms) c).length := by
        rw [List.length_map]
        obtain ⟨n', rfl⟩ : ∃ n', n = n' + 1 := ⟨n - 1, by omega⟩
        exact List.length_pos_of_mem (nil_allL (ps := ps) (c := c) (k := n'))
      refine ⟨_, rfl, S, (allL ps c n).map fun ms => diffI ls (movedL ps ms) c, rfl, l_of sp2.c0, ne, fun m m1 m2 => ?_⟩
      rw [mnL_of m1 m2, ← hn]
      exact q H2 (Same.tr g2 sp2.ext)
    
abbrev N_judge_moves : List Str := ["loads", "places", "count", "moves", "indexes", "at", "move"]
theorem sc_judge_moves : FnScope N_judge_moves ["loads", "places", "count", "moves"] (C8.fnScope s_judge_moves) := C8.fnScope_by (by decide +kernel)
theorem ok_judge_moves {fd : FuncData} (T : Txt K mg) (F : FunD K "judge_moves" "judge_moves" (C8.fnArgs s_judge_moves) (C8.fnBody s_judge_moves) (C8.fnScope s_judge_moves) [] [] (He.ga K "judge_moves") fd) (c_check_loads : C8.Cal P w K mg base 3 "check_loads" (sp_check_loads K) []) (c_is_move : C8.Cal P w K mg base 2 "is_move" (sp_is_move K) []) (c_difference : C8.Cal P w K mg base 1 "difference" (sp_difference K) []) (c_moved : C8.Cal P w K mg base 1 "moved" (sp_moved K) []) :
    C8.Cal P w K mg base 4 "judge_moves" (sp_judge_moves K) [] := by
  refine C8.cal0 (ds := []) ⟨fun_c8 F, T.f_judge_moves, F.kp⟩ (F.bindsN fun _ _ _ _ _ _ us hl => match us, hl with | [_, _, _, _], _ => rfl) .nil sc_judge_moves (fun vs H Q E h => ?_) (fun cdv A outer s H vs Q E hr h => ?_)
  · obtain ⟨_, _, _, _, _, _, _, _, rfl, _⟩ := h
    rfl
  · have nd := sc_judge_moves.nd
    have hu := hu_of hr
    obtain ⟨a, b, l, ls, ps, c, xs, ms, rfl, ha, hb, ok, hl, hp, hok, hnd, q⟩ := h
    refine ⟨_, (pss_cons (ps_expr (C8.pe_c c_check_loads hr (by decide) rfl (pa_cons (pv 0) (pa_cons (pv 1) (pa_cons (pv 2) pa_nil)))))
      (pss_cons (ps_set (i := 4) nd rfl (Or.inl rfl) (pe_lst pa_nil))
      (pss_cons (ps_for PassesOwn.never rfl (pi_enum (by rfl) T.n_enumerate (pa_cons (pv 3) pa_nil)) (pg_tup rfl (pgs_cons (pg_name (i := 5) nd rfl (Or.inl rfl)) (pgs_cons (pg_name (i := 6) nd rfl (Or.inl rfl)) pgs_nil))) (pss_cons (ps_if (PW.pt (pw_or (pt_not (pt_val (C8.pe_c c_is_move hr (by decide) rfl (pa_cons (pv 1) (pa_cons (pv 2) (pa_cons (pv 6) pa_nil)))))) (pw_or1 (pt_cmpR op_in_seq (pe_ix ix_tup (pv 6) pe_int (fun _ _ => rfl)) (pv 4) (by rfl))))) (pss_one ps_never) pss_nil)
      (pss_one (ps_expr (pe_bm PySem.F.plainAttrs_list PySem.F.slot_list_append PySem.F.type_list_append mt_append (pv 4) (pa_cons (pe_ix ix_tup (pv 6) pe_int (fun _ _ => rfl)) pa_nil))))))
      (pss_one (ps_ret (C8.pe_c c_difference hr (by decide) rfl (pa_cons (pv 0) (pa_cons (C8.pe_c c_moved hr (by decide) rfl (pa_cons (pv 1) (pa_cons (pv 3) pa_nil))) (pa_cons (pv 2) pa_nil))))))))), ?_⟩
    refine ⟨_, rfl, _, rfl, _, rfl, a, b, ls, ps, c, rfl, ha, hb, ok.len, ok.l1, ok.l7, ok.c1, ok.c4, ok.hl, ok.hp, fun H1 g1 => ?_⟩
    refine ⟨Nat.zero_le _, fun S hS => ?_⟩
    have sp0 := ((Sep.nil (H := H)).grow g1).own (o := .lst []) hS
    refine ⟨_, rfl, l, xs, rfl, Same.lst sp0.ext hl, ?_⟩
    refine for_it (walk_enum (xs := xs)) (fun i σ H' => ∃ y5 y6, σ = [some (.ref a), some (.ref b), some (.int c), some (.ref l), some (.ref S), y5, y6] ∧ Sep H H' [(S, .lst (((ms.take i).map (·.1)).map V.int))]) ⟨_, _, rfl, sp0⟩ ?_ ?_ ?_
    · rintro i σ H' _ ⟨y5, y6, rfl, sp⟩
      exact Same.lst sp.ext hl
    · rintro i x σ H2 H3 hi ⟨y5, y6, rfl, sp⟩ ⟨t, u, v, rfl, ht, rfl, e1, e2⟩
      obtain rfl := Option.some.inj e1
      obtain ⟨m, hm, r, rfl, hr⟩ := pget hp e2
      have sp1 := sp.drop (o := .tup [.int (i : Nat), .ref r]) ht
      have hS1 := sp1.c0
      have hml := List.mem_of_getElem? hm
      have hr1 := Same.tup sp1.ext hr
      refine ⟨_, _, rfl, t_of upd_same, rfl, _, _, rfl, _, _, rfl, rfl, ?_⟩
      refine ⟨_, rfl, _, rfl, _, rfl, b, r, ps, c, m, rfl, Same.tup sp1.ext hb, hr1, hok m hml, true, rfl, iteF ?_⟩
      refine ⟨_, rfl, _, _, _, _, rfl, rfl, hr1, rfl, _, rfl, _, _, rfl, .inl (l_of hS1), rfl, flat_ints _, false, congrArg V.bl (inV_ints ?_), iteF ?_⟩
      · rw [List.map_take]
        exact nodup_take hnd (by rw [List.getElem?_map, hm]; rfl)
      refine ⟨_, rfl, .inl ⟨rfl, _, .inl (.inl hS1)⟩, _, rfl, _, _, _, _, rfl, rfl, hr1, rfl, _, _, _, rfl, rfl, hS1, ?_, ?_⟩
      · have z : (ms.map (·.1)).length ≤ 7 := by
          have zz := nodup_small hnd fun x hx => by
            obtain ⟨m', hm', rfl⟩ := List.mem_map.mp hx
            exact ⟨(hok m' hm').1, (hok m' hm').2.1⟩
          have := ok.l7
          have := ok.len
          omega
        rw [List.length_map, List.length_map, List.length_take]
        rw [List.length_map] at z
        exact Nat.lt_of_le_of_lt (Nat.min_le_right _ _) (Nat.lt_of_le_of_lt z (by decide))
      · refine ⟨_, _, rfl, ?_⟩
        rw [take_snoc hm, List.map_append, List.map_append]
        exact sp1.put0
    · rintro σ H2 ⟨y5, y6, rfl, sp⟩
      have mok := movedL_ok ok hok
      refine ⟨_, rfl, _, rfl, _, rfl, b, l, ps, xs, ms, rfl, Same.tup sp.ext hb, Same.lst sp.ext hl, hp.mono fun _ _ z => MvAt.up sp.ext z, fun z hz => ⟨(hok z hz).1, (hok z hz).2.1⟩, by have := ok.l7; have := ok.len; omega, fun H7 p2 g5 hn2 hp2 => ?_⟩
      exact ⟨_, rfl, a, p2, ls, movedL ps ms, c, rfl, Same.tup g5 (Same.tup sp.ext ha), l_of hp2, mok.1, mok.2.1, ok.c1, ok.c4, mok.2.2, fun H8 g6 => q H8 (Same.tr sp.ext (Same.tr g5 g6))⟩
    
end
end Cb

namespace Cb
open PySem PySem.Spec PyProof.Rows L2

def rowO (sc : Addr) (i g x : Int) : HO := .lst [.ref sc, .int i, .int g, .int x]
def sp_law_taken (K : PySem.W.Frag) : Sp := fun vs H Q _ => ∃ (row sc : Addr) (m : Int) (ns : List Int) (i g x : Int) (K0 : Hp) (M : List (Addr × HO)), vs = [.ref row, .int m] ∧ 0 < m ∧ m < 100000 ∧ 0 ≤ i ∧ (0 ≤ g ∧ g < 2147483647) ∧ SqL K K0 sc (ns.map V.int) ∧ Sep K0 H ((row, rowO sc i g x) :: M) ∧
  ∀ H' i' g' x' r, 0 ≤ i' → (0 ≤ g' ∧ g' < 2147483647) → 0 ≤ r → r < m → Sep K0 H' ((row, rowO sc i' g' x') :: M) → Q (.int r) H'
def Dr (K' H : Hp) (row sc : Addr) (M : List (Addr × HO)) : Prop := ∃ i g x, 0 ≤ i ∧ (0 ≤ g ∧ g < 2147483647) ∧ Sep K' H ((row, rowO sc i g x) :: M)
def sp_law (K : PySem.W.Frag) : Sp := fun vs H Q _ => ∃ (a : Addr) (ns : List Int), vs = [.ref a] ∧ SqL K H a (ns.map V.int) ∧ ∀ H', Q (.bl true) H'
theorem taken {K : PySem.W.Frag} {row sc : Addr} {m : Int} {ns : List Int} {K0 H : Hp} {M : List (Addr × HO)} {Q : VK} {E : XK} (hm : 0 < m) (hm2 : m < 100000) (hsc : SqL K K0 sc (ns.map V.int)) (d : Dr K0 H row sc M) (q : ∀ H' r, 0 ≤ r → r < m → Dr K0 H' row sc M → Q (.int r) H') : sp_law_taken K [.ref row, .int m] H Q E := by
  obtain ⟨i, g, x, hi, hg, sp⟩ := d
  exact ⟨row, sc, m, ns, i, g, x, K0, M, rfl, hm, hm2, hi, hg, hsc, sp, fun H' i' g' x' r h1 h2 h3 h4 sp' => q H' r h3 h4 ⟨i', g', x', h1, h2, sp'⟩⟩
theorem takenT {K : PySem.W.Frag} {row sc : Addr} {m : Int} {ns : List Int} {K0 H : Hp} {M : List (Addr × HO)} {σ : L2.St} {Q : VK} {E : XK} (hσ : σ[1]? = some (some (V.ref row))) (hm : 0 < m) (hm2 : m < 100000) (hsc : SqL K K0 sc (ns.map V.int)) (d : Dr K0 H row sc M) (q : ∀ H' r, 0 ≤ r → r < m → Dr K0 H' row sc M → Q (.int r) H') : tCall (sp_law_taken K) [] E (tCons (tVar 1) (tCons (tC (.int m)) tNil)) σ H Q := ⟨_, hσ, taken (E := E) hm hm2 hsc d q⟩
section
variable {K' H : Hp} {row sc : Addr} {M : List (Addr × HO)}
theorem Dr.ext (d : Dr K' H row sc M) : Same K' H := d.elim fun _ h => h.elim fun _ h => h.elim fun _ h => h.2.2.ext
theorem Dr.own (d : Dr K' H row sc M) {p : Addr} {o : HO} (h : H p = none) : Dr K' (upd H p o) row sc ((p, o) :: M) := by
  obtain ⟨i, g, x, hi, hg, sp⟩ := d
  exact ⟨i, g, x, hi, hg, (sp.own h).swap⟩
theorem Dr.drop (d : Dr K' H row sc M) {p : Addr} {o : HO} (h : H p = none) : Dr K' (upd H p o) row sc M := by
  obtain ⟨i, g, x, hi, hg, sp⟩ := d
  exact ⟨i, g, x, hi, hg, sp.drop h⟩
theorem Dr.keep (d : Dr K' H row sc M) {p : Addr} {o : HO} (h : H p = none) : Dr (upd K' p o) (upd H p o) row sc M ∧ Same K' (upd K' p o) := by
  obtain ⟨i, g, x, hi, hg, sp⟩ := d
  exact ⟨⟨i, g, x, hi, hg, sp.keep h⟩, sp.newk h⟩
theorem Dr.at0 {p : Addr} {o : HO} (d : Dr K' H row sc ((p, o) :: M)) : H p = some o := by
  obtain ⟨i, g, x, hi, hg, sp⟩ := d
  exact sp.c1
theorem Dr.at1 {p : Addr} {o : HO} {e : Addr × HO} (d : Dr K' H row sc (e :: (p, o) :: M)) : H p = some o := by
  obtain ⟨i, g, x, hi, hg, sp⟩ := d
  exact sp.c2
theorem Dr.put {p : Addr} {o o' : HO} (d : Dr K' H row sc ((p, o) :: M)) : Dr K' (upd H p o') row sc ((p, o') :: M) := by
  obtain ⟨i, g, x, hi, hg, sp⟩ := d
  exact ⟨i, g, x, hi, hg, sp.put1⟩
theorem Dr.tail {e : Addr × HO} (d : Dr K' H row sc (e :: M)) : Dr K' H row sc M := by
  obtain ⟨i, g, x, hi, hg, sp⟩ := d
  exact ⟨i, g, x, hi, hg, sp.swap.tail⟩
theorem Dr.freeze {p : Addr} {o : HO} (d : Dr K' H row sc ((p, o) :: M)) : Dr (upd K' p o) H row sc M ∧ Same K' (upd K' p o) := by
  obtain ⟨i, g, x, hi, hg, sp⟩ := d
  exact ⟨⟨i, g, x, hi, hg, sp.swap.freeze⟩, sp.swap.new0⟩
end

theorem takenV {K : PySem.W.Frag} {row sc : Addr} {m : Int} {ns : List Int} {K0 H : Hp} {M : List (Addr × HO)} {σ : L2.St} {Q : VK} {E : XK} {v : Nat} (hσ : σ[v]? = some (some (V.ref row))) (hm : 0 < m) (hm2 : m < 100000) (hsc : SqL K K0 sc (ns.map V.int)) (d : Dr K0 H row sc M) (q : ∀ H' r, 0 ≤ r → r < m → Dr K0 H' row sc M → Q (.int r) H') : tCall (sp_law_taken K) [] E (tCons (tVar v) (tCons (tC (.int m)) tNil)) σ H Q := ⟨_, hσ, taken (E := E) hm hm2 hsc d q⟩
theorem takenW {K : PySem.W.Frag} {row sc : Addr} {m : Int} {ns : List Int} {K0 H : Hp} {M : List (Addr × HO)} {σ : L2.St} {Q : VK} {E : XK} {v u : Nat} (hσ : σ[v]? = some (some (V.ref row))) (hu : σ[u]? = some (some (V.int m))) (hm : 0 < m) (hm2 : m < 100000) (hsc : SqL K K0 sc (ns.map V.int)) (d : Dr K0 H row sc M) (q : ∀ H' r, 0 ≤ r → r < m → Dr K0 H' row sc M → Q (.int r) H') : tCall (sp_law_taken K) [] E (tCons (tVar v) (tCons (tVar u) tNil)) σ H Q := ⟨_, hσ, _, hu, taken (E := E) hm hm2 hsc d q⟩
theorem takenQ {K : PySem.W.Frag} {row sc : Addr} {ns : List Int} {K0 H : Hp} {M : List (Addr × HO)} {σ : L2.St} {Q : VK} {E : XK} {v : Nat} {te : TE} (m : Int) (hσ : σ[v]? = some (some (V.ref row))) (h : ∀ Q' : VK, Q' (.int m) H → te σ H Q') (hm : 0 < m) (hm2 : m < 100000) (hsc : SqL K K0 sc (ns.map V.int)) (d : Dr K0 H row sc M) (q : ∀ H' r, 0 ≤ r → r < m → Dr K0 H' row sc M → Q (.int r) H') : tCall (sp_law_taken K) [] E (tCons (tVar v) (tCons te tNil)) σ H Q := ⟨_, hσ, h _ (taken (E := E) hm hm2 hsc d q)⟩
theorem at3 {r : Int} (h0 : 0 ≤ r) (h3 : r < 3) : ∃ z, atI [V.int 3, V.int 9, V.int 1001] r = some (.int z) ∧ 0 < z ∧ z ≤ 1001 := by
  have : r = 0 ∨ r = 1 ∨ r = 2 := by omega
  rcases this with e | e | e
  · subst e
    exact ⟨3, rfl, by decide, by decide⟩
  · subst e
    exact ⟨9, rfl, by decide, by decide⟩
  · subst e
    exact ⟨1001, rfl, by decide, by decide⟩
theorem Sep.of (H : Hp) : Sep H H [] := Sep.nil
def asgScope : Stmt → Scope
  | .Assign _ (.ListComp _ _ sc _) _ => sc
  | s => C8.fnScope s
def rLenS (K : PySem.W.Frag) : List V → Hp → VK → Prop := fun xs H Q => ∃ p ys, xs = [V.ref p] ∧ (SqL K H p ys ∨ SqT K H p ys) ∧ Q (V.int ys.length) H
theorem call_lenS {X : Cx} : CallR X (.builtin "len") (rLenS X.K) := call_len_seq
def sp_law_loads (K : PySem.W.Frag) : Sp := fun vs H Q _ => ∃ (row sc : Addr) (most : Int) (ns : List Int) (K0 : Hp) (M : List (Addr × HO)), vs = [.ref row, .int most] ∧ 1 ≤ most ∧ most ≤ 6 ∧ SqL K K0 sc (ns.map V.int) ∧ Dr K0 H row sc M ∧
  ∀ K1 H' t a b ls ps c, Same K0 K1 → Dr K1 H' row sc M → SqT K K1 t [.ref a, .ref b, .int ((c : Nat) : Int)] → SqT K K1 a (ls.map V.int) → SqT K K1 b (ps.map V.int) → LdOk ls ps c → (ls.length : Int) ≤ most → Q (.ref t) H'
def sp_law_spread (K : PySem.W.Frag) : Sp := fun vs H Q _ => ∃ (a b : Addr) (ls ps : List Int) (c : Nat), vs = [.ref a, .ref b, .int c] ∧ SqT K H a (ls.map V.int) ∧ SqT K H b (ps.map V.int) ∧ LdOk ls ps c ∧
  ∀ H', Same H H' → Q (.int (diffI ls ps c)) H'

section
variable {P : Program} {w : World} {K : PySem.W.Frag} {mg : Str → Option Value} {base : Heap}

abbrev N_law_taken : List Str := ["_law_row", "_law_many", "_law_found", "_law_cell"]
theorem sc_law_taken : FnScope N_law_taken ["_law_row", "_law_many"] (C8.fnScope s_law_taken) := C8.fnScope_by (by decide +kernel)
theorem ok_law_taken {fd : FuncData} (T : Txt K mg) (F : FunD K "_law_taken" "_law_taken" (C8.fnArgs s_law_taken) (C8.fnBody s_law_taken) (C8.fnScope s_law_taken) [] [] (He.ga K "_law_taken") fd) :
    C8.Cal P w K mg base 1 "_law_taken" (sp_law_taken K) [] := by
  refine C8.cal0 (ds := []) ⟨fun_c8 F, T.f__law_taken, F.kp⟩ (F.bindsN fun _ _ _ _ _ _ us hl => match us, hl with | [_, _], _ => rfl) .nil sc_law_taken (fun vs H Q E h => ?_) (fun cdv A outer s H vs Q E hr h => ?_)
  · obtain ⟨_, _, _, _, _, _, _, _, _, rfl, _⟩ := h
    rfl
  · have nd := sc_law_taken.nd
    have hu := hu_of hr
    obtain ⟨row, sc, m, ns, i, g, x, K0, M, rfl, hm, hm2, hi, hg, hsc, sp, q⟩ := h
    refine ⟨_, (pss_cons (ps_if (pt_cmpR op_gt (pe_ix ix_list (pv 0) pe_int (fun _ _ => rfl)) pe_int (nomark _)) (pss_cons (ps_set (i := 2) nd rfl (Or.inl rfl) (pe_op op_mod (pe_callTy call_int1 (by rfl) T.n_int (by decide +kernel) (pa_cons (pe_ix ix_list (pv 0) pe_int (fun _ _ => rfl)) pa_nil)) (pv 1)))
      (pss_cons (ps_asg (pe_op op_fdiv (pe_ix ix_list (pv 0) pe_int (fun _ _ => rfl)) (pv 1)) (pg_sub (pv 0) pe_int set_list))
      (pss_one (ps_ret (pv 2))))) pss_nil)
      (pss_cons (ps_asg (pe_op op_add (pe_ix ix_list (pv 0) pe_int (fun _ _ => rfl)) pe_int) (pg_sub (pv 0) pe_int set_list))
      (pss_cons (ps_if (pt_cmpR op_gt (pe_ix ix_list (pv 0) pe_int (fun _ _ => rfl)) (pe_callB call_len_seq (by rfl) T.n_len (by decide +kernel) (pa_cons (pe_ix ix_list (pv 0) pe_int (fun _ _ => rfl)) pa_nil)) (nomark _)) (pss_cons (ps_asg (pe_op op_mod (pe_callTy call_int1 (by rfl) T.n_int (by decide +kernel) (pa_cons (pe_op op_add (pe_op op_mul (pe_ix ix_list (pv 0) pe_int (fun _ _ => rfl)) pe_int) pe_int) pa_nil)) pe_int) (pg_sub (pv 0) pe_int set_list))
      (pss_one (ps_ret (pe_op op_mod (pe_callTy call_int1 (by rfl) T.n_int (by decide +kernel) (pa_cons (pe_op op_fdiv (pe_ix ix_list (pv 0) pe_int (fun _ _ => rfl)) pe_int) pa_nil)) (pv 1))))) pss_nil)
      (pss_cons (ps_set (i := 3) nd rfl (Or.inl rfl) (pe_ix ix_list (pe_ix ix_list (pv 0) pe_int (fun _ _ => rfl)) (pe_op op_sub (pe_ix ix_list (pv 0) pe_int (fun _ _ => rfl)) pe_int) (fun _ _ => rfl)))
      (pss_cons (ps_asg (pe_op op_mod (pe_callTy call_int1 (by rfl) T.n_int (by decide +kernel) (pa_cons (pe_op op_add (pe_op op_add (pe_op op_mul (pe_ix ix_list (pv 0) pe_int (fun _ _ => rfl)) pe_int) (pv 3)) pe_int) pa_nil)) pe_int) (pg_sub (pv 0) pe_int set_list))
      (pss_cons (ps_asg (pe_ifExp (pt_cmpR op_ge (pv 3) (pe_op op_pow pe_int pe_int) (nomark _)) (pe_op op_fdiv (pv 3) (pv 1)) pe_int) (pg_sub (pv 0) pe_int set_list))
      (pss_one (ps_ret (pe_op op_mod (pe_callTy call_int1 (by rfl) T.n_int (by decide +kernel) (pa_cons (pv 3) pa_nil)) (pv 1)))))))))), ?_⟩
    have hr0 := l_of (K := K) sp.c0
    have md : ∀ z : Int, 0 ≤ z % m ∧ z % m < m := fun z => ⟨Int.emod_nonneg z (by omega), Int.emod_lt_of_pos z hm⟩
    refine ⟨_, rfl, _, _, _, _, rfl, rfl, hr0, rfl, _, _, rfl, rfl, decide (0 < x), rfl, ?_⟩
    by_cases hx : 0 < x
    · rw [decide_eq_true hx]
      refine iteT ⟨_, rfl, _, _, _, _, rfl, rfl, hr0, rfl, .inl ⟨_, rfl, _, rfl, _, _, rfl, rfl, hm, ?_⟩⟩
      refine ⟨_, rfl, _, _, _, _, rfl, rfl, hr0, rfl, _, rfl, _, _, rfl, rfl, ⟨hm, by omega⟩, ?_⟩
      refine ⟨_, rfl, _, _, _, 3, rfl, rfl, sp.c0, rfl, ?_⟩
      have sp1 := sp.put0 (o' := rowO sc i g (x / m))
      exact ⟨_, rfl, q _ _ _ _ _ hi hg (md _).1 (md _).2 sp1⟩
    rw [decide_eq_false hx]
    refine iteF ?_
    refine ⟨_, rfl, _, _, _, _, rfl, rfl, hr0, rfl, _, _, rfl, rfl, ?_⟩
    refine ⟨_, rfl, _, _, _, 1, rfl, rfl, sp.c0, rfl, ?_⟩
    have sp1 := sp.put0 (o' := rowO sc (i + 1) g x)
    have hr1 := l_of (K := K) sp1.c0
    have hsc1 := Same.lst sp1.ext hsc
    refine ⟨_, rfl, _, _, _, _, rfl, rfl, hr1, rfl, _, rfl, _, _, _, _, rfl, rfl, hr1, rfl, _, _, rfl, .inl hsc1, _, _, rfl, rfl, decide (((ns.map V.int).length : Int) < i + 1), rfl, ?_⟩
    have rest : ∀ (z : Int), 0 ≤ z % m ∧ z % m < m := md
    by_cases hlen : ((ns.map V.int).length : Int) < i + 1
    · rw [decide_eq_true hlen]
      refine iteT ⟨_, rfl, _, _, _, _, rfl, rfl, hr1, rfl, _, _, rfl, rfl, (by unfold CMul; omega), _, _, rfl, rfl, .inl ⟨_, rfl, _, _, rfl, rfl, (by show (0 : Int) < 2147483647; decide), ?_⟩⟩
      refine ⟨_, rfl, _, _, _, 2, rfl, rfl, sp1.c0, rfl, ?_⟩
      have sp2 := sp1.put0 (o' := rowO sc (i + 1) ((g * 48271 + 11) % 2147483647) x)
      have hr2 := l_of (K := K) sp2.c0
      refine ⟨_, rfl, _, _, _, _, rfl, rfl, hr2, rfl, _, _, rfl, rfl, ⟨by decide, by decide⟩, .inl ⟨_, rfl, _, rfl, _, _, rfl, rfl, hm, ?_⟩⟩
      exact q _ _ _ _ _ (by omega) ⟨Int.emod_nonneg _ (by decide), Int.emod_lt_of_pos _ (by decide)⟩ (md _).1 (md _).2 sp2
    rw [decide_eq_false hlen]
    refine iteF ?_
    have hin : i.toNat < (ns.map V.int).length := by omega
    have hget : (ns.map V.int)[i.toNat]? = some (.int (ns[i.toNat]'(by simpa using hin))) := by simp
    have hat : atI (ns.map V.int) (i + 1 - 1) = some (.int (ns[i.toNat]'(by simpa using hin))) := by
      rw [show i + 1 - 1 = ((i.toNat : Nat) : Int) by omega]
      exact atIn hget
    generalize ns[i.toNat]'(by simpa using hin) = y at hget hat
    refine ⟨_, rfl, _, _, _, _, rfl, rfl, hr1, rfl, _, rfl, _, _, _, _, rfl, rfl, hr1, rfl, _, _, rfl, rfl, _, _, _, _, rfl, rfl, hsc1, hat, ?_⟩
    refine ⟨_, rfl, _, _, _, _, rfl, rfl, hr1, rfl, _, _, rfl, rfl, (by unfold CMul; omega), _, rfl, _, _, rfl, rfl, _, _, rfl, rfl, .inl ⟨_, rfl, _, _, rfl, rfl, (by show (0 : Int) < 2147483647; decide), ?_⟩⟩
    refine ⟨_, rfl, _, _, _, 2, rfl, rfl, sp1.c0, rfl, ?_⟩
    have sp2 := sp1.put0 (o' := rowO sc (i + 1) ((g * 48271 + y + 11) % 2147483647) x)
    have hg2 : 0 ≤ (g * 48271 + y + 11) % 2147483647 ∧ (g * 48271 + y + 11) % 2147483647 < 2147483647 := ⟨Int.emod_nonneg _ (by decide), Int.emod_lt_of_pos _ (by decide)⟩
    refine ⟨_, rfl, _, _, rfl, rfl, ⟨by decide, by decide, by decide⟩, _, _, rfl, rfl, decide (10 ^ 18 ≤ y), rfl, ?_⟩
    by_cases hy : 10 ^ 18 ≤ y
    · rw [decide_eq_true hy]
      refine iteT ⟨_, rfl, _, rfl, _, _, rfl, rfl, ⟨hm, by omega⟩, ?_⟩
      refine ⟨_, rfl, _, _, _, 3, rfl, rfl, sp2.c0, rfl, ?_⟩
      have sp3 := sp2.put0 (o' := rowO sc (i + 1) ((g * 48271 + y + 11) % 2147483647) (y / m))
      exact ⟨_, rfl, .inl ⟨_, rfl, _, rfl, _, _, rfl, rfl, hm, q _ _ _ _ _ (by omega) hg2 (md _).1 (md _).2 sp3⟩⟩
    · rw [decide_eq_false hy]
      refine iteF ⟨_, rfl, _, _, _, 3, rfl, rfl, sp2.c0, rfl, ?_⟩
      have sp3 := sp2.put0 (o' := rowO sc (i + 1) ((g * 48271 + y + 11) % 2147483647) 0)
      exact ⟨_, rfl, .inl ⟨_, rfl, _, rfl, _, _, rfl, rfl, hm, q _ _ _ _ _ (by omega) hg2 (md _).1 (md _).2 sp3⟩⟩
abbrev N_law_loads : List Str := ["_law_row", "_law_most", "_law_count", "_law_size", "_law_loads_here", "_law_k", "_law_load"]
theorem sc_law_loads : FnScope N_law_loads ["_law_row", "_law_most"] (C8.fnScope s_law_loads) := C8.fnScope_by (by decide +kernel)
theorem ok_law_loads {fd : FuncData} (T : Txt K mg) (F : FunD K "_law_loads" "_law_loads" (C8.fnArgs s_law_loads) (C8.fnBody s_law_loads) (C8.fnScope s_law_loads) [] [] (He.ga K "_law_loads") fd) (c__law_taken : C8.Cal P w K mg base 1 "_law_taken" (sp_law_taken K) []) :
    C8.Cal P w K mg base 2 "_law_loads" (sp_law_loads K) [] := by
  refine C8.cal0 (ds := []) ⟨fun_c8 F, T.f__law_loads, F.kp⟩ (F.bindsN fun _ _ _ _ _ _ us hl => match us, hl with | [_, _], _ => rfl) .nil sc_law_loads (fun vs H Q E h => ?_) (fun cdv A outer s H vs Q E hr h => ?_)
  · obtain ⟨_, _, _, _, _, _, rfl, _⟩ := h
    rfl
  · have nd := sc_law_loads.nd
    have hu := hu_of hr
    obtain ⟨row, sc, most, ns, K0, M, rfl, hm1, hm6, hsc, d, q⟩ := h
    refine ⟨_, (pss_cons (ps_asg (pe_tup (pa_cons (pe_op op_add pe_int (C8.pe_c c__law_taken hr (by decide) rfl (pa_cons (pv 0) (pa_cons pe_int pa_nil)))) (pa_cons (pe_ix ix_list (pe_lst (pa_cons pe_int (pa_cons pe_int (pa_cons pe_int pa_nil)))) (C8.pe_c c__law_taken hr (by decide) rfl (pa_cons (pv 0) (pa_cons pe_int pa_nil))) (fun _ _ => rfl)) pa_nil))) (pg_tup rfl (pgs_cons (pg_name (i := 2) nd rfl (Or.inr rfl)) (pgs_cons (pg_name (i := 3) nd rfl (Or.inr rfl)) pgs_nil))))
      (pss_cons (ps_set (i := 4) nd rfl (Or.inl rfl) (pe_callTy call_tuple_of (by rfl) T.n_tuple (by decide +kernel) (pa_cons (pe_lc (own := [("_law_k", 5)]) rfl nd (pi_range1 (by rfl) T.n_range (pa_cons (pe_op op_add pe_int (C8.pe_c c__law_taken hr (by decide) rfl (pa_cons (pv 0) (pa_cons (pv 1) pa_nil)))) pa_nil)) (blkOk_by (own := [("_law_k", 5)]) (N := N_law_loads) (sc := (C8.fnScope s_law_loads)) (by decide +kernel)) (fun _ _ _ _ _ => (pg_name (i := 5) nd rfl (Or.inl rfl))) (fun _ _ _ _ _ => pts_nil) (fun _ _ _ _ _ => (C8.pe_c c__law_taken hr (by decide) rfl (pa_cons (pv 0) (pa_cons (pv 3) pa_nil))))) pa_nil)))
      (pss_one (ps_ret (pe_tup (pa_cons (pv 4) (pa_cons (pe_callTy call_tuple_of (by rfl) T.n_tuple (by decide +kernel) (pa_cons (pe_lc (own := [("_law_load", 6)]) rfl nd (pi_tup (pv 4)) (blkOk_by (own := [("_law_load", 6)]) (N := N_law_loads) (sc := (C8.fnScope s_law_loads)) (by decide +kernel)) (fun _ _ _ _ _ => (pg_name (i := 6) nd rfl (Or.inl rfl))) (fun _ _ _ _ _ => pts_nil) (fun _ _ _ _ _ => (C8.pe_c c__law_taken hr (by decide) rfl (pa_cons (pv 0) (pa_cons (pv 2) pa_nil))))) pa_nil)) (pa_cons (pv 2) pa_nil)))))))), ?_⟩
    refine takenV (v := 0) rfl (by decide) (by decide) hsc d fun H1 r0 h0 h4 d1 => ⟨_, _, rfl, rfl, ?_⟩
    refine ⟨small8 (by simp), fun p1 hp1 => ?_⟩
    refine takenV (v := 0) rfl (by decide) (by decide) hsc (d1.own (o := .lst [.int 3, .int 9, .int 1001]) hp1) fun H2 r1 k0 k3 d2 => ?_
    obtain ⟨z, hz, z0, z1⟩ := at3 k0 k3
    refine ⟨p1, _, _, _, rfl, rfl, l_of d2.at0, hz, ?_⟩
    refine ⟨small8 (by simp), fun p2 hp2 => ?_⟩
    have d3 := d2.tail.drop (o := .tup [.int (1 + r0), .int z]) hp2
    refine ⟨_, _, rfl, t_of upd_same, rfl, _, _, rfl, _, _, rfl, rfl, ?_⟩
    refine takenW (v := 0) (u := 1) rfl rfl (by omega) (by omega) hsc d3 fun H3 r2 m0 m1 d4 => ⟨_, _, rfl, rfl, (1 + r2 : Int), rfl, by omega, by omega, fun D hD => ?_⟩
    obtain ⟨n, hn⟩ : ∃ n : Nat, 1 + r2 = (n : Int) := ⟨(1 + r2).toNat, by omega⟩
    obtain ⟨c, hc⟩ : ∃ c : Nat, 1 + r0 = (c : Int) := ⟨(1 + r0).toNat, by omega⟩
    rw [hn, Int.toNat_natCast]
    refine lc_it (walk_range (lo := 0) (n := n)) (fun i H' => ∃ ls : List Int, ls.length = i ∧ (∀ x ∈ ls, 0 ≤ x ∧ x ≤ 1000) ∧ Dr K0 H' row sc ((D, .lst (ls.map V.int)) :: M)) ⟨[], rfl, (fun _ m => nomatch m), d4.own hD⟩ (fun _ _ _ _ => trivial) ?_ ?_
    · rintro i x H4 H5 hi ⟨ls, hl, hb, d5⟩ ⟨rfl, hx⟩
      refine ⟨rfl, ?_⟩
      refine takenW (v := 0) (u := 3) rfl rfl (by omega) (by omega) hsc d5 fun H6 r a0 a1 d6 => ⟨_, d6.at0, ?_, ?_⟩
      · rw [List.length_map]
        exact Nat.lt_of_lt_of_le (show ls.length < 7 by omega) (by decide)
      · refine ⟨ls ++ [r], by simp [hl], fun x hx => ?_, ?_⟩
        · rcases List.mem_append.mp hx with h | h
          · exact hb x h
          · rw [List.mem_singleton.mp h]
            omega
        · rw [List.map_append]
          exact d6.put
    · rintro H4 ⟨ls, hl, hb, d5⟩
      refine ⟨D, _, rfl, .inl ⟨l_of d5.at0, fun a ha => ?_⟩⟩
      obtain ⟨d6, g6⟩ := d5.tail.keep (o := .tup (ls.map V.int)) ha
      generalize hK : upd K0 a (.tup (ls.map V.int)) = K1 at d6 g6
      have hsc1 := Same.lst g6 hsc
      have ha1 : SqT K K1 a (ls.map V.int) := hK ▸ t_of upd_same
      refine ⟨_, rfl, _, rfl, a, rfl, ⟨_, Same.tup d6.ext ha1⟩, fun D2 hD2 => ?_⟩
      refine lc_it (walk_tup (xs := ls.map V.int)) (fun i H' => ∃ ps : List Int, ps.length = i ∧ (∀ x ∈ ps, 0 ≤ x ∧ x < 1 + r0) ∧ Dr K1 H' row sc ((D2, .lst (ps.map V.int)) :: M)) ⟨[], rfl, (fun _ m => nomatch m), d6.own hD2⟩ ?_ ?_ ?_
      · rintro i H' _ ⟨ps, _, _, d7⟩
        exact Same.tup d7.ext ha1
      · rintro i x H5 H6 hi ⟨ps, hpl, hpb, d7⟩ ⟨rfl, e2⟩
        refine ⟨rfl, ?_⟩
        refine takenW (v := 0) (u := 2) rfl rfl (by omega) (by omega) hsc1 d7 fun H7 r a0 a1 d8 => ⟨_, d8.at0, ?_, ?_⟩
        · rw [List.length_map] at hi ⊢
          exact Nat.lt_of_lt_of_le (show ps.length < 7 by omega) (by decide)
        · refine ⟨ps ++ [r], by simp [hpl], fun x hx => ?_, ?_⟩
          · rcases List.mem_append.mp hx with h | h
            · exact hpb x h
            · rw [List.mem_singleton.mp h]
              omega
          · rw [List.map_append]
            exact d8.put
      · rintro H5 ⟨ps, hpl, hpb, d7⟩
        rw [List.length_map] at hpl
        refine ⟨D2, _, rfl, .inl ⟨l_of d7.at0, fun b hbf => ?_⟩⟩
        obtain ⟨d8, g8⟩ := d7.tail.keep (o := .tup (ps.map V.int)) hbf
        generalize hK2 : upd K1 b (.tup (ps.map V.int)) = K2 at d8 g8
        have hb2 : SqT K K2 b (ps.map V.int) := hK2 ▸ t_of upd_same
        refine ⟨_, rfl, small8 (by simp), fun t ht => ?_⟩
        obtain ⟨d9, g9⟩ := d8.keep (o := .tup [.ref a, .ref b, .int (1 + r0)]) ht
        refine q (upd K2 t (.tup [.ref a, .ref b, .int (1 + r0)])) _ t a b ls ps c (Same.tr g6 (Same.tr g8 g9)) d9 (by rw [← hc]; exact t_of upd_same) (Same.tup g9 (Same.tup g8 ha1)) (Same.tup g9 hb2) ?_ (by omega)
        exact ⟨hpl.symm, by omega, by omega, by omega, by omega, hb, fun x hx => by rw [← hc]; exact hpb x hx⟩
    
abbrev N_law_spread : List Str := ["_law_loads_here", "_law_places", "_law_count", "_law_sums", "_law_k", "_law_p"]
theorem sc_law_spread : FnScope N_law_spread ["_law_loads_here", "_law_places", "_law_count"] (C8.fnScope s_law_spread) := C8.fnScope_by (by decide +kernel)
theorem ok_law_spread {fd : FuncData} (T : Txt K mg) (F : FunD K "_law_spread" "_law_spread" (C8.fnArgs s_law_spread) (C8.fnBody s_law_spread) (C8.fnScope s_law_spread) [] [] (He.ga K "_law_spread") fd) :
    C8.Cal P w K mg base 1 "_law_spread" (sp_law_spread K) [] := by
  refine C8.cal0 (ds := []) ⟨fun_c8 F, T.f__law_spread, F.kp⟩ (F.bindsN fun _ _ _ _ _ _ us hl => match us, hl with | [_, _, _], _ => rfl) .nil sc_law_spread (fun vs H Q E h => ?_) (fun cdv A outer s H vs Q E hr h => ?_)
  · obtain ⟨_, _, _, _, _, rfl, _⟩ := h
    rfl
  · have nd := sc_law_spread.nd
    have hu := hu_of hr
    obtain ⟨a, b, ls, ps, c, rfl, ha, hb, ok, q⟩ := h
    refine ⟨_, (pss_cons (ps_setLc (i := 3) (own := [("_law_p", 5)]) rfl nd rfl rfl (sw_true rfl rfl rfl (by decide +kernel)) (pi_range1 (by rfl) T.n_range (pa_cons (pv 2) pa_nil)) (blkOk_by (own := [("_law_p", 5)]) (N := N_law_spread) (sc := (C8.fnScope s_law_spread)) (by decide +kernel)) (fun _ _ _ _ _ => (pg_name (i := 5) nd rfl (Or.inr rfl))) (fun _ _ _ _ _ => pts_nil) (fun _ _ _ _ _ => (pe_callB (cr_sum rfl : CallR _ _ (rSum K)) (by rfl) T.n_sum (by decide +kernel) (pa_cons (pe_lc (own := [("_law_k", 4)]) rfl nd (pi_range1 (by rfl) T.n_range (pa_cons (pe_callB (call_lenS : CallR _ _ (rLenS K)) (by rfl) T.n_len (by decide +kernel) (pa_cons (pv 0) pa_nil)) pa_nil)) (blkOk_rel (own := [("_law_k", 4)]) (N := N_law_spread) (sc := (asgScope ((C8.fnBody s_law_spread).getD 0 (.Pass ⟨0, 0, 0, 0⟩)))) (by decide +kernel)) (fun _ _ _ _ _ => (pg_name (i := 4) nd rfl (Or.inl rfl))) (fun _ _ _ _ _ => (pts_one (pt_cmpR op_eq (pe_ix (ix_tup : IxR _ (rIxT K)) (pv 1) (pv 4) (fun _ _ => rfl)) (pv 5) (nomark _)))) (fun _ _ _ _ _ => (pe_ix (ix_tup : IxR _ (rIxT K)) (pv 0) (pv 4) (fun _ _ => rfl)))) pa_nil))))
      (pss_one (ps_ret (pe_op op_sub (pe_callB (cr_max rfl) (by rfl) T.n_max (by decide +kernel) (pa_cons (pv 3) pa_nil)) (pe_callB (cr_min rfl) (by rfl) T.n_min (by decide +kernel) (pa_cons (pv 3) pa_nil)))))), ?_⟩
    have hlen := ok.len
    have h7 := ok.l7
    refine ⟨_, rfl, (c : Int), rfl, by have := ok.c4; omega, by have := ok.c4; omega, fun D hD => ?_⟩
    rw [Int.toNat_natCast]
    refine lc_it (walk_range (lo := 0) (n := c)) (fun i H' => Sep H H' [(D, .lst (((List.range i).map fun p : Nat => sumTo ls ps ls.length p).map V.int))]) (Sep.nil.own hD) (fun _ _ _ _ => trivial) ?_ ?_
    · rintro p x H1 H2 hp sp ⟨rfl, hx⟩
      obtain rfl : x = V.int ((p : Nat) : Int) := hx.trans (congrArg V.int (by omega))
      refine ⟨rfl, ?_⟩
      refine ⟨_, rfl, a, _, rfl, .inr (Same.tup sp.ext ha), ((ls.length : Nat) : Int), (by rw [List.length_map]), by omega, by omega, fun D2 hD2 => ?_⟩
      rw [Int.toNat_natCast]
      refine lc_it (walk_range (lo := 0) (n := ls.length)) (fun k H' => Sep H H' [(D2, .lst ((((List.range k).filter fun j => decide (ps.getD j 0 = (p : Nat))).map fun j => ls.getD j 0).map V.int)), (D, .lst (((List.range p).map fun p : Nat => sumTo ls ps ls.length p).map V.int))]) (sp.own hD2) (fun _ _ _ _ => trivial) ?_ ?_
      · rintro k y H3 H4 hk sp2 ⟨rfl, hy⟩
        obtain rfl : y = V.int ((k : Nat) : Int) := hy.trans (congrArg V.int (by omega))
        have fl : ((((List.range k).filter fun j => decide (ps.getD j 0 = (p : Nat))).map fun j => ls.getD j 0).map V.int).length ≤ 7 := by
          rw [List.length_map, List.length_map]
          exact Nat.le_trans (List.length_filter_le _ _) (by rw [List.length_range]; omega)
        refine ⟨rfl, _, rfl, _, rfl, b, _, _, _, rfl, rfl, Same.tup sp2.ext hb, ints_at (by omega), _, rfl, rfl, _, rfl, ?_⟩
        by_cases he : ps.getD k 0 = ((p : Nat) : Int)
        · rw [decide_eq_true (congrArg V.int he)]
          refine iteT ⟨_, rfl, _, rfl, a, _, _, _, rfl, rfl, Same.tup sp2.ext ha, ints_at (by omega), _, sp2.c0, Nat.lt_of_le_of_lt fl (by decide), ?_⟩
          rw [List.range_succ, List.filter_append, List.map_append, List.map_append]
          rw [show (List.filter (fun j => decide (ps.getD j 0 = ((p : Nat) : Int))) [k]) = [k] by simp only [List.filter_cons, List.filter_nil, he, decide_true, if_true]]
          exact sp2.put0
        · rw [decide_eq_false (show ¬ V.int (ps.getD k 0) = V.int ((p : Nat) : Int) from fun e => he (V.int.inj e))]
          refine iteF ?_
          rw [List.range_succ, List.filter_append]
          rw [show (List.filter (fun j => decide (ps.getD j 0 = ((p : Nat) : Int))) [k]) = [] by simp only [List.filter_cons, List.filter_nil, he, decide_false]; rfl]
          rw [List.append_nil]
          exact sp2
      · rintro H3 sp2
        refine ⟨D2, ((List.range ls.length).filter fun j => decide (ps.getD j 0 = (p : Nat))).map fun j => ls.getD j 0, rfl, l_of sp2.c0, ?_⟩
        refine ⟨_, sp2.c1, ?_, ?_⟩
        · rw [List.length_map, List.length_map, List.length_range]
          exact Nat.lt_of_lt_of_le hp (Nat.le_trans ok.c4 (by decide))
        · rw [List.range_succ, map_snoc2]
          exact sp2.tail.put0
    · rintro H1 sp
      have hc0 := sp.c0
      have ne : 0 < ((List.range c).map fun p : Nat => sumTo ls ps ls.length p).length := by
        have := ok.c1
        rw [List.length_map, List.length_range]
        omega
      refine ⟨_, rfl, D, (List.range c).map fun p : Nat => sumTo ls ps ls.length p, rfl, l_of hc0, ne, fun m m1 m2 => ?_⟩
      refine ⟨_, rfl, D, (List.range c).map fun p : Nat => sumTo ls ps ls.length p, rfl, l_of hc0, ne, fun k k1 k2 => ⟨_, _, rfl, rfl, ?_⟩⟩
      rw [mxL_of m1 m2, mnL_of k1 k2]
      exact q H1 sp.ext
    
end
end Cb

namespace Cb
open PySem PySem.Spec PyProof.Rows L2
def MvsAt (K : PySem.W.Frag) (H : Hp) (v : V) (ms : List Mv) : Prop := ∃ a xs, v = .ref a ∧ SqT K H a xs ∧ Paired (MvAt K H) xs ms
theorem MvsAt.up {K : PySem.W.Frag} {H H' : Hp} {v : V} {ms : List Mv} (e : Same H H') (h : MvsAt K H v ms) : MvsAt K H' v ms := by
  obtain ⟨a, xs, h1, h2, h3⟩ := h
  exact ⟨a, xs, h1, Same.tup e h2, h3.mono fun _ _ z => MvAt.up e z⟩
def GmAt (K : PySem.W.Frag) (H : Hp) (v : V) (w : GM) : Prop := ∃ t g m, v = .ref t ∧ SqT K H t [.ref g, m] ∧ SqT K H g (w.1.map V.int) ∧ MvsAt K H m w.2
theorem GmAt.up {K : PySem.W.Frag} {H H' : Hp} {v : V} {w : GM} (e : Same H H') (h : GmAt K H v w) : GmAt K H' v w := by
  obtain ⟨t, g, m, h1, h2, h3, h4⟩ := h
  exact ⟨t, g, m, h1, Same.tup e h2, Same.tup e h3, MvsAt.up e h4⟩
def WayAt (K : PySem.W.Frag) (H : Hp) (v : V) (w : Way) : Prop := ∃ t m, v = .ref t ∧ SqT K H t [.int (w.1.length : Nat), m, .int w.2] ∧ MvsAt K H m w.1
theorem WayAt.up {K : PySem.W.Frag} {H H' : Hp} {v : V} {w : Way} (e : Same H H') (h : WayAt K H v w) : WayAt K H' v w := by
  obtain ⟨t, m, h1, h2, h3⟩ := h
  exact ⟨t, m, h1, Same.tup e h2, MvsAt.up e h3⟩
def sp_law_ways (K : PySem.W.Frag) : Sp := fun vs H Q _ => ∃ (a b : Addr) (ls ps : List Int) (c : Nat) (K0 : Hp) (M : List (Addr × HO)), vs = [.ref a, .ref b, .int c] ∧ SqT K K0 a (ls.map V.int) ∧ SqT K K0 b (ps.map V.int) ∧ LdOk ls ps c ∧ ls.length ≤ 5 ∧ Sep K0 H M ∧
  ∀ K1 H' p xs, Same K0 K1 → Sep K1 H' M → K1 p = some (.lst xs) → Paired (WayAt K K1) xs (waysS ls ps c) → Q (.ref p) H'
theorem catS {K : PySem.W.Frag} {K1 H : Hp} {L : List (Addr × HO)} {a b : Addr} {xs ys : List V} {Q : VK} (s : Sep K1 H L) (ha : SqT K K1 a xs) (hb : SqT K K1 b ys) (hz : xs.length + ys.length ≤ sizeLine) (q : ∀ K2 H' r, Same K1 K2 → Sep K2 H' L → SqT K K2 r (xs ++ ys) → Q (.ref r) H') : rCatA K (.ref a) (.ref b) H Q := by
  refine ⟨a, b, xs, ys, rfl, rfl, Same.tup s.ext ha, Same.tup s.ext hb, hz, fun e => q K1 H b (Same.refl _) s ?_, fun _ e => q K1 H a (Same.refl _) s ?_, fun _ _ p hp => q _ _ p (s.newk hp) (s.keep hp) (t_of upd_same)⟩
  · subst e
    exact hb
  · subst e
    rw [List.append_nil]
    exact ha
theorem mv_dp {K : PySem.W.Frag} {H : Hp} : ∀ {xs : List V} {ms : List Mv}, Paired (MvAt K H) xs ms → DpAll K H xs (ms.map fun m => .tuple [.int m.1, .int m.2])
  | _, _, .nil => .nil
  | _, _, .cons ⟨t, e, h⟩ p => .cons (by rw [e]; exact .tup h (.cons (.int _) (.cons (.int _) .nil))) (mv_dp p)
theorem way_dp {K : PySem.W.Frag} {H : Hp} {v : V} {w : Way} (h : WayAt K H v w) : Dp K H v (wayD w) := by
  obtain ⟨t, m, rfl, h1, m2, xs, rfl, h2, h3⟩ := h
  exact .tup h1 (.cons (.int _) (.cons (.tup h2 (mv_dp h3)) (.cons (.int _) .nil)))
theorem ways_dp {K : PySem.W.Frag} {H : Hp} : ∀ {xs : List V} {ws : List Way}, Paired (WayAt K H) xs ws → DpAll K H xs (ws.map wayD)
  | _, _, .nil => .nil
  | _, _, .cons h p => .cons (way_dp h) (ways_dp p)
theorem alike_mvs : ∀ ms ns : List Mv, PySem.W.alikeAll (ms.map fun m => .tuple [.int m.1, .int m.2]) (ns.map fun m => .tuple [.int m.1, .int m.2]) = true
  | [], _ => by simp [PySem.W.alikeAll]
  | _ :: _, [] => by simp [PySem.W.alikeAll]
  | m :: ms, n :: ns => by
    have z := alike_mvs ms ns
    simp [PySem.W.alikeAll, PySem.W.alike]
    simpa using z
theorem alike_way (w v : Way) : PySem.W.alike (wayD w) (wayD v) = true := by
  have z := alike_mvs w.1 v.1
  simp [wayD, PySem.W.alikeAll, PySem.W.alike]
  simpa using z
theorem depth_mvs : ∀ ms : List Mv, PyData.depthAll (ms.map fun m => .tuple [.int m.1, .int m.2]) ≤ 2
  | [] => by simp [PyData.depthAll]
  | m :: ms => by
    have z := depth_mvs ms
    simp only [List.map_cons, PyData.depthAll, PyData.depth]
    omega
theorem depth_way (w : Way) : (wayD w).depth ≤ 60 := by
  have z := depth_mvs w.1
  simp only [wayD, PyData.depthAll, PyData.depth]
  omega
theorem psort {F : V → Way → Prop} {xs : List V} {ws : List Way} (h : Paired F xs ws) : Paired F ((srtD xs (ws.map wayD)).map Prod.fst) (ws.mergeSort (PySem.W.dataLe false wayD)) := by
  have hz : ∀ {xs : List V} {ws : List Way}, Paired F xs ws → (∀ p ∈ xs.zip ws, F p.1 p.2) ∧ (xs.zip ws).map Prod.snd = ws := by
    intro xs ws h
    induction h with
    | nil => exact ⟨fun _ m => (nomatch m), rfl⟩
    | cons a p ih =>
      refine ⟨fun q m => ?_, by rw [List.zip_cons_cons, List.map_cons, ih.2]⟩
      rcases List.mem_cons.mp m with e | m
      · rw [e]
        exact a
      · exact ih.1 q m
  obtain ⟨h1, h2⟩ := hz h
  have e1 : srtD xs (ws.map wayD) = ((xs.zip ws).mergeSort (PySem.W.dataLe false fun p => wayD p.2)).map fun p => (p.1, wayD p.2) := by
    unfold srtD
    rw [List.zip_map_right]
    exact (List.map_mergeSort (f := fun p : V × Way => (p.1, wayD p.2)) (r := PySem.W.dataLe false fun p => wayD p.2) (s := PySem.W.dataLe false Prod.snd) fun a _ b _ => rfl).symm
  have e2 : ws.mergeSort (PySem.W.dataLe false wayD) = ((xs.zip ws).mergeSort (PySem.W.dataLe false fun p => wayD p.2)).map Prod.snd := by
    rw [List.map_mergeSort (f := (Prod.snd : V × Way → Way)) (r := PySem.W.dataLe false fun p => wayD p.2) (s := PySem.W.dataLe false wayD) fun a _ b _ => rfl, h2]
  rw [e1, e2, List.map_map]
  exact pmap fun p hp => h1 p (List.mem_mergeSort.mp hp)

section
variable {P : Program} {w : World} {K : PySem.W.Frag} {mg : Str → Option Value} {base : Heap}

abbrev N_law_ways : List Str := ["_law_loads_here", "_law_places", "_law_count", "_law_rows", "_law_k", "_law_more", "_law_goal", "_law_moves", "_law_p"]
theorem sc_law_ways : FnScope N_law_ways ["_law_loads_here", "_law_places", "_law_count"] (C8.fnScope s_law_ways) := C8.fnScope_by (by decide +kernel)
theorem ok_law_ways {fd : FuncData} (T : Txt K mg) (F : FunD K "_law_ways" "_law_ways" (C8.fnArgs s_law_ways) (C8.fnBody s_law_ways) (C8.fnScope s_law_ways) [] [] (He.ga K "_law_ways") fd) (c__law_spread : C8.Cal P w K mg base 1 "_law_spread" (sp_law_spread K) []) :
    C8.Cal P w K mg base 3 "_law_ways" (sp_law_ways K) [] := by
  refine C8.cal0 (ds := []) ⟨fun_c8 F, T.f__law_ways, F.kp⟩ (F.bindsN fun _ _ _ _ _ _ us hl => match us, hl with | [_, _, _], _ => rfl) .nil sc_law_ways (fun vs H Q E h => ?_) (fun cdv A outer s H vs Q E hr h => ?_)
  · obtain ⟨_, _, _, _, _, _, _, rfl, _⟩ := h
    rfl
  · have nd := sc_law_ways.nd
    have hu := hu_of hr
    obtain ⟨a, b, ls, ps, c, K0, M, rfl, ha, hb, ok, h5, sp, q⟩ := h
    refine ⟨_, (pss_cons (ps_set (i := 3) nd rfl (Or.inl rfl) (pe_lst (pa_cons (pe_tup (pa_cons (pe_tup pa_nil) (pa_cons (pe_tup pa_nil) pa_nil))) pa_nil)))
      (pss_cons (ps_for PassesOwn.never rfl (pi_range1 (by rfl) T.n_range (pa_cons (pe_callB call_len_seq (by rfl) T.n_len (by decide +kernel) (pa_cons (pv 0) pa_nil)) pa_nil)) (pg_name (i := 4) nd rfl (Or.inl rfl)) (pss_cons (ps_set (i := 5) nd rfl (Or.inl rfl) (pe_lst pa_nil))
      (pss_cons (ps_for PassesOwn.never rfl (pi_list (pv 3)) (pg_tup rfl (pgs_cons (pg_name (i := 6) nd rfl (Or.inl rfl)) (pgs_cons (pg_name (i := 7) nd rfl (Or.inl rfl)) pgs_nil))) (pss_one (ps_for PassesOwn.never rfl (pi_range1 (by rfl) T.n_range (pa_cons (pv 2) pa_nil)) (pg_name (i := 8) nd rfl (Or.inl rfl)) (pss_one (ps_expr (pe_bm PySem.F.plainAttrs_list PySem.F.slot_list_append PySem.F.type_list_append mt_append (pv 5) (pa_cons (pe_tup (pa_cons (pe_op op_catA (pv 6) (pe_tup (pa_cons (pv 8) pa_nil))) (pa_cons (pe_op op_catA (pv 7) (pe_ifExp (pt_cmpR op_ne (pv 8) (pe_ix ix_tup (pv 1) (pv 4) (fun _ _ => rfl)) (nomark _)) (pe_tup (pa_cons (pe_tup (pa_cons (pv 4) (pa_cons (pv 8) pa_nil))) pa_nil)) (pe_tup pa_nil))) pa_nil))) pa_nil)))))))
      (pss_one (ps_set (i := 3) nd rfl (Or.inl rfl) (pv 5))))))
      (pss_one (ps_ret (pe_callB (cr_sortDt (hu64_of hr)) (by rfl) T.n_sorted (by decide +kernel) (pa_cons (pe_lc (own := [("_law_goal", 6), ("_law_moves", 7)]) rfl nd (pi_list (pv 3)) (blkOk_by (own := [("_law_goal", 6), ("_law_moves", 7)]) (N := N_law_ways) (sc := (C8.fnScope s_law_ways)) (by decide +kernel)) (fun _ _ _ _ _ => (pg_tup (n := 2) rfl (pgs_cons (pg_name (i := 6) nd rfl (Or.inl rfl)) (pgs_cons (pg_name (i := 7) nd rfl (Or.inl rfl)) pgs_nil)) : PG _ _ (gTup K 2 _))) (fun _ _ _ _ _ => pts_nil) (fun _ _ _ _ _ => (pe_tup (pa_cons (pe_callB (call_lenS : CallR _ _ (rLenS K)) (by rfl) T.n_len (by decide +kernel) (pa_cons (pv 7) pa_nil)) (pa_cons (pv 7) (pa_cons (C8.pe_c c__law_spread hr (by decide) rfl (pa_cons (pv 0) (pa_cons (pv 6) (pa_cons (pv 2) pa_nil)))) pa_nil)))))) pa_nil)))))), ?_⟩
    have hlen := ok.len
    have hc4 := ok.c4
    refine ⟨Nat.zero_le _, fun e1 he1 => ⟨Nat.zero_le _, fun e2 he2 => ⟨small8 (by simp), fun t0 ht0 => ⟨small8 (by simp), fun R0 hR0 => ?_⟩⟩⟩⟩
    have s1 := sp.keep (o := .tup []) he1
    have s2 := s1.keep (o := .tup []) he2
    have s3 := s2.keep (o := .tup [.ref e1, .ref e2]) ht0
    have s4 := s3.keep (o := .lst [.ref t0]) hR0
    have g1 := sp.newk (o := .tup []) he1
    have g2 := s1.newk (o := .tup []) he2
    have g3 := s2.newk (o := .tup [.ref e1, .ref e2]) ht0
    have g4 := s3.newk (o := .lst [.ref t0]) hR0
    have p0 : GmAt K _ (.ref t0) ([], []) := GmAt.up g4 ⟨t0, e1, .ref e2, rfl, t_of upd_same, Same.tup (Same.tr g2 g3) (t_of upd_same), e2, [], rfl, Same.tup g3 (t_of upd_same), .nil⟩
    refine ⟨_, rfl, a, _, rfl, .inr (Same.tup s4.ext (Same.tup (Same.tr g1 (Same.tr g2 (Same.tr g3 g4))) ha)), ((ls.length : Nat) : Int), by rw [List.length_map], by omega, by omega, ?_⟩
    rw [Int.toNat_natCast]
    refine for_it (walk_range (lo := 0) (n := ls.length)) (fun i σ H' => ∃ K1 R xs y4 y5 y6 y7 y8, σ = [some (.ref a), some (.ref b), some (.int c), some (.ref R), y4, y5, y6, y7, y8] ∧ Same K0 K1 ∧ Sep K1 H' M ∧ K1 R = some (.lst xs) ∧ Paired (GmAt K K1) xs (waysR ps c i)) ⟨_, R0, _, _, _, _, _, _, rfl, Same.tr g1 (Same.tr g2 (Same.tr g3 g4)), s4, upd_same, .cons p0 .nil⟩ (fun _ _ _ _ _ => trivial) ?_ ?_
    · rintro i x σ H1 H2 hi ⟨K1, R, xs, y4, y5, y6, y7, y8, rfl, g, sp1, hR, hp⟩ ⟨rfl, hx⟩
      obtain rfl : x = V.int ((i : Nat) : Int) := hx.trans (congrArg V.int (by omega))
      refine ⟨Nat.zero_le _, fun Mo hMo => ?_⟩
      have sp2 := sp1.own (o := .lst []) hMo
      have hpl := hp.length
      have hb1024 : (waysR ps c i).length ≤ 1024 := Nat.le_trans (waysR_len i) (Nat.le_trans (Nat.pow_le_pow_left hc4 i) (Nat.le_trans (Nat.pow_le_pow_right (by decide) (show i ≤ 5 by omega)) (by decide)))
      refine ⟨_, rfl, R, rfl, ⟨_, l_of (sp2.ext _ _ hR)⟩, ?_⟩
      refine for_it (walk_list (xs := xs)) (fun j σ H' => ∃ K2 acc y6 y7 y8, σ = [some (.ref a), some (.ref b), some (.int c), some (.ref R), some (.int ((i : Nat) : Int)), some (.ref Mo), y6, y7, y8] ∧ Same K1 K2 ∧ Sep K2 H' ((Mo, .lst acc) :: M) ∧ Paired (GmAt K K2) acc (((waysR ps c i).take j).flatMap (wayStep ps c i))) ⟨K1, [], _, _, _, rfl, Same.refl _, sp2, .nil⟩ ?_ ?_ ?_
      · rintro j σ H' _ ⟨K2, acc, y6, y7, y8, rfl, gg, sp3, _⟩
        exact l_of (sp3.ext _ _ (gg _ _ hR))
      · rintro j v σ H3 H4 hj ⟨K2, acc, y6, y7, y8, rfl, gg, sp3, hacc⟩ ⟨rfl, e2⟩
        obtain ⟨w, hw, t, gl, m, rfl, ht, hgl, hm⟩ := pget hp e2
        have ht2 := Same.tup sp3.ext (Same.tup gg ht)
        obtain ⟨ma, mxs, rfl, hma, hmp⟩ := hm
        have wok := waysR_ok ok.hp i (by omega) w (List.mem_of_getElem? hw)
        have hwl := wok.gl
        have hml : mxs.length ≤ 8 := by
          have z := nodup_small (wok.asc.imp fun z => Int.ne_of_lt z) fun x hx => by
            obtain ⟨m', hm', rfl⟩ := List.mem_map.mp hx
            exact ⟨(wok.mv m' hm').1, (wok.mv m' hm').2.1⟩
          rw [List.length_map] at z
          have := hmp.length
          omega
        refine ⟨_, _, rfl, ht2, rfl, _, _, rfl, _, _, rfl, rfl, ?_⟩
        refine ⟨_, rfl, (c : Int), rfl, by omega, by omega, ?_⟩
        rw [Int.toNat_natCast]
        refine for_it (walk_range (lo := 0) (n := c)) (fun l σ H' => ∃ K3 acc3 y8, σ = [some (.ref a), some (.ref b), some (.int c), some (.ref R), some (.int ((i : Nat) : Int)), some (.ref Mo), some (.ref gl), some (.ref ma), y8] ∧ Same K2 K3 ∧ Sep K3 H' ((Mo, .lst acc3) :: M) ∧ Paired (GmAt K K3) acc3 (((waysR ps c i).take j).flatMap (wayStep ps c i) ++ (List.range l).map fun p : Nat => (w.1 ++ [(p : Int)], w.2 ++ if (p : Int) ≠ ps.getD i 0 then [((i : Int), (p : Int))] else []))) ⟨K2, acc, _, rfl, Same.refl _, sp3, by
          rw [List.range_zero, List.map_nil, List.append_nil]
          exact hacc⟩ (fun _ _ _ _ _ => trivial) ?_ ?_
        · rintro l x σ H5 H6 hl ⟨K3, acc3, y8, rfl, g3', sp4, hacc3⟩ ⟨rfl, hx⟩
          obtain rfl : x = V.int ((l : Nat) : Int) := hx.trans (congrArg V.int (by omega))
          have hgl3 := Same.tup (Same.tr gg g3') hgl
          have hma3 := Same.tup (Same.tr gg g3') hma
          have hmp3 := hmp.mono fun _ _ z => MvAt.up (Same.tr gg g3') z
          have hb3 := Same.tup (Same.tr gg g3') (Same.tup g hb)
          have hal : acc3.length ≤ 1024 * 4 + 4 := by
            have z := hacc3.length
            rw [List.length_append, List.length_map, List.length_range] at z
            have z2 := flatMap_len_le (f := wayStep ps c i) (k := 4) (l := (waysR ps c i).take j) fun x _ => by
              rw [wayStep, List.length_map, List.length_range]
              exact hc4
            have z3 := List.length_take_le j (waysR ps c i)
            have z4 : ((waysR ps c i).take j).length ≤ 1024 := by
              rw [List.length_take]
              omega
            omega
          refine ⟨_, rfl, .inl ⟨rfl, _, .inl (.inl sp4.c0)⟩, _, rfl, _, rfl, small8 (by simp), fun t1 ht1 => ?_⟩
          have sp5 := sp4.keep (o := .tup [.int ((l : Nat) : Int)]) ht1
          have g5 := sp4.newk (o := .tup [.int ((l : Nat) : Int)]) ht1
          refine catS sp5 (Same.tup g5 hgl3) (t_of upd_same) (sm (m := 16) (by rw [List.length_map]; simp; omega)) fun K4 H7 r1 g6 sp6 hr1 => ?_
          have g46 := Same.tr g5 g6
          refine ⟨_, rfl, _, rfl, _, rfl, _, rfl, _, _, _, _, rfl, rfl, Same.tup sp6.ext (Same.tup g46 hb3), ints_at (by omega), rfl, _, rfl, ?_⟩
          have fin : ∀ (K5 : Hp) (H8 : Hp) (r2 : Addr) (ms' : List Mv), Same K4 K5 → Sep K5 H8 ((Mo, .lst acc3) :: M) → (∃ ys, SqT K K5 r2 ys ∧ Paired (MvAt K K5) ys (w.2 ++ ms')) → (ms' = if ((l : Nat) : Int) ≠ ps.getD i 0 then [((i : Int), ((l : Nat) : Int))] else []) →
              ∀ t2, H8 t2 = none → ∃ K6 acc6, Same K2 K6 ∧ Sep K6 (upd (upd H8 t2 (.tup [.ref r1, .ref r2])) Mo (.lst (acc3 ++ [.ref t2]))) ((Mo, .lst acc6) :: M) ∧ Paired (GmAt K K6) acc6 (((waysR ps c i).take j).flatMap (wayStep ps c i) ++ (List.range (l + 1)).map fun p : Nat => (w.1 ++ [(p : Int)], w.2 ++ if (p : Int) ≠ ps.getD i 0 then [((i : Int), (p : Int))] else [])) := by
            rintro K5 H8 r2 ms' g7 sp7 ⟨ys, hys, hyp⟩ e t2 ht2'
            have sp8 := sp7.keep (o := .tup [.ref r1, .ref r2]) ht2'
            have g8 := sp7.newk (o := .tup [.ref r1, .ref r2]) ht2'
            refine ⟨_, acc3 ++ [.ref t2], Same.tr g3' (Same.tr g46 (Same.tr g7 g8)), sp8.put0, ?_⟩
            rw [List.range_succ, List.map_append, ← List.append_assoc]
            refine psnoc' (hacc3.mono fun _ _ z => GmAt.up (Same.tr g46 (Same.tr g7 g8)) z) ⟨t2, r1, .ref r2, rfl, t_of upd_same, ?_, r2, ys, rfl, Same.tup g8 hys, ?_⟩
            · rw [List.map_append]
              exact Same.tup (Same.tr g7 g8) hr1
            · subst e
              exact hyp.mono fun _ _ z => MvAt.up g8 z
          by_cases he : ((l : Nat) : Int) = ps.getD i 0
          · rw [decide_eq_true (congrArg V.int he)]
            refine iteF ⟨Nat.zero_le _, fun t3 ht3 => ?_⟩
            have sp7 := sp6.keep (o := .tup []) ht3
            have g7 := sp6.newk (o := .tup []) ht3
            refine catS sp7 (Same.tup g7 (Same.tup g46 hma3)) (t_of upd_same) (sm (m := 16) (by simp; omega)) fun K5 H8 r2 g8 sp8 hr2 => ?_
            refine ⟨small8 (by simp), fun t2 ht2' => ⟨_, _, _, rfl, rfl, (sp8.own (o := .tup [.ref r1, .ref r2]) ht2').c1, Nat.lt_of_le_of_lt hal (by decide), ?_⟩⟩
            obtain ⟨K6, acc6, q1, q2, q3⟩ := fin K5 H8 r2 [] (Same.tr g7 g8) sp8 ⟨_, hr2, by
              rw [List.append_nil, List.append_nil]
              exact hmp3.mono fun _ _ z => MvAt.up (Same.tr g46 (Same.tr g7 g8)) z⟩ (by rw [if_neg (fun q => q he)]) t2 ht2'
            exact ⟨K6, acc6, _, rfl, q1, q2, q3⟩
          · rw [decide_eq_false (show ¬ V.int ((l : Nat) : Int) = V.int (ps.getD i 0) from fun e => he (V.int.inj e))]
            refine iteT ⟨_, rfl, _, rfl, small8 (by simp), fun t4 ht4 => ⟨small8 (by simp), fun t3 ht3 => ?_⟩⟩
            have sp7 := sp6.keep (o := .tup [.int ((i : Nat) : Int), .int ((l : Nat) : Int)]) ht4
            have g7 := sp6.newk (o := .tup [.int ((i : Nat) : Int), .int ((l : Nat) : Int)]) ht4
            have sp8 := sp7.keep (o := .tup [.ref t4]) ht3
            have g8 := sp7.newk (o := .tup [.ref t4]) ht3
            refine catS sp8 (Same.tup (Same.tr g7 g8) (Same.tup g46 hma3)) (t_of upd_same) (sm (m := 16) (by simp; omega)) fun K5 H8 r2 g9 sp9 hr2 => ?_
            refine ⟨small8 (by simp), fun t2 ht2' => ⟨_, _, _, rfl, rfl, (sp9.own (o := .tup [.ref r1, .ref r2]) ht2').c1, Nat.lt_of_le_of_lt hal (by decide), ?_⟩⟩
            have z4 : MvAt K K5 (.ref t4) ((i : Int), ((l : Nat) : Int)) := MvAt.up (Same.tr g8 g9) ⟨t4, rfl, t_of upd_same⟩
            obtain ⟨K6, acc6, q1, q2, q3⟩ := fin K5 H8 r2 [((i : Int), ((l : Nat) : Int))] (Same.tr g7 (Same.tr g8 g9)) sp9 ⟨_, hr2, psnoc' (hmp3.mono fun _ _ z => MvAt.up (Same.tr g46 (Same.tr g7 (Same.tr g8 g9))) z) z4⟩ (by rw [if_pos he]) t2 ht2'
            exact ⟨K6, acc6, _, rfl, q1, q2, q3⟩
        · rintro σ H5 ⟨K3, acc3, y8, rfl, g3', sp4, hacc3⟩
          refine ⟨K3, acc3, _, _, _, rfl, Same.tr gg g3', sp4, ?_⟩
          rw [take_snoc hw, List.flatMap_append, List.flatMap_singleton]
          exact hacc3
      · rintro σ H3 ⟨K2, acc, y6, y7, y8, rfl, gg, sp3, hacc⟩
        rw [List.take_of_length_le (by omega)] at hacc
        have gn := sp3.new0
        exact ⟨_, rfl, _, Mo, acc, _, _, _, _, _, rfl, Same.tr g (Same.tr gg gn), sp3.freeze, upd_same, hacc.mono fun _ _ z => GmAt.up gn z⟩
    · rintro σ H1 ⟨K1, R, xs, y4, y5, y6, y7, y8, rfl, g, sp1, hR, hp⟩
      refine ⟨_, rfl, R, rfl, ⟨_, l_of (sp1.ext _ _ hR)⟩, fun D hD => ?_⟩
      have hpl := hp.length
      have hb1024 : (waysR ps c ls.length).length ≤ 1024 := Nat.le_trans (waysR_len _) (Nat.le_trans (Nat.pow_le_pow_left hc4 _) (Nat.le_trans (Nat.pow_le_pow_right (by decide) h5) (by decide)))
      refine lc_it (walk_list (xs := xs)) (fun i H' => ∃ K2 acc, Same K1 K2 ∧ Sep K2 H' ((D, .lst acc) :: M) ∧ Paired (WayAt K K2) acc ((waysT ls ps c).take i)) ⟨K1, [], Same.refl _, sp1.own hD, .nil⟩ ?_ ?_ ?_
      · rintro i H' _ ⟨K2, acc, gg, sp2, _⟩
        exact l_of (sp2.ext _ _ (gg _ _ hR))
      · rintro i v H3 H4 hi ⟨K2, acc, gg, sp2, hacc⟩ ⟨rfl, e2⟩
        obtain ⟨w, hw, t, gl, m, rfl, ht, hgl, hm⟩ := pget hp e2
        have ht2 := Same.tup sp2.ext (Same.tup gg ht)
        obtain ⟨ma, mxs, rfl, hma, hmp⟩ := hm
        have wok := waysR_ok ok.hp ls.length (by omega) w (List.mem_of_getElem? hw)
        have hml := hmp.length
        refine ⟨_, _, rfl, ht2, rfl, _, _, rfl, _, _, rfl, rfl, rfl, ?_⟩
        refine ⟨_, rfl, ma, mxs, rfl, .inr (Same.tup sp2.ext (Same.tup gg hma)), _, rfl, _, rfl, _, rfl, _, rfl, a, gl, ls, w.1, c, rfl, Same.tup sp2.ext (Same.tup (Same.tr g gg) ha), Same.tup sp2.ext (Same.tup gg hgl), ⟨wok.gl.symm, ok.l1, ok.l7, ok.c1, ok.c4, ok.hl, wok.gb⟩, fun H5 g5 => ?_⟩
        have sp3 := sp2.grow g5
        refine ⟨small8 (by simp), fun t2 ht2' => ?_⟩
        have sp4 := sp3.keep (o := .tup [.int (mxs.length : Nat), .ref ma, .int (diffI ls w.1 c)]) ht2'
        have g4' := sp3.newk (o := .tup [.int (mxs.length : Nat), .ref ma, .int (diffI ls w.1 c)]) ht2'
        refine ⟨_, sp4.c0, ?_, ?_⟩
        · have z := hacc.length
          rw [z, List.length_take]
          refine Nat.lt_of_le_of_lt (Nat.min_le_right _ _) ?_
          rw [waysT, List.length_map]
          exact Nat.lt_of_le_of_lt hb1024 (by decide)
        · refine ⟨_, _, Same.tr gg g4', sp4.put0, ?_⟩
          rw [take_snoc (x := (w.2, diffI ls w.1 c)) (by rw [waysT, List.getElem?_map, hw]; rfl)]
          refine psnoc' (hacc.mono fun _ _ z => WayAt.up g4' z) ⟨t2, .ref ma, rfl, ?_, ma, mxs, rfl, Same.tup g4' (Same.tup gg hma), hmp.mono fun _ _ z => MvAt.up (Same.tr gg g4') z⟩
          rw [show (w.2.length : Nat) = mxs.length from hml.symm]
          exact t_of upd_same
      · rintro H3 ⟨K2, acc, gg, sp2, hacc⟩
        rw [List.take_of_length_le (by rw [waysT, List.length_map]; omega)] at hacc
        refine ⟨D, acc, (waysT ls ps c).map wayD, rfl, l_of sp2.c0, ways_dp (hacc.mono fun _ _ z => WayAt.up sp2.ext z), PySem.W.AllAlike.of alike_way, PySem.W.Sortable.tuples fun w => ⟨_, _, rfl⟩, fun d hd => ?_, fun p hp' => ?_⟩
        · obtain ⟨w, _, rfl⟩ := List.mem_map.mp hd
          exact depth_way w
        · have sp3 := sp2.tail
          have sp4 := sp3.keep (o := .lst ((srtD acc ((waysT ls ps c).map wayD)).map Prod.fst)) hp'
          have g4' := sp3.newk (o := .lst ((srtD acc ((waysT ls ps c).map wayD)).map Prod.fst)) hp'
          exact q _ _ p _ (Same.tr g (Same.tr gg g4')) sp4 upd_same (psort (hacc.mono fun _ _ z => WayAt.up g4' z))
    
end
end Cb

namespace Cb
open PySem PySem.Spec PyProof.Rows L2

def sp_alk (n : Nat) (K : PySem.W.Frag) : Sp := fun vs H Q _ => ∃ (v u : V) (d : PyData), vs = [v, u] ∧ Dq K H d v ∧ Dq K H d u ∧ d.depth < n ∧ wOk d ∧ ∀ H', Same H H' → Q (.bl true) H'

section
variable {P : Program} {w : World} {K : PySem.W.Frag} {mg : Str → Option Value} {base : Heap}

abbrev N_law_alike : List Str := ["_law_one", "_law_due", "_law_k"]
theorem sc_law_alike : FnScope N_law_alike ["_law_one", "_law_due"] (C8.fnScope s_law_alike) := C8.fnScope_by (by decide +kernel)
theorem calA_al {fd : FuncData} {k : Nat} {sp : Sp} (T : Txt K mg) (F : FunD K "_law_alike" "_law_alike" (C8.fnArgs s_law_alike) (C8.fnBody s_law_alike) (C8.fnScope s_law_alike) [] [] (He.ga K "_law_alike") fd) (h : FnOk P w K mg base C8.CX0 k (He.ga K "_law_alike") fd ["_law_one", "_law_due"] sp) : C8.Cal P w K mg base k "_law_alike" sp [] :=
  ⟨_, fd, _, [], h, T.f__law_alike, F.kp, F.bindsN fun _ _ _ _ _ _ us hl => match us, hl with | [_, _], _ => rfl, .nil⟩
theorem al_0 {fd : FuncData} (T : Txt K mg) (F : FunD K "_law_alike" "_law_alike" (C8.fnArgs s_law_alike) (C8.fnBody s_law_alike) (C8.fnScope s_law_alike) [] [] (He.ga K "_law_alike") fd) : FnOk P w K mg base C8.CX0 1 (He.ga K "_law_alike") fd ["_law_one", "_law_due"] (sp_alk 0 K) := by
  refine C8.fn0 (fun_c8 F) sc_law_alike (fun vs H Q E h => ?_) (fun cdv A outer s H vs Q E hr h => ?_)
  · obtain ⟨_, _, _, _, _, _, h, _⟩ := h
    exact absurd h (Nat.not_lt_zero _)
  · obtain ⟨_, _, _, _, _, _, h, _⟩ := h
    exact absurd h (Nat.not_lt_zero _)
theorem al_S {fd : FuncData} {k n : Nat} (T : Txt K mg) (F : FunD K "_law_alike" "_law_alike" (C8.fnArgs s_law_alike) (C8.fnBody s_law_alike) (C8.fnScope s_law_alike) [] [] (He.ga K "_law_alike") fd) (c_al : C8.Cal P w K mg base k "_law_alike" (sp_alk n K) []) : FnOk P w K mg base C8.CX0 (k + 1) (He.ga K "_law_alike") fd ["_law_one", "_law_due"] (sp_alk (n + 1) K) := by
  refine C8.fn0 (fun_c8 F) sc_law_alike (fun vs H Q E h => ?_) (fun cdv A outer s H vs Q E hr h => ?_)
  · obtain ⟨_, _, _, rfl, _⟩ := h
    rfl
  · have nd := sc_law_alike.nd
    have hu := hu_of hr
    obtain ⟨v, u, d, rfl, hv, hu', hdn, w, q⟩ := h
    refine ⟨_, (pss_cons (ps_if (PW.pt (pw_and (pt_val (pe_callB call_isiT (by rfl) T.n_isinstance (by decide +kernel) (pa_cons (pv 0) (pa_cons (pe_tup (pa_cons (pe_bltn (v := .ty "tuple") rfl T.n_tuple (by decide +kernel) rfl) (pa_cons (pe_bltn (v := .ty "list") rfl T.n_list (by decide +kernel) rfl) pa_nil))) pa_nil)))) (pw_and1 (pt_val (pe_callB call_isiT (by rfl) T.n_isinstance (by decide +kernel) (pa_cons (pv 1) (pa_cons (pe_tup (pa_cons (pe_bltn (v := .ty "tuple") rfl T.n_tuple (by decide +kernel) rfl) (pa_cons (pe_bltn (v := .ty "list") rfl T.n_list (by decide +kernel) rfl) pa_nil))) pa_nil))))))) (pss_cons (ps_if (PW.pt (pw_or (pt_cmpR op_ne (pe_callB call_is (by rfl) T.n_isinstance (by decide +kernel) (pa_cons (pv 0) (pa_cons (pe_bltn (v := .ty "tuple") rfl T.n_tuple (by decide +kernel) rfl) pa_nil))) (pe_callB call_is (by rfl) T.n_isinstance (by decide +kernel) (pa_cons (pv 1) (pa_cons (pe_bltn (v := .ty "tuple") rfl T.n_tuple (by decide +kernel) rfl) pa_nil))) (nomark _)) (pw_or1 (pt_cmpR op_ne (pe_callB call_len_seq (by rfl) T.n_len (by decide +kernel) (pa_cons (pv 0) pa_nil)) (pe_callB call_len_seq (by rfl) T.n_len (by decide +kernel) (pa_cons (pv 1) pa_nil)) (nomark _))))) (pss_one (ps_ret pe_bl)) pss_nil)
  (pss_one (ps_ret (pe_cmpR (op_eqD (hu64_of hr)) (pe_lc (own := [("_law_k", 2)]) rfl nd (pi_range1 (by rfl) T.n_range (pa_cons (pe_callB call_len_seq (by rfl) T.n_len (by decide +kernel) (pa_cons (pv 0) pa_nil)) pa_nil)) (blkOk_by (own := [("_law_k", 2)]) (N := N_law_alike) (sc := (C8.fnScope s_law_alike)) (by decide +kernel)) (fun _ _ _ _ _ => (pg_name (i := 2) nd rfl (Or.inl rfl))) (fun _ _ _ _ _ => (pts_one (pt_not (pt_val (C8.pe_c c_al hr (Nat.le_refl _) rfl (pa_cons (pe_ix (ix_seq : IxR _ (rIx K)) (pv 0) (pv 2) (fun _ _ => rfl)) (pa_cons (pe_ix (ix_seq : IxR _ (rIx K)) (pv 1) (pv 2) (fun _ _ => rfl)) pa_nil))))))) (fun _ _ _ _ _ => (pv 2))) (pe_lst pa_nil) (nomark _))))) pss_nil)
  (pss_one (ps_ret (pe_and (pe_cmpR op_eq (pv 0) (pv 1) (nomark _)) (pe_one (pe_cmpR op_eq (pe_callB call_is (by rfl) T.n_isinstance (by decide +kernel) (pa_cons (pv 0) (pa_cons (pe_bltn (v := .ty "bool") rfl T.n_bool (by decide +kernel) rfl) pa_nil))) (pe_callB call_is (by rfl) T.n_isinstance (by decide +kernel) (pa_cons (pv 1) (pa_cons (pe_bltn (v := .ty "bool") rfl T.n_bool (by decide +kernel) rfl) pa_nil))) (nomark _))))))), ?_⟩
    cases d with
    | none =>
      rw [Dq] at hv hu'
      subst hv hu'
      refine ⟨_, rfl, small8 (by simp), fun t ht => ?_⟩
      have g1 := same_new (o := .tup [.ty "tuple", .ty "list"]) (Same.refl H) ht
      refine ⟨_, t, _, _, _, false, rfl, upd_same, .cons (.ty "tuple") (.cons (.ty "list") .nil), .base .non, kaN, false, rfl, iteF (iteF ?_)⟩
      refine ⟨_, rfl, _, rfl, rfl, true, congrArg V.bl (decide_eq_true rfl), iteT ?_⟩
      refine ⟨_, rfl, _, _, _, _, rfl, .base .non, kbN, _, rfl, _, _, _, _, rfl, .base .non, kbN, rfl, ?_⟩
      exact q _ g1
    | bool b =>
      rw [Dq] at hv hu'
      subst hv hu'
      refine ⟨_, rfl, small8 (by simp), fun t ht => ?_⟩
      have g1 := same_new (o := .tup [.ty "tuple", .ty "list"]) (Same.refl H) ht
      refine ⟨_, t, _, _, _, false, rfl, upd_same, .cons (.ty "tuple") (.cons (.ty "list") .nil), .base (.bl b), kaB, false, rfl, iteF (iteF ?_)⟩
      refine ⟨_, rfl, _, rfl, rfl, true, congrArg V.bl (decide_eq_true rfl), iteT ?_⟩
      refine ⟨_, rfl, _, _, _, _, rfl, .base (.bl b), kbB, _, rfl, _, _, _, _, rfl, .base (.bl b), kbB, rfl, ?_⟩
      exact q _ g1
    | int i =>
      rw [Dq] at hv hu'
      subst hv hu'
      refine ⟨_, rfl, small8 (by simp), fun t ht => ?_⟩
      have g1 := same_new (o := .tup [.ty "tuple", .ty "list"]) (Same.refl H) ht
      refine ⟨_, t, _, _, _, false, rfl, upd_same, .cons (.ty "tuple") (.cons (.ty "list") .nil), ty_int, kaI, false, rfl, iteF (iteF ?_)⟩
      refine ⟨_, rfl, _, rfl, rfl, true, congrArg V.bl (decide_eq_true rfl), iteT ?_⟩
      refine ⟨_, rfl, _, _, _, _, rfl, ty_int, kb2, _, rfl, _, _, _, _, rfl, ty_int, kb2, rfl, ?_⟩
      exact q _ g1
    | str x =>
      rw [Dq] at hv hu'
      subst hv hu'
      refine ⟨_, rfl, small8 (by simp), fun t ht => ?_⟩
      have g1 := same_new (o := .tup [.ty "tuple", .ty "list"]) (Same.refl H) ht
      refine ⟨_, t, _, _, _, false, rfl, upd_same, .cons (.ty "tuple") (.cons (.ty "list") .nil), ty_str, kaS, false, rfl, iteF (iteF ?_)⟩
      refine ⟨_, rfl, _, rfl, rfl, true, congrArg V.bl (decide_eq_true rfl), iteT ?_⟩
      refine ⟨_, rfl, _, _, _, _, rfl, ty_str, kbS, _, rfl, _, _, _, _, rfl, ty_str, kbS, rfl, ?_⟩
      exact q _ g1
    | list ds =>
      rw [Dq] at hv hu'
      obtain ⟨a, xs, rfl, ha, ha3⟩ := hv
      obtain ⟨b, ys, rfl, hb, hb3⟩ := hu'
      have hl1 := DqAll.len ha3
      have hl2 := DqAll.len hb3
      rw [PyData.depth] at hdn
      rw [wOk] at w
      have tA : ∀ H1, Same H H1 → TyX K H1 (.ref a) (.type "list") := fun H1 g => .base (.lst (g _ _ ha))
      have tB : ∀ H1, Same H H1 → TyX K H1 (.ref b) (.type "list") := fun H1 g => .base (.lst (g _ _ hb))
      refine ⟨_, rfl, small8 (by simp), fun t ht => ?_⟩
      have g1 := same_new (o := .tup [.ty "tuple", .ty "list"]) (Same.refl H) ht
      refine ⟨_, t, _, _, _, true, rfl, upd_same, .cons (.ty "tuple") (.cons (.ty "list") .nil), tA _ g1, kaL, true, rfl, iteT ?_⟩
      refine ⟨_, rfl, small8 (by simp), fun t2 ht2 => ?_⟩
      have g2 := Same.tr g1 (same_new (o := .tup [.ty "tuple", .ty "list"]) (Same.refl _) ht2)
      refine ⟨_, t2, _, _, _, true, rfl, upd_same, .cons (.ty "tuple") (.cons (.ty "list") .nil), tB _ g2, kaL, true, rfl, iteT ?_⟩
      generalize hG : upd (upd H t (.tup [.ty "tuple", .ty "list"])) t2 (.tup [.ty "tuple", .ty "list"]) = H1 at g2
      refine ⟨_, rfl, _, _, _, _, rfl, tA _ g2, kbL, _, rfl, _, _, _, _, rfl, tB _ g2, kbL, rfl, false, rfl, iteF ?_⟩
      refine ⟨_, rfl, _, _, rfl, .inl (l_of (g2 _ _ ha)), _, rfl, _, _, rfl, .inl (l_of (g2 _ _ hb)), rfl, false, congrArg V.bl (by simp [hl1, hl2]), iteF ?_⟩
      refine ⟨_, rfl, _, _, rfl, .inl (l_of (g2 _ _ ha)), _, rfl, (by omega), (by omega), fun D hD => ?_⟩
      refine lc_it (walk_range (lo := 0) (n := ((xs.length : Int)).toNat)) (fun _ H' => Sep H1 H' [(D, .lst [])]) (Sep.nil.own hD) (fun _ _ _ _ => trivial) ?_ ?_
      · rintro i v H2 H3 hi sp ⟨rfl, rfl⟩
        have gq := Same.tr g2 sp.ext
        have hiv : i < xs.length := by omega
        have hiu : i < ys.length := by omega
        have hx := List.getElem?_eq_getElem hiv
        have hy := List.getElem?_eq_getElem hiu
        obtain ⟨e, he, hxe⟩ := DqAll.get ha3 hx
        obtain ⟨e', he', hye⟩ := DqAll.get hb3 hy
        obtain rfl : e = e' := Option.some.inj (he.symm.trans he')
        have hem := List.mem_of_getElem? he
        have hz : ((0 : Int) + (i : Nat)) = (i : Nat) := by omega
        have ax : atI xs ((0 : Int) + (i : Nat)) = some xs[i] := by rw [hz]; exact atIn hx
        have ay : atI ys ((0 : Int) + (i : Nat)) = some ys[i] := by rw [hz]; exact atIn hy
        have hdp := depth_le_all hem
        refine ⟨rfl, _, rfl, _, rfl, .inl ⟨_, _, _, _, rfl, rfl, l_of (gq _ _ ha), ax, _, rfl, _, rfl, .inl ⟨_, _, _, _, rfl, rfl, l_of (gq _ _ hb), ay, _, _, e, rfl, Dq.up gq _ _ hxe, Dq.up gq _ _ hye, by omega, wOkAll.mem w.2 hem, fun H4 g4 => ⟨true, rfl, iteF (sp.grow g4)⟩⟩⟩⟩
      rintro H2 sp
      refine ⟨Nat.zero_le _, fun q2 hq2 => ?_⟩
      have sp2 := sp.drop (o := .lst []) hq2
      refine ⟨.list [], .list [], .lst (l_of sp2.c0) .nil, .lst (l_of upd_same) .nil, by decide +kernel, by decide +kernel, ?_⟩
      rw [show PyData.eqv (.list []) (.list []) = true by simp [PyData.eqv, PyData.eqvAll]]
      exact q _ (Same.tr g2 sp2.ext)
    | tuple ds =>
      rw [Dq] at hv hu'
      obtain ⟨a, xs, rfl, ha, ha3⟩ := hv
      obtain ⟨b, ys, rfl, hb, hb3⟩ := hu'
      have hl1 := DqAll.len ha3
      have hl2 := DqAll.len hb3
      rw [PyData.depth] at hdn
      rw [wOk] at w
      have tA : ∀ H1, Same H H1 → TyX K H1 (.ref a) (.type "tuple") := fun H1 g => ty_tup (Same.tup g ha)
      have tB : ∀ H1, Same H H1 → TyX K H1 (.ref b) (.type "tuple") := fun H1 g => ty_tup (Same.tup g hb)
      refine ⟨_, rfl, small8 (by simp), fun t ht => ?_⟩
      have g1 := same_new (o := .tup [.ty "tuple", .ty "list"]) (Same.refl H) ht
      refine ⟨_, t, _, _, _, true, rfl, upd_same, .cons (.ty "tuple") (.cons (.ty "list") .nil), tA _ g1, kaT, true, rfl, iteT ?_⟩
      refine ⟨_, rfl, small8 (by simp), fun t2 ht2 => ?_⟩
      have g2 := Same.tr g1 (same_new (o := .tup [.ty "tuple", .ty "list"]) (Same.refl _) ht2)
      refine ⟨_, t2, _, _, _, true, rfl, upd_same, .cons (.ty "tuple") (.cons (.ty "list") .nil), tB _ g2, kaT, true, rfl, iteT ?_⟩
      generalize hG : upd (upd H t (.tup [.ty "tuple", .ty "list"])) t2 (.tup [.ty "tuple", .ty "list"]) = H1 at g2
      refine ⟨_, rfl, _, _, _, _, rfl, tA _ g2, kb4, _, rfl, _, _, _, _, rfl, tB _ g2, kb4, rfl, false, rfl, iteF ?_⟩
      refine ⟨_, rfl, _, _, rfl, .inr (Same.tup g2 ha), _, rfl, _, _, rfl, .inr (Same.tup g2 hb), rfl, false, congrArg V.bl (by simp [hl1, hl2]), iteF ?_⟩
      refine ⟨_, rfl, _, _, rfl, .inr (Same.tup g2 ha), _, rfl, (by omega), (by omega), fun D hD => ?_⟩
      refine lc_it (walk_range (lo := 0) (n := ((xs.length : Int)).toNat)) (fun _ H' => Sep H1 H' [(D, .lst [])]) (Sep.nil.own hD) (fun _ _ _ _ => trivial) ?_ ?_
      · rintro i v H2 H3 hi sp ⟨rfl, rfl⟩
        have gq := Same.tr g2 sp.ext
        have hiv : i < xs.length := by omega
        have hiu : i < ys.length := by omega
        have hx := List.getElem?_eq_getElem hiv
        have hy := List.getElem?_eq_getElem hiu
        obtain ⟨e, he, hxe⟩ := DqAll.get ha3 hx
        obtain ⟨e', he', hye⟩ := DqAll.get hb3 hy
        obtain rfl : e = e' := Option.some.inj (he.symm.trans he')
        have hem := List.mem_of_getElem? he
        have hz : ((0 : Int) + (i : Nat)) = (i : Nat) := by omega
        have ax : atI xs ((0 : Int) + (i : Nat)) = some xs[i] := by rw [hz]; exact atIn hx
        have ay : atI ys ((0 : Int) + (i : Nat)) = some ys[i] := by rw [hz]; exact atIn hy
        have hdp := depth_le_all hem
        refine ⟨rfl, _, rfl, _, rfl, .inr (.inl ⟨_, _, _, _, rfl, rfl, Same.tup gq ha, ax, _, rfl, _, rfl, .inr (.inl ⟨_, _, _, _, rfl, rfl, Same.tup gq hb, ay, _, _, e, rfl, Dq.up gq _ _ hxe, Dq.up gq _ _ hye, by omega, wOkAll.mem w.2 hem, fun H4 g4 => ⟨true, rfl, iteF (sp.grow g4)⟩⟩)⟩)⟩
      rintro H2 sp
      refine ⟨Nat.zero_le _, fun q2 hq2 => ?_⟩
      have sp2 := sp.drop (o := .lst []) hq2
      refine ⟨.list [], .list [], .lst (l_of sp2.c0) .nil, .lst (l_of upd_same) .nil, by decide +kernel, by decide +kernel, ?_⟩
      rw [show PyData.eqv (.list []) (.list []) = true by simp [PyData.eqv, PyData.eqvAll]]
      exact q _ (Same.tr g2 sp2.ext)
    | dict kvs =>
      rw [Dq] at hv
      exact hv.elim
theorem al_all {fd : FuncData} (T : Txt K mg) (F : FunD K "_law_alike" "_law_alike" (C8.fnArgs s_law_alike) (C8.fnBody s_law_alike) (C8.fnScope s_law_alike) [] [] (He.ga K "_law_alike") fd) : ∀ n, FnOk P w K mg base C8.CX0 (n + 1) (He.ga K "_law_alike") fd ["_law_one", "_law_due"] (sp_alk n K)
  | 0 => al_0 T F
  | n + 1 => al_S T F (calA_al T F (al_all T F n))
theorem ok_law_alike {fd : FuncData} (T : Txt K mg) (F : FunD K "_law_alike" "_law_alike" (C8.fnArgs s_law_alike) (C8.fnBody s_law_alike) (C8.fnScope s_law_alike) [] [] (He.ga K "_law_alike") fd) :
    C8.Cal P w K mg base 5 "_law_alike" (sp_alk 4 K) [] := by
  exact calA_al T F (al_all T F 4)
end
end Cb

namespace Cb
open PySem PySem.Spec PyProof.Rows L2
theorem Dr.grow {K' H H' : Hp} {row sc : Addr} {M : List (Addr × HO)} (d : Dr K' H row sc M) (g : Same H H') : Dr K' H' row sc M := by
  obtain ⟨i, gg, x, hi, hg, sp⟩ := d
  exact ⟨i, gg, x, hi, hg, sp.grow g⟩
theorem ways_mem {ls ps : List Int} {c : Nat} {w : Way} : w ∈ waysS ls ps c ↔ w ∈ waysT ls ps c := waysS_perm.mem_iff

section
variable {P : Program} {w : World} {K : PySem.W.Frag} {mg : Str → Option Value} {base : Heap}

abbrev N_law : List Str := ["_law_script", "_law_row", "_law_turn", "_law_loads_here", "_law_places", "_law_count", "_law_ways_here", "_law_most", "_law_way", "_law_k", "_law_many", "_law_moves", "_law_spread_here"]
theorem sc_law : FnScope N_law ["_law_script"] (C8.fnScope s_law) := C8.fnScope_by (by decide +kernel)
theorem ok_law {fd : FuncData} (T : Txt K mg) (F : FunD K "law" "law" (C8.fnArgs s_law) (C8.fnBody s_law) (C8.fnScope s_law) [] [] (He.ga K "law") fd) (c__law_taken : C8.Cal P w K mg base 1 "_law_taken" (sp_law_taken K) []) (c__law_loads : C8.Cal P w K mg base 2 "_law_loads" (sp_law_loads K) []) (c__law_ways : C8.Cal P w K mg base 3 "_law_ways" (sp_law_ways K) []) (c_least_spread : C8.Cal P w K mg base 9 "least_spread" (sp_least_spread K) []) (c_judge_moves : C8.Cal P w K mg base 4 "judge_moves" (sp_judge_moves K) []) (c__law_alike : C8.Cal P w K mg base 5 "_law_alike" (sp_alk 4 K) []) :
    FnOk P w K mg base C8.CX0 10 (He.ga K "law") fd ["_law_script"] (sp_law K) := by
  refine C8.fn0 (fun_c8 F) sc_law (fun vs H Q E h => ?_) (fun cdv A outer s H vs Q E hr h => ?_)
  · obtain ⟨_, _, rfl, _⟩ := h
    rfl
  · have nd := sc_law.nd
    have hu := hu_of hr
    obtain ⟨sc, ns, rfl, hsc, q⟩ := h
    refine ⟨_, (pss_cons (ps_set (i := 1) nd rfl (Or.inl rfl) (pe_lst (pa_cons (pv 0) (pa_cons pe_int (pa_cons pe_int (pa_cons pe_int pa_nil))))))
      (pss_cons (ps_for PassesOwn.never rfl (pi_range1 (by rfl) T.n_range (pa_cons pe_int pa_nil)) (pg_name (i := 2) nd rfl (Or.inl rfl)) (pss_cons (ps_asg (C8.pe_c c__law_loads hr (by decide) rfl (pa_cons (pv 1) (pa_cons pe_int pa_nil))) (pg_tup rfl (pgs_cons (pg_name (i := 3) nd rfl (Or.inl rfl)) (pgs_cons (pg_name (i := 4) nd rfl (Or.inl rfl)) (pgs_cons (pg_name (i := 5) nd rfl (Or.inl rfl)) pgs_nil)))))
      (pss_cons (ps_set (i := 6) nd rfl (Or.inl rfl) (C8.pe_c c__law_ways hr (by decide) rfl (pa_cons (pv 3) (pa_cons (pv 4) (pa_cons (pv 5) pa_nil)))))
      (pss_cons (ps_for PassesOwn.never rfl (pi_range1 (by rfl) T.n_range (pa_cons pe_int pa_nil)) (pg_name (i := 7) nd rfl (Or.inr rfl)) (pss_one (ps_if (pt_cmpR op_ne (C8.pe_c c_least_spread hr (by decide) rfl (pa_cons (pv 3) (pa_cons (pv 4) (pa_cons (pv 5) (pa_cons (pv 7) pa_nil))))) (pe_callB (cr_min rfl) (by rfl) T.n_min (by decide +kernel) (pa_cons (pe_lc (own := [("_law_way", 8)]) rfl nd (pi_list (pv 6)) (blkOk_by (own := [("_law_way", 8)]) (N := N_law) (sc := (C8.fnScope s_law)) (by decide +kernel)) (fun _ _ _ _ _ => (pg_name (i := 8) nd rfl (Or.inl rfl))) (fun _ _ _ _ _ => (pts_one (pt_cmpR op_le (pe_ix (ix_tup : IxR _ (rIxT K)) (pv 8) pe_int (fun _ _ => rfl)) (pv 7) (nomark _)))) (fun _ _ _ _ _ => (pe_ix (ix_tup : IxR _ (rIxT K)) (pv 8) pe_int (fun _ _ => rfl)))) pa_nil)) (nomark _)) (pss_one (ps_ret pe_bl)) pss_nil)))
      (pss_one (ps_for PassesOwn.never rfl (pi_range1 (by rfl) T.n_range (pa_cons pe_int pa_nil)) (pg_name (i := 9) nd rfl (Or.inl rfl)) (pss_cons (ps_asg (pe_ix ix_list (pv 6) (C8.pe_c c__law_taken hr (by decide) rfl (pa_cons (pv 1) (pa_cons (pe_callB call_len_seq (by rfl) T.n_len (by decide +kernel) (pa_cons (pv 6) pa_nil)) pa_nil))) (fun _ _ => rfl)) (pg_tup rfl (pgs_cons (pg_name (i := 10) nd rfl (Or.inl rfl)) (pgs_cons (pg_name (i := 11) nd rfl (Or.inl rfl)) (pgs_cons (pg_name (i := 12) nd rfl (Or.inl rfl)) pgs_nil)))))
      (pss_cons (ps_if (pt_not (pt_val (C8.pe_c c__law_alike hr (by decide) rfl (pa_cons (C8.pe_c c_judge_moves hr (by decide) rfl (pa_cons (pv 3) (pa_cons (pv 4) (pa_cons (pv 5) (pa_cons (pe_callTy call_list_of (by rfl) T.n_list (by decide +kernel) (pa_cons (pv 11) pa_nil)) pa_nil))))) (pa_cons (pv 12) pa_nil))))) (pss_one (ps_ret pe_bl)) pss_nil)
      (pss_one (ps_if (pt_cmpR op_ne (C8.pe_c c_judge_moves hr (by decide) rfl (pa_cons (pv 3) (pa_cons (pv 4) (pa_cons (pv 5) (pa_cons (pe_revL (pe_callTy call_list_of (by rfl) T.n_list (by decide +kernel) (pa_cons (pv 11) pa_nil))) pa_nil))))) (pv 12) (nomark _)) (pss_one (ps_ret pe_bl)) pss_nil))))))))))
      (pss_one (ps_ret pe_bl)))), ?_⟩
    refine ⟨_, rfl, small8 (by simp), fun row hrow => ?_⟩
    have d0 : Dr H (upd H row (.lst [.ref sc, .int 0, .int 0, .int 0])) row sc [] := ⟨0, 0, 0, by decide, by decide, Sep.nil.own hrow⟩
    refine ⟨2, rfl, by decide, by decide, ?_⟩
    refine for_it (walk_range (lo := 0) (n := 2)) (fun i σ H' => ∃ K1 y2 y3 y4 y5 y6 y7 y8 y9 y10 y11 y12, σ = [some (.ref sc), some (.ref row), y2, y3, y4, y5, y6, y7, y8, y9, y10, y11, y12] ∧ Same H K1 ∧ Dr K1 H' row sc []) ⟨H, _, _, _, _, _, _, _, _, _, _, _, rfl, Same.refl _, d0⟩ (fun _ _ _ _ _ => trivial) ?_ ?_
    · rintro i x σ H1 H2 hi ⟨K1, y2, y3, y4, y5, y6, y7, y8, y9, y10, y11, y12, rfl, g1, d1⟩ ⟨rfl, hx⟩
      have hsc1 := Same.lst g1 hsc
      refine ⟨_, rfl, row, sc, 4, ns, K1, [], rfl, by decide, by decide, hsc1, d1, fun K2 H3 t a b ls ps c g2 d2 ht ha hb ok hls => ?_⟩
      have hlen := ok.len
      refine ⟨t, _, rfl, Same.tup d2.ext ht, rfl, _, _, rfl, _, _, rfl, _, _, rfl, rfl, ?_⟩
      obtain ⟨di, dg, dx, di0, dg0, sp⟩ := d2
      refine ⟨_, rfl, _, rfl, _, rfl, a, b, ls, ps, c, K2, _, rfl, ha, hb, ok, by omega, sp, fun K3 H4 W xs g3 sp3 hW hws => ?_⟩
      have d3 : Dr K3 H4 row sc [] := ⟨di, dg, dx, di0, dg0, sp3⟩
      have ha3 := Same.tup g3 ha
      have hb3 := Same.tup g3 hb
      have hsc3 := Same.lst g3 (Same.lst g2 hsc1)
      clear sp sp3
      have hwl := hws.length
      have hw0 : 0 < (waysT ls ps c).length := List.length_pos_of_mem (waysT_mem hlen ok.hp (L := 0) (List.mem_singleton.mpr rfl))
      have hw1 : (waysT ls ps c).length ≤ 1024 := by
        rw [waysT, List.length_map]
        exact Nat.le_trans (waysR_len _) (Nat.le_trans (Nat.pow_le_pow_left ok.c4 _) (Nat.le_trans (Nat.pow_le_pow_right (by decide) (show ls.length ≤ 5 by omega)) (by decide)))
      have hxl : xs.length = (waysT ls ps c).length := by rw [hwl]; exact waysS_perm.length_eq
      refine ⟨8, rfl, by decide, by decide, ?_⟩
      refine for_it (walk_range (lo := 0) (n := 8)) (fun k σ H' => ∃ y2 y7 y8 y9 y10 y11 y12, σ = [some (.ref sc), some (.ref row), y2, some (.ref a), some (.ref b), some (.int ((c : Nat) : Int)), some (.ref W), y7, y8, y9, y10, y11, y12] ∧ Dr K3 H' row sc []) ⟨_, _, _, _, _, _, _, rfl, d3⟩ (fun _ _ _ _ _ => trivial) ?_ ?_
      · rintro k y σ H5 H6 hk ⟨y2, y7, y8, y9, y10, y11, y12, rfl, d4⟩ ⟨rfl, hy⟩
        obtain rfl : y = V.int ((k : Nat) : Int) := hy.trans (congrArg V.int (by omega))
        refine ⟨_, rfl, _, rfl, _, rfl, _, rfl, a, b, ls, ps, c, k, rfl, Same.tup d4.ext ha3, Same.tup d4.ext hb3, ok, by omega, fun H7 g7 => ?_⟩
        have d5 := d4.grow g7
        refine ⟨_, rfl, W, rfl, ⟨_, l_of (d5.ext _ _ hW)⟩, fun Dd hDd => ?_⟩
        refine lc_it (walk_list (xs := xs)) (fun j H' => Dr K3 H' row sc [(Dd, .lst (((((waysS ls ps c).take j).filter fun w => decide (w.1.length ≤ k)).map (·.2)).map V.int))]) (d5.own hDd) ?_ ?_ ?_
        · rintro j H' _ d
          exact l_of (d.ext _ _ hW)
        · rintro j v H8 H9 hj d ⟨rfl, e2⟩
          obtain ⟨w, hw, t2, m2, rfl, ht2, _⟩ := pget hws e2
          have ht3 := Same.tup d.ext ht2
          refine ⟨rfl, _, rfl, _, _, _, _, rfl, rfl, ht3, rfl, _, rfl, _, _, rfl, rfl, decide (w.1.length ≤ k), congrArg V.bl (decide_eq_decide.mpr (by omega)), ?_⟩
          rw [take_snoc hw, List.filter_append, List.map_append, List.map_append]
          by_cases hg : w.1.length ≤ k
          · rw [decide_eq_true hg, show (List.filter (fun w : Way => decide (w.1.length ≤ k)) [w]) = [w] by simp only [List.filter_cons, List.filter_nil, decide_eq_true hg, if_true]]
            refine iteT ⟨_, rfl, _, _, _, _, rfl, rfl, ht3, rfl, _, d.at0, ?_, d.put⟩
            rw [List.length_map, List.length_map]
            refine Nat.lt_of_le_of_lt (Nat.le_trans (List.length_filter_le _ _) (Nat.le_trans (List.length_take_le _ _) (Nat.le_of_lt hj))) (Nat.lt_of_le_of_lt (show xs.length ≤ 1024 by omega) (by decide))
          · rw [decide_eq_false hg, show (List.filter (fun w : Way => decide (w.1.length ≤ k)) [w]) = [] by simp only [List.filter_cons, List.filter_nil, decide_eq_false hg]; rfl]
            rw [List.map_nil, List.map_nil, List.append_nil]
            exact iteF d
        · rintro H8 d
          rw [List.take_of_length_le (Nat.le_of_eq hwl.symm)] at d
          have lw := least_ways (k := k) hlen ok.hp (l := ((waysS ls ps c).filter fun w => decide (w.1.length ≤ k)).map (·.2)) fun x => by
            simp only [List.mem_map, List.mem_filter, decide_eq_true_eq, ways_mem, and_assoc]
          refine ⟨Dd, _, rfl, l_of d.at0, List.length_pos_of_mem lw.1, fun m m1 m2 => ⟨rfl, false, congrArg V.bl ?_, iteF ⟨_, _, _, _, _, _, _, rfl, d.tail⟩⟩⟩
          have q1 := lw.2 m m1
          have q2 := m2 _ lw.1
          rw [show leastP ls ps c k = m by omega]
          simp
      · rintro σ H5 ⟨y2, y7, y8, y9, y10, y11, y12, rfl, d4⟩
        refine ⟨6, rfl, by decide, by decide, ?_⟩
        refine for_it (walk_range (lo := 0) (n := 6)) (fun k σ H' => ∃ y2 y7 y8 y9 y10 y11 y12, σ = [some (.ref sc), some (.ref row), y2, some (.ref a), some (.ref b), some (.int ((c : Nat) : Int)), some (.ref W), y7, y8, y9, y10, y11, y12] ∧ Dr K3 H' row sc []) ⟨_, _, _, _, _, _, _, rfl, d4⟩ (fun _ _ _ _ _ => trivial) ?_ ?_
        · rintro k y σ H5 H6 hk ⟨y2, y7, y8, y9, y10, y11, y12, rfl, d5⟩ ⟨rfl, hy⟩
          refine ⟨_, rfl, ?_⟩
          refine takenQ (v := 1) ((xs.length : Nat) : Int) rfl (fun Q' h => ⟨_, rfl, W, xs, rfl, .inl (l_of (d5.ext _ _ hW)), h⟩) (by omega) (by omega) hsc3 d5 fun H7 r r0 r1 d6 => ?_
          have hrl : r.toNat < xs.length := by omega
          have hxr : xs[r.toNat]? = some xs[r.toNat] := List.getElem?_eq_getElem hrl
          have hat : atI xs r = some xs[r.toNat] := by
            have z := atIn hxr
            rwa [show ((r.toNat : Nat) : Int) = r by omega] at z
          obtain ⟨w, hw, t2, m2, hxe, ht2, hm2⟩ := pget hws hxr
          rw [hxe] at hat
          obtain ⟨wok, wasc, wsp⟩ := waysT_ok hlen ok.hp (ways_mem.mp (List.mem_of_getElem? hw))
          obtain ⟨ma, mxs, rfl, hma, hmp⟩ := hm2
          have wnd : (w.1.map (·.1)).Nodup := wasc.imp fun z => Int.ne_of_lt z
          refine ⟨W, xs, _, _, rfl, rfl, l_of (d6.ext _ _ hW), hat, ?_⟩
          refine ⟨_, _, rfl, Same.tup d6.ext ht2, rfl, _, _, rfl, _, _, rfl, _, _, rfl, rfl, ?_⟩
          have rmem : ∀ m ∈ w.1.reverse, MvOk ps c m := fun m hm => wok m (List.mem_reverse.mp hm)
          refine ⟨_, rfl, _, rfl, _, rfl, _, rfl, ma, mxs, rfl, .inr (Same.tup d6.ext hma), fun l1 hl1 => ?_⟩
          have d7 := d6.drop (o := .lst mxs) hl1
          refine ⟨a, b, l1, ls, ps, c, mxs, w.1, rfl, Same.tup d7.ext ha3, Same.tup d7.ext hb3, ok, l_of upd_same, hmp.mono fun _ _ z => MvAt.up d7.ext z, wok, wnd, fun H8 g8 => ?_⟩
          have d8 := d7.grow g8
          refine ⟨_, rfl, _, _, .int w.2, rfl, by rw [Dq, wsp], by rw [Dq], by rw [PyData.depth]; decide, wOk.int _, fun H9 g9 => ⟨true, rfl, iteF ?_⟩⟩
          have d9 := d8.grow g9
          refine ⟨_, rfl, _, rfl, _, rfl, _, rfl, ma, mxs, rfl, .inr (Same.tup d9.ext hma), fun l2 hl2 => ?_⟩
          have d10 := d9.drop (o := .lst mxs) hl2
          refine ⟨l2, mxs, rfl, l_of upd_same, fun l3 hl3 => ?_⟩
          have d11 := d10.drop (o := .lst mxs.reverse) hl3
          refine ⟨a, b, l3, ls, ps, c, mxs.reverse, w.1.reverse, rfl, Same.tup d11.ext ha3, Same.tup d11.ext hb3, ok, l_of upd_same, prev (hmp.mono fun _ _ z => MvAt.up d11.ext z), rmem, by rw [List.map_reverse]; exact (List.reverse_perm _).nodup_iff.mpr wnd, fun H10 g10 => ?_⟩
          have d12 := d11.grow g10
          refine ⟨_, rfl, rfl, false, congrArg V.bl (by rw [movedL_rev (asc_nodup (fun m hm => (wok m hm).1) wasc), wsp]; simp), iteF ?_⟩
          exact ⟨_, _, _, _, _, _, _, rfl, d12⟩
        · rintro σ H5 ⟨y2, y7, y8, y9, y10, y11, y12, rfl, d5⟩
          exact ⟨K3, _, _, _, _, _, _, _, _, _, _, _, rfl, Same.tr g1 (Same.tr g2 g3), d5⟩
    · rintro σ H1 ⟨K1, y2, y3, y4, y5, y6, y7, y8, y9, y10, y11, y12, rfl, g1, d1⟩
      exact q _
    
end
end Cb

namespace Cb
open PySem PySem.Spec PyProof.Rows L2
theorem facts {P : Program} {w : World} {K : PySem.W.Frag} {h : Heap} {mg : Str → Option Value} {f : Addr} (X : K.In h) (G : h.Ns mainGlobals mg) (hfa : mg ("law" : Str) = some (.ref f)) (c : SaysM exM fn tsM w K) :
    ∃ fd : FuncData, (∀ (s : Shared) (v : Value), BindsTo s fd ⟨[v], []⟩ [("_law_script", v)]) ∧ ∀ base : Heap, K.In base → base.Ns mainGlobals mg → FnOk P w K mg base C8.CX0 10 f fd ["_law_script"] (sp_law K) := by
  have T := txt_of X G c.exok
  obtain ⟨_, F_is_integer⟩ := c.def_ 0 (d := D_is_integer) rfl
  obtain ⟨_, F_check_number⟩ := c.def_ 1 (d := D_check_number) rfl
  obtain ⟨_, F_are_integers⟩ := c.def_ 5 (d := D_are_integers) rfl
  obtain ⟨_, F_check_loads⟩ := c.def_ 4 (d := D_check_loads) rfl
  obtain ⟨_, F_is_move⟩ := c.def_ 6 (d := D_is_move) rfl
  obtain ⟨_, F_moved⟩ := c.def_ 8 (d := D_moved) rfl
  obtain ⟨_, F_difference⟩ := c.def_ 9 (d := D_difference) rfl
  obtain ⟨_, F_move_lists⟩ := c.def_ 7 (d := D_move_lists) rfl
  obtain ⟨_, F_least_spread⟩ := c.def_ 2 (d := D_least_spread) rfl
  obtain ⟨_, F_judge_moves⟩ := c.def_ 3 (d := D_judge_moves) rfl
  obtain ⟨_, F_law_taken⟩ := c.def_ 11 (d := D_law_taken) rfl
  obtain ⟨_, F_law_loads⟩ := c.def_ 13 (d := D_law_loads) rfl
  obtain ⟨_, F_law_spread⟩ := c.def_ 14 (d := D_law_spread) rfl
  obtain ⟨_, F_law_ways⟩ := c.def_ 10 (d := D_law_ways) rfl
  obtain ⟨_, F_law_alike⟩ := c.def_ 12 (d := D_law_alike) rfl
  obtain ⟨_, F_law⟩ := c.def_ 15 (d := D_law) rfl
  have e := hfa.symm.trans T.f_law
  cases e
  have b := FunD.bindsA (ps := ["_law_script"]) F_law fun _ _ _ _ _ _ us hl => match us, hl with | [_], _ => rfl
  refine ⟨_, fun s v => b s [v] rfl, fun base _ _ => ?_⟩
  have c_is_integer := ok_is_integer (P := P) (w := w) (base := base) T F_is_integer 
  have c_check_number := ok_check_number (P := P) (w := w) (base := base) T F_check_number c_is_integer
  have c_are_integers := ok_are_integers (P := P) (w := w) (base := base) T F_are_integers c_is_integer
  have c_check_loads := ok_check_loads (P := P) (w := w) (base := base) T F_check_loads c_check_number c_are_integers
  have c_is_move := ok_is_move (P := P) (w := w) (base := base) T F_is_move c_is_integer
  have c_moved := ok_moved (P := P) (w := w) (base := base) T F_moved 
  have c_difference := ok_difference (P := P) (w := w) (base := base) T F_difference 
  have c_move_lists := ok_move_lists (P := P) (w := w) (base := base) T F_move_lists 
  have c_least_spread := ok_least_spread (P := P) (w := w) (base := base) T F_least_spread c_check_loads c_check_number c_move_lists c_difference c_moved
  have c_judge_moves := ok_judge_moves (P := P) (w := w) (base := base) T F_judge_moves c_check_loads c_is_move c_difference c_moved
  have c_law_taken := ok_law_taken (P := P) (w := w) (base := base) T F_law_taken 
  have c_law_loads := ok_law_loads (P := P) (w := w) (base := base) T F_law_loads c_law_taken
  have c_law_spread := ok_law_spread (P := P) (w := w) (base := base) T F_law_spread 
  have c_law_ways := ok_law_ways (P := P) (w := w) (base := base) T F_law_ways c_law_spread
  have c_law_alike := ok_law_alike (P := P) (w := w) (base := base) T F_law_alike 
  exact ok_law T F_law c_law_taken c_law_loads c_law_ways c_least_spread c_judge_moves c_law_alike
end Cb
open PySem PySem.W PySem.Calls PyProof.Rows
theorem PySem.Challenge.cw_callbells_k71_least_spread_holds : PySem.Challenge.rw_callbells_k71_least_spread.Holds := by
  w_on; o_law
  refine HandSHeadRun.head_any (r := OpenLaw.row PySem.Challenge.rw_callbells_k71_least_spread) (q := view (OpenLaw.row PySem.Challenge.rw_callbells_k71_least_spread).prog [25]) (H := Cb.hk) (ob := Cb.ob) (M := 30000) (loose := Cb.nms) (d := HandSHeadRun.topDef (OpenLaw.row PySem.Challenge.rw_callbells_k71_least_spread).prog 25) (kwd := []) Cb.ob_eq
    (by kernel_rfl) (fun s => by kernel_rfl) Cb.run (by kernel_rfl) (by kernel_rfl) (by kernel_rfl) (by rfl) (by first | assumption | decide +kernel) (by decide +kernel) ⟨rfl, rfl, rfl, rfl, rfl, by decide +kernel⟩ ?hw ?hc
  case hw => w_witness2
  case hc =>
    refine L2.walk_ofE (l := PySem.Challenge.rw_callbells_k71_least_spread) (n := 63) (k := 10) (x := "_law_script") (CX := C8.CX0) rfl (by decide) (by kernel_rfl) ⟨rfl, by decide, by decide⟩ ?F (fun _ _ _ _ z => z)
    intro w mg fa h Y G hmg0
    obtain ⟨K, KX, c⟩ := Y
    have hmg : mg ("law" : PySem.Str) = some (.ref fa) := by
      have e : (HandSHeadRun.topDef (OpenLaw.row PySem.Challenge.rw_callbells_k71_least_spread).prog 25).name = ("law" : PySem.Str) := by kernel_rfl
      rw [← e]
      exact hmg0
    obtain ⟨fd, hb, hF⟩ := Cb.facts (P := (PySem.Challenge.rw_callbells_k71_least_spread).prog) (w := w) KX G hmg c
    exact ⟨K, fd, Cb.sp_law K, KX, hb, fun H a ns hl _ hS => ⟨a, ns, rfl, hS, fun _ => rfl⟩, hF⟩

