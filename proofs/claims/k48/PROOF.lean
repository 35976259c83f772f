import PyProof.Rows.All
import Wide.All
import OpenK.AllK
import Wide.FinOn
import HandS.ForMost
import HandS.ForExc
import HandS.Codes
import HandS.Evl
import KE.KExcIs
import HandS.IsInst
import HandS.ExcField
import HandS.Defaults
import HandS.Lambda
import HandS.EndBits
import HandS.EndTab
import PyProof.ReprRoads
import HandS.ExcInit
import HandS.HeadHook1
import HandS.HeadHook2
import HandS.Star
import HandS.ClsMeth
import HandS.Property
import HandS.Gcd
import HandS.Zip
import KE.KSuper
import HandS.Nested
import HandS.HeadHook4
import HandS.HeadWalk
import KE.KTupSum
import PyProof.InstNe
import PyProof.ReprLen
import PyProof.FitsInt
import PySem.Challenge.RW_gaugeroad_k48_alarms_and_watches
import KE.KStateDown
import Lean
import HandS.Head0
import HandS.Head1
import HandS.Head2
import HandS.Head3
import HandS.HeadEnd
import HandS.MakeKwOnly
import HandS.Style
import HandS.TupAny
import HandS.Walk
import HandS.Wide
import HandS.MakeKw
set_option Elab.async false
set_option linter.all false
set_option maxRecDepth 100000
set_option maxHeartbeats 2000000
namespace Pre
open PySem PySem.Spec PyProof.Rows L2
/-- all but what stands at p is kept -/
def But (p : Addr) (H H' : Hp) : Prop := ∀ b o, b ≠ p → H b = some o → H' b = some o
theorem But.refl (p : Addr) (H : Hp) : But p H H := fun _ _ _ h => h
theorem But.trans {p : Addr} {H H1 H2 : Hp} (a : But p H H1) (b : But p H1 H2) : But p H H2 := fun c o n h => b c o n (a c o n h)
theorem But.of {p : Addr} {H H1 : Hp} (a : Same H H1) : But p H H1 := fun c o _ h => a c o h
theorem But.at_ {p : Addr} {H : Hp} {o : HO} : But p H (upd H p o) := fun c u n h => by
  rw [upd_ne n]
  exact h
theorem But.new {p q : Addr} {H H1 : Hp} {o : HO} (a : But p H H1) (n : H1 q = none) : But p H (upd H1 q o) := fun c u z h => by
  have h1 := a c u z h
  rw [upd_ne (ne_of_none h1 n)]
  exact h1
theorem But.set {p : Addr} {H H1 : Hp} {o : HO} (a : But p H H1) : But p H (upd H1 p o) := fun c u z h => by
  rw [upd_ne z]
  exact a c u z h
theorem Same.new {q : Addr} {H H1 : Hp} {o : HO} (a : Same H H1) (n : H1 q = none) : Same H (upd H1 q o) := fun c u h => by
  have h1 := a c u h
  rw [upd_ne (ne_of_none h1 n)]
  exact h1
theorem Same.upd {q : Addr} {H : Hp} {o : HO} (n : H q = none) : Same H (L2.upd H q o) := fun c u h => by
  rw [upd_ne (ne_of_none h n)]
  exact h
/-! data -/
theorem dp_ints {K : PySem.W.Frag} {H : Hp} : ∀ ns : List Int, DpAll K H (ns.map V.int) (ns.map PyData.int)
  | [] => .nil
  | n :: r => .cons (.int n) (dp_ints r)
theorem canLay_ints : ∀ ns : List Int, PyData.canLayAll0 (ns.map PyData.int) = true
  | [] => by decide
  | n :: r => by
    have h := canLay_ints r
    simp only [List.map_cons, PyData.canLayAll0, PyData.canLay0, Bool.true_and]
    exact h
theorem depth_ints : ∀ ns : List Int, PyData.depthAll (ns.map PyData.int) ≤ 1
  | [] => by decide
  | n :: r => by
    have h := depth_ints r
    simp only [List.map_cons, PyData.depthAll, PyData.depth, Nat.max_def]
    split <;> omega
theorem shaped_ints (ns : List Int) : SeqAt.shaped (.list (ns.map PyData.int)) = true := by
  unfold SeqAt.shaped
  have h := depth_ints ns
  have h2 := canLay_ints ns
  have e1 : PyData.canLay0 (.list (ns.map PyData.int)) = true := by simp only [PyData.canLay0]; exact h2
  have e2 : PyData.depth (.list (ns.map PyData.int)) ≤ 64 := by simp only [PyData.depth]; omega
  rw [e1, decide_eq_true e2]
  rfl
theorem eqv_nil (ns : List Int) : PyData.eqv (.list (ns.map PyData.int)) (.list []) = ns.isEmpty := by
  cases ns with
  | nil => simp [PyData.eqv, PyData.eqvAll]
  | cons y r => simp [PyData.eqv, PyData.eqvAll]
end Pre
set_option Elab.async false
set_option linter.all false
set_option maxRecDepth 100000
set_option maxHeartbeats 2000000
/-! An error that a clause caught and a name keeps: tracked behind the try, asked for its class, read. -/
namespace Kept
open PySem PySem.Spec PyProof.Rows L2

/-- at a: an error of the class cls, its own dict at d -/
def errO (a : Addr) (cls : Value) (d : Option Addr) : HO :=
  .ext fun h => ∃ (ob : Obj) (fl : Array Value), h.get? a = some ob ∧ Zc cls d ob ∧ ob.data = .fields fl

theorem errO_get {P : Program} {w : World} {H : Hp} {h : Heap} {a : Addr} {cls : Value} {d : Option Addr}
    (ok : HOk P w H h) (e : H a = some (errO a cls d)) :
    ∃ (ob : Obj) (fl : Array Value), h.get? a = some ob ∧ Zc cls d ob ∧ ob.data = .fields fl := by
  have z : ObjOk P w H h a (.ext fun h => ∃ (ob : Obj) (fl : Array Value), h.get? a = some ob ∧ Zc cls d ob ∧ ob.data = .fields fl) := ok a _ e
  exact z.1

section
variable {X : Cx} {pins : List (Addr × Obj)} {σ : L2.St} {H : Hp} {s : Shared} {a : Addr} {cls : Value} {d : Option Addr} {ob : Obj} {fl : Array Value}
/-- an untracked object that was made behind the def's entry comes to be tracked -/
theorem track (I : Inv X pins σ H s) (hx : X.ex = []) (new : X.s_0.heap.get? a = none) (at_ : s.heap.get? a = some ob)
    (un : H a = none) (nl : a ≠ X.env.locals) (np : ∀ p ∈ X.pn ++ pins, p.1 ≠ a) (hz : Zc cls d ob) (hf : ob.data = .fields fl) :
    Inv X pins σ (upd H a (errO a cls d)) s := by
  have away : ∀ {b : Addr} {o : HO}, H b = some o → upd H a (errO a cls d) b = some o := fun {b o} e => by
    rw [upd_ne (fun q => by rw [q, un] at e; cases e)]
    exact e
  refine ⟨I.ok, I.os, I.bare, ⟨I.base.keep, I.base.slot, ?_, I.base.there, ?_, ?_, ?_⟩, I.loc, I.cell, ?_, ?_, ?_, ?_, I.len⟩
  · intro b o e n q
    rw [upd_ne (fun z => by rw [z, new] at e; cases e)]
    exact I.base.free b o e n q
  · exact fun b xs e => away (I.base.tups b xs e)
  · exact fun b o u e => away (I.base.frzs b o u e)
  · intro b ps e
    obtain ⟨m, z⟩ := I.base.tbls b ps e
    exact ⟨m, away z⟩
  · rw [upd_ne nl.symm]
    exact I.free
  · intro x c e
    have nc : c ≠ a := fun z => by
      obtain ⟨v, o, ho, hd⟩ := I.cell x c e
      rw [z, at_] at ho
      cases ho
      rw [hf] at hd
      cases hd
    rw [upd_ne nc]
    exact I.freeC x c e
  · intro p hp
    obtain ⟨e1, e2, e3, e4, e5⟩ := I.pin p hp
    refine ⟨e1, ?_, e3, e4, e5⟩
    rw [upd_ne (np p hp)]
    exact e2
  · intro b o e
    by_cases hb : b = a
    · subst hb
      rw [upd_same] at e
      cases e
      refine ⟨⟨ob, fl, at_, hz, hf⟩, ⟨ob, at_⟩, ?_⟩
      rintro h1 h2 ⟨o1, f1, g1, g2, g3⟩ st
      exact ⟨o1, f1, st _ g1, g2, g3⟩
    · rw [upd_ne hb] at e
      exact (I.hok b o e).stay (fun _ _ _ q => q) (fun _ q => away q) (fun _ _ q => away q)
end

/-- what 'except x as n' wishes of an error of the body, the error being tracked behind the suite; slot i is n's -/
def wKept (K : PySem.W.Frag) (c : Value) (i : Nat) (ts : Addr → Value → Option Addr → TS) (Wo : WX) (D : Ends) : WX := fun cls d σ H =>
  ∃ b, PySem.W.exmOne K cls c = some b ∧
    (b = true → ∀ a, H a = none → ts a cls d
      { nx := fun σ' H' => D.nx (σ'.set i none) (upd H' a (errO a cls d)), rt := fun v H' => D.rt v (upd H' a (errO a cls d)),
        bk := fun σ' H' => D.bk (σ'.set i none) (upd H' a (errO a cls d)), ct := fun σ' H' => D.ct (σ'.set i none) (upd H' a (errO a cls d)) }
      (σ.set i (some (.ref a))) H) ∧
    (b = false → Wo cls d σ H)

section
variable {X : Cx} {x n : Str} {c : Value} {i : Nat} {body suite : List Stmt} {b0 : Stmt} {np pos pos' : Pos} {tb : WX → TS} {ts : Addr → Value → Option Addr → TS} {Wo : WX}
theorem ps_try_kept (hs : X.stack = X.env :: X.outer) (hf : X.env.frame = some X.env.locals) (hex : X.ex = []) (hN : X.N.Nodup) (hi : X.N[i]? = some n)
    (hln : X.env.kindOf n = some .local) (hc : Names X x c) (tk : Takes X Wo)
    (hb : ∀ (W : WX) (pn : List (Addr × Obj)) (xe : Value → Shared → Prop), Takes (X.tr pn xe) W →
      PassesOwn (model X.prog X.w) X.A X.env xe → PSs (X.tr pn xe) body (tb W))
    (hsu : ∀ (a : Addr) (oe : Obj) (cls : Value) (d : Option Addr) (pn : List (Addr × Obj)), Zc cls d oe → (∃ vs, oe.data = .fields vs) →
      PSs (X.suite a ((a, oe) :: pn)) (b0 :: suite) (ts a cls d)) :
    PS X (.Try body [.ExceptHandler (some (.Name x np)) (some n) (b0 :: suite) pos'] [] [] pos)
      (fun D σ H => tb (wKept X.K c i ts Wo D) D σ H) := by
  refine ⟨fun pins s σ H D I0 h0 => ?_⟩
  have fr0 : X.A.frames = some (X.env :: X.outer) := by
    rw [I0.ok.frames, hs]
  refine wpAny_Try_except (wpAny_mono ((hb (wKept X.K c i ts Wo D) (X.pn ++ pins)
    (fun e s1 => wpAny (model X.prog X.w) X.A (noteFrame e X.env) (fun _ s2 => wpAny (model X.prog X.w) X.A (setFlight e none)
      (fun _ s3 => wpAny (model X.prog X.w) X.A (handleBy e X.env [.ExceptHandler (some (.Name x np)) (some n) (b0 :: suite) pos'])
        (SP X pins D) X.xe s3) X.xe s2) X.xe s1) ?_ PassesOwn.looking).run [] s σ H D (I0.toTry _) h0) ?_ fun _ _ z => z)
  · -- the error lands
    rintro u s' ⟨a, B, sI, pq, σ1, H1, cls, d, rfl, J0, ground, ups, sky, una, os1, bare1, yes, em, wy, wn⟩
    have J : Inv X pins σ1 H1 sI := J0.ofTry I0.ok
    have sky1 : Sky B (X.env :: X.outer) a (Zc cls d) X.env.locals s'.heap := by
      rw [← hs]
      exact sky
    show wpAny (model X.prog X.w) X.A (noteFrame (.ref a) X.env) _ _ _
    refine Sky.land Zc.steady fr0 hf sky1 fun hp3 fl3 up3 => ?_
    have J3 : Inv X pins σ1 H1 { s' with heap := hp3 } := J.landed ground fl3.1 (ups.trans up3) os1 bare1
    obtain ⟨o3, v3, at3, z3, f3⟩ := fl3.there
    have out : a ∉ frs (X.env :: X.outer) := fun hm => by
      obtain ⟨_, oq, eq, nf⟩ := fl3.2.2.1.mem hm
      rw [at3] at eq
      cases eq
      exact nf _ f3
    have nl : a ≠ X.env.locals := fun q => out (List.mem_filterMap.mpr ⟨X.env, List.mem_cons_self, by rw [hf, q]⟩)
    have nf : a ∉ X.fs := fun hm => by
      obtain ⟨en, hen, q⟩ := List.mem_filterMap.mp hm
      exact out (List.mem_filterMap.mpr ⟨en, List.mem_cons_of_mem _ hen, q⟩)
    have noI : sI.heap.get? a = none := by
      cases q : sI.heap.get? a with
      | none => rfl
      | some o =>
        have z := ground a o q (by rw [hs]; exact out)
        rw [fl3.2.1] at z
        cases z
    have no0 : X.s_0.heap.get? a = none := by
      cases q : X.s_0.heap.get? a with
      | none => rfl
      | some o =>
        obtain ⟨o', z⟩ := J.base.there a o q (by rw [hex]; simp)
        rw [noI] at z
        cases z
    have npin : ∀ p ∈ X.pn ++ pins, p.1 ≠ a := fun p hp q => by
      have z := (J.pin p hp).1
      rw [q, noI] at z
      cases z
    refine wpAny_handleBy_cons (codeAny_handlers_test ?_) (by intro q; cases q)
    have tyL : PySem.W.Looks (model X.prog X.w) hp3 (typeOf (.ref a)) cls := fun A Q E s k q =>
      wpAny_typeOf_ref (k _ _ at3) (by rw [z3.1]; exact q)
    have S3 := J3.suite at3 f3 una nl nf
    have asked : ∀ {Q : Value → Shared → Prop} {E : Value → Shared → Prop}, Q c { s' with heap := hp3 } →
        wpAny (model X.prog X.w) (X.A.mark (some (.ref a))) (eval (.Name x np) X.env) Q E { s' with heap := hp3 } := by
      intro Q E q
      obtain ⟨g1, g2, g3 | ⟨g3, g4, g5⟩⟩ := hc
      · exact ld_glob (X := X.suite a ((a, o3) :: (X.pn ++ pins))) S3 g1 g3 q g2
      · exact ld_blt (X := X.suite a ((a, o3) :: (X.pn ++ pins))) S3 g1 g3 g4 q g5 g2
    refine asked ((PySem.W.exm_one (M := model X.prog X.w) J3.kIn tyL em).here ?_)
    cases yes with
    | false =>
      show wpAny _ X.A (handleBy (.ref a) X.env []) _ _ _
      refine wpAny_handleBy_nil ?_
      obtain ⟨k1, k2, k3, oq, vq, T, oT, tq, hq, hzq, hdq, h1q, hrq⟩ := id fl3
      unfold PySem.passOn
      refine wpAny_bind (wpAny_field hq hdq h1q ?_)
      rw [if_neg (show ¬ ((Value.ref T == Value.none) = true) from by simp)]
      have last : wpAny (model X.prog X.w) X.A (setFlight (.ref a) X.env.frame)
          (fun _ s4 => wpAny (model X.prog X.w) X.A (throw (.ref a) : Sem Flow) (SP X pins D) X.xe s4) X.xe { s' with heap := hp3 } := by
        rw [hf]
        refine HandSPX.setFlight_upZ fl3 fun hp4 held up4 => wpAny_throw (tk _ _ ?_)
        exact ⟨a, B, sI, pins, σ1, H1, cls, d, rfl, J, ground, (ups.trans up3).trans up4,
          .inr (.inr (by rw [hs]; exact held)), una, os1, bare1, wn rfl⟩
      first
        | exact wpAny_bind (wpAny_pure (wpAny_bind last))
        | exact wpAny_bind last
    | true =>
      refine codeAny_handlers_suite_as (HandSPX.lands_againZ fl3 fun hp4 fl4 up4 => ?_)
      have J4 : Inv X pins σ1 H1 { s' with heap := hp4 } := J.landed ground fl4.1 ((ups.trans up3).trans up4) os1 bare1
      obtain ⟨o4, v4, at4, z4, f4⟩ := fl4.there
      have S4 := J4.suite at4 f4 una nl nf
      refine store_ok (X := X.suite a ((a, o4) :: (X.pn ++ pins))) (v := .ref a) S4 hN hi (.inl hln) rfl (fun s5 S5 => ?_) (.inr hln)
      refine wpAny_mono ((hsu a o4 cls d (X.pn ++ pins) z4 ⟨_, f4⟩).run [] s5 _ H1 _ S5 (wy rfl a una)) ?_ (fun _ _ z => False.elim z)
      have over : ∀ {s6 : Shared} {σ6 : L2.St} {H6 : Hp} {Q : Shared → Prop}, Inv (X.suite a ((a, o4) :: (X.pn ++ pins))) [] σ6 H6 s6 →
          (∀ s7, Inv X pins (σ6.set i none) (upd H6 a (errO a cls d)) s7 → Q s7) →
          wpAny (model X.prog X.w) X.A (do bindName X.env n .none; unbindBehindTheSuite X.env n pos') (fun _ s7 => Q s7) X.xe s6 := by
        intro s6 σ6 H6 Q S6 hq
        have P6 : Inv X ((a, o4) :: pins) σ6 H6 s6 := ⟨I0.ok, S6.os, S6.bare, S6.base, S6.loc, S6.cell, S6.free, S6.freeC, fun p hp => by
          refine S6.pin p (List.mem_append_left _ ?_)
          rcases List.mem_append.mp hp with q | q
          · exact List.mem_cons_of_mem _ (List.mem_append_left _ q)
          · rcases List.mem_cons.mp q with q | q
            · rw [q]
              exact List.mem_cons_self
            · exact List.mem_cons_of_mem _ (List.mem_append_right _ q), S6.hok, S6.len⟩
        refine gone_ok P6 hN hi hln fun s7 J7 => hq s7 ?_
        obtain ⟨e1, e2, e3, e4, e5⟩ := J7.pin (a, o4) (List.mem_append_right _ List.mem_cons_self)
        have J8 : Inv X pins (σ6.set i none) H6 s7 := J7.pins_of fun p hp => J7.pin p (List.mem_append_right _ (List.mem_cons_of_mem _ hp))
        exact track J8 hex no0 e1 e2 e3 npin z4 f4
      intro fl6 s6 sp6
      cases fl6 with
      | next =>
        obtain ⟨σ6, H6, S6, q6⟩ := sp6
        exact over S6 fun s7 J7 => ⟨_, _, J7, q6⟩
      | brk =>
        obtain ⟨σ6, H6, S6, q6⟩ := sp6
        exact over S6 fun s7 J7 => ⟨_, _, J7, q6⟩
      | cont =>
        obtain ⟨σ6, H6, S6, q6⟩ := sp6
        exact over S6 fun s7 J7 => ⟨_, _, J7, q6⟩
      | ret u =>
        obtain ⟨v6, σ6, H6, S6, r6, q6⟩ := sp6
        exact over S6 fun s7 J7 => ⟨_, _, _, J7, r6, q6⟩
  · intro fl s1 hsp
    cases fl with
    | next =>
      obtain ⟨σ2, H2, J2, q2⟩ := hsp
      exact wpAny_execs_nil ⟨σ2, H2, J2.ofTry I0.ok, q2⟩
    | brk =>
      obtain ⟨σ2, H2, J2, q2⟩ := hsp
      exact ⟨σ2, H2, J2.ofTry I0.ok, q2⟩
    | cont =>
      obtain ⟨σ2, H2, J2, q2⟩ := hsp
      exact ⟨σ2, H2, J2.ofTry I0.ok, q2⟩
    | ret u =>
      obtain ⟨v2, σ2, H2, J2, r2, q2⟩ := hsp
      exact ⟨v2, σ2, H2, J2.ofTry I0.ok, r2, q2⟩
end
end Kept

namespace Kept
open PySem PySem.Spec PyProof.Rows L2
/-- what the error's class tells, for isinstance and for its fields -/
structure ErrC (K : PySem.W.Frag) (C : Addr) : Prop where
  cl : (PySem.W.clsIn K C).isSome = true
  ga : PySem.W.findIn K (.ref C) "__getattribute__" = some (some (.builtin "BaseException.__getattribute__"))
  gg : PySem.W.findIn K (.ref C) "__getattr__" = some none
  sb : PySem.W.subIn K (.ref C) (.type "BaseException") = some true
  ca : PySem.W.findIn K (.ref C) "__class__" = some (some (.builtin "object.__class__"))
  cg : PySem.W.specialIn K (.builtin "object.__class__") "__get__" = some (some (.builtin "getset_descriptor.__get__"))
  ct : PySem.W.takesIn K (.builtin "object.__class__") = some true
  mo : PySem.W.mroIn K C (.type "object") = some true
  hd : PySem.W.hasDictIn K C = true
def errB (K : PySem.W.Frag) (C : Addr) : Bool :=
  (PySem.W.clsIn K C).isSome &&
  (decide (PySem.W.findIn K (.ref C) "__getattribute__" = some (some (.builtin "BaseException.__getattribute__"))) &&
  (decide (PySem.W.findIn K (.ref C) "__getattr__" = some none) &&
  (decide (PySem.W.subIn K (.ref C) (.type "BaseException") = some true) &&
  (decide (PySem.W.findIn K (.ref C) "__class__" = some (some (.builtin "object.__class__"))) &&
  (decide (PySem.W.specialIn K (.builtin "object.__class__") "__get__" = some (some (.builtin "getset_descriptor.__get__"))) &&
  (decide (PySem.W.takesIn K (.builtin "object.__class__") = some true) &&
  (decide (PySem.W.mroIn K C (.type "object") = some true) && PySem.W.hasDictIn K C)))))))
theorem errB_ok {K : PySem.W.Frag} {C : Addr} (h : errB K C = true) : ErrC K C := by
  unfold errB at h
  simp only [Bool.and_eq_true, decide_eq_true_eq] at h
  obtain ⟨h1, h2, h3, h4, h5, h6, h7, h8, h9⟩ := h
  exact ⟨h1, h2, h3, h4, h5, h6, h7, h8, h9⟩

section
variable {X : Cx} {pins : List (Addr × Obj)} {σ : L2.St} {H : Hp} {s : Shared} {a C : Addr} {d : Option Addr}
theorem errO_inst (I : Inv X pins σ H s) (e : H a = some (errO a (.ref C) d))
    (hd : ∀ dd, d = some dd → ∃ fs, H dd = some (.xd fs)) :
    ∃ ob od, PySem.W.InstAt s.heap a ob C od := by
  obtain ⟨ob, fl, h1, h2, h3⟩ := errO_get I.hok e
  have nc : PySem.W.notCls ob = true := by
    unfold PySem.W.notCls
    rw [h3]
    all_goals rfl
  cases d with
  | none => exact ⟨ob, none, h1, h2.1, nc, by rw [h2.2]; trivial⟩
  | some dd =>
    obtain ⟨fs, hq⟩ := hd dd rfl
    have z : ObjOk X.prog X.w H s.heap dd (.xd fs) := I.hok dd _ hq
    obtain ⟨mA, hns, hr⟩ := z
    obtain ⟨od, ho, _⟩ := lookIn_ns hns
    exact ⟨ob, some od, h1, h2.1, nc, by rw [h2.2]; exact ho⟩
end

/-- isinstance(e, c) of such an error, one class -/
def rIsErr (K : PySem.W.Frag) : List V → Hp → VK → Prop := fun xs H Q =>
  ∃ (a C : Addr) (d : Option Addr) (c : V) (u : Value) (b : Bool), xs = [.ref a, c] ∧ H a = some (errO a (.ref C) d) ∧
    (∀ dd, d = some dd → ∃ fs, H dd = some (.xd fs)) ∧ ErrC K C ∧ ClsV c u ∧ PySem.W.kitOne K (.ref C) u = some b ∧ Q (.bl b) H
/-- isinstance(e, (c1, c2)): the tuple laid just then -/
def rIsErrT (K : PySem.W.Frag) : List V → Hp → VK → Prop := fun xs H Q =>
  ∃ (a C tp : Addr) (d : Option Addr) (cs : List V) (us : List Value) (b : Bool), xs = [.ref a, .ref tp] ∧ H a = some (errO a (.ref C) d) ∧
    (∀ dd, d = some dd → ∃ fs, H dd = some (.xd fs)) ∧ ErrC K C ∧ H tp = some (.tup cs) ∧ Paired ClsV cs us ∧
    PySem.W.kitAny K (.ref C) us = some b ∧ Q (.bl b) H
section
variable {X : Cx}
theorem call_isErr : CallR X (.builtin "isinstance") (rIsErr X.K) := by
  intro pins s σ H xs us Q I r h
  obtain ⟨a, C, d, c, u, b, rfl, ea, hd, T, k, e, q⟩ := h
  obtain ⟨u1, u2, rfl, r1, r2⟩ := vals2 r
  cases (show u1 = Value.ref a from r1)
  have e2 := k.eq r2
  subst e2
  obtain ⟨ob, od, J⟩ := errO_inst I ea hd
  exact PySem.W.kia_one (PySem.W.kitx_exc T.cl T.ga T.gg T.sb T.ca T.cg T.ct T.mo) I.kIn J e (fun z => nomatch z)
    fun tk => ⟨.bl b, H, I.tok tk, rfl, q⟩
theorem call_isErrT : CallR X (.builtin "isinstance") (rIsErrT X.K) := by
  intro pins s σ H xs us Q I r h
  obtain ⟨a, C, tp, d, cs, ws, b, rfl, ea, hd, T, et, k, e, q⟩ := h
  obtain ⟨u1, u2, rfl, r1, r2⟩ := vals2 r
  cases (show u1 = Value.ref a from r1)
  cases (show u2 = Value.ref tp from r2)
  obtain ⟨ob, od, J⟩ := errO_inst I ea hd
  obtain ⟨_, its, rv, o, h1, h2, n, h3⟩ := (show ObjOk X.prog X.w H s.heap tp (.tup cs) from I.hok tp _ et)
  have e3 := ClsV.all k rv
  subst e3
  obtain ⟨oc, oq, dt, sl⟩ := o
  simp only at h2 h3
  subst h2 h3
  exact PySem.W.kia_tup (PySem.W.kitx_exc T.cl T.ga T.gg T.sb T.ca T.cg T.ct T.mo) I.kIn J h1 e (fun z => nomatch z)
    fun tk => ⟨.bl b, H, I.tok tk, rfl, q⟩
end

/-- e.f of such an error -/
def tErrF (K : PySem.W.Frag) (ta : TE) (f : Str) : TE := fun σ H Q => ta σ H fun x H1 =>
  ∃ (a C dd : Addr) (fs : List (Str × V)) (v : V), x = .ref a ∧ H1 a = some (errO a (.ref C) (some dd)) ∧ H1 dd = some (.xd fs) ∧
    ErrC K C ∧ PySem.W.findIn K (.ref C) f = some none ∧ fs.lookup f = some v ∧ Q v H1
theorem pe_errF {X : Cx} {e : Expr} {te : TE} {pos : Pos} {f : Str} (he : PE X e te)
    (hb : attributeBase e f X.env (eval e X.env) = eval e X.env := by rfl) : PE X (.Attribute e f pos) (tErrF X.K te f) := by
  refine ⟨fun pins s σ H Q I h => attr_of hb (thn (he.run pins s σ H _ I h) ?_)⟩
  rintro u s1 ⟨x, H1, I1, rx, a, C, dd, fs, v, rfl, ea, ed, T, no, l, q⟩
  obtain rfl : u = Value.ref a := rx
  obtain ⟨ob, fl, h1, h2, h3⟩ := errO_get I1.hok ea
  have nc : PySem.W.notCls ob = true := by
    unfold PySem.W.notCls
    rw [h3]
    all_goals rfl
  have z : ObjOk X.prog X.w H1 s1.heap dd (.xd fs) := I1.hok dd _ ed
  obtain ⟨mA, hns, hr⟩ := z
  obtain ⟨od, ho, hl⟩ := lookIn_ns hns
  obtain ⟨u, hu, ru⟩ := RelO.some_of (v := v) (o := mA f) (by rw [← l]; exact hr f)
  have J : PySem.W.InstAt s1.heap a ob C (some od) := ⟨h1, h2.1, nc, by rw [h2.2]; exact ho⟩
  exact HandSPX.exc_get I1.kIn J T.ga T.gg T.sb (PySem.W.findObj_own T.hd no rfl (by rw [hl, hu])) (handed_of ru) ⟨v, H1, I1.tok _, ru, q⟩
end Kept
set_option Elab.async false
set_option linter.all false
set_option maxRecDepth 100000
set_option maxHeartbeats 2000000
/-! Defs that show data (repr): called where nothing is being shown. -/
namespace Shw
open PySem PySem.Spec PyProof.Rows L2
/-- a def that keeps its promise where no repr is under way -/
structure FnG (P : Program) (w : World) (K : PySem.W.Frag) (mg : Str → Option Value) (base : Heap) (CX : CXT) (k : Nat) (f : Addr) (fd : FuncData) (ps : List Str) (sp : Sp) : Prop where
  many : ∀ vs H Q E, sp vs H Q E → vs.length = ps.length
  go : ∀ (A : Around) (up : List Env) (s : Shared) (H : Hp) (args : Args) (us : List Value) (vs : List V) (Q : VK) (E : XK), Room k A → A.guards = some [] →
    Env0 P w K mg base A up s H → BindsTo s fd args (ps.zip us) → Vals vs us → sp vs H Q E → codeAny (model P w) A (.call (.ref f) args) (CR CX up P w H s Q E) s
section
variable {P : Program} {w : World} {K : PySem.W.Frag} {mg : Str → Option Value} {base : Heap} {CX : CXT} {k j : Nat} {f : Addr} {fd : FuncData} {ps : List Str} {sp : Sp}
theorem FnG.of (F : FnOk P w K mg base CX k f fd ps sp) : FnG P w K mg base CX k f fd ps sp :=
  ⟨F.len, fun A up s H args us vs Q E hr _ => F.run A up s H args us vs Q E hr⟩
theorem FnG.mono (F : FnG P w K mg base CX j f fd ps sp) (h : j ≤ k) : FnG P w K mg base CX k f fd ps sp :=
  ⟨F.many, fun A up s H args us vs Q E hr => F.go A up s H args us vs Q E (hr.mono h)⟩
/-- the def by its body, nothing being shown -/
theorem fnG_of {name qual : Str} {params : Arguments} {body : List Stmt} {scope : Scope} {dV kV doc pm cdv ct oc : Value} {an od : Option Addr} {osl : Array (Option Value)} {N : List Str}
    (lk : K.lookup f = some ⟨oc, od, .func (PySem.W.fnOf name qual params body scope dV kV doc pm an cdv ct), osl⟩)
    (hcd : PySem.W.codeIn K cdv qual = true) (S : FnScope N ps scope) (many : ∀ vs H Q E, sp vs H Q E → vs.length = ps.length)
    (walk : ∀ (A : Around) (up : List Env) (s : Shared) (H : Hp) (vs : List V) (Q : VK) (E : XK), Room k (A.deeper (envOfC qual scope s.heap.objs.size f cdv)) →
      (A.deeper (envOfC qual scope s.heap.objs.size f cdv)).guards = some [] → sp vs H Q E →
      ∃ t, PSs (cxOf CX P w K mg base N qual scope f cdv A up s H E) body t ∧ t { nx := fun _ H' => Q .non H', rt := Q } (start N vs) H) :
    FnG P w K mg base CX (k + 1) f (PySem.W.fnOf name qual params body scope dV kV doc pm an cdv ct) ps sp := by
  refine ⟨many, ?_⟩
  intro A up s H args us vs Q E room still e0 bind rv hsp
  have nv := many _ _ _ _ hsp
  have stays : ∀ b o, base.get? b = some o → s.heap.get? b = some o := fun b o e => (e0.bs b o e).1
  have KX := e0.mod.kin.keeps stays
  have places : ∀ y ∈ ps.zip us, scope.names.lookup y.1 = some .local ∨
      (scope.names.lookup y.1 = some .cell ∧ ((cellsFrom (s.heap.objs.size + 1) scope.names []).lookup y.1).isSome = true) := by
    rintro ⟨n, v⟩ hy
    exact (S.par n (List.of_mem_zip hy).1).imp id fun q => ⟨q, PySem.W.cellsFrom_some _ _ _ (.inl q)⟩
  refine codeAny_call_function room.depth (KX _ _ lk) rfl S.co S.gen rfl (PySem.W.codeRec_of KX hcd) (bind _ _ _ _ ?_)
  refine wpAny_newFunctionEnv_cells S.kind places fun env he s1 x => ?_
  subst he
  refine ⟨(e0.mod.nolimit.keeps stays).keeps x.toInCall.keep, codeAny_func ?_⟩
  obtain ⟨t, ht, hq⟩ := walk A up s H vs Q E (room.deeper _) still hsp
  refine wpAny_mono (ht.run [] s1 (start N vs) H _ (inv_start S room.hd e0 nv rv x) hq) ?_ fun _ _ z => z
  intro fl s' out
  cases fl with
  | next =>
    obtain ⟨σ', H', J, q⟩ := out
    exact ⟨V.non, H', J.os, J.bare, J.base, J.hok, rfl, q⟩
  | ret u =>
    obtain ⟨v, σ', H', J, ru, q⟩ := out
    exact ⟨v, H', J.os, J.bare, J.base, J.hok, ru, q⟩
  | brk =>
    obtain ⟨_, _, _, q⟩ := out
    exact q.elim
  | cont =>
    obtain ⟨_, _, _, q⟩ := out
    exact q.elim
theorem okG {x qual : Str} {params : Arguments} {body : List Stmt} {scope : Scope} {dvs : List V} {kws : List (Str × V)} {N : List Str}
    (F : FunD K x qual params body scope dvs kws f fd) (S : FnScope N ps scope) (many : ∀ vs H Q E, sp vs H Q E → vs.length = ps.length)
    (walk : ∀ (cdv : Value) (A : Around) (up : List Env) (s : Shared) (H : Hp) (vs : List V) (Q : VK) (E : XK), Room k (A.deeper (envOfC qual scope s.heap.objs.size f cdv)) →
      (A.deeper (envOfC qual scope s.heap.objs.size f cdv)).guards = some [] → sp vs H Q E →
      ∃ t, PSs (cxOf CX P w K mg base N qual scope f cdv A up s H E) body t ∧ t { nx := fun _ H' => Q .non H', rt := Q } (start N vs) H) :
    FnG P w K mg base CX (k + 1) f fd ps sp := by
  obtain ⟨oc, od, dV, kV, doc, pm, an, cdv, ct, osl, rfl, lk, hcd, _, _⟩ := F.ex
  exact fnG_of lk hcd S many fun A up s H vs Q E hr hg hsp => walk cdv A up s H vs Q E hr hg hsp
end
section
variable {X : Cx} {CX : CXT} {k : Nat} {f : Addr} {fd : FuncData} {ps : List Str} {sp : Sp} {dvs : List V} {ds : List Value} {E : XK}
/-- the callee runs, nothing being shown -/
theorem run_G {pins : List (Addr × Obj)} {σ : L2.St} {H : Hp} {s : Shared} {Q : VK} {us : List Value} {vs : List V} (F : FnG X.prog X.w X.K X.mg X.base CX k f fd ps sp) (hr : Room k X.A)
    (still : X.A.guards = some []) (hb : Binds X.K fd ps ds) (hd : Vals dvs ds) (hx : Passes CX X E) (I : Inv X pins σ H s) (r : Vals vs us) (h : sp (vs ++ dvs) H Q E) :
    wpAny (model X.prog X.w) X.A (call (.ref f) us) (EP X pins σ Q) X.xe s := by
  have both : Vals (vs ++ dvs) (us ++ ds) := r.append hd
  have fits : (us ++ ds).length = ps.length := both.length.symm.trans (F.many _ _ _ _ h)
  refine wpAny_call (codeAny_mono (F.go X.A X.stack s H ⟨us, []⟩ (us ++ ds) (vs ++ dvs) Q E hr still I.env0 (hb s us I.kIn fits) both h) ?_)
  intro out s' hq
  cases out with
  | error e => exact hx pins σ H s e s' I hq
  | ok fl =>
    cases fl with
    | ret u => exact I.after hq
    | next => exact hq.elim
    | brk => exact hq.elim
    | cont => exact hq.elim
theorem pe_callG {x : Str} {p pos : Pos} {e : Expr} {es : List Expr} {t : TA} (F : FnG X.prog X.w X.K X.mg X.base CX k f fd ps sp) (hr : Room k X.A) (still : X.A.guards = some []) (hg : Gl X x)
    (hm : X.mg x = some (.ref f)) (hk : PySem.W.keepIn X.K (.ref f) = true) (hb : Binds X.K fd ps ds) (hd : Vals dvs ds) (hx : Passes CX X E) (ha : PA X (e :: es) t)
    (hdb : (x == ("__debug__" : Str)) = false := by decide) (he : starEach (e :: es) X.env = (false, eval e X.env) :: starEach es X.env := by rfl)
    (hpl : (backTo pos (starEach es X.env)).any (·.1) = false := by rfl) : PE X (.Call (.Name x p) (e :: es) [] pos) (tCall sp dvs E t) := by
  refine ⟨fun pins s σ H Q I h => wpAny_Call_Name_kw (ld_glob I hg hm ?_ hdb)⟩
  refine PySem.W.callWith_K (h₀ := X.base) I.ok.mod.kin hk (thn (ha.run pos pins s σ H _ I h) ?_) he hpl
  rintro us s1 ⟨vs, H1, I1, r, q⟩
  exact ⟨I1.kIn, run_G F hr still hb hd hx I1 r q⟩
end
/-- repr(x), x data without dicts, nothing being shown -/
def rRepr (K : PySem.W.Frag) : List V → Hp → VK → Prop := fun xs H Q =>
  ∃ (x : V) (d : PyData), xs = [x] ∧ Dp K H x d ∧ d.showable = true ∧ d.hasDict = false ∧ d.depth ≤ 60 ∧ d.shown.length ≤ sizeLine ∧ Q (.str d.shown) H
theorem call_repr {X : Cx} {k : Nat} (hr : Room k X.A) (still : X.A.guards = some []) : CallR X (.builtin "repr") (rRepr X.K) := by
  intro pins s σ H xs us Q I r h
  obtain ⟨x, d, rfl, dp, h1, h2, h3, h4, q⟩ := h
  obtain ⟨u, rfl, ru⟩ : ∃ u, us = [u] ∧ RelV x u := by
    cases r with
    | cons a b =>
      cases b
      exact ⟨_, rfl, a⟩
  obtain ⟨as, rd⟩ := Dp.reads I d x u dp ru
  have un := hr.un
  cases dp with
  | non =>
    cases (show u = Value.none from ru)
    refine PySem.P.repr_of_none ⟨.str _, H, I.tok _, ⟨_, rfl⟩, ?_⟩
    rw [PyData.shown_none] at q
    exact q
  | bl b =>
    cases (show u = Value.bool b from ru)
    refine PySem.P.repr_of_bool ⟨.str _, H, I.tok _, ⟨_, rfl⟩, ?_⟩
    rw [PyData.shown_bool] at q
    exact q
  | int i =>
    obtain ⟨t, rfl⟩ := (show ∃ t, u = Value.int i t from ru)
    have small : i.natAbs.log2 < 1920 := by
      simp only [PyData.showable, decide_eq_true_eq] at h1
      exact h1
    refine PySem.P.repr_of_int small ⟨.str _, H, I.tok _, ⟨_, rfl⟩, ?_⟩
    rw [PyData.shown_int] at q
    exact q
  | str y =>
    obtain ⟨t, rfl⟩ := (show ∃ t, u = Value.str y t from ru)
    rw [PyData.shown_str] at q h4
    exact PySem.P.repr_of_str ⟨.str _, H, I.tok _, ⟨_, rfl⟩, q⟩ h4
  | lst sq all_ =>
    cases ru
    exact repr_of_reads' rd h1 (PyData.noDict_hsm h2) still (by omega) (fun _ _ z => z) (fun h' u tk hk => ⟨.str _, H, I.kept hk, ⟨_, rfl⟩, q⟩) h4
  | tup sq all_ =>
    cases ru
    exact repr_of_reads' rd h1 (PyData.noDict_hsm h2) still (by omega) (fun _ _ z => z) (fun h' u tk hk => ⟨.str _, H, I.kept hk, ⟨_, rfl⟩, q⟩) h4
end Shw

/-! ### the end of a law whose defs show data -/
namespace Shw
open PySem PySem.Spec PyProof.Rows L2 LamX
/-- what is tracked at the law's entry: the tables T, empty; the script at a, if the written part does not hold it -/
def atLaw (K : PySem.W.Frag) (T : List Addr) (a : Addr) (ob : Obj) (xs : List V) : Hp := fun b =>
  if b ∈ T then some (.tbl #[]) else if b = a ∧ (K.lookup a).isNone = true then some (.frz ob (.lst xs)) else none
section
variable {K : PySem.W.Frag} {T : List Addr} {a b : Addr} {ob : Obj} {xs : List V} {u : HO}
theorem atLaw_tab (h : b ∈ T) : atLaw K T a ob xs b = some (.tbl #[]) := if_pos h
theorem atLaw_cases (h : atLaw K T a ob xs b = some u) : (b ∈ T ∧ u = .tbl #[]) ∨ (b ∉ T ∧ b = a ∧ K.lookup a = none ∧ u = .frz ob (.lst xs)) := by
  unfold atLaw at h
  by_cases h1 : b ∈ T
  · rw [if_pos h1] at h
    exact .inl ⟨h1, (Option.some.inj h).symm⟩
  · rw [if_neg h1] at h
    by_cases h2 : b = a ∧ (K.lookup a).isNone = true
    · rw [if_pos h2] at h
      exact .inr ⟨h1, h2.1, Option.isNone_iff_eq_none.mp h2.2, (Option.some.inj h).symm⟩
    · rw [if_neg h2] at h
      cases h
end
theorem endG {P : Program} {w : World} {K : PySem.W.Frag} {mg mb : Str → Option Value} {CX : CXT} {k : Nat} {fa a : Addr} {cs : List (Addr × Addr)} {fd : FuncData} {x : Str} {sp : Sp} {s1 : Shared} {vs : List Value} {ns : List Int}
    (KX : K.In s1.heap) (hns : s1.heap.Ns mainGlobals mg) (hb : s1.heap.Ns builtinsNs mb) (hbb : ∀ y : Str, y ≠ "__name__" → mb y = bootBuiltins y) (hlim : s1.heap.NoLimit) (hg : s1.gens = #[])
    (hT : ∀ p ∈ cs, s1.heap.get? p.2 = some { cls := .none, data := .fields #[] }) (nT : ∀ p ∈ cs, K.lookup p.2 = none) (hC : ∀ p ∈ cs, PySem.W.codeHdIn K p.1 p.2 = true)
    (hbm : ∃ (bm : Addr) (ob : Obj), mg "__builtins__" = some (.ref bm) ∧ bm ≠ builtinsNs ∧ s1.heap.get? bm = some ob ∧ ob.cls = .type "module" ∧ ob.dict = some builtinsNs ∧ ob.data = .plain)
    (ha : s1.heap.get? a = some { cls := .type "list", data := .seq vs.toArray }) (hi : IntsAre vs ns) (hl : ns.length ≤ sizeLine) (hr : Room k callerA)
    (F : ∀ base : Heap, K.In base → base.Ns mainGlobals mg → (∀ p ∈ cs, TabB base mg p.1 p.2) → FnG P w K mg base CX k fa fd [x] sp)
    (hbind : ∀ (s : Shared) (u : Value), BindsTo s fd ⟨[u], []⟩ [(x, u)])
    (hsp : ∀ H : Hp, (∀ p ∈ cs, H p.2 = some (.tbl #[])) → SqL K H a (ns.map V.int) → sp [.ref a] H (fun v _ => v = .bl true) fun _ _ _ => False)
    (hCX : ∀ H e s', CX [] H s1 (fun _ _ _ => False) e s' → False) :
    codeAny (model P w) callerA (.call (.ref fa) ⟨[.ref a], []⟩) (fun r s' => r = .ok (.ret (.bool true)) ∧ OldK s1.heap s'.heap ∧ s'.os = s1.os ∧ AllBare s'.gens) s1 := by
  let T := cs.map (·.2)
  let H := atLaw K T a { cls := .type "list", data := .seq vs.toArray } (ns.map V.int)
  have tabs : ∀ b ∈ T, s1.heap.get? b = some { cls := .none, data := .fields #[] } := fun b m => by
    obtain ⟨p, hp, rfl⟩ := List.mem_map.mp m
    exact hT p hp
  have tabK : ∀ b ∈ T, K.lookup b = none := fun b m => by
    obtain ⟨p, hp, rfl⟩ := List.mem_map.mp m
    exact nT p hp
  have aT : a ∉ T := fun m => by
    have q := tabs a m
    rw [ha] at q
    exact nomatch congrArg Obj.data (Option.some.inj q)
  have rv : Vals (ns.map V.int) vs := vals_ints hi
  have seen : SqL K H a (ns.map V.int) := by
    cases q : K.lookup a with
    | none =>
      refine .inl (.inr ⟨{ cls := .type "list", data := .seq vs.toArray }, ?_⟩)
      show atLaw K T a { cls := .type "list", data := .seq vs.toArray } (ns.map V.int) a = _
      unfold atLaw
      rw [if_neg aT, if_pos ⟨rfl, by rw [q]; rfl⟩]
    | some o =>
      have e := KX a o q
      rw [ha] at e
      cases e
      refine .inr ⟨_, vs.toArray, _, q, rfl, rfl, rfl, ?_, by simpa using rv⟩
      rw [List.size_toArray, hi.length]
      exact hl
  have ok : HOk P w H s1.heap := fun b u z => by
    rcases atLaw_cases z with ⟨m, rfl⟩ | ⟨_, rfl, _, rfl⟩
    · exact tabs b m
    · exact ⟨ha, by rw [List.length_map]; exact hl, vs, _, rv, ha⟩
  have stay : ∀ {b : Addr} {o : Obj}, s1.heap.get? b = some o → (∀ l n, o.data ≠ .seq l n) → o.data ≠ .fields #[] → (hidT s1.heap H).get? b = some o := fun {b o} e h1 h2 => by
    refine hidT_get e ?_
    cases q : H b with
    | none => rfl
    | some u =>
      rcases atLaw_cases q with ⟨m, _⟩ | ⟨_, rfl, _, _⟩
      · rw [tabs b m] at e
        cases e
        exact absurd rfl h2
      · rw [ha] at e
        cases e
        exact absurd rfl (h1 _ _)
  have nss : ∀ {b : Addr} {m : Str → Option Value}, s1.heap.Ns b m → (hidT s1.heap H).Ns b m := by
    rintro b m ⟨o, es, ep, e, d, r⟩
    exact ⟨o, es, ep, stay e (fun l n z => by rw [d] at z; cases z) (fun z => by rw [d] at z; cases z), d, r⟩
  have KB : K.In (hidT s1.heap H) := fun b o e => by
    refine hidT_get (KX b o e) ?_
    cases q : H b with
    | none => rfl
    | some u =>
      rcases atLaw_cases q with ⟨m, _⟩ | ⟨_, rfl, n, _⟩
      · rw [tabK b m] at e
        cases e
      · rw [n] at e
        cases e
  have MB : L2.Mod K mg (hidT s1.heap H) := ⟨KB, nss hns, ⟨mb, nss hb, hbb⟩, by
    obtain ⟨mc, z1, z2⟩ := hlim
    exact ⟨mc, nss z1, z2⟩⟩
  have notDict : ∀ {b : Addr} {m : Str → Option Value} {o : Obj}, s1.heap.Ns b m → s1.heap.get? b = some o → ∃ es ep, o.data = .dict es ep := by
    rintro b m o ⟨o', es, ep, e, d, _⟩ z
    rw [z] at e
    cases e
    exact ⟨es, ep, d⟩
  have TB : ∀ p ∈ cs, TabB (hidT s1.heap H) mg p.1 p.2 := fun p hp => by
    have gP : mainGlobals ≠ p.2 := fun z => by
      obtain ⟨es, ep, q⟩ := notDict hns (z ▸ hT p hp)
      cases q
    obtain ⟨bm, ob, b1, b2, b3, b4, b5, b6⟩ := hbm
    refine ⟨PySem.W.codeHd_of_K KB (hC p hp), ⟨bm, ob, b1, b2, fun z => ?_, fun z => ?_, stay b3 (fun l n z => by rw [b6] at z; cases z) (fun z => by rw [b6] at z; cases z), b4, b5, b6⟩, gP⟩
    · obtain ⟨es, ep, q⟩ := notDict hns (z ▸ b3)
      rw [b6] at q
      cases q
    · have q := hT p hp
      rw [← z, b3] at q
      cases q
      cases b6
  have e0 : Env0 P w K mg (hidT s1.heap H) callerA [] s1 H :=
    ⟨rfl, MB, fun b o e => of_hidT e, Nat.le_of_eq (hidT_size _ _), trivial, fun b hb => absurd (show b ∈ ([] : List Addr) from hb) (by simp), ok, .of_eq hg⟩
  have tracked : ∀ p ∈ cs, H p.2 = some (.tbl #[]) := fun p hp => atLaw_tab (List.mem_map.mpr ⟨p, hp, rfl⟩)
  refine codeAny_mono ((F _ KB (nss hns) TB).go callerA [] s1 H ⟨[.ref a], []⟩ [.ref a] [.ref a] _ _ hr rfl e0 (hbind s1 (.ref a)) (.cons rfl .nil) (hsp H tracked seen)) ?_
  intro r s' out
  cases r with
  | error e => exact (hCX H e s' out).elim
  | ok fl =>
    cases fl with
    | next => exact False.elim out
    | brk => exact False.elim out
    | cont => exact False.elim out
    | ret u =>
      obtain ⟨v, H', os', bare, un, ok', ru, ev⟩ := out
      cases (show v = .bl true from ev)
      cases (show u = Value.bool true from ru)
      refine ⟨rfl, ⟨fun b o e => ?_, fun b o e => ?_⟩, os', bare⟩
      · by_cases m : b ∈ T
        · obtain ⟨p, hp, rfl⟩ := List.mem_map.mp m
          rw [hT p hp] at e
          cases e
          obtain ⟨more, z⟩ := un.tbls p.2 #[] (tracked p hp)
          have z2 : s'.heap.get? p.2 = some { cls := .none, data := .fields (#[] ++ more) } := ok' p.2 _ z
          exact .inr (.inl ⟨((PySem.W.codeHd_of_K KX (hC p hp)).tab (hT p hp)).isCodeTable, rfl, #[], more, rfl, z2⟩)
        · cases q : H b with
          | none => exact .inl (un.keep b o e q (by simp [frs]) (by simp))
          | some u =>
            rcases atLaw_cases q with ⟨m', _⟩ | ⟨_, rfl, _, rfl⟩
            · exact absurd m' m
            · obtain ⟨z, _⟩ := ok' b _ (un.frzs b _ _ q)
              rw [ha] at e
              cases e
              exact .inl z
      · obtain ⟨o', z⟩ := un.there b o e (by simp)
        exact ⟨o', z⟩
end Shw

namespace Shw
open PySem PySem.Spec PyProof.Rows L2 LamX
/-- what is known of the law's def at the heap h behind the head -/
structure LawG (l : PySem.W.OpenLaw) (w : World) (K : PySem.W.Frag) (CX : CXT) (k n : Nat) (x : Str) (mg : Str → Option Value) (fa : Addr) (h : Heap) (fd : FuncData) (cs : List (Addr × Addr)) (sp : Sp) : Prop where
  laid : ∀ p ∈ cs, h.get? p.2 = some { cls := .none, data := .fields #[] }
  out : ∀ p ∈ cs, K.lookup p.2 = none
  code : ∀ p ∈ cs, PySem.W.codeHdIn K p.1 p.2 = true
  binds : ∀ (s : Shared) (u : Value), BindsTo s fd ⟨[u], []⟩ [(x, u)]
  asks : ∀ (H : Hp) (a : Addr) (ns : List Int), ns.length ≤ n → (∀ z ∈ ns, Builtin.Int.intBits z ≤ 1048576) → (∀ p ∈ cs, H p.2 = some (.tbl #[])) → SqL K H a (ns.map V.int) →
    sp [.ref a] H (fun v _ => v = .bl true) fun _ _ _ => False
  keeps : ∀ base : Heap, K.In base → base.Ns mainGlobals mg → (∀ p ∈ cs, TabB base mg p.1 p.2) → FnG l.prog w K mg base CX k fa fd [x] sp
theorem walkG {l : PySem.W.OpenLaw} {n k : Nat} {q : Program} {loose : List Str} {XP : (Str → Option Value) → Heap → Prop} {YP : World → Heap → Prop} {d : DefRec} {CX : World → CXT} {x : Str}
    (hn : l.most = some n) (hn2 : n ≤ sizeLine) (hdf : d.params.defaults = []) (hr : Room k callerA)
    (F : ∀ (w : World) (mg : Str → Option Value) (fa : Addr) (h : Heap), YP w h → h.Ns mainGlobals mg → mg d.name = some (.ref fa) →
      ∃ K : PySem.W.Frag, K.In h ∧ ∃ fd cs sp, LawG l w K (CX w) k n x mg fa h fd cs sp)
    (hCX : ∀ (w : World) (H : Hp) (s : Shared) (e : Value) (s' : Shared), CX w [] H s (fun _ _ _ => False) e s' → False) :
    PySem.W.WalkO q loose XP YP l.row.toRowW d [] (fun f vs => PySem.call f vs) := by
  refine Att.attach_callB hn hdf ?_
  intro w s0 s1 mg mb fa o pm cd doc a vs ns G Y ho hd hcd hmg hobj hints hlen hbits hg
  obtain ⟨K, KX, fd, cs, sp, L⟩ := F w mg fa _ Y G.T.g hmg
  exact endG KX G.T.g G.T.b G.T.builtins G.T.nolimit hg L.laid L.out L.code G.T.bmain hobj hints (Nat.le_trans hlen hn2) hr L.keeps L.binds
    (fun H hH hS => L.asks H a ns hlen hbits hH hS) fun H e s' => hCX w H s1 e s'
end Shw
set_option Elab.async false
set_option linter.all false
set_option maxRecDepth 100000
set_option maxHeartbeats 2000000
/-! Errors of the program: classes below an own class below ValueError, with fields set by __init__; raised, and let out. -/
namespace Ers
open PySem PySem.Spec PyProof.Rows L2 Pre Kept

def oexB (K : PySem.W.Frag) (C : Addr) : Bool := (match K.lookup C with
  | some ⟨.type t, _, .cls cd, sl⟩ => decide (t = "type") && (match cd.mro, sl.toList with
    | .ref C' :: bm, [_, _, _, _, some (.builtin n), _] => decide (C' = C) && (decide (n = "ValueError.__new__") && (!cd.hasDel && (cd.hasDict && PySem.HandSPX.refsVE bm)))
    | _, _ => false)
  | _ => false) && (decide (PySem.W.findIn K (.ref C) "__setattr__" = some (some (.builtin "object.__setattr__"))) &&
    (decide (PySem.W.subIn K (.ref C) (.type "BaseException") = some true) && (decide (PySem.W.typeIn K (.ref C) = some (.type "type")) && PySem.W.keepIn K (.ref C))))
theorem oexB_ok {K : PySem.W.Frag} {C : Addr} (h : oexB K C = true) : OexC K C := by
  unfold oexB at h
  simp only [Bool.and_eq_true, decide_eq_true_eq] at h
  obtain ⟨h1, h2, h3, h4, h5⟩ := h
  refine ⟨?_, h2, h3, h4, h5⟩
  cases q : K.lookup C with
  | none =>
    rw [q] at h1
    cases h1
  | some o =>
    obtain ⟨oc, dd, dt, sl⟩ := o
    rw [q] at h1
    cases oc with
    | type t =>
      cases dt with
      | cls cd =>
        simp only [Bool.and_eq_true, decide_eq_true_eq] at h1
        obtain ⟨rfl, h1⟩ := h1
        obtain ⟨nm, bs, mro, ns, qn, hd, sn, sub, ab, col, del⟩ := cd
        dsimp only at h1
        split at h1
        · rename_i C' bm k0 k1 k2 k3 n k5 hs
          simp only [Bool.and_eq_true, decide_eq_true_eq, Bool.not_eq_true'] at h1
          obtain ⟨rfl, rfl, rfl, rfl, h6⟩ := h1
          obtain ⟨l⟩ := sl
          have hs' : l = [k0, k1, k2, k3, some (.builtin "ValueError.__new__"), k5] := hs
          subst hs'
          exact ⟨nm, qn, ns, bs, bm, sn, sub, ab, col, dd, k0, k1, k2, k3, k5, rfl, h6⟩
        · cases h1
      | _ => cases h1
    | _ => cases dt <;> cases h1

/-- __init__ of one field -/
def spIni1 (C : Addr) (f : Str) : Sp := fun vs H Q _ => ∃ (a : Addr) (v : V), vs = [.ref a, v] ∧ H a = some (exo a C none) ∧
  ∀ dx, H dx = none → dx ≠ a → Q .non (upd (upd H dx (exd dx [(f, v)])) a (exo a C (some dx)))
/-- .. of two -/
def spIni2 (C : Addr) (f g : Str) : Sp := fun vs H Q _ => ∃ (a : Addr) (v u : V), vs = [.ref a, v, u] ∧ H a = some (exo a C none) ∧
  ∀ dx, H dx = none → dx ≠ a → Q .non (upd (upd H dx (exd dx [(g, u), (f, v)])) a (exo a C (some dx)))
theorem del_eq {H1 : Hp} {a dx : Addr} {fs : List (Str × V)} (n : H1 a = none) (ne : dx ≠ a) (H2 : Hp)
    (e : ∀ b, b ≠ a → b ≠ dx → H2 b = H1 b) : upd (del H2 a) dx (.xd fs) = upd H1 dx (.xd fs) := by
  funext b
  by_cases h1 : b = dx
  · subst h1
    rw [upd_same, upd_same]
  · rw [upd_ne h1, upd_ne h1]
    by_cases h2 : b = a
    · subst h2
      rw [del_same, n]
    · rw [del_ne h2]
      exact e b h2 h1
/-- a reading that is weaker behind its end -/
theorem pa_weak {X : Cx} {es : List Expr} {t : TA} (h : PA X es t) : PA X es (fun σ H Q => ∃ R : List V → Hp → Prop, t σ H R ∧ ∀ vs H1, R vs H1 → Q vs H1) := ⟨fun pos pins s σ H Q I q => by
  obtain ⟨R, h1, h2⟩ := q
  exact thn (h.run pos pins s σ H R I h1) fun us s1 ⟨vs, H1, I1, r1, q1⟩ => ⟨vs, H1, I1, r1, h2 vs H1 q1⟩⟩
section
variable {X : Cx} {W : WX} {x f g : Str} {C fI : Addr} {fd : FuncData} {e e2 : Expr} {te te2 : TE} {p pos pos' : Pos}
/-- raise x(e), x's __init__ setting one field -/
theorem ps_raise1 (T : OexC X.K C) (iC : PySem.W.findIn X.K (.ref C) "__init__" = some (some (.ref fI))) (tI : PySem.W.typeIn X.K (.ref fI) = some (.type "function"))
    (F : FnOk X.prog X.w X.K X.mg X.base CX0 1 fI fd ["self", f] (spIni1 C f)) (hr : Room 2 X.A) (hb : Binds X.K fd ["self", f] []) (hg : Gl X x) (hm : X.mg x = some (.ref C))
    (hc : X.calm = true) (tk : Takes X W) (he : PE X e te) (hdb : (x == ("__debug__" : Str)) = false := by decide)
    (hst : starEach [e] X.env = (false, eval e X.env) :: starEach [] X.env := by rfl) :
    PS X (.Raise (some (.Call (.Name x p) [e] [] pos)) none pos')
      (fun _ σ H => te σ H fun v H1 => ∀ d, H1 d = none → W (.ref C) (some d) σ (upd H1 d (.xd [(f, v)]))) := by
  have weak : PE X e (fun σ H Q => ∃ R : V → Hp → Prop, te σ H R ∧ ∀ v H1, R v H1 → Q v H1) := ⟨fun pins s σ H Q I h => by
    obtain ⟨R, h1, h2⟩ := h
    exact thn (he.run pins s σ H R I h1) fun u s1 ⟨v, H1, I1, r1, q1⟩ => ⟨v, H1, I1, r1, h2 v H1 q1⟩⟩
  have mk := pmk_oex (dvs := []) (pos := pos) (p := p) T iC tI F hr hb .nil (fun _ _ _ _ _ _ _ z => z.elim) hg hm (pa_cons weak pa_nil (hs := hst)) hdb hst (by rfl)
  refine ⟨fun pins s σ H D I h => (ps_raise (pos := pos') hc tk mk).run pins s σ H D I ?_⟩
  refine ⟨_, h, fun v H1 q => ⟨Nat.le_of_ble_eq_true rfl, fun a na => ⟨a, v, rfl, upd_same, fun dx nd ne => ⟨rfl, dx, [(f, v)], upd_same, ?_, ?_, ?_⟩⟩⟩⟩
  · rw [upd_ne ne, upd_same]
  · rw [upd_ne ne] at nd
    exact nd
  · have nd' : H1 dx = none := by
      rw [upd_ne ne] at nd
      exact nd
    rw [del_eq na ne _ (fun b h1 h2 => by rw [upd_ne h1, upd_ne h2, upd_ne h1])]
    exact q dx nd'
/-- raise x(e, e2) -/
theorem ps_raise2 (T : OexC X.K C) (iC : PySem.W.findIn X.K (.ref C) "__init__" = some (some (.ref fI))) (tI : PySem.W.typeIn X.K (.ref fI) = some (.type "function"))
    (F : FnOk X.prog X.w X.K X.mg X.base CX0 1 fI fd ["self", f, g] (spIni2 C f g)) (hr : Room 2 X.A) (hb : Binds X.K fd ["self", f, g] []) (hg : Gl X x) (hm : X.mg x = some (.ref C))
    (hc : X.calm = true) (tk : Takes X W) (he : PE X e te) (he2 : PE X e2 te2) (hdb : (x == ("__debug__" : Str)) = false := by decide)
    (hst : starEach [e, e2] X.env = (false, eval e X.env) :: starEach [e2] X.env := by rfl) (hst2 : starEach [e2] X.env = (false, eval e2 X.env) :: starEach [] X.env := by rfl)
    (hpl : (backTo pos (starEach [e2] X.env)).any (·.1) = false := by rfl) :
    PS X (.Raise (some (.Call (.Name x p) [e, e2] [] pos)) none pos')
      (fun _ σ H => te σ H fun v H1 => te2 σ H1 fun u H2 => ∀ d, H2 d = none → W (.ref C) (some d) σ (upd H2 d (.xd [(g, u), (f, v)]))) := by
  have mk := pmk_oex (dvs := []) (pos := pos) (p := p) T iC tI F hr hb .nil (fun _ _ _ _ _ _ _ z => z.elim) hg hm (pa_weak (pa_cons he (pa_cons he2 pa_nil (hs := hst2)) (hs := hst))) hdb hst hpl
  refine ⟨fun pins s σ H D I h => (ps_raise (pos := pos') hc tk mk).run pins s σ H D I ?_⟩
  refine ⟨fun vs H2 => match vs with | [v, u] => ∀ d, H2 d = none → W (.ref C) (some d) σ (upd H2 d (.xd [(g, u), (f, v)])) | _ => False, h, fun vs H2 q => ?_⟩
  match vs, q with
  | [v, u], q =>
    refine ⟨Nat.le_of_ble_eq_true rfl, fun a na => ⟨a, v, u, rfl, upd_same, fun dx nd ne => ⟨rfl, dx, [(g, u), (f, v)], upd_same, ?_, ?_, ?_⟩⟩⟩
    · rw [upd_ne ne, upd_same]
    · rw [upd_ne ne] at nd
      exact nd
    · have nd' : H2 dx = none := by
        rw [upd_ne ne] at nd
        exact nd
      rw [del_eq na ne _ (fun b h1 h2 => by rw [upd_ne h1, upd_ne h2, upd_ne h1])]
      exact q dx nd'
end
/-! the defs __init__ themselves -/
section
variable {P : Program} {w : World} {K : PySem.W.Frag} {mg : Str → Option Value} {base : Heap} {fI C : Addr} {fd : FuncData} {qual f g : Str} {params : Arguments} {scope : Scope} {dvs : List V} {kws : List (Str × V)}
  {p1 p2 p3 p4 p5 p6 p7 p8 : Pos}
theorem ok_ini1 (F : FunD K "__init__" qual params [.Assign [.Attribute (.Name "self" p1) f p2] (.Name f p3) p4] scope dvs kws fI fd) (S : FnScope ["self", f] ["self", f] scope) (T : OexC K C)
    (no : PySem.W.findIn K (.ref C) f = some none) (h0 : scope.names.lookup ("self" : Str) = some .local) (h1 : scope.names.lookup f = some .local) (hd : (f == ("__debug__" : Str)) = false) (hcd : (f == ("__classdict__" : Str)) = false) (hsw : ∀ env : Env, swapsWith (.Name f p3) (some (.Attribute (.Name "self" p1) f p2)) p4.line env = pure false) :
    FnOk P w K mg base CX0 1 fI fd ["self", f] (spIni1 C f) := by
  refine F.ok S (fun vs H Q E h => ?_) (fun cdv A outer s H vs Q E hr h => ?_)
  · obtain ⟨_, _, rfl, _⟩ := h
    rfl
  · obtain ⟨a, v, rfl, ea, k⟩ := h
    refine ⟨_, PSs.nox (pss_one (ps_ost (pe_var (i := 0) rfl (.inl h0)) (pe_var (i := 1) rfl (.inl h1) hd hcd) (hsw _))), ?_⟩
    exact ⟨v, rfl, .ref a, rfl, a, C, rfl, T, no, .inl ⟨ea, k⟩⟩
theorem ok_ini2 (F : FunD K "__init__" qual params [.Assign [.Attribute (.Name "self" p1) f p2] (.Name f p3) p4, .Assign [.Attribute (.Name "self" p5) g p6] (.Name g p7) p8] scope dvs kws fI fd)
    (S : FnScope ["self", f, g] ["self", f, g] scope) (T : OexC K C)
    (no : PySem.W.findIn K (.ref C) f = some none) (no2 : PySem.W.findIn K (.ref C) g = some none) (h0 : scope.names.lookup ("self" : Str) = some .local) (h1 : scope.names.lookup f = some .local) (h2 : scope.names.lookup g = some .local)
    (hd : (f == ("__debug__" : Str)) = false) (hcd : (f == ("__classdict__" : Str)) = false) (hd2 : (g == ("__debug__" : Str)) = false) (hcd2 : (g == ("__classdict__" : Str)) = false)
    (hsw : ∀ env : Env, swapsWith (.Name f p3) (some (.Attribute (.Name "self" p1) f p2)) p4.line env = pure false) (hsw2 : ∀ env : Env, swapsWith (.Name g p7) (some (.Attribute (.Name "self" p5) g p6)) p8.line env = pure false) :
    FnOk P w K mg base CX0 1 fI fd ["self", f, g] (spIni2 C f g) := by
  refine F.ok S (fun vs H Q E h => ?_) (fun cdv A outer s H vs Q E hr h => ?_)
  · obtain ⟨_, _, _, rfl, _⟩ := h
    rfl
  · obtain ⟨a, v, u, rfl, ea, k⟩ := h
    refine ⟨_, PSs.nox (pss_cons (ps_ost (pe_var (i := 0) rfl (.inl h0)) (pe_var (i := 1) rfl (.inl h1) hd hcd) (hsw _)) (pss_one (ps_ost (pe_var (i := 0) rfl (.inl h0)) (pe_var (i := 2) rfl (.inl h2) hd2 hcd2) (hsw2 _)))), ?_⟩
    refine ⟨v, rfl, .ref a, rfl, a, C, rfl, T, no, .inl ⟨ea, fun dx nd ne => ?_⟩⟩
    refine ⟨u, rfl, .ref a, rfl, a, C, rfl, T, no2, .inr ⟨dx, [(f, v)], upd_same, by rw [upd_ne ne, upd_same], Nat.le_of_ble_eq_true rfl, ?_⟩⟩
    have e : upd (upd (upd H dx (exd dx [(f, v)])) a (exo a C (some dx))) dx (exd dx [(g, u), (f, v)]) = upd (upd H dx (exd dx [(g, u), (f, v)])) a (exo a C (some dx)) := by
      funext b
      by_cases h1 : b = dx
      · subst h1
        rw [upd_same, upd_ne ne, upd_same]
      · rw [upd_ne h1]
        by_cases h2 : b = a
        · subst h2
          rw [upd_same, upd_same]
        · rw [upd_ne h2, upd_ne h1, upd_ne h2, upd_ne h1]
    rw [e]
    exact k dx nd ne
end
end Ers
set_option Elab.async false
set_option linter.all false
set_option maxRecDepth 100000
set_option maxHeartbeats 2000000
namespace Dfs
open PySem PySem.Spec PyProof.Rows L2 Pre
/-- a def of the module, by its name -/
structure Dfn (P : Program) (w : World) (K : PySem.W.Frag) (mg : Str → Option Value) (base : Heap) (CX : CXT) (k : Nat) (x : Str) (ps : List Str) (sp : Sp) : Prop where
  at_ : mg x = some (.ref (He.ga K x))
  kp : PySem.W.keepIn K (.ref (He.ga K x)) = true
  ok : ∃ fd, FnOk P w K mg base CX k (He.ga K x) fd ps sp ∧ Binds K fd ps []
/-- a method of a class of the module -/
structure Mfn (P : Program) (w : World) (K : PySem.W.Frag) (mg : Str → Option Value) (base : Heap) (CX : CXT) (k : Nat) (C : Addr) (m : Str) (ps : List Str) (sp : Sp) : Prop where
  cl : Cls K C
  mt : Meth K C m (He.ma K C m)
  ok : ∃ fd, FnOk P w K mg base CX k (He.ma K C m) fd ps sp ∧ Binds K fd ps []
section
variable {X : Cx} {CX : CXT} {k : Nat} {x m : Str} {C : Addr} {ps : List Str} {sp : Sp} {E : XK} {t : TA} {ta : TE} {e o : Expr} {es : List Expr} {p pos apos : Pos}
theorem pe_d (D : Dfn X.prog X.w X.K X.mg X.base CX k x ps sp) (hr : Room k X.A) (hg : Gl X x) (hx : Passes CX X E) (ha : PA X (e :: es) t) (hdb : (x == ("__debug__" : Str)) = false := by decide)
    (he : starEach (e :: es) X.env = (false, eval e X.env) :: starEach es X.env := by rfl) (hpl : (backTo pos (starEach es X.env)).any (·.1) = false := by rfl) :
    PE X (.Call (.Name x p) (e :: es) [] pos) (tCall sp [] E t) := by
  obtain ⟨fd, F, b⟩ := D.ok
  exact pe_call F hr hg D.at_ D.kp b .nil hx ha hdb he hpl
theorem pe_m {pl : Sem Bool} (he : PE X o ta) (D : Mfn X.prog X.w X.K X.mg X.base CX k C m ps sp) (hr : Room k X.A) (hx : Passes CX X E) (ha : PA X (e :: es) t)
    (hst : starEach (e :: es) X.env = (false, eval e X.env) :: starEach es X.env := by rfl) (hpl : (backTo pos (starEach es X.env)).any (·.1) = false := by rfl)
    (ht : eval (.Call (.Attribute o m apos) (e :: es) [] pos) X.env = (do
      let ov ← eval o X.env
      standAt apos.atName
      let (f, first) ← holding [ov] (getMethod ov m pl)
      callWith pos f first (backTo pos (starEach (e :: es) X.env)) (backToKw pos (keywordEach [] X.env))) := by rfl) :
    PE X (.Call (.Attribute o m apos) (e :: es) [] pos) (tMeth C m sp [] E ta t) := by
  obtain ⟨fd, F, b⟩ := D.ok
  exact pe_meth he D.cl D.mt F hr b .nil hx ha hst hpl ht
theorem pe_m0 {pl : Sem Bool} (he : PE X o ta) (D : Mfn X.prog X.w X.K X.mg X.base CX k C m ps sp) (hr : Room k X.A) (hx : Passes CX X E)
    (ht : eval (.Call (.Attribute o m apos) [] [] pos) X.env = (do
      let ov ← eval o X.env
      standAt apos.atName
      let (f, first) ← holding [ov] (getMethod ov m pl)
      callWith pos f first [] (backToKw pos (keywordEach [] X.env))) := by rfl) :
    PE X (.Call (.Attribute o m apos) [] [] pos) (tMeth C m sp [] E ta tNil) := by
  obtain ⟨fd, F, b⟩ := D.ok
  exact pe_meth0 he D.cl D.mt F hr b .nil hx ht
end
/-- an exception of a callee that this def lets out -/
theorem lets {P : Program} {w : World} {X : Cx} {E : XK} {W : WX} (tk : Takes X W) (h : ∀ cls d σ H, E cls d H → W cls d σ H) (eP : X.prog = P) (ew : X.w = w) : Passes (L2.CX P w) X E := by
  subst eP
  subst ew
  exact passes_call tk h
end Dfs
set_option Elab.async false
set_option linter.all false
set_option maxRecDepth 100000
set_option maxHeartbeats 2000000
/-! super().__init__(..) of an own class, in a def that closes over its class. -/
namespace Sup
open PySem PySem.Spec PyProof.Rows L2 Pre NdefX StX
/-- f's def closes over its class D by the cell cc; its code object stands at c -/
structure FunS (P : Program) (K : PySem.W.Frag) (x qual : Str) (params : Arguments) (body : List Stmt) (scope : Scope) (D cc c f : Addr) (fd : FuncData) : Prop where
  ex : ∃ (oc : Value) (od : Option Addr) (kV doc pm : Value) (an : Option Addr) (ct : Value) (osl : Array (Option Value)),
    fd = PySem.W.fnX x qual params body scope [("__class__", cc)] .none kV doc pm an (.ref c) ct ∧ K.lookup f = some ⟨oc, od, .func fd, osl⟩
  cod : PySem.W.codeIn K (.ref c) qual = true
  file : ∃ (ccl : Value) (cdd : Option Addr) (vs : Array Value) (ccs : Array (Option Value)) (file : Str) (tf : Tok), K.lookup c = some ⟨ccl, cdd, .fields vs, ccs⟩ ∧ vs[2]? = some (.str file tf) ∧ ((P.main.file : Str) == file) = true
  cell : ∃ (cl : Value) (cld : Option Addr) (csl : Array (Option Value)), K.lookup cc = some ⟨cl, cld, .cell (some (.ref D)), csl⟩
  cls : ∃ cd, PySem.W.clsIn K D = some cd
  sub : PySem.W.mroIn K D (.ref D) = some true
  sup : PySem.W.nsIn K mainGlobals "super" = some none
  top : (P.main.scope.names.lookup ("super" : Str)).isSome = false
/-- no class of another party is known in the heap -/
def Opq (h : Heap) : Prop := ∃ o, h.get? cStatics = some o ∧ PySem.W.nsIn [(cStatics, o)] cStatics "thirdparty.any" = some none
theorem Opq.looks {h h' : Heap} {M : Model} {C : Addr} (q : Opq h) (k : ∀ b o, h.get? b = some o → h'.get? b = some o) : PySem.W.Looks M h' (opaqueClassAbove (.ref C)) none := by
  obtain ⟨o, e1, e2⟩ := q
  refine PySem.W.looks_opaque (K := [(cStatics, o)]) (fun a u z => ?_) e2
  have z2 : (match a == cStatics with | true => some o | false => none) = some u := z
  cases hh : (a == cStatics) with
  | true =>
    rw [hh] at z2
    rw [beq_iff_eq.mp hh, ← Option.some.inj z2]
    exact k _ _ e1
  | false =>
    rw [hh] at z2
    cases z2
/-- statements that run as the def's own activation -/
structure PSa (X : Cx) (c : Code) (st : List Stmt) (t : TS) : Prop where
  run : ∀ (pins : List (Addr × Obj)) (s : Shared) (σ : L2.St) (H : Hp) (D : Ends), Inv X pins σ H s → t D σ H → _root_.PySem.wpAt (model X.prog X.w) X.A c (execs st X.env) (SP X pins D) X.xe s
section
variable {X : Cx} {c : Code} {st : Stmt} {sts : List Stmt} {t u : TS}
theorem psa_of (h : PSs X sts t) : PSa X c sts t := ⟨fun pins s σ H D I q => wpAt_of_wpAny (h.run pins s σ H D I q)⟩
theorem psa_cons (h : PS X st t) (r : PSa X c sts u) : PSa X c (st :: sts) (tSeq t u) := ⟨fun pins s σ H D I q => by
  refine ks_wpAt_execs_cons (wpAt_of_wpAny (thn (h.run pins s σ H { D with nx := u D } I q) fun fl s1 z => ?_))
  cases fl with
  | next =>
    obtain ⟨σ1, H1, I1, z1⟩ := z
    exact r.run pins s1 σ1 H1 D I1 z1
  | ret v => exact z
  | brk => exact z
  | cont => exact z⟩
end
/-- super().__init__(..): self stands in the first slot -/
def tSup (C : Addr) (sp : Sp) (E : XK) (t : TA) (u : TS) : TS := fun D σ H => ∃ a dx fs, σ[0]? = some (some (.ref a)) ∧ H a = some (.ins C dx fs) ∧
  t σ H fun vs H1 => H1 a = some (.ins C dx fs) ∧ sp (.ref a :: vs) H1 (fun _ H2 => u D σ H2) E
section
variable {CX CX' : CXT} {P : Program} {w : World} {K : PySem.W.Frag} {mg : Str → Option Value} {base : Heap} {N : List Str} {x qual : Str} {params : Arguments} {body : List Stmt} {scope : Scope} {D cc c f g : Addr} {fd gd : FuncData} {A : Around} {outer : List Env} {s0 : Shared} {H0 : Hp} {E0 E : XK}
  {k : Nat} {ps : List Str} {sp : Sp} {t : TA} {u : TS} {sts : List Stmt} {e : Expr} {p0 p1 p2 p3 p4 : Pos} {ar : Arg} {pl : Sem Bool}
abbrev nfS (x qual : Str) (params : Arguments) (body : List Stmt) (scope : Scope) (cc c : Addr) : NF := ⟨x, qual, params, body, scope, [("__class__", cc)], c⟩
theorem psa_super (S : FunS P K x qual params body scope D cc c f fd) (hopq : Opq base) (hp : (params.posonlyargs ++ params.args).head? = some ar) (hN : N[0]? = some ar.arg)
    (hks : scope.names.lookup ("super" : Str) = some .globalImplicit) (hkc : scope.names.lookup ("__class__" : Str) = some .free) (hka : scope.names.lookup ar.arg = some .local)
    (hm : PySem.W.ks_superIn K D D "__init__" = some (some (.ref g))) (ht : PySem.W.typeIn K (.ref g) = some (.type "function")) (hf : PySem.W.fnIn K g = true)
    (F : FnOk P w K mg base CX' k g gd ps sp) (hr : Room k (A.deeper (envF (nfS x qual params body scope cc c) f s0.heap.objs.size))) (hb : Binds K gd ps [])
    (hx : Passes CX' (ncx CX P w K mg base N (nfS x qual params body scope cc c) f A outer s0 H0 E0) E)
    (ha : PA (ncx CX P w K mg base N (nfS x qual params body scope cc c) f A outer s0 H0 E0) [e] t)
    (r : PSa (ncx CX P w K mg base N (nfS x qual params body scope cc c) f A outer s0 H0 E0) (.func body (envF (nfS x qual params body scope cc c) f s0.heap.objs.size)) sts u)
    (hst : starEach [e] (envF (nfS x qual params body scope cc c) f s0.heap.objs.size) = (false, eval e (envF (nfS x qual params body scope cc c) f s0.heap.objs.size)) :: starEach [] (envF (nfS x qual params body scope cc c) f s0.heap.objs.size) := by rfl)
    (hi : interactive (envF (nfS x qual params body scope cc c) f s0.heap.objs.size) = false := by rfl)
    (hs : swapsWith (.Call (.Attribute (.Call (.Name "super" p0) [] [] p1) "__init__" p2) [e] [] p3) none p4.line (envF (nfS x qual params body scope cc c) f s0.heap.objs.size) = pure false := by rfl)
    (he : eval (.Call (.Attribute (.Call (.Name "super" p0) [] [] p1) "__init__" p2) [e] [] p3) (envF (nfS x qual params body scope cc c) f s0.heap.objs.size) = (do
      let ov ← attributeBase (.Call (.Name "super" p0) [] [] p1) "__init__" (envF (nfS x qual params body scope cc c) f s0.heap.objs.size) (eval (.Call (.Name "super" p0) [] [] p1) (envF (nfS x qual params body scope cc c) f s0.heap.objs.size))
      standAt p2.atName
      let (h, first) ← holding [ov] (getMethod ov "__init__" pl)
      callWith p3 h first (backTo p3 (starEach [e] (envF (nfS x qual params body scope cc c) f s0.heap.objs.size))) []) := by rfl) :
    PSa (ncx CX P w K mg base N (nfS x qual params body scope cc c) f A outer s0 H0 E0) (.func body (envF (nfS x qual params body scope cc c) f s0.heap.objs.size))
      (.Expr (.Call (.Attribute (.Call (.Name "super" p0) [] [] p1) "__init__" p2) [e] [] p3) p4 :: sts) (tSup D sp E t u) := ⟨fun pins s σ H En I q => by
  obtain ⟨a, dx, fs, ea, hins, q⟩ := q
  have KX : K.In s.heap := I.kIn
  obtain ⟨oc, od, kV, doc, pm, an, ct, osl, rfl, lk⟩ := S.ex
  obtain ⟨ccl, cdd, vs, ccs, file, tf, lc, hvs, hfile⟩ := S.file
  obtain ⟨cl, cld, csl, lcc⟩ := S.cell
  obtain ⟨cd, hcd⟩ := S.cls
  obtain ⟨mA, O, _, _, _, _⟩ := ins_get I.hok hins
  have hox := O.obj
  obtain ⟨oD, lD, hD2⟩ : ∃ oD, K.lookup D = some oD ∧ oD.data = .cls cd := by
    unfold PySem.W.clsIn at hcd
    split at hcd
    · rename_i c0 d0 cd' sl ho
      cases hcd
      exact ⟨_, ho, rfl⟩
    · cases hcd
  have hD1 := KX _ _ lD
  have aD : a ≠ D := by
    rintro rfl
    rw [(I.bs _ _ (I.mod.kin _ _ lD)).2] at hins
    cases hins
  obtain ⟨og, lg, hgc⟩ : ∃ og, K.lookup g = some og ∧ og.cls = .type "function" := by
    have ht' : (K.lookup g).map (·.cls) = some (.type "function") := ht
    cases z : K.lookup g with
    | none =>
      rw [z] at ht'
      cases ht'
    | some og =>
      rw [z] at ht'
      exact ⟨og, rfl, Option.some.inj ht'⟩
  have hm2 : PySem.W.alongIn K "__init__" ((cd.mro.dropWhile (· != .ref D)).drop 1) = some (some (.ref g)) := by
    unfold PySem.W.ks_superIn at hm
    rw [hcd] at hm
    exact hm
  obtain ⟨m, hns, hσ⟩ := I.loc
  obtain ⟨ua, rua, la⟩ := hσ 0 ar.arg (.ref a) hN ea (.inl hka)
  obtain rfl : ua = .ref a := rua
  have hself : m ar.arg = some (.ref a) := by
    rcases la with ⟨_, e1⟩ | ⟨e1, _⟩
    · exact e1
    · rw [show (ncx CX P w K mg base N (nfS x qual params body scope cc c) f A outer s0 H0 E0).env.kindOf ar.arg = some .local from hka] at e1
      rcases e1 with e1 | e1 <;> cases e1
  obtain ⟨mb, b1, b2⟩ := I.mod.blt
  have hsup : mg "super" = none := PySem.W.mg_none_of I.mod.kin I.mod.glob S.sup
  have hboot : bootBuiltins "super" = some (.type "super") := by kernel_rfl
  obtain ⟨hh, gs, d, tk, os⟩ := s
  refine ks_wpAt_execs_cons (ks_wpAt_Expr_any (ks_wpAt_MethodCall (ks_wpAt_super_base (env := envF (nfS x qual params body scope cc c) f s0.heap.objs.size) hks hkc (by decide) rfl (KX _ _ lk) rfl hp rfl (KX _ _ lc) rfl hvs hfile S.top ?_) he) hi hs)
  refine PySem.W.ks_loadName_global I.ok.kind hks (Calls.loadGlobal_builtin (env := envF (nfS x qual params body scope cc c) f s0.heap.objs.size) (I.mod.glob.keeps I.bk) hsup (b1.keeps I.bk) ((b2 _ (by decide)).trans hboot) ⟨rfl, ?_⟩)
  refine wpAny_loadName_free I.ok.kind hkc rfl ⟨_, KX _ _ lcc, rfl⟩ ?_
  refine wpAny_loadName_local I.ok.kind hka hns hself ?_
  refine ks_wpAny_isType_cls hD1 hD2 ⟨rfl, ?_⟩
  refine ks_wpAny_call_super hD1 hD2 hox rfl (fun c e => by cases e) (PySem.W.looks_mroIn KX S.sub) (fun h' e1 k1 => ?_)
  have I1 : Inv _ ((hh.objs.size, PySem.W.ks_superObj D a D) :: pins) σ H ⟨h', gs, d, tk, os⟩ := ClX.pin_new (t' := tk) I k1 (Nat.le_refl _) e1 (fun v z => by cases z)
  have KX1 : K.In h' := I1.kIn
  refine ks_wpAny_getMethod_super e1 (hopq.looks I1.bk) (l₀ := cd.mro) (fun A Q E s k q => wpAny_bind ((PySem.W.looks_clsIn KX1 hcd) A _ E s k (wpAny_pure q))) rfl KX1 hm2 (KX1 _ _ lg) hgc aD (by decide) ?_
  have I2 : Inv _ ((h'.objs.size, PySem.W.methodObj (.ref g) (.ref a)) :: (hh.objs.size, PySem.W.ks_superObj D a D) :: pins) σ H ⟨h'.push (PySem.W.methodObj (.ref g) (.ref a)), gs, d, tk + 1, os⟩ :=
    ClX.pin_new (t' := tk + 1) I1 (fun b o z => Heap.get?_push_of_some _ z) (Nat.le_refl _) (Heap.get?_push_at rfl rfl) (fun v z => by cases z)
  show wpAny _ _ (callWith p3 (.ref h'.objs.size) [] (backTo p3 (starEach [e] (envF (nfS x qual params body scope cc c) f s0.heap.objs.size))) []) _ _ _
  have ev := ha.run p3 _ _ σ H _ I2 q
  have ev2 : wpAny (model P w) (A.deeper (envF (nfS x qual params body scope cc c) f s0.heap.objs.size)) (spliced (backTo p3 (starEach [e] (envF (nfS x qual params body scope cc c) f s0.heap.objs.size)))) _ _ _ := ev
  rw [hst] at ev2 ⊢
  refine PySem.W.callWith_of (P := PySem.W.MethP K h'.objs.size g (.ref a)) rfl (PySem.W.keeps_M hf) (Calls.evalArgs_plain (thn ev2 ?_))
  rintro us s1 ⟨vs1, H1, I3, rv, eh, q1⟩
  refine ⟨⟨ClX.pin_at I3, I3.kIn⟩, ?_⟩
  have r2 : Vals (V.ref a :: vs1) (Value.ref a :: us) := .cons rfl rv
  have hl : (Value.ref a :: us).length = ps.length := by
    rw [← r2.length]
    exact F.len _ _ _ _ q1
  have hb2 := hb s1 (Value.ref a :: us) I3.kIn (by rw [List.append_nil]; exact hl)
  rw [List.append_nil] at hb2
  refine wpAny_call (PySem.W.method_call (ClX.pin_at I3) (codeAny_mono (F.run _ _ s1 H1 ⟨Value.ref a :: us, []⟩ (Value.ref a :: us) (V.ref a :: vs1) _ E hr I3.env0 hb2 r2 q1) ?_))
  intro out s2 hq
  cases out with
  | error z => exact hx _ σ H1 s1 z s2 I3 hq
  | ok fl =>
    cases fl with
    | ret v =>
      obtain ⟨y, H2, I4, _, q2⟩ := I3.after hq
      exact r.run pins s2 σ H2 En (ClX.unpin (ClX.unpin I4)) q2
    | next => exact hq.elim
    | brk => exact hq.elim
    | cont => exact hq.elim⟩
theorem fnS_of (S : FunS P K x qual params body scope D cc c f fd) (NS : NScope N ps ["__class__"] scope) (len : ∀ vs H Q E, sp vs H Q E → vs.length = ps.length)
    (walk : ∀ (A : Around) (outer : List Env) (s : Shared) (H : Hp) (vs : List V) (Q : VK) (E : XK), Room k (A.deeper (envF (nfS x qual params body scope cc c) f s.heap.objs.size)) → sp vs H Q E →
      ∃ t, PSa (ncx CX P w K mg base N (nfS x qual params body scope cc c) f A outer s H E) (.func body (envF (nfS x qual params body scope cc c) f s.heap.objs.size)) body t ∧ t { nx := fun _ H' => Q .non H', rt := Q } (startF N vs [none]) H) :
    FnOk P w K mg base CX (k + 1) f fd ps sp := by
  refine ⟨len, fun A outer s H args us vs Q E hr e0 hbind rv hsp => ?_⟩
  have KX : K.In s.heap := e0.mod.kin.keeps fun b o e => (e0.bs b o e).1
  have hl := len _ _ _ _ hsp
  have lim : s.heap.NoLimit := e0.mod.nolimit.keeps fun b o e => (e0.bs b o e).1
  obtain ⟨oc, od, kV, doc, pm, an, ct, osl, rfl, lk⟩ := S.ex
  obtain ⟨cl, cld, csl, lcc⟩ := S.cell
  have one : ∀ (y : Str) (q : Addr), ([("__class__", cc)] : List (Str × Addr)).lookup y = some q → y = "__class__" ∧ q = cc := fun y q z => by
    simp only [List.lookup] at z
    split at z
    · rename_i h1
      exact ⟨beq_iff_eq.mp h1, (Option.some.inj z).symm⟩
    · cases z
  have C : CellsAt [("__class__", cc)] ["__class__"] [none] s.heap H := by
    refine ⟨rfl, fun y q z => ?_, fun y z q e1 e2 => (one _ _ e1).1.trans (one _ _ e2).1.symm, fun i y hy => ?_⟩
    · obtain ⟨rfl, rfl⟩ := one _ _ z
      exact ⟨(e0.bs _ _ (e0.mod.kin _ _ lcc)).2, _, _, KX _ _ lcc, rfl⟩
    · cases i with
      | zero =>
        obtain rfl : "__class__" = y := Option.some.inj hy
        exact ⟨cc, rfl, fun v z => by cases z⟩
      | succ n => cases hy
  refine ks_codeAny_call_defAt (body := body) (binds := ps.zip us) hr.depth (KX _ _ lk) rfl lim (PySem.W.codeRec_of KX S.cod) rfl hbind NS.nocell (fun ⟨n, _⟩ hy => NS.par n (List.of_mem_zip hy).1) (fun h₁ hns kp => ?_) NS.co NS.gen NS.kind
  obtain ⟨t, ht, hq⟩ := walk A outer s H vs Q E (hr.deeper _) hsp
  have I : Inv (ncx CX P w K mg base N (nfS x qual params body scope cc c) f A outer s H E) [] (startF N vs [none]) H { s with heap := h₁, toks := s.toks + (ps.zip us).length } := inv_startN NS hr.hd e0 hl rv C hns kp
  refine ks_wpAt_mono (ht.run [] _ (startF N vs [none]) H _ I hq) (fun fl s' hs => ?_) fun e s' hs => hs
  have fin : ∀ {σ' : L2.St} {H' : Hp} {v : V} {y : Value}, Inv (ncx CX P w K mg base N (nfS x qual params body scope cc c) f A outer s H E) [] σ' H' s' → L2.RelV v y → Q v H' → CE outer P w H s Q y s' :=
    fun {σ' H' v y} J r q => ⟨v, H', J.os, J.bare, J.base, J.hok, r, q⟩
  cases fl with
  | ret y =>
    obtain ⟨v, σ', H', J, r, q⟩ := hs
    exact fin J r q
  | next =>
    obtain ⟨σ', H', J, q⟩ := hs
    exact fin (v := V.non) (y := Value.none) J rfl q
  | brk =>
    obtain ⟨_, _, _, q⟩ := hs
    exact q.elim
  | cont =>
    obtain ⟨_, _, _, q⟩ := hs
    exact q.elim
/-- .. whose last parameter takes what is left over -/
theorem fnS_star {pv : Str} (S : FunS P K x qual params body scope D cc c f fd) (NS : NScope N (ps ++ [pv]) ["__class__"] scope) (hCX : CXUp CX)
    (hbd : ∀ (kV doc pm ct : Value) (an : Option Addr) (us rest : List Value), us.length = ps.length → bindArgs (PySem.W.fnX x qual params body scope [("__class__", cc)] .none kV doc pm an (.ref c) ct) ⟨us ++ rest, []⟩ = (newTuple rest >>= fun t => pure (ps.zip us ++ [(pv, t)])))
    (walk : ∀ (A : Around) (outer : List Env) (s : Shared) (H : Hp) (vs : List V) (Q : VK) (E : XK), Room k (A.deeper (envF (nfS x qual params body scope cc c) f s.heap.objs.size)) → sp vs H Q E →
      ∃ t, PSa (ncx CX P w K mg base N (nfS x qual params body scope cc c) f A outer s H E) (.func body (envF (nfS x qual params body scope cc c) f s.heap.objs.size)) body t ∧ t { nx := fun _ H' => Q .non H', rt := Q } (startF N vs [none]) H) :
    FnR P w K mg base CX (k + 1) f (fun vs H Q E => ∃ ws rest, vs = ws ++ rest ∧ ws.length = ps.length ∧ rest.length ≤ sizeLine ∧ ∀ p, H p = none → sp (ws ++ [V.ref p]) (upd H p (.tup rest)) Q E) := by
  intro A outer s H us vs Q E hr e0 r hsp
  obtain ⟨ws, rest, rfl, hl, hz, hq⟩ := hsp
  obtain ⟨u1, u2, rfl, r1, r2⟩ := vals_split r
  have KX : K.In s.heap := e0.mod.kin.keeps fun b o e => (e0.bs b o e).1
  have hn : H s.heap.objs.size = none := e0.hok.fresh (Nat.le_refl _)
  have hl1 : u1.length = ps.length := by
    rw [← r1.length]
    exact hl
  have hl2 : u2.length ≤ sizeLine := by
    rw [← r2.length]
    exact hz
  obtain ⟨oc, od, kV, doc, pm, an, ct, osl, rfl, lk⟩ := S.ex
  obtain ⟨cl, cld, csl, lcc⟩ := S.cell
  refine codeAny_call_function hr.depth (KX _ _ lk) rfl NS.co NS.gen rfl (PySem.W.codeRec_of KX S.cod) ?_
  rw [hbd kV doc pm ct an u1 u2 hl1]
  refine wpAny_bind (wpAny_newTuple (wpAny_pure ?_) hl2)
  have made : ObjOk P w (upd H s.heap.objs.size (.tup rest)) (s.heap.push ({ cls := .type "tuple", data := .seq u2.toArray } : Obj)) s.heap.objs.size (.tup rest) := ⟨hz, u2, r2, ⟨_, Heap.get?_push_size _ rfl, rfl, _, rfl⟩⟩
  have e2 := env0_laid e0 made
  have un := un_laid (fs := frs outer) (s := s) (o := ({ cls := .type "tuple", data := .seq u2.toArray } : Obj)) (u := .tup rest) hn
  have lim2 : (s.heap.push ({ cls := .type "tuple", data := .seq u2.toArray } : Obj)).NoLimit := e0.mod.nolimit.keeps fun b o e => (e2.bs b o e).1
  have one : ∀ (y : Str) (q : Addr), ([("__class__", cc)] : List (Str × Addr)).lookup y = some q → y = "__class__" ∧ q = cc := fun y q z => by
    simp only [List.lookup] at z
    split at z
    · rename_i h1
      exact ⟨beq_iff_eq.mp h1, (Option.some.inj z).symm⟩
    · cases z
  have CA : CellsAt [("__class__", cc)] ["__class__"] [none] (s.heap.push ({ cls := .type "tuple", data := .seq u2.toArray } : Obj)) (upd H s.heap.objs.size (.tup rest)) := by
    refine ⟨rfl, fun y q z => ?_, fun y z q e1 e2 => (one _ _ e1).1.trans (one _ _ e2).1.symm, fun i y hy => ?_⟩
    · obtain ⟨rfl, rfl⟩ := one _ _ z
      have z2 := e2.bs _ _ (e0.mod.kin _ _ lcc)
      exact ⟨z2.2, _, _, z2.1, rfl⟩
    · cases i with
      | zero =>
        obtain rfl : "__class__" = y := Option.some.inj hy
        exact ⟨cc, rfl, fun v z => by cases z⟩
      | succ n => cases hy
  have rv : Vals (ws ++ [V.ref s.heap.objs.size]) (u1 ++ [Value.ref s.heap.objs.size]) := r1.append (.cons rfl .nil)
  have hlen : (ws ++ [V.ref s.heap.objs.size]).length = (ps ++ [pv]).length := by
    rw [List.length_append, List.length_append, hl]
    rfl
  have hz2 : ps.zip u1 ++ [(pv, Value.ref s.heap.objs.size)] = (ps ++ [pv]).zip (u1 ++ [Value.ref s.heap.objs.size]) := by
    rw [List.zip_append hl1.symm]
    rfl
  rw [hz2]
  refine wpAny_newFunctionEnv (s := { s with heap := s.heap.push ({ cls := .type "tuple", data := .seq u2.toArray } : Obj) }) NS.nocell (fun ⟨n, _⟩ hy => NS.par n (List.of_mem_zip hy).1) (fun h₁ hns hsb => ⟨lim2.fresh _ hsb, ks_codeAny_funcAt ?_⟩) NS.kind
  have kp : ∀ b o, (s.heap.push ({ cls := .type "tuple", data := .seq u2.toArray } : Obj)).get? b = some o → h₁.get? b = some o := fun b o e => hsb.extBut b o (Nat.ne_of_lt (Heap.lt_size e)) (Heap.get?_push_of_some _ e)
  obtain ⟨t, ht, hq2⟩ := walk A outer { s with heap := s.heap.push ({ cls := .type "tuple", data := .seq u2.toArray } : Obj) } (upd H s.heap.objs.size (.tup rest)) (ws ++ [V.ref s.heap.objs.size]) Q E (hr.deeper _) (hq _ hn)
  have I := inv_startN (CX := CX) (P := P) (w := w) (F := nfS x qual params body scope cc c) (f := f) (E := E) (tk := s.toks + ((ps ++ [pv]).zip (u1 ++ [Value.ref s.heap.objs.size])).length) NS hr.hd e2 hlen rv CA hns kp
  refine ks_wpAt_mono (ht.run [] _ _ _ _ I hq2) (fun fl s' hs => ?_) fun e s' hs => ?_
  · have fin : ∀ {σ' : L2.St} {H' : Hp} {v : V} {y : Value}, Inv (ncx CX P w K mg base N (nfS x qual params body scope cc c) f A outer { s with heap := s.heap.push ({ cls := .type "tuple", data := .seq u2.toArray } : Obj) } (upd H s.heap.objs.size (.tup rest)) E) [] σ' H' s' → L2.RelV v y → Q v H' → CE outer P w H s Q y s' :=
      fun {σ' H' v y} J r q => ⟨v, H', J.os, J.bare, un.trans J.base, J.hok, r, q⟩
    cases fl with
    | ret y =>
      obtain ⟨v, σ', H', J, r, q⟩ := hs
      exact fin J r q
    | next =>
      obtain ⟨σ', H', J, q⟩ := hs
      exact fin (v := V.non) (y := Value.none) J rfl q
    | brk =>
      obtain ⟨_, _, _, q⟩ := hs
      exact q.elim
    | cont =>
      obtain ⟨_, _, _, q⟩ := hs
      exact q.elim
  · have up := hCX outer s H { s with heap := s.heap.push ({ cls := .type "tuple", data := .seq u2.toArray } : Obj) } (upd H s.heap.objs.size (.tup rest)) E
    exact wpAny_mono hs (fun _ s'' z => up _ s'' un (fun b o q => Heap.get?_push_of_some _ q) rfl z) fun e' s'' z => up e' s'' un (fun b o q => Heap.get?_push_of_some _ q) rfl z
end
end Sup
set_option Elab.async false
set_option linter.all false
set_option maxRecDepth 100000
set_option maxHeartbeats 2000000
/-! A Hook that tells, besides, the defs that no name of the module reaches at once: a classmethod's, one that closes over its class; and what is known of other parties' classes. -/
namespace Hkc
open PySem PySem.Spec PyProof.Rows L2 He
abbrev Fv : Type := Option (Str × Str × Arguments × FuncBody × Scope × Addr × List Str × Addr)
def fv (K : PySem.W.Frag) (a : Addr) : Fv := (K.lookup a).bind fun o => match o.data with
  | .func z => some (z.name, z.qualname, z.params, z.body, z.scope, z.globals, z.closure.map Prod.fst, z.builtins)
  | _ => none
structure Md where
  how : PySem.W.Frag → Addr
  name : Str
  qual : Str
  params : Arguments
  body : List Stmt
  scope : Scope
  cl : List Str
def Md.fv (m : Md) : Fv := some (m.name, m.qual, m.params, .stmts m.body, m.scope, mainGlobals, m.cl, builtinsNs)
/-- the code objects of the functions there -/
def codA (g : Addr → Option Obj) (a : Addr) : List Addr := match g a with
  | some ⟨_, _, .func z, _⟩ => refV z.code
  | _ => []
def asC (g : Addr → Option Obj) (n : Nat) : List Addr := cStatics :: asD g n ++ (asD g n).flatMap (codA g)
def opB (g : Addr → Option Obj) : Bool := match g cStatics with
  | some o => decide (PySem.W.nsIn [(cStatics, o)] cStatics "thirdparty.any" = some none)
  | none => false
abbrev AlC : Type := (AlX × List Fv) × Bool
/-- no class of another party is known in the written part -/
def opqB (K : PySem.W.Frag) : Bool := match K.lookup cStatics with
  | some o => decide (PySem.W.nsIn [(cStatics, o)] cStatics "thirdparty.any" = some none)
  | none => false
theorem opqB_ok {K : PySem.W.Frag} {h : Heap} (e : opqB K = true) (k : K.In h) : Sup.Opq h := by
  unfold opqB at e
  cases q : K.lookup cStatics with
  | none =>
    rw [q] at e
    cases e
  | some o =>
    rw [q] at e
    exact ⟨o, k _ _ q, of_decide_eq_true e⟩
def obsC (n : Nat) (fa : List Fa) (fn : List DefD) (tf : List Defn) (ex : PySem.W.Frag → Bool) (ms : List Md) (g : Addr → Option Obj) : AlC :=
  (((obsT fa fn [] (frT g (asC g n)), ex (frT g (asC g n)) && tabsB g tf (frT g (asC g n))), ms.map fun m => Hkc.fv (frT g (asC g n)) (m.how (frT g (asC g n)))), opB g)
def valC (fn : List DefD) (ms : List Md) (w : World) : AlC := ((valX fn [] w, ms.map Md.fv), true)
structure SaysC (fa : List Fa) (fn : List DefD) (tf : List Defn) (ex : PySem.W.Frag → Bool) (ms : List Md) (w : World) (h : Heap) (K : PySem.W.Frag) : Prop where
  x : SaysX fa fn [] tf ex w h K
  m : (ms.map fun m => Hkc.fv K (m.how K)) = ms.map Md.fv
  opq : Sup.Opq h
theorem saysC_of {fa : List Fa} {fn : List DefD} {tf : List Defn} {ex : PySem.W.Frag → Bool} {ms : List Md} {w : World} {h : Heap} {as : List Addr}
    (e : ((((obsT fa fn [] (frT h.get? as), ex (frT h.get? as) && tabsB h.get? tf (frT h.get? as)), ms.map fun m => Hkc.fv (frT h.get? as) (m.how (frT h.get? as))), opB h.get?) : AlC) = valC fn ms w) : SaysC fa fn tf ex ms w h (frT h.get? as) := by
  obtain ⟨e9, eo⟩ := Prod.mk.inj e
  obtain ⟨e0, em⟩ := Prod.mk.inj e9
  obtain ⟨et, eb⟩ := Prod.mk.inj e0
  obtain ⟨hx, hb⟩ := Bool.and_eq_true_iff.mp eb
  generalize hK : frT h.get? as = K at *
  have each : ∀ p ∈ tf, PySem.W.codeHdIn K (cT K p).1 (cT K p).2 = true ∧ ∃ o, h.get? (cT K p).2 = some o ∧ emptyTab o = true := by
    intro p hp
    obtain ⟨a1, a2⟩ := Bool.and_eq_true_iff.mp (List.all_eq_true.mp hb p hp)
    cases q : h.get? (cT K p).2 with
    | none =>
      simp only [q] at a2
      exact Bool.noConfusion a2
    | some o =>
      simp only [q] at a2
      exact ⟨a1, o, rfl, a2⟩
  refine ⟨⟨et, hx, fun p hp => (each p hp).1, fun p hp => ?_, fun p hp => ?_⟩, em, ?_⟩
  · obtain ⟨_, o, q, z⟩ := each p hp
    subst hK
    exact frT_none q z
  · obtain ⟨_, o, q, z⟩ := each p hp
    rw [q, emptyTab_eq z]
  · unfold opB at eo
    cases q : h.get? cStatics with
    | none =>
      rw [q] at eo
      cases eo
    | some o =>
      rw [q] at eo
      exact ⟨o, q, of_decide_eq_true eo⟩
def hookC (n : Nat) (fa : List Fa) (fn : List DefD) (tf : List Defn) (ex : PySem.W.Frag → Bool) (ms : List Md) : PySem.W.Hook where
  α := AlC
  obs := fun s => obsC n fa fn tf ex ms s.heap.get?
  val := fun w => valC fn ms w
  says := fun w h => ∃ K : PySem.W.Frag, K.In h ∧ SaysC fa fn tf ex ms w h K
  of := fun _ _ e => ⟨_, frT_in, saysC_of e⟩
  keeps := fun _ _ _ ⟨K, hK, c⟩ k => ⟨K, PySem.W.Frag.In.keeps hK k, ⟨⟨c.x.t, c.x.more, c.x.hd, c.x.out, fun p hp => k _ _ (c.x.empty p hp)⟩, c.m, let ⟨o, e1, e2⟩ := c.opq
    ⟨o, k _ _ e1, e2⟩⟩⟩
theorem obsC_eq {n : Nat} {fa : List Fa} {fn : List DefD} {tf : List Defn} {ex : PySem.W.Frag → Bool} {ms : List Md} {g : Addr → Option Obj} {s : Shared} (h : ∀ a, g a = s.heap.get? a) : obsC n fa fn tf ex ms g = (hookC n fa fn tf ex ms).obs s := by
  obtain rfl : g = s.heap.get? := funext h
  rfl
section
variable {K : PySem.W.Frag} {ms : List Md}
theorem md_at (e : (ms.map fun m => Hkc.fv K (m.how K)) = ms.map Md.fv) (i : Nat) {m : Md} (h : ms[i]? = some m) : Hkc.fv K (m.how K) = m.fv := by
  have e2 := congrArg (fun l : List Fv => l[i]?) e
  simp only [List.getElem?_map, h, Option.map_some] at e2
  exact Option.some.inj e2
/-- the function at a, its closure's names those of m -/
theorem fv_ok {a : Addr} {m : Md} (e : Hkc.fv K a = m.fv) : ∃ (oc : Value) (od : Option Addr) (cl : List (Str × Addr)) (dV kV doc pm : Value) (an : Option Addr) (cdv ct : Value) (osl : Array (Option Value)),
    cl.map Prod.fst = m.cl ∧ K.lookup a = some ⟨oc, od, .func (PySem.W.fnX m.name m.qual m.params m.body m.scope cl dV kV doc pm an cdv ct), osl⟩ := by
  unfold Hkc.fv at e
  cases q : K.lookup a with
  | none =>
    rw [q] at e
    cases e
  | some o =>
    obtain ⟨oc, od, dt, osl⟩ := o
    rw [q] at e
    cases dt with
    | func z =>
      obtain ⟨n1, n2, n3, n4, n5, n6, n7, n8, n9, n10, n11, n12, n13, n14, n15⟩ := z
      have e2 : (some (n1, n2, n3, n4, n5, n6, n7.map Prod.fst, n15) : Fv) = some (m.name, m.qual, m.params, .stmts m.body, m.scope, mainGlobals, m.cl, builtinsNs) := e
      simp only [Option.some.injEq, Prod.mk.injEq] at e2
      obtain ⟨rfl, rfl, rfl, rfl, rfl, rfl, h7, rfl⟩ := e2
      exact ⟨oc, od, n7, n8, n9, n10, n11, n12, n13, n14, osl, h7, rfl⟩
    | _ => cases e
/-! super -/
/-- what of the text is asked of a def of the class x that says super() -/
def supB (file qual x : Str) (K : PySem.W.Frag) : Bool := match K.lookup (ma K (ga K x) "__init__") with
  | some ⟨_, _, .func z, _⟩ => (match z.closure, z.code, z.defaults with
    | [(_, cc)], .ref c, .none => PySem.W.codeIn K (.ref c) qual && ((match K.lookup c with
        | some ⟨_, _, .fields vs, _⟩ => (match (vs[2]? : Option Value) with
          | some (.str y _) => decide (y = file)
          | _ => false)
        | _ => false) && (match K.lookup cc with
        | some ⟨_, _, .cell (some (.ref D)), _⟩ => decide (D = ga K x)
        | _ => false))
    | _, _, _ => false) && ((PySem.W.clsIn K (ga K x)).isSome && (decide (PySem.W.mroIn K (ga K x) (.ref (ga K x)) = some true) && decide (PySem.W.nsIn K mainGlobals "super" = some none)))
  | _ => false
theorem supB_ok {P : Program} {file x : Str} {m : Md} (h : supB file m.qual x K = true) (hm : m.cl = [("__class__" : Str)]) (e : Hkc.fv K (ma K (ga K x) "__init__") = m.fv) (hf : ((P.main.file : Str) == file) = true) (ht : (P.main.scope.names.lookup ("super" : Str)).isSome = false) :
    ∃ cc c fd, Sup.FunS P K m.name m.qual m.params m.body m.scope (ga K x) cc c (ma K (ga K x) "__init__") fd := by
  obtain ⟨oc, od, cl, dV, kV, doc, pm, an, cdv, ct, osl, hcl, lk⟩ := fv_ok e
  unfold supB at h
  rw [lk] at h
  rw [hm] at hcl
  cases cl with
  | nil => cases hcl
  | cons q r =>
    obtain ⟨qn, cc⟩ := q
    cases r with
    | cons q2 r2 => cases hcl
    | nil =>
      obtain rfl : qn = "__class__" := (List.cons.inj hcl).1
      cases cdv with
      | ref c =>
        cases dV with
        | none => ?_
        | _ => simp at h
        simp only [Bool.and_eq_true, decide_eq_true_eq] at h
        obtain ⟨⟨h1, h2, h3⟩, h4, h5, h6⟩ := h
        refine ⟨cc, c, _, ⟨⟨oc, od, kV, doc, pm, an, ct, osl, rfl, lk⟩, h1, ?_, ?_, Option.isSome_iff_exists.mp h4, h5, h6, ht⟩⟩
        · cases q1 : K.lookup c with
          | none =>
            rw [q1] at h2
            cases h2
          | some o =>
            obtain ⟨o1, o2, o3, o4⟩ := o
            rw [q1] at h2
            cases o3 with
            | fields vs =>
              dsimp only at h2
              cases q2 : vs[2]? with
              | none =>
                rw [q2] at h2
                cases h2
              | some v =>
                rw [q2] at h2
                cases v with
                | str y t =>
                  obtain rfl : y = file := of_decide_eq_true h2
                  exact ⟨o1, o2, vs, o4, y, t, rfl, q2, hf⟩
                | _ => cases h2
            | _ => cases h2
        · cases q1 : K.lookup cc with
          | none =>
            rw [q1] at h3
            cases h3
          | some o =>
            obtain ⟨o1, o2, o3, o4⟩ := o
            rw [q1] at h3
            cases o3 with
            | cell v =>
              cases v with
              | none => cases h3
              | some v =>
                cases v with
                | ref D =>
                  obtain rfl : D = ga K x := of_decide_eq_true h3
                  exact ⟨o1, o2, o4, rfl⟩
                | _ => cases h3
            | _ => cases h3
      | _ => simp at h
/-! classmethods -/
def gm (K : PySem.W.Frag) (C : Addr) (m : Str) : Addr := match PySem.W.recIn K (ma K C m) "classmethod" with
  | some (.ref g :: _) => g
  | _ => 0
/-- the function at g: no defaults, its code's name -/
def mdB (K : PySem.W.Frag) (g : Addr) (qual : Str) : Bool := match K.lookup g with
  | some ⟨_, _, .func z, _⟩ => PySem.W.codeIn K z.code qual && (match z.defaults with
    | .none => true
    | _ => false)
  | _ => false
theorem fn_md {g : Addr} {m : Md} (e : Hkc.fv K g = m.fv) (hm : m.cl = []) (h : mdB K g m.qual = true) : ∃ (oc : Value) (od : Option Addr) (kV doc pm : Value) (an : Option Addr) (cdv ct : Value) (osl : Array (Option Value)),
    K.lookup g = some ⟨oc, od, .func (PySem.W.fnOf m.name m.qual m.params m.body m.scope .none kV doc pm an cdv ct), osl⟩ ∧ PySem.W.codeIn K cdv m.qual = true := by
  obtain ⟨oc, od, cl, dV, kV, doc, pm, an, cdv, ct, osl, hcl, lk⟩ := fv_ok e
  rw [hm] at hcl
  obtain rfl : cl = [] := List.map_eq_nil_iff.mp hcl
  unfold mdB at h
  rw [lk] at h
  obtain ⟨h1, h2⟩ := Bool.and_eq_true_iff.mp h
  cases dV with
  | none => exact ⟨oc, od, kV, doc, pm, an, cdv, ct, osl, lk, h1⟩
  | _ => cases h2
def cmB (x m qual : Str) (K : PySem.W.Frag) : Bool := (match PySem.W.recIn K (ma K (ga K x) m) "classmethod" with
  | some (.ref _ :: _) => true
  | _ => false) && (PySem.W.fnIn K (gm K (ga K x) m) && (PySem.W.readsIn K (ga K x) (.type "type") && (decide (PySem.W.specialIn K (.ref (ga K x)) "__getattribute__" = some (some (.builtin "type.__getattribute__"))) &&
    ((match PySem.W.findCls K (.ref (ga K x)) (.type "type") m with
    | some (.get (.builtin n) (.ref p) .none (.ref C)) => decide (n = "classmethod.__get__") && (decide (p = ma K (ga K x) m) && decide (C = ga K x))
    | _ => false) && mdB K (gm K (ga K x) m) qual))))
theorem cmB_ok {x m qual : Str} (h : cmB x m qual K = true) : ClX.CRead K (ga K x) (.type "type") ∧ ClX.CMet K (ga K x) (.type "type") m (ma K (ga K x) m) (gm K (ga K x) m) ∧ mdB K (gm K (ga K x) m) qual = true := by
  unfold cmB at h
  simp only [Bool.and_eq_true, decide_eq_true_eq] at h
  obtain ⟨h1, h2, h3, h4, h5, h6⟩ := h
  refine ⟨⟨h3, h4⟩, ⟨?_, ?_, h2⟩, h6⟩
  · cases q : PySem.W.findCls K (.ref (ga K x)) (.type "type") m with
    | none =>
      rw [q] at h5
      cases h5
    | some u =>
      rw [q] at h5
      split at h5
      · rename_i n p C e
        cases e
        simp only [Bool.and_eq_true, decide_eq_true_eq] at h5
        obtain ⟨rfl, rfl, rfl⟩ := h5
        rfl
      · cases h5
  · unfold gm
    cases q : PySem.W.recIn K (ma K (ga K x) m) "classmethod" with
    | none =>
      rw [q] at h1
      cases h1
    | some l =>
      rw [q] at h1
      split at h1
      · rename_i g r e
        cases e
        exact ⟨r, rfl⟩
      · cases h1
end
end Hkc
set_option Elab.async false
set_option linter.all false
set_option maxRecDepth 100000
set_option maxHeartbeats 2000000
/-! Values of plain kinds, and what the programs ask of them: an int that is no bool, one within bounds. -/
namespace Vls
open PySem PySem.Spec PyProof.Rows L2 Pre
/-- a plain value -/
inductive Dat (H : Hp) : V → Prop where
  | non : Dat H .non
  | bl (b : Bool) : Dat H (.bl b)
  | int (i : Int) : Dat H (.int i)
  | str (x : Str) : Dat H (.str x)
  | lst {a : Addr} {xs : List V} (e : H a = some (.lst xs)) : Dat H (.ref a)
  | tup {a : Addr} {xs : List V} (e : H a = some (.tup xs)) : Dat H (.ref a)
  | dct {a : Addr} {kvs : List (Key × V)} (e : H a = some (.dK kvs)) : Dat H (.ref a)
theorem Dat.but {H H' : Hp} {x : V} (d : Dat H x) (s : Same H H') : Dat H' x := by
  cases d with
  | non => exact .non
  | bl b => exact .bl b
  | int i => exact .int i
  | str z => exact .str z
  | lst e => exact .lst (s _ _ e)
  | tup e => exact .tup (s _ _ e)
  | dct e => exact .dct (s _ _ e)
/-- the name of its type -/
def tyN (H : Hp) : V → String
  | .non => "NoneType"
  | .bl _ => "bool"
  | .int _ => "int"
  | .str _ => "str"
  | .ref a => (match H a with
    | some (.lst _) => "list"
    | some (.tup _) => "tuple"
    | _ => "dict")
  | _ => ""
theorem Dat.ty {K : PySem.W.Frag} {H : Hp} {x : V} (d : Dat H x) : TyX K H x (.type (tyN H x)) := by
  cases d with
  | non => exact .base .non
  | bl b => exact .base (.bl b)
  | int i => exact .base (.int i)
  | str z => exact .base (.str z)
  | lst e =>
    simp only [tyN, e]
    exact .base (.lst e)
  | tup e =>
    simp only [tyN, e]
    exact .base (.tup e)
  | dct e =>
    simp only [tyN, e]
    exact .base (.dK e)
def isT (H : Hp) (x : V) : Bool := match x with
  | .ref a => (match H a with
    | some (.tup _) => true
    | _ => false)
  | _ => false
def isL (H : Hp) (x : V) : Bool := match x with
  | .ref a => (match H a with
    | some (.lst _) => true
    | _ => false)
  | _ => false
def isB : V → Bool
  | .bl _ => true
  | _ => false
def isS : V → Bool
  | .str _ => true
  | _ => false
/-- an int, no bool -/
def isW : V → Bool
  | .int _ => true
  | _ => false
def isI : V → Bool
  | .int _ => true
  | .bl _ => true
  | _ => false
/-- .. within bounds -/
def inR (lo hi : Int) : V → Bool
  | .int i => decide (lo ≤ i) && decide (i ≤ hi)
  | _ => false
/-- .. and not below 0 -/
def isC : V → Bool
  | .int i => decide (0 ≤ i)
  | _ => false
theorem kit_of_ty {K : PySem.W.Frag} {T S : String} {b : Bool} (h : kitB T S = some b) : PySem.W.kitOne K (.type T) (.type S) = some b := h
theorem Dat.kInt {K : PySem.W.Frag} {H : Hp} {x : V} (d : Dat H x) : PySem.W.kitOne K (.type (tyN H x)) (.type "int") = some (isI x) := by
  cases d with
  | lst e =>
    simp only [tyN, e]
    exact kit_of_ty (by kernel_rfl)
  | tup e =>
    simp only [tyN, e]
    exact kit_of_ty (by kernel_rfl)
  | dct e =>
    simp only [tyN, e]
    exact kit_of_ty (by kernel_rfl)
  | _ => exact kit_of_ty (by kernel_rfl)
theorem Dat.kBool {K : PySem.W.Frag} {H : Hp} {x : V} (d : Dat H x) : PySem.W.kitOne K (.type (tyN H x)) (.type "bool") = some (isB x) := by
  cases d with
  | lst e =>
    simp only [tyN, e]
    exact kit_of_ty (by kernel_rfl)
  | tup e =>
    simp only [tyN, e]
    exact kit_of_ty (by kernel_rfl)
  | dct e =>
    simp only [tyN, e]
    exact kit_of_ty (by kernel_rfl)
  | _ => exact kit_of_ty (by kernel_rfl)
theorem Dat.kStr {K : PySem.W.Frag} {H : Hp} {x : V} (d : Dat H x) : PySem.W.kitOne K (.type (tyN H x)) (.type "str") = some (isS x) := by
  cases d with
  | lst e =>
    simp only [tyN, e]
    exact kit_of_ty (by kernel_rfl)
  | tup e =>
    simp only [tyN, e]
    exact kit_of_ty (by kernel_rfl)
  | dct e =>
    simp only [tyN, e]
    exact kit_of_ty (by kernel_rfl)
  | _ => exact kit_of_ty (by kernel_rfl)
theorem Dat.kTup {K : PySem.W.Frag} {H : Hp} {x : V} (d : Dat H x) : PySem.W.kitOne K (.type (tyN H x)) (.type "tuple") = some (isT H x) := by
  cases d with
  | lst e =>
    simp only [tyN, isT, e]
    exact kit_of_ty (by kernel_rfl)
  | tup e =>
    simp only [tyN, isT, e]
    exact kit_of_ty (by kernel_rfl)
  | dct e =>
    simp only [tyN, isT, e]
    exact kit_of_ty (by kernel_rfl)
  | _ => exact kit_of_ty (by kernel_rfl)
theorem Dat.kLst {K : PySem.W.Frag} {H : Hp} {x : V} (d : Dat H x) : PySem.W.kitOne K (.type (tyN H x)) (.type "list") = some (isL H x) := by
  cases d with
  | lst e =>
    simp only [tyN, isL, e]
    exact kit_of_ty (by kernel_rfl)
  | tup e =>
    simp only [tyN, isL, e]
    exact kit_of_ty (by kernel_rfl)
  | dct e =>
    simp only [tyN, isL, e]
    exact kit_of_ty (by kernel_rfl)
  | _ => exact kit_of_ty (by kernel_rfl)
/-- isinstance(x, (list, tuple)) -/
theorem Dat.kSeq {K : PySem.W.Frag} {H : Hp} {x : V} (d : Dat H x) : PySem.W.kitAny K (.type (tyN H x)) [.type "list", .type "tuple"] = some (isL H x || isT H x) := by
  refine kitAny_cons d.kLst (fun h => ?_) fun h => by rw [h]; rfl
  rw [h, Bool.false_or]
  refine kitAny_cons d.kTup (fun h2 => ?_) fun h2 => h2
  rw [h2]
  exact kitAny_nil
/-- what isinstance asks of an instance's class -/
structure Ins (K : PySem.W.Frag) (C : Addr) : Prop where
  a : PySem.W.findIn K (.ref C) "__class__" = some (some (.builtin "object.__class__"))
  g : PySem.W.specialIn K (.builtin "object.__class__") "__get__" = some (some (.builtin "getset_descriptor.__get__"))
  t : PySem.W.takesIn K (.builtin "object.__class__") = some true
  o : PySem.W.mroIn K C (.type "object") = some true
def insB (K : PySem.W.Frag) (C : Addr) : Bool := decide (PySem.W.findIn K (.ref C) "__class__" = some (some (.builtin "object.__class__"))) && (decide (PySem.W.specialIn K (.builtin "object.__class__") "__get__" = some (some (.builtin "getset_descriptor.__get__"))) &&
  (decide (PySem.W.takesIn K (.builtin "object.__class__") = some true) && decide (PySem.W.mroIn K C (.type "object") = some true)))
theorem insB_ok {K : PySem.W.Frag} {C : Addr} (h : insB K C = true) : Ins K C := by
  unfold insB at h
  simp only [Bool.and_eq_true, decide_eq_true_eq] at h
  exact ⟨h.1, h.2.1, h.2.2.1, h.2.2.2⟩
theorem Ins.ty {K : PySem.W.Frag} {H : Hp} {a C dx : Addr} {fs : List (Str × V)} (i : Ins K C) (c : Cls K C) (e : H a = some (.ins C dx fs)) : TyX K H (.ref a) (.ref C) := .base (.ins e c i.a i.g i.t i.o)
/-- a comprehension's own names -/
def blkB (N : List Str) (sc scope : Scope) (own : List (Str × Nat)) : Bool := decide (scope.kind = .function) && (scope.names.all (fun y => decide (scope.names.lookup y.1 = some y.2)) && (own.all (fun p => decide (N[p.2]? = some p.1)) &&
  (scope.names.all (fun y => !decide (y.2 = .free) || (decide (sc.names.lookup y.1 = some .cell) || decide (sc.names.lookup y.1 = some .free))) && scope.names.all (fun y => !(decide (y.2 = .local) || decide (y.2 = .cell)) || (decide (y.1 ∈ own.map (·.1)) || !decide (y.1 ∈ N))))))
theorem blk_by {N : List Str} {sc scope : Scope} {own : List (Str × Nat)} (h : blkB N sc scope own = true) : BlkOk N sc scope own := by
  unfold blkB at h
  simp only [Bool.and_eq_true, decide_eq_true_eq, List.all_eq_true, Bool.or_eq_true, Bool.not_eq_true', decide_eq_false_iff_not, Bool.or_eq_false_iff] at h
  obtain ⟨h1, h2, h3, h4, h5⟩ := h
  refine ⟨h1, h2, h3, fun y hy e => (h4 y hy).elim (fun z => absurd e z) id, fun y hy e => ?_⟩
  rcases h5 y hy with z | z
  · exact e.elim (fun q => absurd q z.1) fun q => absurd q z.2
  · exact z
/-- what a call's arguments bind, def by def -/
theorem bind1 {B : List Value → Sem (List (Str × Value))} {p1 : Str} (h : ∀ a, B [a] = pure [(p1, a)]) : ∀ us : List Value, us.length = [p1].length → B us = pure ([p1].zip us)
  | [a], _ => h a
theorem bind2 {B : List Value → Sem (List (Str × Value))} {p1 p2 : Str} (h : ∀ a b, B [a, b] = pure [(p1, a), (p2, b)]) : ∀ us : List Value, us.length = [p1, p2].length → B us = pure ([p1, p2].zip us)
  | [a, b], _ => h a b
theorem bind3 {B : List Value → Sem (List (Str × Value))} {p1 p2 p3 : Str} (h : ∀ a b c, B [a, b, c] = pure [(p1, a), (p2, b), (p3, c)]) : ∀ us : List Value, us.length = [p1, p2, p3].length → B us = pure ([p1, p2, p3].zip us)
  | [a, b, c], _ => h a b c
section
variable {P : Program} {w : World} {K : PySem.W.Frag} {mg : Str → Option Value} {base : Heap} {CX : CXT} {k : Nat} {x qual : Str} {params : Arguments} {body : List Stmt} {scope : Scope} {N ps : List Str} {sp : Sp}
/-- a def of the module without defaults -/
theorem dfn (q : ∃ fd, FunD K x qual params body scope [] [] (He.ga K x) fd) (g : mg x = some (.ref (He.ga K x))) (S : FnScope N ps scope) (len : ∀ vs H Q E, sp vs H Q E → vs.length = ps.length)
    (hb : ∀ (kV doc pm : Value) (an : Option Addr) (cdv ct : Value) (us : List Value), us.length = ps.length → bindArgs (PySem.W.fnOf x qual params body scope .none kV doc pm an cdv ct) ⟨us, []⟩ = pure (ps.zip us))
    (walk : ∀ (cdv : Value) (A : Around) (outer : List Env) (s : Shared) (H : Hp) (vs : List V) (Q : VK) (E : XK), Room k (A.deeper (envOfC qual scope s.heap.objs.size (He.ga K x) cdv)) → sp vs H Q E →
      ∃ t, PSs (cxOf CX P w K mg base N qual scope (He.ga K x) cdv A outer s H E) body t ∧ t { nx := fun _ H' => Q .non H', rt := Q } (start N vs) H) : Dfs.Dfn P w K mg base CX (k + 1) x ps sp := by
  obtain ⟨fd, F⟩ := q
  exact ⟨g, F.kp, fd, F.ok S len walk, F.bindsN hb⟩
/-- a method of a class of the module without defaults -/
theorem mfn {C : Addr} (q : ∃ fd, FunD K x qual params body scope [] [] (He.ma K C x) fd) (c : Cls K C) (m : Meth K C x (He.ma K C x)) (S : FnScope N ps scope) (len : ∀ vs H Q E, sp vs H Q E → vs.length = ps.length)
    (hb : ∀ (kV doc pm : Value) (an : Option Addr) (cdv ct : Value) (us : List Value), us.length = ps.length → bindArgs (PySem.W.fnOf x qual params body scope .none kV doc pm an cdv ct) ⟨us, []⟩ = pure (ps.zip us))
    (walk : ∀ (cdv : Value) (A : Around) (outer : List Env) (s : Shared) (H : Hp) (vs : List V) (Q : VK) (E : XK), Room k (A.deeper (envOfC qual scope s.heap.objs.size (He.ma K C x) cdv)) → sp vs H Q E →
      ∃ t, PSs (cxOf CX P w K mg base N qual scope (He.ma K C x) cdv A outer s H E) body t ∧ t { nx := fun _ H' => Q .non H', rt := Q } (start N vs) H) : Dfs.Mfn P w K mg base CX (k + 1) C x ps sp := by
  obtain ⟨fd, F⟩ := q
  exact ⟨c, m, fd, F.ok S len walk, F.bindsN hb⟩
end
end Vls
set_option Elab.async false
set_option linter.all false
set_option maxRecDepth 100000
set_option maxHeartbeats 2000000
/-! sum of a tuple of ints -/
namespace TSum
open PySem PySem.Spec PyProof.Rows L2
section
variable {prog : Program} {w : World} {A : Around} {E : Value → Shared → Prop} {s : Shared} {l : Addr} {its : List Value} {ns : List Int} {Q : Value → Shared → Prop}
theorem sum_rawT (hh : A.handled = none) (hl : s.heap.IsTuple l its.toArray) (hi : IntsAre its ns)
    (h : ∀ h' tk t', (∀ b o, s.heap.get? b = some o → h'.get? b = some o) → Q (.int ns.sum t') { s with heap := h', toks := tk }) : wpAny (model prog w) A (call (.builtin "sum") [.ref l]) Q E s := by
  obtain ⟨xs, e⟩ := hi.allInts.items
  have hn : numsOf (intItems xs).toList = ns := by rw [← e]; exact hi.numsOf
  rw [nums_intItems] at hn
  rw [e] at hl
  refine PySem.W.ktm_sumG hh hl fun h' tk t' hk => ?_
  have := h h' tk t' hk
  rw [preSum_eq, List.take_of_length_le (by simp), hn]; exact this
end
section
variable {X : Cx}
/-- sum(xs), a list of ints or a tuple of them -/
def rSumA (K : PySem.W.Frag) : List V → Hp → VK → Prop := fun vs H Q => ∃ (a : Addr) (ns : List Int), vs = [V.ref a] ∧ (SqL K H a (ns.map V.int) ∨ SqT K H a (ns.map V.int)) ∧ Q (.int ns.sum) H
theorem cr_sumA (hc : X.calm = true) : CallR X (.builtin "sum") (rSumA X.K) := by
  intro pins s σ H vs us Q I r h
  obtain ⟨a, ns, rfl, hs, q⟩ := h
  rw [Vals.ref1 r]
  rcases hs with hs | hs
  · obtain ⟨its, rv, hl, _⟩ := I.list hs
    exact sum_raw (I.ok.hd hc) hl.isList rv.ints fun h' tk t' hk => ⟨.int _, H, I.kept hk, ⟨_, rfl⟩, q⟩
  · obtain ⟨its, rv, hl, _⟩ := I.tuple hs
    exact sum_rawT (I.ok.hd hc) hl rv.ints fun h' tk t' hk => ⟨.int _, H, I.kept hk, ⟨_, rfl⟩, q⟩
end
end TSum
set_option Elab.async false
set_option linter.all false
set_option maxRecDepth 100000
set_option maxHeartbeats 2000000
/-! x == y, where the class of x answers by an own __eq__, whatever y is. -/
namespace Oeq
open PySem PySem.Spec PyProof.Rows L2 Pre
/-- the other operand: an instance, or a text -/
inductive Oth (H : Hp) : V → Value → Prop where
  | ins {b D dx : Addr} {fs : List (Str × V)} (e : H b = some (.ins D dx fs)) : Oth H (.ref b) (.ref D)
  | str (z : Str) : Oth H (.str z) (.type "str")
section
variable {X : Cx} {CX : CXT} {n : Nat} {f C : Addr} {fd : FuncData} {sp : Sp} {E : XK}
theorem Oth.looks {pins : List (Addr × Obj)} {σ : L2.St} {H : Hp} {s : Shared} {y : V} {u t : Value} {M : Model} (o : Oth H y t) (I : Inv X pins σ H s) (r : RelV y u) : PySem.W.Looks M s.heap (typeOf u) t := by
  cases o with
  | ins e =>
    cases (show u = Value.ref _ from r)
    obtain ⟨mB, J, _⟩ := ins_get I.hok e
    obtain ⟨od, J2, _⟩ := J.look
    exact J2.type
  | str z =>
    obtain ⟨k, rfl⟩ := (show ∃ k, u = Value.str z k from r)
    exact .of_pure rfl
def rEqO (K : PySem.W.Frag) (C : Addr) (sp : Sp) (E : XK) : R2 := fun x y H Q => ∃ a dx fs t, x = .ref a ∧ H a = some (.ins C dx fs) ∧ Oth H y t ∧ PySem.W.notFirst K C t = true ∧ sp [x, y] H (fun v H' => ∃ b, v = .bl b ∧ Q (.bl b) H') E
/-- the call of the own method, and what comes back -/
theorem ask {pins : List (Addr × Obj)} {σ : L2.St} {H : Hp} {s : Shared} {a : Addr} {y : V} {u : Value} {Q : VK} {A : Around} (F : FnOk X.prog X.w X.K X.mg X.base CX n f fd ["self", "other"] sp) (hb : Binds X.K fd ["self", "other"] []) (hr : Room n A) (hA : Env0 X.prog X.w X.K X.mg X.base A X.stack s H) (hx : Passes CX X E)
    (I : Inv X pins σ H s) (ry : RelV y u) (q : sp [.ref a, y] H (fun v H' => ∃ b, v = .bl b ∧ Q (.bl b) H') E) :
    wpAny (model X.prog X.w) A (call (.ref f) [.ref a, u]) (fun v s' => ∃ b, v = Value.bool b ∧ EP X pins σ Q (.bool b) s') X.xe s := by
  have hb2 := hb s [Value.ref a, u] I.kIn rfl
  refine wpAny_call (codeAny_mono (F.run A X.stack s H ⟨[Value.ref a, u], []⟩ [Value.ref a, u] [V.ref a, y] _ E hr hA hb2 (.cons rfl (.cons ry .nil)) q) ?_)
  intro out s' back
  cases out with
  | error z => exact hx pins σ H s z s' I back
  | ok fl =>
    cases fl with
    | ret w =>
      obtain ⟨v, H2, I2, rv, b, rfl, q2⟩ := I.after back
      cases (show w = Value.bool b from rv)
      exact ⟨b, rfl, .bl b, H2, I2, rfl, q2⟩
    | next => exact back.elim
    | brk => exact back.elim
    | cont => exact back.elim
theorem op_eqO (m : Meth X.K C "__eq__" f) (F : FnOk X.prog X.w X.K X.mg X.base CX n f fd ["self", "other"] sp) (hb : Binds X.K fd ["self", "other"] []) (hr : Room n X.A) (hx : Passes CX X E) : OpR X (compareOp .Eq) (rEqO X.K C sp E) := by
  intro pins s σ H x y v u Q I rx ry h
  obtain ⟨a, dx, fs, t, rfl, ea, ot, nf, q⟩ := h
  cases (show v = Value.ref a from rx)
  obtain ⟨mA, J, _⟩ := ins_get I.hok ea
  obtain ⟨od, J2, _⟩ := J.look
  obtain ⟨mF, hF⟩ := I.fr
  show wpAny _ _ (richCompare .Eq (.ref a) u) _ _ _
  refine PySem.W.cmp_K (op := .Eq) (tb := t) hr.units0 hF I.ok.mod.kin J2 (ot.looks I ry) nf m.at_ m.fn ?_
  refine wpAny_mono (ask F hb hr I.env0 hx I ry q) ?_ fun _ _ z => z
  rintro w s' ⟨b, rfl, q2⟩
  exact q2
/-- the other operand is of a class below, which answers first -/
theorem below {M : Program} {w : World} {A : Around} {E0 : Value → Shared → Prop} {K : PySem.W.Frag} {s : Shared} {a b D : Addr} {oa ob : Obj} {ca cb : Option Obj} {R : Value → Shared → Prop} (hu : A.units < cLine) (kin : K.In s.heap)
    (ha : PySem.W.InstAt s.heap a oa C ca) (hb : PySem.W.InstAt s.heap b ob D cb) (hn : (Value.ref C != Value.ref D) = true) (hs : PySem.W.subIn K (.ref D) (.ref C) = some true)
    (e1 : PySem.W.findIn K (.ref D) "__eq__" = some (some (.ref f))) (e2 : PySem.W.isFn K (.ref f) = true)
    (go : wpAny (model M w) A (call (.ref f) [.ref b, .ref a]) (fun v s' => ∃ c, v = Value.bool c ∧ R (.bool c) s') E0 s) : wpAny (model M w) A (richCompare .Eq (.ref a) (.ref b)) R E0 s := by
  have tried : wpAny (model M w) A (tryCompare (.ref b) "__eq__" (.ref a)) (fun r s' => ∃ c, r = some (Value.bool c) ∧ R (.bool c) s') E0 s := by
    unfold tryCompare
    refine wpAny_bind (PySem.W.ifBound_K kin hb e1 e2 (wpAny_mono go ?_ fun _ _ z => z))
    rintro v s' ⟨c, rfl, q⟩
    exact wpAny_pure ⟨c, rfl, q⟩
  unfold richCompare
  simp only [oneThing_ref, cmpInfo]
  refine wpAny_holding (wpAny_bind (wpAny_cRoomFor hu (wpAny_bind (ha.type.here (wpAny_bind (hb.type.here ?_))))))
  rw [if_pos hn]
  refine wpAny_bind ((PySem.W.looks_subIn kin hs).here ?_)
  rw [if_pos rfl]
  refine wpAny_bind (wpAny_mono tried ?_ fun _ _ z => z)
  rintro r s' ⟨c, rfl, q⟩
  exact wpAny_bind (wpAny_rule (wpAny_pure q))
/-- x == y, y of a class D below that of x -/
def rEqB (C D : Addr) (sp : Sp) (E : XK) : R2 := fun x y H Q => ∃ a dx fs b dy gs, x = .ref a ∧ H a = some (.ins C dx fs) ∧ y = .ref b ∧ H b = some (.ins D dy gs) ∧ sp [y, x] H (fun v H' => ∃ c, v = .bl c ∧ Q (.bl c) H') E
theorem op_eqB {D : Addr} (m : Meth X.K D "__eq__" f) (F : FnOk X.prog X.w X.K X.mg X.base CX n f fd ["self", "other"] sp) (hb : Binds X.K fd ["self", "other"] []) (hr : Room n X.A) (hx : Passes CX X E) (hn : (Value.ref C != Value.ref D) = true) (hs : PySem.W.subIn X.K (.ref D) (.ref C) = some true) :
    OpR X (compareOp .Eq) (rEqB C D sp E) := by
  intro pins s σ H x y v u Q I rx ry h
  obtain ⟨a, dx, fs, b, dy, gs, rfl, ea, rfl, eb, q⟩ := h
  cases (show v = Value.ref a from rx)
  cases (show u = Value.ref b from ry)
  obtain ⟨mA, J, _⟩ := ins_get I.hok ea
  obtain ⟨oa, J1, _⟩ := J.look
  obtain ⟨mB, J, _⟩ := ins_get I.hok eb
  obtain ⟨ob, J2, _⟩ := J.look
  show wpAny _ _ (richCompare .Eq (.ref a) (.ref b)) _ _ _
  exact below hr.units0 I.kIn J1 J2 hn hs m.at_ m.fn (ask (y := .ref a) (u := Value.ref a) F hb hr I.env0 hx I rfl q)
end
end Oeq
set_option Elab.async false
set_option linter.all false
set_option maxRecDepth 100000
set_option maxHeartbeats 2000000
/-! x != y, where the class of x says only ==. -/
namespace Oeq
open PySem PySem.Spec PyProof.Rows L2 Pre
section
variable {X : Cx} {CX : CXT} {n : Nat} {f C : Addr} {fd : FuncData} {sp : Sp} {E : XK}
/-- object's own != : the other way about of what == says -/
theorem other_way {P : Program} {w : World} {A : Around} {E0 : Value → Shared → Prop} {K : PySem.W.Frag} {s : Shared} {a : Addr} {oa : Obj} {ca : Option Obj} {u : Value} {R : Fin → Shared → Prop} (hu : A.units < cLine) (kin : K.In s.heap)
    (ha : PySem.W.InstAt s.heap a oa C ca) (e1 : PySem.W.findIn K (.ref C) "__eq__" = some (some (.ref f))) (e2 : PySem.W.isFn K (.ref f) = true)
    (go : wpAny (model P w) A (call (.ref f) [.ref a, u]) (fun v s' => ∃ b, v = Value.bool b ∧ R (.done (.ret (.bool (!b)))) s') E0 s) :
    wpAny (model P w) A (Builtin.«object.__ne__» ⟨[.ref a, u], []⟩) R E0 s := by
  have said : wpAny (model P w) A (callSpecialIfBound? (.ref a) "__eq__" [u]) (fun r s' => ∃ b, r = some (Value.bool b) ∧ R (.done (.ret (.bool (!b)))) s') E0 s := by
    refine PySem.W.ifBound_K kin ha e1 e2 (wpAny_mono go ?_ fun _ _ z => z)
    rintro v s' ⟨b, rfl, q⟩
    exact ⟨b, rfl, q⟩
  unfold Builtin.«object.__ne__»
  show wpAny _ _ (slotArgs "__ne__" 1 ⟨[.ref a, u], []⟩ >>= _) _ _ _
  rw [show slotArgs "__ne__" 1 ⟨[.ref a, u], []⟩ = pure (.ref a, [u]) from rfl]
  refine wpAny_bind (wpAny_pure ?_)
  refine wpAny_bind (wpAny_cRoomFor hu ?_)
  refine wpAny_bind (wpAny_mono said ?_ fun _ _ z => z)
  rintro r s' ⟨b, rfl, q⟩
  refine wpAny_bind (wpAny_truthy_bool ?_)
  exact wpAny_pure q
theorem slot_ok {P : Program} {w : World} {A : Around} {E0 : Value → Shared → Prop} {K : PySem.W.Frag} {s : Shared} {a : Addr} {oa : Obj} {ca : Option Obj} {u : Value} {R : Unit → Shared → Prop} (kin : K.In s.heap)
    (ha : PySem.W.InstAt s.heap a oa C ca) (ho : PySem.W.mroIn K C (.type "object") = some true) (q : R () s) : wpAny (model P w) A (checkBuiltinCall "object.__ne__" ⟨[.ref a, u], []⟩) R E0 s := by
  have L : PySem.W.Looks (model P w) s.heap (isInstance (.ref a) (.type "object")) true := ha.type.andThen (PySem.W.looks_mroIn kin ho)
  have args := F.cmpArgs_ne (.ref a) u
  simp only [checkBuiltinCall, F.cmpKind_ne, F.cmpSplit_ne]
  refine wpAny_bind (L.here ?_)
  unfold argsOk at args
  cases hs : Manifest.signature? "object.__ne__" with
  | none => exact wpAny_pure q
  | some sig =>
    rw [hs] at args
    have e : Bind.checkArgs "object.__ne__" sig ⟨[.ref a, u], []⟩ = pure () := args
    show wpAny _ _ (Bind.checkArgs "object.__ne__" sig ⟨[.ref a, u], []⟩) _ _ _
    rw [e]
    exact wpAny_pure q
def rNeO (K : PySem.W.Frag) (C : Addr) (sp : Sp) (E : XK) : R2 := fun x y H Q => ∃ a dx fs t, x = .ref a ∧ H a = some (.ins C dx fs) ∧ Oth H y t ∧ PySem.W.notFirst K C t = true ∧ sp [x, y] H (fun v H' => ∃ b, v = .bl b ∧ Q (.bl (!b)) H') E
theorem op_neO (m : Meth X.K C "__eq__" f) (FO : FnOk X.prog X.w X.K X.mg X.base CX n f fd ["self", "other"] sp) (hb : Binds X.K fd ["self", "other"] []) (hr : Room (n + 2) X.A) (hx : Passes CX X E)
    (hne : PySem.W.findIn X.K (.ref C) "__ne__" = some (some (.builtin "object.__ne__"))) (ho : PySem.W.mroIn X.K C (.type "object") = some true) : OpR X (compareOp .NotEq) (rNeO X.K C sp E) := by
  intro pins s σ H x y v u Q I rx ry h
  obtain ⟨a, dx, fs, t, rfl, ea, ot, nf, q⟩ := h
  cases (show v = Value.ref a from rx)
  obtain ⟨mA, J, _⟩ := ins_get I.hok ea
  obtain ⟨od, J2, _⟩ := J.look
  have kin := I.kIn
  have slot := F.cmp_object.ne
  have asked : wpAny (model X.prog X.w) X.A (tryCompare (.ref a) "__ne__" u) (fun r s' => ∃ b, r = some (Value.bool b) ∧ EP X pins σ Q (.bool b) s') X.xe s := by
    have rung : wpAny (model X.prog X.w) X.A (call (.builtin "object.__ne__") [.ref a, u]) (fun v s' => ∃ b, v = Value.bool b ∧ EP X pins σ Q (.bool b) s') X.xe s := by
      refine wpAny_call (codeAny_call_builtin slot.plain F.cmpEntry_ne (slot_ok kin J2 ho ?_))
      refine other_way (A := X.A.in1) hr.in1.units0 kin J2 m.at_ m.fn ?_
      have same : (fun v H' => ∃ b, v = V.bl b ∧ (fun v H' => ∃ b, v = V.bl b ∧ Q (.bl (!b)) H') (.bl b) H') = (fun v H' => ∃ b, v = V.bl b ∧ Q (.bl (!b)) H' : VK) := by
        funext v H'
        refine propext ⟨?_, ?_⟩
        · rintro ⟨b, rfl, c, e, q⟩
          obtain rfl : b = c := V.bl.inj e
          exact ⟨b, rfl, q⟩
        · rintro ⟨b, rfl, q⟩
          exact ⟨b, rfl, b, rfl, q⟩
      refine wpAny_mono (ask (A := X.A.in1) (Q := fun v H' => ∃ b, v = V.bl b ∧ Q (.bl (!b)) H') FO hb (hr.in1.mono (by omega)) I.env0.in1 hx I ry (by rw [same]; exact q)) ?_ fun _ _ z => z
      rintro v s' ⟨b, rfl, w, H2, I2, rw2, c, rfl, q2⟩
      cases (show Value.bool b = Value.bool c from rw2)
      exact ⟨b, rfl, !b, rfl, .bl (!b), H2, I2, rfl, q2⟩
    unfold tryCompare
    refine wpAny_bind ?_
    simp only [callSpecialIfBound?, bindSpecialIfBound?, specialOf]
    refine wpAny_holding (wpAny_bind (wpAny_bind (wpAny_bind (J2.type.here ((PySem.W.looks_findIn kin hne).here ?_)))))
    simp only [slot.bind]
    have fin : wpAny (model X.prog X.w) X.A (call (.builtin "object.__ne__") ([.ref a] ++ [u]) >>= fun v => pure (some v)) (fun r s' => wpAny (model X.prog X.w) X.A (match r with | some .notImplemented | none => pure none | some v => pure (some v)) (fun r s' => ∃ b, r = some (Value.bool b) ∧ EP X pins σ Q (.bool b) s') X.xe s') X.xe s := by
      refine wpAny_bind (wpAny_mono rung ?_ fun _ _ z => z)
      rintro v s' ⟨b, rfl, q⟩
      exact wpAny_pure (wpAny_pure ⟨b, rfl, q⟩)
    refine wpAny_bind (wpAny_askSetting (wpAny_ite ?_))
    split
    · exact wpAny_bind (wpAny_pure (wpAny_pure fin))
    · exact wpAny_tryCatch (wpAny_bind (wpAny_pure (wpAny_pure fin)))
  show wpAny _ _ (richCompare .NotEq (.ref a) u) _ _ _
  have last : wpAny (model X.prog X.w) X.A (tryCompare (.ref a) "__ne__" u) (fun r s' => ∃ b, r = some (Value.bool b) ∧ EP X pins σ Q (.bool b) s') X.xe s := asked
  unfold richCompare
  simp only [oneThing_ref, cmpInfo]
  refine wpAny_holding (wpAny_bind (wpAny_cRoomFor hr.units0 (wpAny_bind (J2.type.here (wpAny_bind ((ot.looks I ry).here ?_))))))
  have rest : wpAny (model X.prog X.w) X.A (tryCompare (.ref a) "__ne__" u) (fun r s' => ∃ b, r = some (Value.bool b) ∧ EP X pins σ Q (.bool b) s') X.xe s := last
  by_cases c : (Value.ref C != t) = true
  · rw [if_pos c]
    have e : PySem.W.subIn X.K t (.ref C) = some false := by
      rcases Bool.or_eq_true_iff.mp nf with z | z
      · rw [beq_iff_eq.mp z] at c
        simp at c
      · exact beq_iff_eq.mp z
    refine wpAny_bind ((PySem.W.looks_subIn kin e).here ?_)
    rw [if_neg (by decide)]
    refine wpAny_bind (wpAny_mono rest ?_ fun _ _ z => z)
    rintro r s' ⟨b, rfl, q⟩
    exact wpAny_pure q
  · rw [if_neg c]
    refine wpAny_bind (wpAny_pure ?_)
    rw [if_neg (by decide)]
    refine wpAny_bind (wpAny_mono rest ?_ fun _ _ z => z)
    rintro r s' ⟨b, rfl, q⟩
    exact wpAny_pure q
end
end Oeq
set_option Elab.async false
set_option linter.all false
set_option maxRecDepth 100000
set_option maxHeartbeats 2000000
/-! x == y and x != y by an own __eq__, y of any kind whose type is known. -/
namespace Oeq
open PySem PySem.Spec PyProof.Rows L2 Pre
section
variable {X : Cx} {CX : CXT} {n : Nat} {f C : Addr} {fd : FuncData} {sp : Sp} {E : XK}
theorem looksX {pins : List (Addr × Obj)} {σ : L2.St} {H : Hp} {s : Shared} {y : V} {u t : Value} {M : Model} (I : Inv X pins σ H s) (r : RelV y u) (o : TyX X.K H y t) : PySem.W.Looks M s.heap (typeOf u) t := by
  obtain ⟨P, k, hp, _⟩ := kit_of I r o
  exact k.ty M s.heap I.kIn hp
def rEqX (K : PySem.W.Frag) (C : Addr) (sp : Sp) (E : XK) : R2 := fun x y H Q => ∃ a dx fs t, x = .ref a ∧ H a = some (.ins C dx fs) ∧ TyX K H y t ∧ PySem.W.notFirst K C t = true ∧ sp [x, y] H (fun v H' => ∃ b, v = .bl b ∧ Q (.bl b) H') E
theorem op_eqX (m : Meth X.K C "__eq__" f) (F : FnOk X.prog X.w X.K X.mg X.base CX n f fd ["self", "other"] sp) (hb : Binds X.K fd ["self", "other"] []) (hr : Room n X.A) (hx : Passes CX X E) : OpR X (compareOp .Eq) (rEqX X.K C sp E) := by
  intro pins s σ H x y v u Q I rx ry h
  obtain ⟨a, dx, fs, t, rfl, ea, ot, nf, q⟩ := h
  cases (show v = Value.ref a from rx)
  obtain ⟨mA, J, _⟩ := ins_get I.hok ea
  obtain ⟨od, J2, _⟩ := J.look
  obtain ⟨mF, hF⟩ := I.fr
  show wpAny _ _ (richCompare .Eq (.ref a) u) _ _ _
  refine PySem.W.cmp_K (op := .Eq) (tb := t) hr.units0 hF I.ok.mod.kin J2 (looksX I ry ot) nf m.at_ m.fn ?_
  refine wpAny_mono (ask F hb hr I.env0 hx I ry q) ?_ fun _ _ z => z
  rintro w s' ⟨b, rfl, q2⟩
  exact q2
def rNeX (K : PySem.W.Frag) (C : Addr) (sp : Sp) (E : XK) : R2 := fun x y H Q => ∃ a dx fs t, x = .ref a ∧ H a = some (.ins C dx fs) ∧ TyX K H y t ∧ PySem.W.notFirst K C t = true ∧ sp [x, y] H (fun v H' => ∃ b, v = .bl b ∧ Q (.bl (!b)) H') E
theorem op_neX (m : Meth X.K C "__eq__" f) (FO : FnOk X.prog X.w X.K X.mg X.base CX n f fd ["self", "other"] sp) (hb : Binds X.K fd ["self", "other"] []) (hr : Room (n + 2) X.A) (hx : Passes CX X E)
    (hne : PySem.W.findIn X.K (.ref C) "__ne__" = some (some (.builtin "object.__ne__"))) (ho : PySem.W.mroIn X.K C (.type "object") = some true) : OpR X (compareOp .NotEq) (rNeX X.K C sp E) := by
  intro pins s σ H x y v u Q I rx ry h
  obtain ⟨a, dx, fs, t, rfl, ea, ot, nf, q⟩ := h
  cases (show v = Value.ref a from rx)
  obtain ⟨mA, J, _⟩ := ins_get I.hok ea
  obtain ⟨od, J2, _⟩ := J.look
  have kin := I.kIn
  have slot := F.cmp_object.ne
  have asked : wpAny (model X.prog X.w) X.A (tryCompare (.ref a) "__ne__" u) (fun r s' => ∃ b, r = some (Value.bool b) ∧ EP X pins σ Q (.bool b) s') X.xe s := by
    have rung : wpAny (model X.prog X.w) X.A (call (.builtin "object.__ne__") [.ref a, u]) (fun v s' => ∃ b, v = Value.bool b ∧ EP X pins σ Q (.bool b) s') X.xe s := by
      refine wpAny_call (codeAny_call_builtin slot.plain F.cmpEntry_ne (slot_ok kin J2 ho ?_))
      refine other_way (A := X.A.in1) hr.in1.units0 kin J2 m.at_ m.fn ?_
      have same : (fun v H' => ∃ b, v = V.bl b ∧ (fun v H' => ∃ b, v = V.bl b ∧ Q (.bl (!b)) H') (.bl b) H') = (fun v H' => ∃ b, v = V.bl b ∧ Q (.bl (!b)) H' : VK) := by
        funext v H'
        refine propext ⟨?_, ?_⟩
        · rintro ⟨b, rfl, c, e, q⟩
          obtain rfl : b = c := V.bl.inj e
          exact ⟨b, rfl, q⟩
        · rintro ⟨b, rfl, q⟩
          exact ⟨b, rfl, b, rfl, q⟩
      refine wpAny_mono (ask (A := X.A.in1) (Q := fun v H' => ∃ b, v = V.bl b ∧ Q (.bl (!b)) H') FO hb (hr.in1.mono (by omega)) I.env0.in1 hx I ry (by rw [same]; exact q)) ?_ fun _ _ z => z
      rintro v s' ⟨b, rfl, w, H2, I2, rw2, c, rfl, q2⟩
      cases (show Value.bool b = Value.bool c from rw2)
      exact ⟨b, rfl, !b, rfl, .bl (!b), H2, I2, rfl, q2⟩
    unfold tryCompare
    refine wpAny_bind ?_
    simp only [callSpecialIfBound?, bindSpecialIfBound?, specialOf]
    refine wpAny_holding (wpAny_bind (wpAny_bind (wpAny_bind (J2.type.here ((PySem.W.looks_findIn kin hne).here ?_)))))
    simp only [slot.bind]
    have fin : wpAny (model X.prog X.w) X.A (call (.builtin "object.__ne__") ([.ref a] ++ [u]) >>= fun v => pure (some v)) (fun r s' => wpAny (model X.prog X.w) X.A (match r with | some .notImplemented | none => pure none | some v => pure (some v)) (fun r s' => ∃ b, r = some (Value.bool b) ∧ EP X pins σ Q (.bool b) s') X.xe s') X.xe s := by
      refine wpAny_bind (wpAny_mono rung ?_ fun _ _ z => z)
      rintro v s' ⟨b, rfl, q⟩
      exact wpAny_pure (wpAny_pure ⟨b, rfl, q⟩)
    refine wpAny_bind (wpAny_askSetting (wpAny_ite ?_))
    split
    · exact wpAny_bind (wpAny_pure (wpAny_pure fin))
    · exact wpAny_tryCatch (wpAny_bind (wpAny_pure (wpAny_pure fin)))
  show wpAny _ _ (richCompare .NotEq (.ref a) u) _ _ _
  have last : wpAny (model X.prog X.w) X.A (tryCompare (.ref a) "__ne__" u) (fun r s' => ∃ b, r = some (Value.bool b) ∧ EP X pins σ Q (.bool b) s') X.xe s := asked
  unfold richCompare
  simp only [oneThing_ref, cmpInfo]
  refine wpAny_holding (wpAny_bind (wpAny_cRoomFor hr.units0 (wpAny_bind (J2.type.here (wpAny_bind ((looksX I ry ot).here ?_))))))
  have rest : wpAny (model X.prog X.w) X.A (tryCompare (.ref a) "__ne__" u) (fun r s' => ∃ b, r = some (Value.bool b) ∧ EP X pins σ Q (.bool b) s') X.xe s := last
  by_cases c : (Value.ref C != t) = true
  · rw [if_pos c]
    have e : PySem.W.subIn X.K t (.ref C) = some false := by
      rcases Bool.or_eq_true_iff.mp nf with z | z
      · rw [beq_iff_eq.mp z] at c
        simp at c
      · exact beq_iff_eq.mp z
    refine wpAny_bind ((PySem.W.looks_subIn kin e).here ?_)
    rw [if_neg (by decide)]
    refine wpAny_bind (wpAny_mono rest ?_ fun _ _ z => z)
    rintro r s' ⟨b, rfl, q⟩
    exact wpAny_pure q
  · rw [if_neg c]
    refine wpAny_bind (wpAny_pure ?_)
    rw [if_neg (by decide)]
    refine wpAny_bind (wpAny_mono rest ?_ fun _ _ z => z)
    rintro r s' ⟨b, rfl, q⟩
    exact wpAny_pure q
end
end Oeq
set_option Elab.async false
set_option linter.all false
set_option maxRecDepth 100000
set_option maxHeartbeats 2000000
/-! o.m(k = v, ..): a method by keywords alone. -/
namespace Mk0
open PySem PySem.Spec PyProof.Rows L2 Pre
def tMethK (C : Addr) (m : Str) (n : Nat) (sp : Sp) (gV : List V → List V → List V) (E : XK) (ta : TE) (tk : TA) : TE := fun σ H Q => ta σ H fun x H1 => ∃ a dx fs, x = .ref a ∧ H1 a = some (.ins C dx fs) ∧ fs.lookup m = none ∧ tk σ H1 fun zs H2 => zs.length = n ∧ sp (gV [x] zs) H2 Q E
theorem pe_methK {X : Cx} {CX : CXT} {k : Nat} {f C : Addr} {fd : FuncData} {ps ks : List Str} {sp : Sp} {E : XK} {m : Str} {pos apos : Pos} {o : Expr} {kws : List Keyword} {ta : TE} {tk : TA} {g : List Value → List Value → List Value} {gV : List V → List V → List V} {pl : Sem Bool}
    (he : PE X o ta) (c : Cls X.K C) (hm : Meth X.K C m f) (F : FnOk X.prog X.w X.K X.mg X.base CX k f fd ps sp) (hr : Room k X.A) (hb : KBn X.K fd ps 1 ks g gV) (hx : Passes CX X E) (hkw : PK X kws tk)
    (hall : (backToKw pos (keywordEach kws X.env)).all (·.1.isSome) = true := by rfl) (hks : (backToKw pos (keywordEach kws X.env)).filterMap (·.1) = ks := by rfl)
    (hpl : ((backTo pos (starEach [] X.env)).any (·.1) || (backToKw pos (keywordEach kws X.env)).any (·.1.isNone)) = false := by rfl)
    (ht : eval (.Call (.Attribute o m apos) [] kws pos) X.env = (do
      let ov ← eval o X.env
      standAt apos.atName
      let (f, first) ← holding [ov] (getMethod ov m pl)
      callWith pos f first (backTo pos (starEach [] X.env)) (backToKw pos (keywordEach kws X.env))) := by rfl) :
    PE X (.Call (.Attribute o m apos) [] kws pos) (tMethK C m ks.length sp gV E ta tk) := by
  refine ⟨fun pins s σ H Q I h => ?_⟩
  refine PySem.W.methodCall_KW (pl := pl) (thn (he.run pins s σ H _ I h) ?_) ht
  rintro u s1 ⟨x, H1, I1, rx, a, dx, fs, rfl, ea, l, q⟩
  cases (show u = Value.ref a from rx)
  refine getmeth_ok I1 ea c hm l ?_
  refine PySem.W.callWith_KW0 (first := [.ref a]) (h₀ := X.base) I.ok.mod.kin hm.kp hall (thn (hkw.run pos pins s1 σ H1 _ I1 q) ?_) hpl
  rintro ws s2 ⟨zs, H2, I2, rz, l2, q2⟩
  refine ⟨I2.kIn, ?_⟩
  rw [hks]
  exact run_fnN (us := [.ref a]) (vs := [.ref a]) F hr hb hx I2 (.cons rfl .nil) rz rfl l2 q2
/-- two positional names, the keywords in this order or the other -/
theorem kb1 {K : PySem.W.Frag} {fd : FuncData} {p0 p1 : Str} (h : ∀ (s : Shared) (a b : Value), K.In s.heap → BindsTo s fd ⟨[a], [p1].zip [b]⟩ ([p0, p1].zip [a, b])) : KBn K fd [p0, p1] 1 [p1] (fun us ws => us ++ ws) (fun vs zs => vs ++ zs) := by
  refine ⟨fun s us ws X l1 l2 => ?_, fun r1 r2 => r1.append r2⟩
  match us, ws, l1, l2 with
  | [a], [b], _, _ => exact h s a b X
theorem kb2 {K : PySem.W.Frag} {fd : FuncData} {p0 p1 p2 : Str} (h : ∀ (s : Shared) (a b c : Value), K.In s.heap → BindsTo s fd ⟨[a], [p2, p1].zip [c, b]⟩ ([p0, p1, p2].zip [a, b, c])) : KBn K fd [p0, p1, p2] 1 [p2, p1] (fun us ws => us ++ ws.reverse) (fun vs zs => vs ++ zs.reverse) := by
  refine ⟨fun s us ws X l1 l2 => ?_, fun {vs us zs ws} r1 r2 => r1.append ?_⟩
  · match us, ws, l1, l2 with
    | [a], [c, b], _, _ => exact h s a b c X
  · induction r2 with
    | nil => exact .nil
    | cons a b ih =>
      rw [List.reverse_cons, List.reverse_cons]
      exact ih.append (.cons a .nil)
section
variable {P : Program} {w : World} {K : PySem.W.Frag} {mg : Str → Option Value} {base : Heap} {CX : CXT} {k : Nat} {x qual : Str} {params : Arguments} {body : List Stmt} {scope : Scope} {N : List Str} {sp : Sp} {C : Addr} {p0 p1 p2 : Str}
/-- a method of two parameters, also by its keyword -/
structure Mk1 (P : Program) (w : World) (K : PySem.W.Frag) (mg : Str → Option Value) (base : Heap) (CX : CXT) (k : Nat) (C : Addr) (m p0 p1 : Str) (sp : Sp) : Prop where
  cl : Cls K C
  mt : Meth K C m (He.ma K C m)
  ok : ∃ fd, FnOk P w K mg base CX k (He.ma K C m) fd [p0, p1] sp ∧ Binds K fd [p0, p1] [] ∧ KBn K fd [p0, p1] 1 [p1] (fun us ws => us ++ ws) (fun vs zs => vs ++ zs)
/-- a method of three, also by the two keywords, the last one first -/
structure Mk2 (P : Program) (w : World) (K : PySem.W.Frag) (mg : Str → Option Value) (base : Heap) (CX : CXT) (k : Nat) (C : Addr) (m p0 p1 p2 : Str) (sp : Sp) : Prop where
  cl : Cls K C
  mt : Meth K C m (He.ma K C m)
  ok : ∃ fd, FnOk P w K mg base CX k (He.ma K C m) fd [p0, p1, p2] sp ∧ Binds K fd [p0, p1, p2] [] ∧ KBn K fd [p0, p1, p2] 1 [p2, p1] (fun us ws => us ++ ws.reverse) (fun vs zs => vs ++ zs.reverse)
theorem Mk1.mfn {m : Str} (h : Mk1 P w K mg base CX k C m p0 p1 sp) : Dfs.Mfn P w K mg base CX k C m [p0, p1] sp := by
  obtain ⟨fd, a, b, _⟩ := h.ok
  exact ⟨h.cl, h.mt, fd, a, b⟩
theorem Mk2.mfn {m : Str} (h : Mk2 P w K mg base CX k C m p0 p1 p2 sp) : Dfs.Mfn P w K mg base CX k C m [p0, p1, p2] sp := by
  obtain ⟨fd, a, b, _⟩ := h.ok
  exact ⟨h.cl, h.mt, fd, a, b⟩
theorem mfk1 (q : ∃ fd, FunD K x qual params body scope [] [] (He.ma K C x) fd) (c : Cls K C) (m : Meth K C x (He.ma K C x)) (S : FnScope N [p0, p1] scope) (len : ∀ vs H Q E, sp vs H Q E → vs.length = [p0, p1].length)
    (hb : ∀ (kV doc pm : Value) (an : Option Addr) (cdv ct : Value) (a b : Value), bindArgs (PySem.W.fnOf x qual params body scope .none kV doc pm an cdv ct) ⟨[a, b], []⟩ = pure [(p0, a), (p1, b)])
    (hk : ∀ (kV doc pm : Value) (an : Option Addr) (cdv ct : Value) (a b : Value), bindArgs (PySem.W.fnOf x qual params body scope .none kV doc pm an cdv ct) ⟨[a], [(p1, b)]⟩ = pure [(p0, a), (p1, b)])
    (walk : ∀ (cdv : Value) (A : Around) (outer : List Env) (s : Shared) (H : Hp) (vs : List V) (Q : VK) (E : XK), Room k (A.deeper (envOfC qual scope s.heap.objs.size (He.ma K C x) cdv)) → sp vs H Q E →
      ∃ t, PSs (cxOf CX P w K mg base N qual scope (He.ma K C x) cdv A outer s H E) body t ∧ t { nx := fun _ H' => Q .non H', rt := Q } (start N vs) H) : Mk1 P w K mg base CX (k + 1) C x p0 p1 sp := by
  obtain ⟨fd, F⟩ := q
  refine ⟨c, m, fd, F.ok S len walk, F.bindsN fun kV doc pm an cdv ct => Vls.bind2 fun a b => hb kV doc pm an cdv ct a b, kb1 fun s a b _ => ?_⟩
  obtain ⟨oc, od, dV, kV, doc, pm, an, cdv, ct, osl, rfl, lk, hcd, hD, hK⟩ := F.ex
  rcases hD with ⟨_, rfl⟩ | ⟨e, _⟩
  · exact .of_eq (hk _ _ _ _ _ _ a b)
  · exact absurd rfl e
theorem mfk2 (q : ∃ fd, FunD K x qual params body scope [] [] (He.ma K C x) fd) (c : Cls K C) (m : Meth K C x (He.ma K C x)) (S : FnScope N [p0, p1, p2] scope) (len : ∀ vs H Q E, sp vs H Q E → vs.length = [p0, p1, p2].length)
    (hb : ∀ (kV doc pm : Value) (an : Option Addr) (cdv ct : Value) (a b c : Value), bindArgs (PySem.W.fnOf x qual params body scope .none kV doc pm an cdv ct) ⟨[a, b, c], []⟩ = pure [(p0, a), (p1, b), (p2, c)])
    (hk : ∀ (kV doc pm : Value) (an : Option Addr) (cdv ct : Value) (a b c : Value), bindArgs (PySem.W.fnOf x qual params body scope .none kV doc pm an cdv ct) ⟨[a], [(p2, c), (p1, b)]⟩ = pure [(p0, a), (p1, b), (p2, c)])
    (walk : ∀ (cdv : Value) (A : Around) (outer : List Env) (s : Shared) (H : Hp) (vs : List V) (Q : VK) (E : XK), Room k (A.deeper (envOfC qual scope s.heap.objs.size (He.ma K C x) cdv)) → sp vs H Q E →
      ∃ t, PSs (cxOf CX P w K mg base N qual scope (He.ma K C x) cdv A outer s H E) body t ∧ t { nx := fun _ H' => Q .non H', rt := Q } (start N vs) H) : Mk2 P w K mg base CX (k + 1) C x p0 p1 p2 sp := by
  obtain ⟨fd, F⟩ := q
  refine ⟨c, m, fd, F.ok S len walk, F.bindsN fun kV doc pm an cdv ct => Vls.bind3 fun a b c => hb kV doc pm an cdv ct a b c, kb2 fun s a b c _ => ?_⟩
  obtain ⟨oc, od, dV, kV, doc, pm, an, cdv, ct, osl, rfl, lk, hcd, hD, hK⟩ := F.ex
  rcases hD with ⟨_, rfl⟩ | ⟨e, _⟩
  · exact .of_eq (hk _ _ _ _ _ _ a b c)
  · exact absurd rfl e
end
end Mk0
set_option Elab.async false
set_option linter.all false
set_option maxRecDepth 100000
set_option maxHeartbeats 2000000
/-! properties of own classes, told by the Hook -/
namespace Prp
open PySem PySem.Spec PyProof.Rows L2 He
/-- the getter -/
def gp (K : PySem.W.Frag) (C : Addr) (m : Str) : Addr := match PySem.W.recIn K (ma K C m) "property" with
  | some (.ref g :: _) => g
  | _ => 0
def propB (x m qual : Str) (K : PySem.W.Frag) : Bool := (match PySem.W.recIn K (ma K (ga K x) m) "property" with
  | some (.ref _ :: _) => true
  | _ => false) && (decide (PySem.W.findIn K (.ref (ga K x)) m = some (some (.ref (ma K (ga K x) m)))) && (decide (PySem.W.specialIn K (.ref (ma K (ga K x) m)) "__get__" = some (some (.builtin "property.__get__"))) &&
    (decide (PySem.W.takesIn K (.ref (ma K (ga K x) m)) = some true) && (PySem.W.keepIn K (.ref (gp K (ga K x) m)) && Hkc.mdB K (gp K (ga K x) m) qual))))
theorem propB_ok {K : PySem.W.Frag} {x m qual : Str} (h : propB x m qual K = true) : PropOf K (ga K x) m (ma K (ga K x) m) (gp K (ga K x) m) ∧ PySem.W.keepIn K (.ref (gp K (ga K x) m)) = true ∧ Hkc.mdB K (gp K (ga K x) m) qual = true := by
  unfold propB at h
  simp only [Bool.and_eq_true, decide_eq_true_eq] at h
  obtain ⟨h1, h2, h3, h4, h5, h6⟩ := h
  refine ⟨⟨h2, h3, h4, ?_⟩, h5, h6⟩
  unfold gp
  cases q : PySem.W.recIn K (ma K (ga K x) m) "property" with
  | none =>
    rw [q] at h1
    cases h1
  | some l =>
    rw [q] at h1
    split at h1
    · rename_i g r e
      cases e
      exact ⟨r, rfl⟩
    · cases h1
/-- the getter as a def -/
theorem funP {K : PySem.W.Frag} {x m name qual : Str} {ps : Arguments} {body : List Stmt} {sc : Scope} (e : Hkc.fv K (gp K (ga K x) m) = (Hkc.Md.mk (fun K => gp K (ga K x) m) name qual ps body sc []).fv) (h : PySem.W.keepIn K (.ref (gp K (ga K x) m)) = true) (h2 : Hkc.mdB K (gp K (ga K x) m) qual = true) :
    ∃ fd, FunD K name qual ps body sc [] [] (gp K (ga K x) m) fd := by
  obtain ⟨oc, od, kV, doc, pm, an, cdv, ct, osl, lk, hc⟩ := Hkc.fn_md e rfl h2
  exact ⟨_, ⟨oc, od, .none, kV, doc, pm, an, cdv, ct, osl, rfl, lk, hc, .inl ⟨rfl, rfl⟩, .inl rfl⟩, h⟩
end Prp
set_option Elab.async false
set_option linter.all false
set_option maxRecDepth 100000
set_option maxHeartbeats 2000000
/-! Small data: what == and repr ask of it. -/
namespace Pre
open PySem PySem.Spec PyProof.Rows L2
theorem Same.put {H H1 : Hp} {D : Addr} {o : HO} (s : Same H H1) (n : H D = none) : Same H (L2.upd H1 D o) := fun b u h => by
  rw [upd_ne (ne_of_none h n)]
  exact s b u h
end Pre
namespace Flat
open PySem PySem.Spec PyProof.Rows L2 Pre
structure Sm (w k : Nat) (d : PyData) : Prop where
  leaf : PyData.leavesShort 60 d = true
  wt : PyData.weight d ≤ w
  sh : d.showable = true
  nd : d.hasDict = false
  dp : d.depth ≤ k
  lay : PyData.canLay0 d = true
structure SmA (w k : Nat) (ds : List PyData) : Prop where
  leaf : PyData.leavesShortAll 60 ds = true
  wt : PyData.weightAll ds ≤ w
  sh : PyData.showableAll ds = true
  nd : PyData.hasDictAll ds = false
  dp : PyData.depthAll ds ≤ k
  lay : PyData.canLayAll0 ds = true
theorem Sm.mono {w k v j : Nat} {d : PyData} (s : Sm w k d) (h : w ≤ v) (h2 : k ≤ j) : Sm v j d := ⟨s.leaf, Nat.le_trans s.wt h, s.sh, s.nd, Nat.le_trans s.dp h2, s.lay⟩
theorem Sm.non : Sm 0 0 .none := ⟨by simp only [PyData.leavesShort], by simp only [PyData.weight]; omega, by simp only [PyData.showable], by simp only [PyData.hasDict], by simp only [PyData.depth]; omega, by simp only [PyData.canLay0]⟩
theorem Sm.bl (b : Bool) : Sm 0 0 (.bool b) := ⟨by simp only [PyData.leavesShort], by simp only [PyData.weight]; omega, by simp only [PyData.showable], by simp only [PyData.hasDict], by simp only [PyData.depth]; omega, by simp only [PyData.canLay0]⟩
theorem log_of {n : Nat} (h : n < 10 ^ 50) : n.log2 < 170 := by
  by_cases z : n = 0
  · subst z
    decide
  · exact (Nat.log2_lt z).mpr (Nat.lt_of_lt_of_le h (by decide))
theorem Sm.int {i : Int} (h : i.natAbs < 10 ^ 50) : Sm 170 0 (.int i) := by
  have l := log_of h
  refine ⟨?_, ?_, ?_, by simp only [PyData.hasDict], by simp only [PyData.depth]; omega, by simp only [PyData.canLay0]⟩
  · simp only [PyData.leavesShort, PyData.shown_int]
    refine decide_eq_true ?_
    have z := int_text_length_le10 (k := 50) (by decide) h
    show (Str.ofString (toString i)).length ≤ 60
    have e : (Str.ofString (toString i)).length = (toString i).length := PySem.ofString_length _
    omega
  · simp only [PyData.weight]
    split <;> omega
  · simp only [PyData.showable]
    exact decide_eq_true (by omega)
theorem SmA.nil : SmA 0 0 [] := ⟨by simp [PyData.leavesShortAll], by simp [PyData.weightAll], by simp [PyData.showableAll], by simp [PyData.hasDictAll], by simp [PyData.depthAll], by simp [PyData.canLayAll0]⟩
theorem SmA.cons {w k v j : Nat} {d : PyData} {ds : List PyData} (a : Sm w k d) (b : SmA v j ds) : SmA (w + 1 + v) (max k j) (d :: ds) := by
  have h1 := a.wt
  have h2 := b.wt
  have h3 := a.dp
  have h4 := b.dp
  refine ⟨?_, ?_, ?_, ?_, ?_, ?_⟩
  · simp only [PyData.leavesShortAll, a.leaf, b.leaf, Bool.and_self]
  · simp only [PyData.weightAll]
    omega
  · simp only [PyData.showableAll, a.sh, b.sh, Bool.and_self]
  · simp only [PyData.hasDictAll, a.nd, b.nd, Bool.or_self]
  · simp only [PyData.depthAll]
    omega
  · simp only [PyData.canLayAll0, a.lay, b.lay, Bool.and_self]
theorem SmA.tup {w k : Nat} {ds : List PyData} (a : SmA w k ds) : Sm w (k + 1) (.tuple ds) := by
  have h1 := a.wt
  have h3 := a.dp
  exact ⟨by simp only [PyData.leavesShort, a.leaf], by simp only [PyData.weight]; omega, by simp only [PyData.showable, a.sh], by simp only [PyData.hasDict, a.nd], by simp only [PyData.depth]; omega, by simp only [PyData.canLay0, a.lay]⟩
theorem SmA.lst {w k : Nat} {ds : List PyData} (a : SmA w k ds) : Sm w (k + 1) (.list ds) := by
  have h1 := a.wt
  have h3 := a.dp
  exact ⟨by simp only [PyData.leavesShort, a.leaf], by simp only [PyData.weight]; omega, by simp only [PyData.showable, a.sh], by simp only [PyData.hasDict, a.nd], by simp only [PyData.depth]; omega, by simp only [PyData.canLay0, a.lay]⟩
theorem SmA.all {w k : Nat} : ∀ {ds : List PyData}, (∀ d ∈ ds, Sm w k d) → SmA ((w + 1) * ds.length) k ds
  | [], _ => ⟨SmA.nil.leaf, by simp [PyData.weightAll], SmA.nil.sh, SmA.nil.nd, by simp [PyData.depthAll], SmA.nil.lay⟩
  | d :: ds, h => by
    have a := SmA.cons (h d (List.mem_cons_self ..)) (SmA.all fun x hx => h x (List.mem_cons_of_mem _ hx))
    have e : (w + 1) * (d :: ds).length = w + 1 + (w + 1) * ds.length := by rw [List.length_cons, Nat.mul_succ]; omega
    rw [e]
    exact ⟨a.leaf, a.wt, a.sh, a.nd, by have := a.dp; omega, a.lay⟩
theorem SmA.ints {ns : List Int} (h : ∀ n ∈ ns, n.natAbs < 10 ^ 50) : SmA (171 * ns.length) 0 (ns.map PyData.int) := by
  have a := SmA.all (w := 170) (k := 0) (ds := ns.map PyData.int) (fun d hd => by
    obtain ⟨n, hn, rfl⟩ := List.mem_map.mp hd
    exact Sm.int (h n hn))
  rw [List.length_map] at a
  exact a
theorem Sm.fits {w k : Nat} {d : PyData} (s : Sm w k d) (h : w ≤ 100000) : d.shown.length ≤ sizeLine := by
  have z := PyData.shown_le 60 (by decide) d s.leaf
  have z2 := s.wt
  have z3 : (60 + 2) * d.weight ≤ 62 * 100000 := Nat.mul_le_mul (by decide) (by omega)
  rw [sizeLine_eq]
  omega
theorem Sm.shaped {w k : Nat} {d : PyData} (s : Sm w k d) (h : k ≤ 60) : SeqAt.shaped d = true := by
  unfold SeqAt.shaped
  have := s.dp
  rw [s.lay, decide_eq_true (show d.depth ≤ 64 by omega)]
  rfl
/-- what repr asks -/
theorem Sm.repr {w k : Nat} {d : PyData} (s : Sm w k d) (h : w ≤ 100000) (h2 : k ≤ 60) : d.showable = true ∧ d.hasDict = false ∧ d.depth ≤ 60 ∧ d.shown.length ≤ sizeLine := ⟨s.sh, s.nd, Nat.le_trans s.dp h2, s.fits h⟩
/-! equality of ints -/
theorem eqv_ints : ∀ xs ys : List Int, PyData.eqvAll (xs.map PyData.int) (ys.map PyData.int) = decide (xs = ys)
  | [], [] => by simp [PyData.eqvAll]
  | [], y :: ys => by simp [PyData.eqvAll]
  | x :: xs, [] => by simp [PyData.eqvAll]
  | x :: xs, y :: ys => by
    have h := eqv_ints xs ys
    rw [List.map_cons, List.map_cons, PyData.eqvAll, PyData.eqv, h]
    by_cases e : x = y
    · subst e
      simp
    · simp [e]
theorem eqv_tup (xs ys : List Int) : PyData.eqv (.tuple (xs.map PyData.int)) (.tuple (ys.map PyData.int)) = decide (xs = ys) := by rw [PyData.eqv, eqv_ints]
theorem eqv_lst (xs ys : List Int) : PyData.eqv (.list (xs.map PyData.int)) (.list (ys.map PyData.int)) = decide (xs = ys) := by rw [PyData.eqv, eqv_ints]
end Flat
set_option Elab.async false
set_option linter.all false
set_option maxRecDepth 100000
set_option maxHeartbeats 4000000
namespace K48
open PySem PySem.Spec PyProof.Rows L2
def top (i : Nat) : Stmt := PySem.Challenge.pw_gaugeroad_k48_alarms_and_watches.main.body.getD i (.Pass ⟨0, 0, 0, 0⟩)
abbrev s_BadNumber_init : Stmt := inClass (top 2) 0
def d_BadNumber_init : He.DefD := ⟨("BadNumber", some "__init__"), "__init__", "BadNumber.__init__", defArgs s_BadNumber_init, defBody s_BadNumber_init, defScope s_BadNumber_init, [], []⟩
abbrev s_BadAlarm_init : Stmt := inClass (top 3) 0
def d_BadAlarm_init : He.DefD := ⟨("BadAlarm", some "__init__"), "__init__", "BadAlarm.__init__", defArgs s_BadAlarm_init, defBody s_BadAlarm_init, defScope s_BadAlarm_init, [], []⟩
abbrev s_is_whole : Stmt := top 5
def d_is_whole : He.DefD := ⟨("is_whole", none), "is_whole", "is_whole", defArgs s_is_whole, defBody s_is_whole, defScope s_is_whole, [], []⟩
abbrev s_is_within : Stmt := top 6
def d_is_within : He.DefD := ⟨("is_within", none), "is_within", "is_within", defArgs s_is_within, defBody s_is_within, defScope s_is_within, [], []⟩
abbrev s_check_number : Stmt := top 7
def d_check_number : He.DefD := ⟨("check_number", none), "check_number", "check_number", defArgs s_check_number, defBody s_check_number, defScope s_check_number, [], []⟩
abbrev s_Alarm_init : Stmt := inClass (top 11) 0
def d_Alarm_init : He.DefD := ⟨("Alarm", some "__init__"), "__init__", "Alarm.__init__", defArgs s_Alarm_init, defBody s_Alarm_init, defScope s_Alarm_init, [.non], []⟩
abbrev s_Alarm_eq : Stmt := inClass (top 11) 1
def d_Alarm_eq : He.DefD := ⟨("Alarm", some "__eq__"), "__eq__", "Alarm.__eq__", defArgs s_Alarm_eq, defBody s_Alarm_eq, defScope s_Alarm_eq, [], []⟩
abbrev s_Watch_init : Stmt := inClass (top 14) 0
def d_Watch_init : He.DefD := ⟨("Watch", some "__init__"), "__init__", "Watch.__init__", defArgs s_Watch_init, defBody s_Watch_init, defScope s_Watch_init, [], []⟩
abbrev s_Watch_is_on : Stmt := inClass (top 14) 1
abbrev s_Watch_rows_now : Stmt := inClass (top 14) 2
abbrev s_Watch_times_on : Stmt := inClass (top 14) 3
abbrev s_Watch_step : Stmt := inClass (top 14) 4
def d_Watch_step : He.DefD := ⟨("Watch", some "step"), "step", "Watch.step", defArgs s_Watch_step, defBody s_Watch_step, defScope s_Watch_step, [], []⟩
abbrev s_Watch_twin : Stmt := inClass (top 14) 5
def d_Watch_twin : He.DefD := ⟨("Watch", some "twin"), "twin", "Watch.twin", defArgs s_Watch_twin, defBody s_Watch_twin, defScope s_Watch_twin, [], []⟩
abbrev s_Watch_eq : Stmt := inClass (top 14) 6
def d_Watch_eq : He.DefD := ⟨("Watch", some "__eq__"), "__eq__", "Watch.__eq__", defArgs s_Watch_eq, defBody s_Watch_eq, defScope s_Watch_eq, [], []⟩
abbrev s_on_after : Stmt := top 15
def d_on_after : He.DefD := ⟨("on_after", none), "on_after", "on_after", defArgs s_on_after, defBody s_on_after, defScope s_on_after, [], []⟩
abbrev s_check_alarm : Stmt := top 16
def d_check_alarm : He.DefD := ⟨("check_alarm", none), "check_alarm", "check_alarm", defArgs s_check_alarm, defBody s_check_alarm, defScope s_check_alarm, [], []⟩
abbrev s_stays_on : Stmt := top 17
def d_stays_on : He.DefD := ⟨("stays_on", none), "stays_on", "stays_on", defArgs s_stays_on, defBody s_stays_on, defScope s_stays_on, [], []⟩
abbrev s_states_on : Stmt := top 18
def d_states_on : He.DefD := ⟨("states_on", none), "states_on", "states_on", defArgs s_states_on, defBody s_states_on, defScope s_states_on, [], []⟩
abbrev s_law_pen : Stmt := top 20
def d_law_pen : He.DefD := ⟨("_law_pen", none), "_law_pen", "_law_pen", defArgs s_law_pen, defBody s_law_pen, defScope s_law_pen, [], []⟩
abbrev s_law_draw : Stmt := top 21
def d_law_draw : He.DefD := ⟨("_law_draw", none), "_law_draw", "_law_draw", defArgs s_law_draw, defBody s_law_draw, defScope s_law_draw, [], []⟩
abbrev s_law_pick : Stmt := top 22
def d_law_pick : He.DefD := ⟨("_law_pick", none), "_law_pick", "_law_pick", defArgs s_law_pick, defBody s_law_pick, defScope s_law_pick, [], []⟩
abbrev s_law_states : Stmt := top 23
def d_law_states : He.DefD := ⟨("_law_states", none), "_law_states", "_law_states", defArgs s_law_states, defBody s_law_states, defScope s_law_states, [], []⟩
abbrev s_law_rows : Stmt := top 24
def d_law_rows : He.DefD := ⟨("_law_rows", none), "_law_rows", "_law_rows", defArgs s_law_rows, defBody s_law_rows, defScope s_law_rows, [], []⟩
abbrev s_law_right : Stmt := top 25
def d_law_right : He.DefD := ⟨("_law_right", none), "_law_right", "_law_right", defArgs s_law_right, defBody s_law_right, defScope s_law_right, [], []⟩
abbrev s_law : Stmt := top 26
def d_law : He.DefD := ⟨("law", none), "law", "law", defArgs s_law, defBody s_law, defScope s_law, [], []⟩
def fn : List He.DefD := [d_BadNumber_init, d_BadAlarm_init, d_is_whole, d_is_within, d_check_number, d_Alarm_init, d_Alarm_eq, d_Watch_init, d_Watch_step, d_Watch_twin, d_Watch_eq, d_on_after, d_check_alarm, d_stays_on, d_states_on, d_law_pen, d_law_draw, d_law_pick, d_law_states, d_law_rows, d_law_right, d_law]
def fa0 : List He.Fa := [.free "isinstance", .free "int", .free "bool", .free "list", .free "tuple", .free "all", .free "sum", .free "len", .free "max", .free "range", .free "repr", .free "abs", .glo "is_whole", .glo "is_within", .glo "check_number", .glo "on_after", .glo "check_alarm", .glo "stays_on", .glo "states_on", .glo "_law_pen", .glo "_law_draw", .glo "_law_pick", .glo "_law_states", .glo "_law_rows"]
def fa1 : List He.Fa := [.glo "_law_right", .glo "law", .glo "RoadError", .glo "BadNumber", .glo "BadAlarm", .glo "Alarm", .glo "Watch", .int "MOST_COLUMNS" (50), .int "MOST_ON" (10 ^ 20), .int "FAR" (10 ^ 40), .cls "Alarm", .noat "Alarm" "columns", .noat "Alarm" "on", .noat "Alarm" "off", .meth "Alarm" "__eq__", .mkr "Alarm", .cls "Watch", .noat "Watch" "alarm", .noat "Watch" "_rows", .noat "Watch" "_on", .noat "Watch" "_times", .meth "Watch" "step", .meth "Watch" "twin", .meth "Watch" "__eq__"]
def fa2 : List He.Fa := [.mkr "Watch"]
def fa : List He.Fa := fa0 ++ fa1 ++ fa2
def m_Watch_is_on : Hkc.Md := ⟨fun K => Prp.gp K (He.ga K "Watch") "is_on", "is_on", "Watch.is_on", defArgs s_Watch_is_on, defBody s_Watch_is_on, defScope s_Watch_is_on, []⟩
def m_Watch_rows_now : Hkc.Md := ⟨fun K => Prp.gp K (He.ga K "Watch") "rows_now", "rows_now", "Watch.rows_now", defArgs s_Watch_rows_now, defBody s_Watch_rows_now, defScope s_Watch_rows_now, []⟩
def m_Watch_times_on : Hkc.Md := ⟨fun K => Prp.gp K (He.ga K "Watch") "times_on", "times_on", "Watch.times_on", defArgs s_Watch_times_on, defBody s_Watch_times_on, defScope s_Watch_times_on, []⟩
def ms : List Hkc.Md := [m_Watch_is_on, m_Watch_rows_now, m_Watch_times_on]
def ex0 (K : PySem.W.Frag) : Bool := Vls.insB K (He.ga K "Alarm")
def ex1 (K : PySem.W.Frag) : Bool := Vls.insB K (He.ga K "Watch")
def ex2 (K : PySem.W.Frag) : Bool := decide (PySem.W.kitOne K (.ref (He.ga K "Alarm")) (.ref (He.ga K "Alarm")) = some true)
def ex3 (K : PySem.W.Frag) : Bool := decide (PySem.W.kitOne K (.ref (He.ga K "Alarm")) (.ref (He.ga K "Watch")) = some false)
def ex4 (K : PySem.W.Frag) : Bool := decide (PySem.W.kitOne K (.ref (He.ga K "Watch")) (.ref (He.ga K "Alarm")) = some false)
def ex5 (K : PySem.W.Frag) : Bool := decide (PySem.W.kitOne K (.ref (He.ga K "Watch")) (.ref (He.ga K "Watch")) = some true)
def ex6 (K : PySem.W.Frag) : Bool := decide (PySem.W.kitOne K (.type "NoneType") (.ref (He.ga K "Alarm")) = some false)
def ex7 (K : PySem.W.Frag) : Bool := decide (PySem.W.kitOne K (.type "str") (.ref (He.ga K "Alarm")) = some false)
def ex8 (K : PySem.W.Frag) : Bool := decide (PySem.W.kitOne K (.type "tuple") (.ref (He.ga K "Alarm")) = some false)
def ex9 (K : PySem.W.Frag) : Bool := PySem.W.notFirst K (He.ga K "Alarm") (.ref (He.ga K "Alarm"))
def ex10 (K : PySem.W.Frag) : Bool := PySem.W.notFirst K (He.ga K "Alarm") (.ref (He.ga K "Watch"))
def ex11 (K : PySem.W.Frag) : Bool := PySem.W.notFirst K (He.ga K "Watch") (.ref (He.ga K "Alarm"))
def ex12 (K : PySem.W.Frag) : Bool := PySem.W.notFirst K (He.ga K "Watch") (.ref (He.ga K "Watch"))
def ex13 (K : PySem.W.Frag) : Bool := PySem.W.notFirst K (He.ga K "Alarm") (.type "NoneType")
def ex14 (K : PySem.W.Frag) : Bool := PySem.W.notFirst K (He.ga K "Alarm") (.type "str")
def ex15 (K : PySem.W.Frag) : Bool := PySem.W.notFirst K (He.ga K "Alarm") (.type "tuple")
def ex16 (K : PySem.W.Frag) : Bool := decide (PySem.W.findIn K (.ref (He.ga K "Alarm")) "__ne__" = some (some (.builtin "object.__ne__")))
def ex17 (K : PySem.W.Frag) : Bool := decide (PySem.W.findIn K (.ref (He.ga K "Watch")) "__ne__" = some (some (.builtin "object.__ne__")))
def ex18 (K : PySem.W.Frag) : Bool := Prp.propB "Watch" "is_on" "Watch.is_on" K
def ex19 (K : PySem.W.Frag) : Bool := Prp.propB "Watch" "rows_now" "Watch.rows_now" K
def ex20 (K : PySem.W.Frag) : Bool := Prp.propB "Watch" "times_on" "Watch.times_on" K
def exs : List (PySem.W.Frag → Bool) := [ex0, ex1, ex2, ex3, ex4, ex5, ex6, ex7, ex8, ex9, ex10, ex11, ex12, ex13, ex14, ex15, ex16, ex17, ex18, ex19, ex20]
def ex (K : PySem.W.Frag) : Bool := exs.all fun f => f K
structure Tx (K : PySem.W.Frag) (mg : Str → Option Value) : Prop where
  says : He.SaysD fa fn K
  more : ex K = true
  md : (ms.map fun m => Hkc.fv K (m.how K)) = ms.map Hkc.Md.fv
  at_ : ∃ h : Heap, K.In h ∧ h.Ns mainGlobals mg
section
variable {K : PySem.W.Frag} {mg : Str → Option Value}
theorem Tx.ex_at (T : Tx K mg) (i : Nat) {f : PySem.W.Frag → Bool} (h : exs[i]? = some f) : f K = true := List.all_eq_true.mp T.more f (List.mem_of_getElem? h)
theorem Tx.q_BadNumber_init (T : Tx K mg) : ∃ fd, FunD K "__init__" "BadNumber.__init__" (defArgs s_BadNumber_init) (defBody s_BadNumber_init) (defScope s_BadNumber_init) [] [] (He.ma K (He.ga K "BadNumber") "__init__") fd := T.says.def_ 0 (d := d_BadNumber_init) rfl
theorem Tx.q_BadAlarm_init (T : Tx K mg) : ∃ fd, FunD K "__init__" "BadAlarm.__init__" (defArgs s_BadAlarm_init) (defBody s_BadAlarm_init) (defScope s_BadAlarm_init) [] [] (He.ma K (He.ga K "BadAlarm") "__init__") fd := T.says.def_ 1 (d := d_BadAlarm_init) rfl
theorem Tx.q_is_whole (T : Tx K mg) : ∃ fd, FunD K "is_whole" "is_whole" (defArgs s_is_whole) (defBody s_is_whole) (defScope s_is_whole) [] [] (He.ga K "is_whole") fd := T.says.def_ 2 (d := d_is_whole) rfl
theorem Tx.q_is_within (T : Tx K mg) : ∃ fd, FunD K "is_within" "is_within" (defArgs s_is_within) (defBody s_is_within) (defScope s_is_within) [] [] (He.ga K "is_within") fd := T.says.def_ 3 (d := d_is_within) rfl
theorem Tx.q_check_number (T : Tx K mg) : ∃ fd, FunD K "check_number" "check_number" (defArgs s_check_number) (defBody s_check_number) (defScope s_check_number) [] [] (He.ga K "check_number") fd := T.says.def_ 4 (d := d_check_number) rfl
theorem Tx.q_Alarm_init (T : Tx K mg) : ∃ fd, FunD K "__init__" "Alarm.__init__" (defArgs s_Alarm_init) (defBody s_Alarm_init) (defScope s_Alarm_init) [.non] [] (He.ma K (He.ga K "Alarm") "__init__") fd := T.says.def_ 5 (d := d_Alarm_init) rfl
theorem Tx.q_Alarm_eq (T : Tx K mg) : ∃ fd, FunD K "__eq__" "Alarm.__eq__" (defArgs s_Alarm_eq) (defBody s_Alarm_eq) (defScope s_Alarm_eq) [] [] (He.ma K (He.ga K "Alarm") "__eq__") fd := T.says.def_ 6 (d := d_Alarm_eq) rfl
theorem Tx.q_Watch_init (T : Tx K mg) : ∃ fd, FunD K "__init__" "Watch.__init__" (defArgs s_Watch_init) (defBody s_Watch_init) (defScope s_Watch_init) [] [] (He.ma K (He.ga K "Watch") "__init__") fd := T.says.def_ 7 (d := d_Watch_init) rfl
theorem Tx.q_Watch_step (T : Tx K mg) : ∃ fd, FunD K "step" "Watch.step" (defArgs s_Watch_step) (defBody s_Watch_step) (defScope s_Watch_step) [] [] (He.ma K (He.ga K "Watch") "step") fd := T.says.def_ 8 (d := d_Watch_step) rfl
theorem Tx.q_Watch_twin (T : Tx K mg) : ∃ fd, FunD K "twin" "Watch.twin" (defArgs s_Watch_twin) (defBody s_Watch_twin) (defScope s_Watch_twin) [] [] (He.ma K (He.ga K "Watch") "twin") fd := T.says.def_ 9 (d := d_Watch_twin) rfl
theorem Tx.q_Watch_eq (T : Tx K mg) : ∃ fd, FunD K "__eq__" "Watch.__eq__" (defArgs s_Watch_eq) (defBody s_Watch_eq) (defScope s_Watch_eq) [] [] (He.ma K (He.ga K "Watch") "__eq__") fd := T.says.def_ 10 (d := d_Watch_eq) rfl
theorem Tx.q_on_after (T : Tx K mg) : ∃ fd, FunD K "on_after" "on_after" (defArgs s_on_after) (defBody s_on_after) (defScope s_on_after) [] [] (He.ga K "on_after") fd := T.says.def_ 11 (d := d_on_after) rfl
theorem Tx.q_check_alarm (T : Tx K mg) : ∃ fd, FunD K "check_alarm" "check_alarm" (defArgs s_check_alarm) (defBody s_check_alarm) (defScope s_check_alarm) [] [] (He.ga K "check_alarm") fd := T.says.def_ 12 (d := d_check_alarm) rfl
theorem Tx.q_stays_on (T : Tx K mg) : ∃ fd, FunD K "stays_on" "stays_on" (defArgs s_stays_on) (defBody s_stays_on) (defScope s_stays_on) [] [] (He.ga K "stays_on") fd := T.says.def_ 13 (d := d_stays_on) rfl
theorem Tx.q_states_on (T : Tx K mg) : ∃ fd, FunD K "states_on" "states_on" (defArgs s_states_on) (defBody s_states_on) (defScope s_states_on) [] [] (He.ga K "states_on") fd := T.says.def_ 14 (d := d_states_on) rfl
theorem Tx.q_law_pen (T : Tx K mg) : ∃ fd, FunD K "_law_pen" "_law_pen" (defArgs s_law_pen) (defBody s_law_pen) (defScope s_law_pen) [] [] (He.ga K "_law_pen") fd := T.says.def_ 15 (d := d_law_pen) rfl
theorem Tx.q_law_draw (T : Tx K mg) : ∃ fd, FunD K "_law_draw" "_law_draw" (defArgs s_law_draw) (defBody s_law_draw) (defScope s_law_draw) [] [] (He.ga K "_law_draw") fd := T.says.def_ 16 (d := d_law_draw) rfl
theorem Tx.q_law_pick (T : Tx K mg) : ∃ fd, FunD K "_law_pick" "_law_pick" (defArgs s_law_pick) (defBody s_law_pick) (defScope s_law_pick) [] [] (He.ga K "_law_pick") fd := T.says.def_ 17 (d := d_law_pick) rfl
theorem Tx.q_law_states (T : Tx K mg) : ∃ fd, FunD K "_law_states" "_law_states" (defArgs s_law_states) (defBody s_law_states) (defScope s_law_states) [] [] (He.ga K "_law_states") fd := T.says.def_ 18 (d := d_law_states) rfl
theorem Tx.q_law_rows (T : Tx K mg) : ∃ fd, FunD K "_law_rows" "_law_rows" (defArgs s_law_rows) (defBody s_law_rows) (defScope s_law_rows) [] [] (He.ga K "_law_rows") fd := T.says.def_ 19 (d := d_law_rows) rfl
theorem Tx.q_law_right (T : Tx K mg) : ∃ fd, FunD K "_law_right" "_law_right" (defArgs s_law_right) (defBody s_law_right) (defScope s_law_right) [] [] (He.ga K "_law_right") fd := T.says.def_ 20 (d := d_law_right) rfl
theorem Tx.q_law (T : Tx K mg) : ∃ fd, FunD K "law" "law" (defArgs s_law) (defBody s_law) (defScope s_law) [] [] (He.ga K "law") fd := T.says.def_ 21 (d := d_law) rfl
theorem Tx.f_isinstance (T : Tx K mg) : mg "isinstance" = none := by
  obtain ⟨h, X, G⟩ := T.at_
  exact He.free_ok X G (T.says.fact 0 (f := .free "isinstance") rfl)
theorem Tx.f_int (T : Tx K mg) : mg "int" = none := by
  obtain ⟨h, X, G⟩ := T.at_
  exact He.free_ok X G (T.says.fact 1 (f := .free "int") rfl)
theorem Tx.f_bool (T : Tx K mg) : mg "bool" = none := by
  obtain ⟨h, X, G⟩ := T.at_
  exact He.free_ok X G (T.says.fact 2 (f := .free "bool") rfl)
theorem Tx.f_list (T : Tx K mg) : mg "list" = none := by
  obtain ⟨h, X, G⟩ := T.at_
  exact He.free_ok X G (T.says.fact 3 (f := .free "list") rfl)
theorem Tx.f_tuple (T : Tx K mg) : mg "tuple" = none := by
  obtain ⟨h, X, G⟩ := T.at_
  exact He.free_ok X G (T.says.fact 4 (f := .free "tuple") rfl)
theorem Tx.f_all (T : Tx K mg) : mg "all" = none := by
  obtain ⟨h, X, G⟩ := T.at_
  exact He.free_ok X G (T.says.fact 5 (f := .free "all") rfl)
theorem Tx.f_sum (T : Tx K mg) : mg "sum" = none := by
  obtain ⟨h, X, G⟩ := T.at_
  exact He.free_ok X G (T.says.fact 6 (f := .free "sum") rfl)
theorem Tx.f_len (T : Tx K mg) : mg "len" = none := by
  obtain ⟨h, X, G⟩ := T.at_
  exact He.free_ok X G (T.says.fact 7 (f := .free "len") rfl)
theorem Tx.f_max (T : Tx K mg) : mg "max" = none := by
  obtain ⟨h, X, G⟩ := T.at_
  exact He.free_ok X G (T.says.fact 8 (f := .free "max") rfl)
theorem Tx.f_range (T : Tx K mg) : mg "range" = none := by
  obtain ⟨h, X, G⟩ := T.at_
  exact He.free_ok X G (T.says.fact 9 (f := .free "range") rfl)
theorem Tx.f_repr (T : Tx K mg) : mg "repr" = none := by
  obtain ⟨h, X, G⟩ := T.at_
  exact He.free_ok X G (T.says.fact 10 (f := .free "repr") rfl)
theorem Tx.f_abs (T : Tx K mg) : mg "abs" = none := by
  obtain ⟨h, X, G⟩ := T.at_
  exact He.free_ok X G (T.says.fact 11 (f := .free "abs") rfl)
theorem Tx.g_is_whole (T : Tx K mg) : mg "is_whole" = some (.ref (He.ga K "is_whole")) := by
  obtain ⟨h, X, G⟩ := T.at_
  exact He.glo_ok X G (T.says.fact 12 (f := .glo "is_whole") rfl)
theorem Tx.g_is_within (T : Tx K mg) : mg "is_within" = some (.ref (He.ga K "is_within")) := by
  obtain ⟨h, X, G⟩ := T.at_
  exact He.glo_ok X G (T.says.fact 13 (f := .glo "is_within") rfl)
theorem Tx.g_check_number (T : Tx K mg) : mg "check_number" = some (.ref (He.ga K "check_number")) := by
  obtain ⟨h, X, G⟩ := T.at_
  exact He.glo_ok X G (T.says.fact 14 (f := .glo "check_number") rfl)
theorem Tx.g_on_after (T : Tx K mg) : mg "on_after" = some (.ref (He.ga K "on_after")) := by
  obtain ⟨h, X, G⟩ := T.at_
  exact He.glo_ok X G (T.says.fact 15 (f := .glo "on_after") rfl)
theorem Tx.g_check_alarm (T : Tx K mg) : mg "check_alarm" = some (.ref (He.ga K "check_alarm")) := by
  obtain ⟨h, X, G⟩ := T.at_
  exact He.glo_ok X G (T.says.fact 16 (f := .glo "check_alarm") rfl)
theorem Tx.g_stays_on (T : Tx K mg) : mg "stays_on" = some (.ref (He.ga K "stays_on")) := by
  obtain ⟨h, X, G⟩ := T.at_
  exact He.glo_ok X G (T.says.fact 17 (f := .glo "stays_on") rfl)
theorem Tx.g_states_on (T : Tx K mg) : mg "states_on" = some (.ref (He.ga K "states_on")) := by
  obtain ⟨h, X, G⟩ := T.at_
  exact He.glo_ok X G (T.says.fact 18 (f := .glo "states_on") rfl)
theorem Tx.g_law_pen (T : Tx K mg) : mg "_law_pen" = some (.ref (He.ga K "_law_pen")) := by
  obtain ⟨h, X, G⟩ := T.at_
  exact He.glo_ok X G (T.says.fact 19 (f := .glo "_law_pen") rfl)
theorem Tx.g_law_draw (T : Tx K mg) : mg "_law_draw" = some (.ref (He.ga K "_law_draw")) := by
  obtain ⟨h, X, G⟩ := T.at_
  exact He.glo_ok X G (T.says.fact 20 (f := .glo "_law_draw") rfl)
theorem Tx.g_law_pick (T : Tx K mg) : mg "_law_pick" = some (.ref (He.ga K "_law_pick")) := by
  obtain ⟨h, X, G⟩ := T.at_
  exact He.glo_ok X G (T.says.fact 21 (f := .glo "_law_pick") rfl)
theorem Tx.g_law_states (T : Tx K mg) : mg "_law_states" = some (.ref (He.ga K "_law_states")) := by
  obtain ⟨h, X, G⟩ := T.at_
  exact He.glo_ok X G (T.says.fact 22 (f := .glo "_law_states") rfl)
theorem Tx.g_law_rows (T : Tx K mg) : mg "_law_rows" = some (.ref (He.ga K "_law_rows")) := by
  obtain ⟨h, X, G⟩ := T.at_
  exact He.glo_ok X G (T.says.fact 23 (f := .glo "_law_rows") rfl)
theorem Tx.g_law_right (T : Tx K mg) : mg "_law_right" = some (.ref (He.ga K "_law_right")) := by
  obtain ⟨h, X, G⟩ := T.at_
  exact He.glo_ok X G (T.says.fact 24 (f := .glo "_law_right") rfl)
theorem Tx.g_law (T : Tx K mg) : mg "law" = some (.ref (He.ga K "law")) := by
  obtain ⟨h, X, G⟩ := T.at_
  exact He.glo_ok X G (T.says.fact 25 (f := .glo "law") rfl)
theorem Tx.g_RoadError (T : Tx K mg) : mg "RoadError" = some (.ref (He.ga K "RoadError")) := by
  obtain ⟨h, X, G⟩ := T.at_
  exact He.glo_ok X G (T.says.fact 26 (f := .glo "RoadError") rfl)
theorem Tx.g_BadNumber (T : Tx K mg) : mg "BadNumber" = some (.ref (He.ga K "BadNumber")) := by
  obtain ⟨h, X, G⟩ := T.at_
  exact He.glo_ok X G (T.says.fact 27 (f := .glo "BadNumber") rfl)
theorem Tx.g_BadAlarm (T : Tx K mg) : mg "BadAlarm" = some (.ref (He.ga K "BadAlarm")) := by
  obtain ⟨h, X, G⟩ := T.at_
  exact He.glo_ok X G (T.says.fact 28 (f := .glo "BadAlarm") rfl)
theorem Tx.g_Alarm (T : Tx K mg) : mg "Alarm" = some (.ref (He.ga K "Alarm")) := by
  obtain ⟨h, X, G⟩ := T.at_
  exact He.glo_ok X G (T.says.fact 29 (f := .glo "Alarm") rfl)
theorem Tx.g_Watch (T : Tx K mg) : mg "Watch" = some (.ref (He.ga K "Watch")) := by
  obtain ⟨h, X, G⟩ := T.at_
  exact He.glo_ok X G (T.says.fact 30 (f := .glo "Watch") rfl)
theorem Tx.i_MOST_COLUMNS (T : Tx K mg) : ∃ t, mg "MOST_COLUMNS" = some (.int (50) t) := by
  obtain ⟨h, X, G⟩ := T.at_
  exact He.int_ok X G (T.says.fact 31 (f := .int "MOST_COLUMNS" (50)) rfl)
theorem Tx.i_MOST_ON (T : Tx K mg) : ∃ t, mg "MOST_ON" = some (.int (10 ^ 20) t) := by
  obtain ⟨h, X, G⟩ := T.at_
  exact He.int_ok X G (T.says.fact 32 (f := .int "MOST_ON" (10 ^ 20)) rfl)
theorem Tx.i_FAR (T : Tx K mg) : ∃ t, mg "FAR" = some (.int (10 ^ 40) t) := by
  obtain ⟨h, X, G⟩ := T.at_
  exact He.int_ok X G (T.says.fact 33 (f := .int "FAR" (10 ^ 40)) rfl)
theorem Tx.c_Alarm (T : Tx K mg) : Cls K (He.ga K "Alarm") := He.cls_ok (T.says.fact 34 (f := .cls "Alarm") rfl)
theorem Tx.n_Alarm_columns (T : Tx K mg) : NoAttr K (He.ga K "Alarm") "columns" := He.noat_ok (T.says.fact 35 (f := .noat "Alarm" "columns") rfl)
theorem Tx.n_Alarm_on (T : Tx K mg) : NoAttr K (He.ga K "Alarm") "on" := He.noat_ok (T.says.fact 36 (f := .noat "Alarm" "on") rfl)
theorem Tx.n_Alarm_off (T : Tx K mg) : NoAttr K (He.ga K "Alarm") "off" := He.noat_ok (T.says.fact 37 (f := .noat "Alarm" "off") rfl)
theorem Tx.m_Alarm_eq (T : Tx K mg) : Meth K (He.ga K "Alarm") "__eq__" (He.ma K (He.ga K "Alarm") "__eq__") := He.meth_ok (T.says.fact 38 (f := .meth "Alarm" "__eq__") rfl)
theorem Tx.k_Alarm (T : Tx K mg) : Mk K (He.ga K "Alarm") (He.ma K (He.ga K "Alarm") "__init__") := He.mkr_ok (T.says.fact 39 (f := .mkr "Alarm") rfl)
theorem Tx.c_Watch (T : Tx K mg) : Cls K (He.ga K "Watch") := He.cls_ok (T.says.fact 40 (f := .cls "Watch") rfl)
theorem Tx.n_Watch_alarm (T : Tx K mg) : NoAttr K (He.ga K "Watch") "alarm" := He.noat_ok (T.says.fact 41 (f := .noat "Watch" "alarm") rfl)
theorem Tx.n_Watch_rows (T : Tx K mg) : NoAttr K (He.ga K "Watch") "_rows" := He.noat_ok (T.says.fact 42 (f := .noat "Watch" "_rows") rfl)
theorem Tx.n_Watch_on (T : Tx K mg) : NoAttr K (He.ga K "Watch") "_on" := He.noat_ok (T.says.fact 43 (f := .noat "Watch" "_on") rfl)
theorem Tx.n_Watch_times (T : Tx K mg) : NoAttr K (He.ga K "Watch") "_times" := He.noat_ok (T.says.fact 44 (f := .noat "Watch" "_times") rfl)
theorem Tx.m_Watch_step (T : Tx K mg) : Meth K (He.ga K "Watch") "step" (He.ma K (He.ga K "Watch") "step") := He.meth_ok (T.says.fact 45 (f := .meth "Watch" "step") rfl)
theorem Tx.m_Watch_twin (T : Tx K mg) : Meth K (He.ga K "Watch") "twin" (He.ma K (He.ga K "Watch") "twin") := He.meth_ok (T.says.fact 46 (f := .meth "Watch" "twin") rfl)
theorem Tx.m_Watch_eq (T : Tx K mg) : Meth K (He.ga K "Watch") "__eq__" (He.ma K (He.ga K "Watch") "__eq__") := He.meth_ok (T.says.fact 47 (f := .meth "Watch" "__eq__") rfl)
theorem Tx.k_Watch (T : Tx K mg) : Mk K (He.ga K "Watch") (He.ma K (He.ga K "Watch") "__init__") := He.mkr_ok (T.says.fact 48 (f := .mkr "Watch") rfl)
theorem Tx.v_Watch_is_on (T : Tx K mg) : Hkc.fv K (Prp.gp K (He.ga K "Watch") "is_on") = m_Watch_is_on.fv := Hkc.md_at T.md 0 (m := m_Watch_is_on) rfl
theorem Tx.v_Watch_rows_now (T : Tx K mg) : Hkc.fv K (Prp.gp K (He.ga K "Watch") "rows_now") = m_Watch_rows_now.fv := Hkc.md_at T.md 1 (m := m_Watch_rows_now) rfl
theorem Tx.v_Watch_times_on (T : Tx K mg) : Hkc.fv K (Prp.gp K (He.ga K "Watch") "times_on") = m_Watch_times_on.fv := Hkc.md_at T.md 2 (m := m_Watch_times_on) rfl
theorem Tx.is_Alarm (T : Tx K mg) : Vls.Ins K (He.ga K "Alarm") := Vls.insB_ok (T.ex_at 0 (f := ex0) rfl)
theorem Tx.is_Watch (T : Tx K mg) : Vls.Ins K (He.ga K "Watch") := Vls.insB_ok (T.ex_at 1 (f := ex1) rfl)
theorem Tx.k_Alarm_Alarm (T : Tx K mg) : PySem.W.kitOne K (.ref (He.ga K "Alarm")) (.ref (He.ga K "Alarm")) = some true := of_decide_eq_true (T.ex_at 2 (f := ex2) rfl)
theorem Tx.k_Alarm_Watch (T : Tx K mg) : PySem.W.kitOne K (.ref (He.ga K "Alarm")) (.ref (He.ga K "Watch")) = some false := of_decide_eq_true (T.ex_at 3 (f := ex3) rfl)
theorem Tx.k_Watch_Alarm (T : Tx K mg) : PySem.W.kitOne K (.ref (He.ga K "Watch")) (.ref (He.ga K "Alarm")) = some false := of_decide_eq_true (T.ex_at 4 (f := ex4) rfl)
theorem Tx.k_Watch_Watch (T : Tx K mg) : PySem.W.kitOne K (.ref (He.ga K "Watch")) (.ref (He.ga K "Watch")) = some true := of_decide_eq_true (T.ex_at 5 (f := ex5) rfl)
theorem Tx.kt_NoneType_Alarm (T : Tx K mg) : PySem.W.kitOne K (.type "NoneType") (.ref (He.ga K "Alarm")) = some false := of_decide_eq_true (T.ex_at 6 (f := ex6) rfl)
theorem Tx.kt_str_Alarm (T : Tx K mg) : PySem.W.kitOne K (.type "str") (.ref (He.ga K "Alarm")) = some false := of_decide_eq_true (T.ex_at 7 (f := ex7) rfl)
theorem Tx.kt_tuple_Alarm (T : Tx K mg) : PySem.W.kitOne K (.type "tuple") (.ref (He.ga K "Alarm")) = some false := of_decide_eq_true (T.ex_at 8 (f := ex8) rfl)
theorem Tx.nf_Alarm_Alarm (T : Tx K mg) : PySem.W.notFirst K (He.ga K "Alarm") (.ref (He.ga K "Alarm")) = true := id (T.ex_at 9 (f := ex9) rfl)
theorem Tx.nf_Alarm_Watch (T : Tx K mg) : PySem.W.notFirst K (He.ga K "Alarm") (.ref (He.ga K "Watch")) = true := id (T.ex_at 10 (f := ex10) rfl)
theorem Tx.nf_Watch_Alarm (T : Tx K mg) : PySem.W.notFirst K (He.ga K "Watch") (.ref (He.ga K "Alarm")) = true := id (T.ex_at 11 (f := ex11) rfl)
theorem Tx.nf_Watch_Watch (T : Tx K mg) : PySem.W.notFirst K (He.ga K "Watch") (.ref (He.ga K "Watch")) = true := id (T.ex_at 12 (f := ex12) rfl)
theorem Tx.nft_NoneType (T : Tx K mg) : PySem.W.notFirst K (He.ga K "Alarm") (.type "NoneType") = true := id (T.ex_at 13 (f := ex13) rfl)
theorem Tx.nft_str (T : Tx K mg) : PySem.W.notFirst K (He.ga K "Alarm") (.type "str") = true := id (T.ex_at 14 (f := ex14) rfl)
theorem Tx.nft_tuple (T : Tx K mg) : PySem.W.notFirst K (He.ga K "Alarm") (.type "tuple") = true := id (T.ex_at 15 (f := ex15) rfl)
theorem Tx.ne_Alarm (T : Tx K mg) : PySem.W.findIn K (.ref (He.ga K "Alarm")) "__ne__" = some (some (.builtin "object.__ne__")) := of_decide_eq_true (T.ex_at 16 (f := ex16) rfl)
theorem Tx.ne_Watch (T : Tx K mg) : PySem.W.findIn K (.ref (He.ga K "Watch")) "__ne__" = some (some (.builtin "object.__ne__")) := of_decide_eq_true (T.ex_at 17 (f := ex17) rfl)
theorem Tx.pr_Watch_is_on (T : Tx K mg) : PropOf K (He.ga K "Watch") "is_on" (He.ma K (He.ga K "Watch") "is_on") (Prp.gp K (He.ga K "Watch") "is_on") ∧ PySem.W.keepIn K (.ref (Prp.gp K (He.ga K "Watch") "is_on")) = true ∧ Hkc.mdB K (Prp.gp K (He.ga K "Watch") "is_on") "Watch.is_on" = true := Prp.propB_ok (T.ex_at 18 (f := ex18) rfl)
theorem Tx.pr_Watch_rows_now (T : Tx K mg) : PropOf K (He.ga K "Watch") "rows_now" (He.ma K (He.ga K "Watch") "rows_now") (Prp.gp K (He.ga K "Watch") "rows_now") ∧ PySem.W.keepIn K (.ref (Prp.gp K (He.ga K "Watch") "rows_now")) = true ∧ Hkc.mdB K (Prp.gp K (He.ga K "Watch") "rows_now") "Watch.rows_now" = true := Prp.propB_ok (T.ex_at 19 (f := ex19) rfl)
theorem Tx.pr_Watch_times_on (T : Tx K mg) : PropOf K (He.ga K "Watch") "times_on" (He.ma K (He.ga K "Watch") "times_on") (Prp.gp K (He.ga K "Watch") "times_on") ∧ PySem.W.keepIn K (.ref (Prp.gp K (He.ga K "Watch") "times_on")) = true ∧ Hkc.mdB K (Prp.gp K (He.ga K "Watch") "times_on") "Watch.times_on" = true := Prp.propB_ok (T.ex_at 20 (f := ex20) rfl)
end
def tf : List He.Defn := []
end K48
set_option Elab.async false
set_option linter.all false
set_option maxRecDepth 100000
set_option maxHeartbeats 0
namespace K48
open PySem PySem.Spec PyProof.Rows L2
abbrev R : PySem.W.OpenRow := PySem.W.OpenLaw.row PySem.Challenge.rw_gaugeroad_k48_alarms_and_watches
abbrev hk : PySem.W.Hook := Hkc.hookC 5 fa fn tf ex ms
def ob (s : PySem.W.SharedT) : Hkc.AlC := Hkc.obsC 5 fa fn tf ex ms (HandSHeadRun.getT s)
theorem ob_eq (s : PySem.W.SharedT) : ob s = hk.obs s.abs := Hkc.obsC_eq (HandSHeadRun.getT_eq s)
def names0 : List PySem.Str := ["RoadError", "BadNumber", "BadAlarm", "is_whole", "is_within", "check_number", "MOST_COLUMNS", "MOST_ON", "Alarm", "FAR", "Watch", "on_after", "check_alarm", "stays_on", "states_on", "_law_pen", "_law_draw", "_law_pick", "_law_states", "_law_rows", "_law_right"]
def names : List PySem.Str := names0
theorem run (w : World) : HandSHeadRun.RunEq R (PySem.W.view R.prog [26]) hk ob 8000 names w := by
  intro os
  kernel_rfl
end K48
set_option Elab.async false
set_option linter.all false
set_option maxRecDepth 100000
set_option maxHeartbeats 4000000
namespace K48
open PySem PySem.Spec PyProof.Rows L2 Pre Dfs Vls
section
variable {P : Program} {w : World} {K : PySem.W.Frag} {mg : Str → Option Value} {base : Heap}
theorem p0 {X : Cx} {E : XK} : Passes CX0 X E := fun _ _ _ _ _ _ _ z => z.elim
theorem ite3 {b : Bool} {p q : Prop} (h1 : b = true → p) (h2 : b = false → q) : if b = true then p else q := by
  cases b with
  | true => exact h1 rfl
  | false => exact h2 rfl
/-- what is never reached -/
theorem ps_dead {X : Cx} {st : Stmt} : PS X st (fun _ _ _ => False) := ⟨fun _ _ _ _ _ _ q => q.elim⟩
theorem PE.imp {X : Cx} {e : Expr} {t t' : TE} (h : PE X e t) (i : ∀ σ H Q, t' σ H Q → t σ H Q) : PE X e t' := ⟨fun pins s σ H Q I q => h.run pins s σ H Q I (i σ H Q q)⟩
/-! is_whole, is_within, check_number -/
def spWhole : Sp := fun vs H Q _ => ∃ x, vs = [x] ∧ Dat H x ∧ Q (.bl (isW x)) H
def spWithin : Sp := fun vs H Q _ => ∃ x lo hi, vs = [x, .int lo, .int hi] ∧ Dat H x ∧ Q (.bl (inR lo hi x)) H
def spCheck : Sp := fun vs H Q _ => ∃ x lo hi, vs = [.int x, .int lo, .int hi] ∧ lo ≤ x ∧ x ≤ hi ∧ Q .non H
theorem d_whole (T : Tx K mg) : Dfn P w K mg base CX0 1 "is_whole" ["value"] spWhole := by
  refine dfn T.q_is_whole T.g_is_whole (N := ["value"]) ⟨rfl, rfl, rfl, by decide +kernel, rfl, by decide +kernel, by decide +kernel⟩ (fun vs H Q E h => ?_) (fun kV doc pm an cdv ct => bind1 fun a => rfl) (fun cdv A outer s H vs Q E hr h => ?_)
  · obtain ⟨_, rfl, _⟩ := h
    rfl
  · obtain ⟨x, rfl, d, q⟩ := h
    refine ⟨_, pss_one (ps_ret (pe_and (pe_callB call_isi (by rfl) T.f_isinstance (by decide +kernel) (pa_cons (pv 0) (pa_cons (pe_bltn (v := .ty "int") (by rfl) T.f_int (by kernel_rfl) rfl) pa_nil)))
      (pe_one (pe_not (pe_callB call_isi (by rfl) T.f_isinstance (by decide +kernel) (pa_cons (pv 0) (pa_cons (pe_bltn (v := .ty "bool") (by rfl) T.f_bool (by kernel_rfl) rfl) pa_nil))))))), ?_⟩
    refine ⟨_, rfl, _, _, _, _, _, rfl, .ty _, d.ty, d.kInt, _, rfl, ?_⟩
    refine ite2 (fun h1 => ?_) (fun h1 => ?_)
    · refine ⟨_, rfl, _, _, _, _, _, rfl, .ty _, d.ty, d.kBool, _, rfl, ?_⟩
      have e : (!isB x) = isW x := by cases d <;> first | rfl | cases h1
      show Q (.bl (!isB x)) H
      rw [e]
      exact q
    · have e : isW x = false := by cases d <;> first | rfl | exact absurd rfl h1
      rw [e] at q
      exact q
theorem d_within (T : Tx K mg) : Dfn P w K mg base CX0 2 "is_within" ["value", "low", "high"] spWithin := by
  refine dfn T.q_is_within T.g_is_within (N := ["value", "low", "high"]) ⟨rfl, rfl, rfl, by decide +kernel, rfl, by decide +kernel, by decide +kernel⟩ (fun vs H Q E h => ?_) (fun kV doc pm an cdv ct => bind3 fun a b c => rfl) (fun cdv A outer s H vs Q E hr h => ?_)
  · obtain ⟨_, _, _, rfl, _⟩ := h
    rfl
  · obtain ⟨x, lo, hi, rfl, d, q⟩ := h
    refine ⟨_, pss_one (ps_ret (pe_and (pe_d (d_whole T) hr (by rfl) (E := E) p0 (pa_cons (pv 0) pa_nil)) (pe_one (pe_chain op_le op_le (pv 1) (pv 0) (pv 2))))), ?_⟩
    refine ⟨_, rfl, x, rfl, d, _, rfl, ?_⟩
    refine ite2 (fun h1 => ?_) (fun h1 => ?_)
    · cases d with
      | int i =>
        have q2 : Q (.bl (decide (lo ≤ i) && decide (i ≤ hi))) H := q
        refine ⟨_, rfl, _, rfl, _, _, rfl, rfl, _, rfl, ?_⟩
        refine ite2 (fun h2 => ⟨_, rfl, _, _, rfl, rfl, ?_⟩) (fun h2 => ?_)
        · rw [h2] at q2
          exact q2
        · rw [Bool.not_eq_true] at h2
          rw [h2] at q2
          exact q2
      | _ => cases h1
    · have e : inR lo hi x = false := by cases d <;> first | rfl | exact absurd rfl h1
      rw [e] at q
      exact q
theorem inR_ok {lo hi x : Int} (h1 : lo ≤ x) (h2 : x ≤ hi) : inR lo hi (.int x) = true := by
  show (decide (lo ≤ x) && decide (x ≤ hi)) = true
  rw [decide_eq_true h1, decide_eq_true h2]
  rfl
theorem d_check (T : Tx K mg) : Dfn P w K mg base CX0 3 "check_number" ["value", "low", "high"] spCheck := by
  refine dfn T.q_check_number T.g_check_number (N := ["value", "low", "high"]) ⟨rfl, rfl, rfl, by decide +kernel, rfl, by decide +kernel, by decide +kernel⟩ (fun vs H Q E h => ?_) (fun kV doc pm an cdv ct => bind3 fun a b c => rfl) (fun cdv A outer s H vs Q E hr h => ?_)
  · obtain ⟨_, _, _, rfl, _⟩ := h
    rfl
  · obtain ⟨x, lo, hi, rfl, h1, h2, q⟩ := h
    refine ⟨_, pss_one (ps_if (pt_not (pt_val (pe_d (d_within T) hr (by rfl) (E := E) p0 (pa_cons (pv 0) (pa_cons (pv 1) (pa_cons (pv 2) pa_nil))))))
      (pss_one ps_dead) pss_nil), ?_⟩
    refine ⟨_, rfl, _, rfl, _, rfl, _, lo, hi, rfl, .int x, _, rfl, ?_⟩
    rw [inR_ok h1 h2]
    exact ite3 (fun h => by cases h) (fun _ => q)
end
end K48
set_option Elab.async false
set_option linter.all false
set_option maxRecDepth 100000
set_option maxHeartbeats 4000000
namespace K48
open PySem PySem.Spec PyProof.Rows L2 Pre Dfs Vls
/-- the pen at p: the cells at a, s draws so far, what is left of a great cell -/
structure Pen (K : PySem.W.Frag) (H : Hp) (p a : Addr) (ns : List Int) (s g : Int) : Prop where
  at_ : H p = some (.lst [.ref a, .int s, .int g])
  cells : H a = some (.lst (ns.map V.int))
  len : ns.length ≤ 63
  s0 : 0 ≤ s
  g0 : 0 ≤ g
theorem Pen.ne {K : PySem.W.Frag} {H : Hp} {p a : Addr} {ns : List Int} {s g : Int} (R : Pen K H p a ns s g) : a ≠ p := by
  refine ne_of R.cells R.at_ fun q => ?_
  have q2 := HO.lst.inj q
  cases ns with
  | nil => cases q2
  | cons y r => cases q2
theorem Pen.next {K : PySem.W.Frag} {H H' : Hp} {p a : Addr} {ns : List Int} {s g s' g' : Int} (R : Pen K H p a ns s g) (b : But p H H')
    (e : H' p = some (.lst [.ref a, .int s', .int g'])) (h1 : 0 ≤ s') (h2 : 0 ≤ g') : Pen K H' p a ns s' g' :=
  ⟨e, b _ _ R.ne R.cells, R.len, h1, h2⟩
theorem same_none {H H' : Hp} {b : Addr} (s : Same H H') (h : H' b = none) : H b = none := by
  cases q : H b with
  | none => rfl
  | some o =>
    rw [s _ _ q] at h
    cases h
theorem Pen.same {K : PySem.W.Frag} {H H' : Hp} {p a : Addr} {ns : List Int} {s g : Int} (R : Pen K H p a ns s g) (S : Same H H') : Pen K H' p a ns s g := ⟨S _ _ R.at_, S _ _ R.cells, R.len, R.s0, R.g0⟩
def spDraw (K : PySem.W.Frag) : Sp := fun vs H Q _ => ∃ (p a : Addr) (ns : List Int) (s g m : Int),
  vs = [.ref p, .int m] ∧ Pen K H p a ns s g ∧ s < 1000000 ∧ 0 < m ∧ m < 10 ^ 60 ∧
  ∀ (H' : Hp) (s' g' r : Int), But p H H' → Pen K H' p a ns s' g' → s ≤ s' → s' ≤ s + 1 → 0 ≤ r → r < m → Q (.int r) H'
section
variable {P : Program} {w : World} {K : PySem.W.Frag} {mg : Str → Option Value} {base : Heap}
theorem scDraw : FnScope ["_law_pen_here", "_law_many", "_law_digit", "_law_spot", "_law_cell", "_law_great", "_law_mixed"] ["_law_pen_here", "_law_many"] (defScope s_law_draw) :=
  ⟨rfl, rfl, rfl, by decide +kernel, rfl, by decide +kernel, by decide +kernel⟩
theorem item_of {ns : List Int} {t : Int} (h0 : 0 ≤ t) (hn : ns ≠ []) : ∃ v, atI (ns.map V.int) (t % (((ns.map V.int).length : Nat) : Int)) = some (V.int v) := by
  have hp : (0 : Int) < (((ns.map V.int).length : Nat) : Int) := by
    cases ns with
    | nil => exact absurd rfl hn
    | cons y r => simp
  have a1 := Int.emod_nonneg t (show (((ns.map V.int).length : Nat) : Int) ≠ 0 by omega)
  have a2 := Int.emod_lt_of_pos t hp
  obtain ⟨j, hj⟩ := Int.eq_ofNat_of_zero_le a1
  rw [hj] at a2 ⊢
  have hj2 : j < ns.length := by
    rw [List.length_map] at a2
    omega
  refine ⟨ns[j], atI_nat ?_⟩
  rw [List.getElem?_map, List.getElem?_eq_getElem hj2]
  rfl
theorem wideM {i m : Int} (h0 : 0 < m) (h1 : m < 10 ^ 60) : CDivW i m := by
  refine wide_div h0 (b := 200) ?_ (by decide) (by decide)
  have e : (10 : Nat) ^ 60 < 2 ^ 200 := by decide
  have e2 : (10 : Int) ^ 60 = ((10 ^ 60 : Nat) : Int) := by decide
  rw [e2] at h1
  generalize (10 : Nat) ^ 60 = t at e h1
  generalize (2 : Nat) ^ 200 = u at e
  omega
theorem d_draw (T : Tx K mg) : Dfn P w K mg base CX0 1 "_law_draw" ["_law_pen_here", "_law_many"] (spDraw K) := by
  have nd := scDraw.nd
  refine dfn T.q_law_draw T.g_law_draw (N := ["_law_pen_here", "_law_many", "_law_digit", "_law_spot", "_law_cell", "_law_great", "_law_mixed"]) scDraw (fun vs H Q E h => ?_) (fun kV doc pm an cdv ct => bind2 fun a b => rfl) (fun cdv A outer s H vs Q E hr h => ?_)
  · obtain ⟨_, _, _, _, _, _, rfl, _⟩ := h
    rfl
  · obtain ⟨p, a, ns, z, g, m, rfl, R, hz, m0, m1, k⟩ := h
    refine ⟨_, pss_cons (ps_if (pt_cmpR op_gt (pe_ix ix_list (pv 0) pe_int (fun _ _ => rfl)) pe_int (nomark _))
        (pss_cons (ps_set (i := 2) nd rfl (Or.inl rfl) (pe_op op_mod (pe_callTy call_int1 (by rfl) T.f_int (by decide +kernel) (pa_cons (pe_ix ix_list (pv 0) pe_int (fun _ _ => rfl)) pa_nil)) (pv 1)))
        (pss_cons (ps_asg (pe_op op_fdivW (pe_callTy call_int1 (by rfl) T.f_int (by decide +kernel) (pa_cons (pe_ix ix_list (pv 0) pe_int (fun _ _ => rfl)) pa_nil)) (pv 1)) (pg_sub (pv 0) pe_int set_list))
        (pss_one (ps_ret (pv 2))))) pss_nil)
      (pss_cons (ps_set (i := 3) nd rfl (Or.inl rfl) (pe_ix ix_list (pv 0) pe_int (fun _ _ => rfl)))
      (pss_cons (ps_asg (pe_op op_add (pv 3) pe_int) (pg_sub (pv 0) pe_int set_list))
      (pss_cons (ps_set (i := 4) nd rfl (Or.inl rfl) (pe_op op_add (pe_op op_mul pe_int (pv 3)) pe_int))
      (Evl.pss_cut (ps_if (pt_cmpR (op_neD hr.units) (pe_ix ix_list (pv 0) pe_int (fun _ _ => rfl)) (pe_lst pa_nil) (nomark _))
        (pss_one (ps_set (i := 4) nd rfl (Or.inl rfl) (pe_ix ix_list (pe_ix ix_list (pv 0) pe_int (fun _ _ => rfl))
          (pe_op op_mod (pe_callTy call_int1 (by rfl) T.f_int (by decide +kernel) (pa_cons (pv 3) pa_nil)) (pe_callB call_len_seq (by rfl) T.f_len PySem.boot_len (pa_cons (pe_ix ix_list (pv 0) pe_int (fun _ _ => rfl)) pa_nil))) (fun _ _ => rfl)))) pss_nil)
      (Evl.pss_cut (ps_if (PW.pt (pw_and (pt_cmpR op_lt (pv 3) (pe_callB call_len_seq (by rfl) T.f_len PySem.boot_len (pa_cons (pe_ix ix_list (pv 0) pe_int (fun _ _ => rfl)) pa_nil)) (nomark _))
          (pw_and1 (pt_cmpR op_ge (pe_callB call_abs (by rfl) T.f_abs (by decide +kernel) (pa_cons (pv 4) pa_nil)) (pe_op op_pow pe_int pe_int) (nomark _)))))
        (pss_cons (ps_set (i := 5) nd rfl (Or.inl rfl) (pe_op op_add (pe_op op_mul pe_int (pe_op op_sub (pe_callB call_abs (by rfl) T.f_abs (by decide +kernel) (pa_cons (pv 4) pa_nil)) (pe_op op_pow pe_int pe_int)))
            (pe_callTy call_int1 (by rfl) T.f_int (by decide +kernel) (pa_cons (pe_cmpR op_lt (pv 4) pe_int (nomark _)) pa_nil))))
        (pss_cons (ps_asg (pe_op op_fdivW (pe_callTy call_int1 (by rfl) T.f_int (by decide +kernel) (pa_cons (pv 5) pa_nil)) (pv 1)) (pg_sub (pv 0) pe_int set_list))
        (pss_one (ps_ret (pe_op op_mod (pe_callTy call_int1 (by rfl) T.f_int (by decide +kernel) (pa_cons (pv 5) pa_nil)) (pv 1)))))) pss_nil)
      (pss_cons (ps_set (i := 6) nd rfl (Or.inl rfl) (pe_op op_mod (pe_callTy call_int1 (by rfl) T.f_int (by decide +kernel) (pa_cons
          (pe_op op_pow (pe_op op_add (pe_op op_add (pe_op op_mod (pe_callTy call_int1 (by rfl) T.f_int (by decide +kernel) (pa_cons (pv 4) pa_nil)) pe_int) (pe_op op_mul pe_int (pv 3))) pe_int) pe_int) pa_nil)) pe_int))
      (pss_cons (ps_set (i := 6) nd rfl (Or.inl rfl) (pe_op op_mod (pe_callTy call_int1 (by rfl) T.f_int (by decide +kernel) (pa_cons
          (pe_op op_pow (pe_op op_add (pe_op op_add (pe_op op_mul (pv 6) (pe_op op_add (pe_op op_mul pe_int (pv 3)) pe_int)) (pe_op op_mul (pe_op op_mul pe_int (pv 3)) (pv 3))) pe_int) pe_int) pa_nil)) pe_int))
      (pss_one (ps_ret (pe_op op_mod (pe_callTy call_int1 (by rfl) T.f_int (by decide +kernel) (pa_cons (pe_op op_fdiv (pv 6) pe_int) pa_nil)) (pv 1))))))))))), ?_⟩
    have n0 := R.s0
    have p1 : upd H p (.lst [.ref a, .int (z + 1), .int g]) p = some (.lst [.ref a, .int (z + 1), .int g]) := upd_same
    refine ⟨_, rfl, p, _, _, _, rfl, rfl, SqL.of R.at_, rfl, _, _, rfl, rfl, _, rfl, ?_⟩
    refine ite2 (fun h1 => ?_) (fun h1 => ?_)
    · refine ⟨_, rfl, p, _, _, _, rfl, rfl, SqL.of R.at_, rfl, .inl ⟨_, rfl, _, rfl, _, _, rfl, rfl, m0, ?_⟩⟩
      refine ⟨_, rfl, p, _, _, _, rfl, rfl, SqL.of R.at_, rfl, .inl ⟨_, rfl, _, rfl, _, _, rfl, rfl, wideM m0 m1, ?_⟩⟩
      refine ⟨_, rfl, p, _, _, _, rfl, rfl, R.at_, rfl, ?_⟩
      refine ⟨_, rfl, ?_⟩
      have g1 : 0 ≤ g / m := Int.ediv_nonneg R.g0 (by omega)
      exact k _ z (g / m) (g % m) But.at_ (R.next But.at_ upd_same n0 g1) (Int.le_refl _) (by omega) (Int.emod_nonneg _ (by omega)) (Int.emod_lt_of_pos _ m0)
    · refine ⟨_, rfl, p, _, _, _, rfl, rfl, SqL.of R.at_, rfl, ?_⟩
      refine ⟨_, rfl, _, _, rfl, rfl, _, rfl, p, _, _, _, rfl, rfl, R.at_, rfl, ?_⟩
      refine ⟨_, rfl, _, _, rfl, rfl, .inl ⟨by decide, by decide⟩, _, _, rfl, rfl, ?_⟩
      refine ⟨fun σ1 H1 => ∃ c : Int, σ1 = [some (.ref p), some (.int m), none, some (.int z), some (.int c), none, none] ∧ But p H H1 ∧ Pen K H1 p a ns (z + 1) g, ?_, ?_⟩
      · have R1 : Pen K (upd H p (.lst [.ref a, .int (z + 1), .int g])) p a ns (z + 1) g := R.next But.at_ p1 (by omega) R.g0
        refine ⟨_, rfl, p, _, _, _, rfl, rfl, SqL.of R1.at_, rfl, Nat.zero_le _, fun q hq => ?_⟩
        have nq : a ≠ q := ne_of_none R1.cells hq
        have nq2 : p ≠ q := ne_of_none R1.at_ hq
        refine ⟨_, _, .lst (SqL.of (by rw [upd_ne nq]; exact R1.cells)) (dp_ints ns), .lst (SqL.of upd_same) .nil, shaped_ints ns, by decide, _, rfl, ?_⟩
        have b2 : But p H (upd (upd H p (.lst [.ref a, .int (z + 1), .int g])) q (.lst [])) := But.at_.new hq
        have R2 : Pen K (upd (upd H p (.lst [.ref a, .int (z + 1), .int g])) q (.lst [])) p a ns (z + 1) g := R.next b2 (by rw [upd_ne nq2]; exact p1) (by omega) R.g0
        rw [eqv_nil]
        refine ite2 (fun h2 => ?_) (fun h2 => ?_)
        · have hn : ns ≠ [] := fun e => by
            rw [e] at h2
            cases h2
          obtain ⟨v, hv⟩ := item_of (ns := ns) n0 hn
          have hpos : (0 : Int) < (((ns.map V.int).length : Nat) : Int) := by
            cases ns with
            | nil => exact absurd rfl hn
            | cons y r => simp
          refine ⟨_, rfl, p, _, _, _, rfl, rfl, SqL.of R2.at_, rfl, _, rfl, .inl ⟨_, rfl, _, rfl, p, _, _, _, rfl, rfl, SqL.of R2.at_, rfl, a, _, rfl, .inl (SqL.of R2.cells), _, _, rfl, rfl, hpos, a, _, _, _, rfl, rfl, SqL.of R2.cells, hv, ?_⟩⟩
          exact ⟨v, rfl, b2, R2⟩
        · exact ⟨_, rfl, b2, R2⟩
      · rintro σ1 H1 ⟨c, rfl, b1, R1⟩
        refine ⟨fun σ2 H2 => σ2 = [some (.ref p), some (.int m), none, some (.int z), some (.int c), none, none] ∧ H2 = H1, ?_, ?_⟩
        · refine ⟨_, rfl, _, rfl, p, _, _, _, rfl, rfl, SqL.of R1.at_, rfl, a, _, rfl, .inl (SqL.of R1.cells), _, _, rfl, rfl, _, rfl, ?_⟩
          refine ite2 (fun _ => ?_) (fun _ => ⟨rfl, rfl⟩)
          refine ⟨_, rfl, _, rfl, _, _, rfl, rfl, ⟨by decide, by decide, by decide⟩, _, _, rfl, rfl, _, rfl, ?_⟩
          refine ite2 (fun h3 => ?_) (fun _ => ⟨rfl, rfl⟩)
          have big : (10 : Int) ^ (18 : Int).toNat ≤ (if c < 0 then -c else c) := of_decide_eq_true h3
          refine ⟨_, rfl, _, rfl, _, _, rfl, rfl, ⟨by decide, by decide, by decide⟩, _, _, rfl, rfl, _, _, rfl, rfl, .inl ⟨by decide, by decide⟩, _, rfl, _, _, rfl, rfl, .inr ⟨_, rfl, _, _, rfl, rfl, ?_⟩⟩
          refine ⟨_, rfl, .inl ⟨_, rfl, _, rfl, _, _, rfl, rfl, wideM m0 m1, ?_⟩⟩
          refine ⟨_, rfl, p, _, _, _, rfl, rfl, R1.at_, rfl, ?_⟩
          refine ⟨_, rfl, .inl ⟨_, rfl, _, rfl, _, _, rfl, rfl, m0, ?_⟩⟩
          have g1 : 0 ≤ (2 * ((if c < 0 then -c else c) - 10 ^ (18 : Int).toNat) + (if decide (c < 0) = true then 1 else 0)) / m := by
            refine Int.ediv_nonneg ?_ (by omega)
            have e1 : (0 : Int) ≤ (if decide (c < 0) = true then 1 else 0) := by split <;> decide
            omega
          exact k _ (z + 1) _ _ b1.set (R.next b1.set upd_same (by omega) g1) (by omega) (by omega) (Int.emod_nonneg _ (by omega)) (Int.emod_lt_of_pos _ m0)
        · rintro σ2 H2 ⟨rfl, rfl⟩
          have c0 : 0 ≤ c % 2147483563 := Int.emod_nonneg _ (by decide)
          have c1 : c % 2147483563 < 2147483563 := Int.emod_lt_of_pos _ (by decide)
          refine ⟨_, rfl, .inl ⟨_, rfl, _, _, rfl, rfl, (by show (0 : Int) < _; decide), _, rfl, _, _, rfl, rfl, .inl ⟨by decide, by decide⟩, _, _, rfl, rfl, _, _, rfl, rfl, _, _, rfl, rfl, ⟨by decide, by decide, ?_⟩, .inl ⟨_, rfl, _, _, rfl, rfl, (by show (0 : Int) < _; decide), ?_⟩⟩⟩
          · omega
          have y0 : 0 ≤ (c % 2147483563 + 88001 * z + 2203) ^ (5 : Int).toNat % 2147483629 := Int.emod_nonneg _ (by decide)
          have y1 : (c % 2147483563 + 88001 * z + 2203) ^ (5 : Int).toNat % 2147483629 < 2147483629 := Int.emod_lt_of_pos _ (by decide)
          show gName 6 (V.int ((c % 2147483563 + 88001 * z + 2203) ^ (5 : Int).toNat % 2147483629)) _ _ _
          generalize (c % 2147483563 + 88001 * z + 2203) ^ (5 : Int).toNat % 2147483629 = y at y0 y1 ⊢
          have b1' : 50021 * z * z ≤ 50021 * 1000000 * 1000000 := Int.mul_le_mul (by omega) (by omega) n0 (by decide)
          have b2' : y * (2 * z + 301) ≤ 2147483629 * 2000301 := Int.mul_le_mul (by omega) (by omega) (by omega) (by decide)
          have b3' : 0 ≤ 50021 * z * z := Int.mul_nonneg (by omega) n0
          have b4' : 0 ≤ y * (2 * z + 301) := Int.mul_nonneg y0 (by omega)
          refine ⟨_, rfl, _, rfl, _, _, rfl, rfl, .inl ⟨by decide, by decide⟩, _, _, rfl, rfl, _, _, rfl, rfl, .inl ⟨by omega, by omega⟩, _, rfl, _, _, rfl, rfl, .inl ⟨by decide, by decide⟩, _, rfl, _, _, rfl, rfl, .inl ⟨by omega, by omega⟩, _, _, rfl, rfl, _, _, rfl, rfl, _, _, rfl, rfl,
            ⟨by decide, by decide, ?_⟩, .inl ⟨_, rfl, _, _, rfl, rfl, (by show (0 : Int) < _; decide), ?_⟩⟩
          · omega
          refine ⟨_, rfl, _, _, rfl, rfl, ⟨by decide, by decide⟩, .inl ⟨_, rfl, _, rfl, _, _, rfl, rfl, m0, ?_⟩⟩
          exact k _ (z + 1) g _ b1 R1 (by omega) (by omega) (Int.emod_nonneg _ (by omega)) (Int.emod_lt_of_pos _ m0)
end
theorem cut63 {xs : List V} (h : xs.length ≤ 63) : cutV xs none (some 63) = xs := by
  have e : HT.sIx xs.length xs.length (some 63) = min 63 xs.length := HT.sIx_nat _ _ 63
  unfold cutV
  rw [HT.sIx_none, e, List.drop_zero, Nat.sub_zero, Nat.min_eq_right h, List.take_length]
section
variable {P : Program} {w : World} {K : PySem.W.Frag} {mg : Str → Option Value} {base : Heap}
def spPen (K : PySem.W.Frag) : Sp := fun vs H Q _ => ∃ (a : Addr) (ns : List Int), vs = [.ref a] ∧ SqL K H a (ns.map V.int) ∧ ns.length ≤ 63 ∧ ∀ (H' : Hp) (p c : Addr), Same H H' → H p = none → H c = none → Pen K H' p c ns 0 0 → Q (.ref p) H'
theorem d_pen (T : Tx K mg) : Dfn P w K mg base CX0 1 "_law_pen" ["_law_script"] (spPen K) := by
  refine dfn T.q_law_pen T.g_law_pen (N := ["_law_script"]) ⟨rfl, rfl, rfl, by decide +kernel, rfl, by decide +kernel, by decide +kernel⟩ (fun vs H Q E h => ?_) (fun kV doc pm an cdv ct => bind1 fun a => rfl) (fun cdv A outer s H vs Q E hr h => ?_)
  · obtain ⟨_, _, rfl, _⟩ := h
    rfl
  · obtain ⟨a, ns, rfl, e, few, q⟩ := h
    refine ⟨_, pss_one (ps_ret (pe_lst (pa_cons (pe_callTy call_list_of (by rfl) T.f_list (by kernel_rfl) (pa_cons (pe_slice sl_list (pv 0) po_none (po_some pe_int)) pa_nil)) (pa_cons pe_int (pa_cons pe_int pa_nil))))), ?_⟩
    refine ⟨_, rfl, 63, rfl, a, _, rfl, e, fun p1 hp1 => ⟨p1, _, rfl, .inl (SqL.of upd_same), fun c hc => ⟨(by show (3 : Nat) ≤ sizeLine; rw [sizeLine_eq]; decide), fun p hp => ?_⟩⟩⟩
    have s1 : Same H (upd (upd H p1 (.lst (cutV (ns.map V.int) none (some 63)))) c (.lst (cutV (ns.map V.int) none (some 63)))) := Same.new (Same.upd hp1) hc
    have ncp : c ≠ p := ne_of_none upd_same hp
    refine q _ p c (Same.new s1 hp) (same_none s1 hp) (same_none (Same.upd hp1) hc) ⟨upd_same, ?_, few, Int.le_refl _, Int.le_refl _⟩
    rw [upd_ne ncp, upd_same, cut63 (by rw [List.length_map]; exact few)]
/-- pick -/
def spPick (K : PySem.W.Frag) : Sp := fun vs H Q _ => ∃ (p a b : Addr) (ns : List Int) (s g : Int) (xs : List V), vs = [.ref p, .ref b] ∧ Pen K H p a ns s g ∧ s < 1000000 ∧ b ≠ p ∧ H b = some (.lst xs) ∧ 0 < xs.length ∧ xs.length < 1000 ∧
  ∀ (H' : Hp) (s' g' : Int) (x : V), But p H H' → Pen K H' p a ns s' g' → s ≤ s' → s' ≤ s + 1 → x ∈ xs → Q x H'
theorem d_pick (T : Tx K mg) : Dfn P w K mg base CX0 2 "_law_pick" ["_law_pen_here", "_law_some"] (spPick K) := by
  refine dfn T.q_law_pick T.g_law_pick (N := ["_law_pen_here", "_law_some"]) ⟨rfl, rfl, rfl, by decide +kernel, rfl, by decide +kernel, by decide +kernel⟩ (fun vs H Q E h => ?_) (fun kV doc pm an cdv ct => bind2 fun a b => rfl) (fun cdv A outer s H vs Q E hr h => ?_)
  · obtain ⟨_, _, _, _, _, _, _, rfl, _⟩ := h
    rfl
  · obtain ⟨p, a, b, ns, z, g, xs, rfl, R, hz, nb, sb, h0, h1, q⟩ := h
    refine ⟨_, pss_one (ps_ret (pe_ix ix_list (pv 1) (pe_d (d_draw T) hr (by rfl) (E := E) p0 (pa_cons (pv 0) (pa_cons (pe_callB call_len_seq (by rfl) T.f_len PySem.boot_len (pa_cons (pv 1) pa_nil)) pa_nil))) (fun _ _ => rfl))), ?_⟩
    refine ⟨_, rfl, _, rfl, _, rfl, b, _, rfl, .inl (SqL.of sb), p, a, ns, z, g, _, rfl, R, hz, by omega, by omega, fun H' s' g' r bt R' h2 h3 h4 h5 => ?_⟩
    obtain ⟨n, rfl⟩ := Int.eq_ofNat_of_zero_le h4
    have hn : n < xs.length := by omega
    exact ⟨b, xs, _, xs[n], rfl, rfl, SqL.of (bt _ _ nb sb), atI_nat (j := n) (by simp [hn]), q H' s' g' _ bt R' h2 h3 (List.getElem_mem hn)⟩
end
end K48
set_option Elab.async false
set_option linter.all false
set_option maxRecDepth 100000
set_option maxHeartbeats 4000000
namespace K48
open PySem PySem.Spec PyProof.Rows L2 Pre Dfs Vls
theorem fld {X : Cx} {e : Expr} {f : Str} {pos : Pos} {ta : TE} (he : PE X e ta) (hb : attributeBase e f X.env (eval e X.env) = eval e X.env := by rfl) : PE X (.Attribute e f pos) (tFld X.K ta f) := pe_fld he hb
abbrev CA (K : PySem.W.Frag) : Addr := He.ga K "Alarm"
abbrev CW (K : PySem.W.Frag) : Addr := He.ga K "Watch"
/-- an alarm -/
def AlO (K : PySem.W.Frag) (H : Hp) (a : Addr) (c o f : Int) : Prop := ∃ dx, H a = some (.ins (CA K) dx [("columns", .int c), ("on", .int o), ("off", .int f)])
theorem AlO.same {K : PySem.W.Frag} {H H' : Hp} {a : Addr} {c o f : Int} (h : AlO K H a c o f) (S : Same H H') : AlO K H' a c o f := by
  obtain ⟨dx, e⟩ := h
  exact ⟨dx, S _ _ e⟩
/-- what off can be passed as -/
def OffOk (y : V) (o f : Int) : Prop := (y = .non ∧ f = o) ∨ (y = .int f ∧ 1 ≤ f ∧ f ≤ o)
theorem But.made {H H' : Hp} {x dx C : Addr} (nx : H x = none) (nd : H dx = none) (b : But x (upd (upd H dx (.own x)) x (.ins C dx [])) H') : Same H H' := fun c o h => by
  have n1 : c ≠ x := ne_of_none h nx
  have n2 : c ≠ dx := ne_of_none h nd
  refine b c o n1 ?_
  rw [upd_ne n1, upd_ne n2]
  exact h
section
variable {P : Program} {w : World} {K : PySem.W.Frag} {mg : Str → Option Value} {base : Heap}
def spAl (K : PySem.W.Frag) : Sp := fun vs H Q _ => ∃ (a dx : Addr) (c o : Int) (y : V) (f : Int), vs = [.ref a, .int c, .int o, y] ∧ H a = some (.ins (CA K) dx []) ∧ (1 ≤ c ∧ c ≤ 50) ∧ (1 ≤ o ∧ o ≤ 10 ^ 20) ∧ OffOk y o f ∧
  ∀ H', But a H H' → AlO K H' a c o f → Q .non H'
theorem f_Alarm (T : Tx K mg) : ∃ fd, FnOk P w K mg base CX0 4 (He.ma K (CA K) "__init__") fd ["self", "columns", "on", "off"] (spAl K) ∧ FunD K "__init__" "Alarm.__init__" (defArgs s_Alarm_init) (defBody s_Alarm_init) (defScope s_Alarm_init) [.non] [] (He.ma K (CA K) "__init__") fd := by
  obtain ⟨fd, F⟩ := T.q_Alarm_init
  refine ⟨fd, F.ok (N := ["self", "columns", "on", "off"]) ⟨rfl, rfl, rfl, by decide +kernel, rfl, by decide +kernel, by decide +kernel⟩ (fun vs H Q E h => ?_) (fun cdv A outer s H vs Q E hr h => ?_), F⟩
  · obtain ⟨_, _, _, _, _, _, rfl, _⟩ := h
    rfl
  · obtain ⟨a, dx, c, o, y, f, rfl, ea, ⟨c1, c2⟩, ⟨o1, o2⟩, ho, q⟩ := h
    obtain ⟨t1, h1⟩ := T.i_MOST_COLUMNS
    obtain ⟨t2, h2⟩ := T.i_MOST_ON
    refine ⟨_, pss_cons (ps_expr (pe_d (d_check T) hr (by rfl) (E := E) p0 (pa_cons (pv 1) (pa_cons pe_int (pa_cons (pe_glob (v := .int 50) (by rfl) h1 ⟨t1, rfl⟩) pa_nil)))))
      (pss_cons (ps_expr (pe_d (d_check T) hr (by rfl) (E := E) p0 (pa_cons (pv 2) (pa_cons pe_int (pa_cons (pe_glob (v := .int (10 ^ 20)) (by rfl) h2 ⟨t2, rfl⟩) pa_nil)))))
      (pss_cons (ps_if (PW.pt (pw_and (pt_cmpR op_notN (pv 3) pe_non (nomark _)) (pw_and1 (pt_not (pt_val (pe_d (d_within T) (hr.mono (by decide)) (by rfl) (E := E) p0 (pa_cons (pv 3) (pa_cons pe_int (pa_cons (pv 2) pa_nil))))))))) (pss_one ps_dead) pss_nil)
      (pss_cons (ps_fld (pv 0) (pv 1) rfl)
      (pss_cons (ps_fld (pv 0) (pv 2) rfl)
      (pss_one (ps_fld (pv 0) (pe_ifExp (pt_cmpR op_isN (pv 3) pe_non (nomark _)) (pv 2) (pv 3)) rfl)))))), ?_⟩
    refine ⟨_, rfl, c, 1, 50, rfl, c1, c2, ?_⟩
    refine ⟨_, rfl, o, 1, 10 ^ 20, rfl, o1, o2, ?_⟩
    have fin : ∀ H', But a H H' → H' a = some (.ins (CA K) dx [("columns", .int c), ("on", .int o), ("off", .int f)]) → Q .non H' := fun H' b e => q H' b ⟨dx, e⟩
    rcases ho with ⟨rfl, rfl⟩ | ⟨rfl, f1, f2⟩
    · refine ⟨_, rfl, rfl, _, rfl, ite3 (fun h => by cases h) (fun _ => ?_)⟩
      refine ⟨_, rfl, _, rfl, a, _, dx, _, rfl, ea, T.c_Alarm, T.n_Alarm_columns, (by decide), ?_⟩
      refine ⟨_, rfl, _, rfl, a, _, dx, _, rfl, upd_same, T.c_Alarm, T.n_Alarm_on, (by show (1 : Nat) < 1000; decide), ?_⟩
      refine ⟨_, rfl, rfl, _, rfl, ite3 (fun _ => ?_) (fun h => by cases h)⟩
      refine ⟨_, rfl, _, rfl, a, _, dx, _, rfl, upd_same, T.c_Alarm, T.n_Alarm_off, (by show (2 : Nat) < 1000; decide), ?_⟩
      exact fin _ ((But.at_.set).set) upd_same
    · refine ⟨_, rfl, rfl, _, rfl, ite3 (fun _ => ?_) (fun h => by cases h)⟩
      refine ⟨_, rfl, _, rfl, _, 1, o, rfl, .int f, _, rfl, ?_⟩
      rw [inR_ok f1 f2]
      refine ite3 (fun h => by cases h) (fun _ => ?_)
      refine ⟨_, rfl, _, rfl, a, _, dx, _, rfl, ea, T.c_Alarm, T.n_Alarm_columns, (by decide), ?_⟩
      refine ⟨_, rfl, _, rfl, a, _, dx, _, rfl, upd_same, T.c_Alarm, T.n_Alarm_on, (by show (1 : Nat) < 1000; decide), ?_⟩
      refine ⟨_, rfl, rfl, _, rfl, ite3 (fun h => by cases h) (fun _ => ?_)⟩
      refine ⟨_, rfl, _, rfl, a, _, dx, _, rfl, upd_same, T.c_Alarm, T.n_Alarm_off, (by show (2 : Nat) < 1000; decide), ?_⟩
      exact fin _ ((But.at_.set).set) upd_same
/-- an alarm made -/
def tAl (K : PySem.W.Frag) (r : List V → Int → Int → V → Prop) (t : TA) : TE := fun σ H Q => t σ H fun vs H1 => ∃ (c o : Int) (y : V) (f : Int), r vs c o y ∧ (1 ≤ c ∧ c ≤ 50) ∧ (1 ≤ o ∧ o ≤ 10 ^ 20) ∧ OffOk y o f ∧
  ∀ (a : Addr) (H' : Hp), Same H1 H' → H1 a = none → AlO K H' a c o f → Q (.ref a) H'
def al3 : List V → Int → Int → V → Prop := fun vs c o y => vs = [.int c, .int o, y]
def al2 : List V → Int → Int → V → Prop := fun vs c o y => vs = [.int c, .int o] ∧ y = .non
def alk : List V → Int → Int → V → Prop := fun vs c o y => vs = [y, .int o, .int c]
theorem al_go {H1 : Hp} {Q : VK} {c o f : Int} {y : V} {x dx : Addr} (hc : 1 ≤ c ∧ c ≤ 50) (ho : 1 ≤ o ∧ o ≤ 10 ^ 20) (hf : OffOk y o f) (q : ∀ (a : Addr) (H' : Hp), Same H1 H' → H1 a = none → AlO K H' a c o f → Q (.ref a) H') (nx : H1 x = none) (nd : H1 dx = none) (ne : dx ≠ x) :
    spAl K [.ref x, .int c, .int o, y] (upd (upd H1 dx (.own x)) x (.ins (CA K) dx [])) (fun v H2 => v = .non ∧ Q (.ref x) H2) (fun _ _ _ => False) :=
  ⟨x, dx, c, o, y, f, rfl, upd_same, hc, ho, hf, fun H' b e => ⟨rfl, q x H' (But.made nx nd b) nx e⟩⟩
section
variable {X : Cx} {e : Expr} {es : List Expr} {p pos : Pos} {t : TA} {kws : List Keyword}
theorem pe_al3 (T : Tx X.K X.mg) (hr : Room 5 X.A) (hg : Gl X "Alarm") (ha : PA X (e :: es) t)
    (he : starEach (e :: es) X.env = (false, eval e X.env) :: starEach es X.env := by rfl) (hpl : (backTo pos (starEach es X.env)).any (·.1) = false := by rfl) :
    PE X (.Call (.Name "Alarm" p) (e :: es) [] pos) (tAl X.K al3 t) := by
  obtain ⟨fd, F, D⟩ := f_Alarm (P := X.prog) (w := X.w) (base := X.base) T
  obtain ⟨ds, hd, hb⟩ := D.binds1 4 1 (by simp) rfl (ps := ["self", "columns", "on", "off"]) (fun T kV doc pm an cdv ct us its l1 l2 => by
    match us, its, l1, l2 with
    | [a, b, c, d], [i], _, _ => exact ⟨_, rfl, rfl⟩)
  refine ⟨fun pins s σ H Q I h => ?_⟩
  refine wpAny_Call_Name_kw (ld_glob I hg T.g_Alarm ?_ (by decide))
  refine PySem.W.callWith_K (h₀ := X.base) I.ok.mod.kin T.k_Alarm.kp (thn (ha.run pos pins s σ H _ I h) fun us s1 ⟨vs, H1, I1, r, c, o, y, f, e1, hc, ho, hf, q⟩ => ⟨I1.kIn, ?_⟩) he hpl
  have e2 : vs = [.int c, .int o, y] := e1
  subst e2
  exact run_make T.k_Alarm F hr hb hd (E := fun _ _ _ => False) p0 I1 r fun x dx nx nd ne => al_go hc ho hf q nx nd ne
theorem pe_al2 (T : Tx X.K X.mg) (hr : Room 5 X.A) (hg : Gl X "Alarm") (ha : PA X (e :: es) t)
    (he : starEach (e :: es) X.env = (false, eval e X.env) :: starEach es X.env := by rfl) (hpl : (backTo pos (starEach es X.env)).any (·.1) = false := by rfl) :
    PE X (.Call (.Name "Alarm" p) (e :: es) [] pos) (tAl X.K al2 t) := by
  obtain ⟨fd, F, D⟩ := f_Alarm (P := X.prog) (w := X.w) (base := X.base) T
  obtain ⟨ds, hd, hb⟩ := D.binds1 3 0 (by simp) rfl (ps := ["self", "columns", "on", "off"]) (fun T kV doc pm an cdv ct us its l1 l2 => by
    match us, its, l1, l2 with
    | [a, b, c], [i], _, _ => exact ⟨_, rfl, rfl⟩)
  refine ⟨fun pins s σ H Q I h => ?_⟩
  refine wpAny_Call_Name_kw (ld_glob I hg T.g_Alarm ?_ (by decide))
  refine PySem.W.callWith_K (h₀ := X.base) I.ok.mod.kin T.k_Alarm.kp (thn (ha.run pos pins s σ H _ I h) fun us s1 ⟨vs, H1, I1, r, c, o, y, f, e1, hc, ho, hf, q⟩ => ⟨I1.kIn, ?_⟩) he hpl
  have e2 : vs = [.int c, .int o] ∧ y = .non := e1
  obtain ⟨rfl, rfl⟩ := e2
  exact run_make T.k_Alarm F hr hb hd (E := fun _ _ _ => False) p0 I1 r fun x dx nx nd ne => al_go hc ho hf q nx nd ne
theorem pe_alk {tk : TA} (T : Tx X.K X.mg) (hr : Room 5 X.A) (hg : Gl X "Alarm") (hkw : PK X kws tk)
    (hall : (backToKw pos (keywordEach kws X.env)).all (·.1.isSome) = true := by rfl) (hks : (backToKw pos (keywordEach kws X.env)).filterMap (·.1) = (["off", "on", "columns"] : List Str) := by rfl)
    (hpl : ((backTo pos (starEach [] X.env)).any (·.1) || (backToKw pos (keywordEach kws X.env)).any (·.1.isNone)) = false := by rfl) :
    PE X (.Call (.Name "Alarm" p) [] kws pos) (tAl X.K alk tk) := by
  obtain ⟨fd, F, D⟩ := f_Alarm (P := X.prog) (w := X.w) (base := X.base) T
  obtain ⟨its, hb⟩ := D.kbindsD (ps := ["self", "columns", "on", "off"]) 1 ["off", "on", "columns"] (fun us its ws => us ++ ws.reverse) (by simp) (fun r1 r2 r3 => r1.append r3.reverse) (fun T kV doc pm an cdv ct us its ws l1 l2 l3 => by
    match us, its, ws, l1, l2, l3 with
    | [a], [i], [b, c, d], _, _, _ => exact ⟨_, rfl, rfl⟩)
  refine ⟨fun pins s σ H Q I h => ?_⟩
  refine wpAny_Call_Name_kw (ld_glob I hg T.g_Alarm ?_ (by decide))
  refine PySem.W.callWith_KW0 (h₀ := X.base) I.ok.mod.kin T.k_Alarm.kp hall ?_ hpl
  refine thn (hkw.run pos pins s σ H _ I h) fun ws s2 ⟨zs, H2, I2, rz, c, o, y, f, e1, hc, ho, hf, q⟩ => ⟨I2.kIn, ?_⟩
  have e2 : zs = [y, .int o, .int c] := e1
  subst e2
  rw [hks]
  exact run_makeN (n := 0) T.k_Alarm F hr hb (E := fun _ _ _ => False) p0 I2 .nil rz rfl rfl fun x dx nx nd ne => al_go hc ho hf q nx nd ne
end
end
end K48
set_option Elab.async false
set_option linter.all false
set_option maxRecDepth 100000
set_option maxHeartbeats 4000000
namespace K48
open PySem PySem.Spec PyProof.Rows L2 Pre Dfs Vls
/-- what an alarm can be compared with, and the alarm that it is -/
inductive Oa (K : PySem.W.Frag) (H : Hp) : V → Option (Int × Int × Int) → Prop where
  | al {a : Addr} {c o f : Int} (h : AlO K H a c o f) : Oa K H (.ref a) (some (c, o, f))
  | wt {a dx : Addr} {fs : List (Str × V)} (e : H a = some (.ins (CW K) dx fs)) : Oa K H (.ref a) none
  | non : Oa K H .non none
  | str (z : Str) : Oa K H (.str z) none
  | tup {a : Addr} {xs : List V} (e : H a = some (.tup xs)) : Oa K H (.ref a) none
theorem Oa.same {K : PySem.W.Frag} {H H' : Hp} {y : V} {p : Option (Int × Int × Int)} (h : Oa K H y p) (S : Same H H') : Oa K H' y p := by
  cases h with
  | al h => exact .al (h.same S)
  | wt e => exact .wt (S _ _ e)
  | non => exact .non
  | str z => exact .str z
  | tup e => exact .tup (S _ _ e)
theorem Oa.ty {K : PySem.W.Frag} {mg : Str → Option Value} {H : Hp} {y : V} {p : Option (Int × Int × Int)} (T : Tx K mg) (h : Oa K H y p) :
    ∃ t, TyX K H y t ∧ PySem.W.kitOne K t (.ref (CA K)) = some p.isSome ∧ PySem.W.notFirst K (CA K) t = true := by
  cases h with
  | al h =>
    obtain ⟨dx, e⟩ := h
    exact ⟨_, T.is_Alarm.ty T.c_Alarm e, T.k_Alarm_Alarm, T.nf_Alarm_Alarm⟩
  | wt e => exact ⟨_, T.is_Watch.ty T.c_Watch e, T.k_Watch_Alarm, T.nf_Alarm_Watch⟩
  | non => exact ⟨_, .base .non, T.kt_NoneType_Alarm, T.nft_NoneType⟩
  | str z => exact ⟨_, .base (.str z), T.kt_str_Alarm, T.nft_str⟩
  | tup e => exact ⟨_, .base (.tup e), T.kt_tuple_Alarm, T.nft_tuple⟩
section
variable {P : Program} {w : World} {K : PySem.W.Frag} {mg : Str → Option Value} {base : Heap}
def spAe (K : PySem.W.Frag) : Sp := fun vs H Q _ => ∃ (a : Addr) (c o f : Int) (y : V) (p : Option (Int × Int × Int)), vs = [.ref a, y] ∧ AlO K H a c o f ∧ Oa K H y p ∧ Q (.bl (decide (p = some (c, o, f)))) H
theorem d_int {i j : Int} : decide (V.int i = V.int j) = decide (i = j) := by
  by_cases h : i = j
  · rw [h, decide_eq_true rfl, decide_eq_true rfl]
  · rw [decide_eq_false h, decide_eq_false fun z => h (by injection z)]
theorem m_eqA (T : Tx K mg) : Mfn P w K mg base CX0 1 (CA K) "__eq__" ["self", "other"] (spAe K) := by
  refine mfn T.q_Alarm_eq T.c_Alarm T.m_Alarm_eq (N := ["self", "other"]) ⟨rfl, rfl, rfl, by decide +kernel, rfl, by decide +kernel, by decide +kernel⟩ (fun vs H Q E h => ?_) (fun kV doc pm an cdv ct => bind2 fun a b => rfl) (fun cdv A outer s H vs Q E hr h => ?_)
  · obtain ⟨_, _, _, _, _, _, rfl, _⟩ := h
    rfl
  · obtain ⟨a, c, o, f, y, p, rfl, h1, oa, q⟩ := h
    obtain ⟨t, ty, kit, nf⟩ := oa.ty T
    refine ⟨_, pss_cons (ps_if (pt_not (pt_val (pe_callB call_isi (by rfl) T.f_isinstance (by decide +kernel) (pa_cons (pv 1) (pa_cons (pe_glob (v := .ref (CA K)) (by rfl) T.g_Alarm rfl) pa_nil))))) (pss_one (ps_ret pe_bl)) pss_nil)
      (pss_one (ps_ret (pe_and (pe_cmpR op_eq (fld (pv 0)) (fld (pv 1)) (nomark _)) (pe_and (pe_cmpR op_eq (fld (pv 0)) (fld (pv 1)) (nomark _)) (pe_one (pe_cmpR op_eq (fld (pv 0)) (fld (pv 1)) (nomark _))))))), ?_⟩
    obtain ⟨dx, e1⟩ := h1
    refine ⟨_, rfl, _, _, t, _, _, rfl, .own _, ty, kit, _, rfl, ?_⟩
    cases oa with
    | al h2 =>
      obtain ⟨dx2, e2⟩ := h2
      rename_i a2 c2 o2 f2
      refine ite3 (fun h => by cases h) (fun _ => ?_)
      refine ⟨_, rfl, a, _, _, _, _, rfl, e1, T.c_Alarm, T.n_Alarm_columns, rfl, _, rfl, a2, _, _, _, _, rfl, e2, T.c_Alarm, T.n_Alarm_columns, rfl, rfl, _, rfl, ?_⟩
      refine ite3 (fun g1 => ?_) (fun g1 => ?_)
      · have g1' : c = c2 := by
          have := of_decide_eq_true g1
          injection this
        refine ⟨_, rfl, a, _, _, _, _, rfl, e1, T.c_Alarm, T.n_Alarm_on, rfl, _, rfl, a2, _, _, _, _, rfl, e2, T.c_Alarm, T.n_Alarm_on, rfl, rfl, _, rfl, ?_⟩
        refine ite3 (fun g2 => ?_) (fun g2 => ?_)
        · have g2' : o = o2 := by
            have := of_decide_eq_true g2
            injection this
          refine ⟨_, rfl, a, _, _, _, _, rfl, e1, T.c_Alarm, T.n_Alarm_off, rfl, _, rfl, a2, _, _, _, _, rfl, e2, T.c_Alarm, T.n_Alarm_off, rfl, rfl, ?_⟩
          have z : decide (V.int f = V.int f2) = decide (some (c2, o2, f2) = some (c, o, f)) := by
            rw [d_int]
            refine decide_eq_decide.mpr ?_
            subst g1' g2'
            simp [eq_comm]
          rw [← z] at q
          exact q
        · have z : decide (some (c2, o2, f2) = some (c, o, f)) = false := decide_eq_false fun h => of_decide_eq_false g2 (by injection h with h; injection h with _ h; injection h with h _; rw [h])
          rw [z] at q
          exact q
      · have z : decide (some (c2, o2, f2) = some (c, o, f)) = false := decide_eq_false fun h => of_decide_eq_false g1 (by injection h with h; injection h with h _; rw [h])
        rw [z] at q
        exact q
    | wt e => exact ite3 (fun _ => q) (fun h => by cases h)
    | non => exact ite3 (fun _ => q) (fun h => by cases h)
    | str z => exact ite3 (fun _ => q) (fun h => by cases h)
    | tup e => exact ite3 (fun _ => q) (fun h => by cases h)
end
def rEqA (K : PySem.W.Frag) : R2 := fun x y H Q => ∃ (a : Addr) (c o f : Int) (p : Option (Int × Int × Int)), x = .ref a ∧ AlO K H a c o f ∧ Oa K H y p ∧ Q (.bl (decide (p = some (c, o, f)))) H
def rNeA (K : PySem.W.Frag) : R2 := fun x y H Q => ∃ (a : Addr) (c o f : Int) (p : Option (Int × Int × Int)), x = .ref a ∧ AlO K H a c o f ∧ Oa K H y p ∧ Q (.bl (!decide (p = some (c, o, f)))) H
theorem op_eqA {X : Cx} (T : Tx X.K X.mg) (hr : Room 1 X.A) : OpR X (compareOp .Eq) (rEqA X.K) := by
  intro pins s σ H x y v u Q I rx ry h
  obtain ⟨a, c, o, f, p, rfl, h1, oa, q⟩ := h
  obtain ⟨t, ty, kit, nf⟩ := oa.ty T
  have M := m_eqA (P := X.prog) (w := X.w) (base := X.base) T
  obtain ⟨fd, F, B⟩ := M.ok
  obtain ⟨dx, e⟩ := id h1
  exact Oeq.op_eqX M.mt F B hr p0 (E := fun _ _ _ => False) pins s σ H (.ref a) y v u Q I rx ry ⟨a, dx, _, t, rfl, e, ty, nf, a, c, o, f, y, p, rfl, h1, oa, _, rfl, q⟩
theorem op_neA {X : Cx} (T : Tx X.K X.mg) (hr : Room 3 X.A) : OpR X (compareOp .NotEq) (rNeA X.K) := by
  intro pins s σ H x y v u Q I rx ry h
  obtain ⟨a, c, o, f, p, rfl, h1, oa, q⟩ := h
  obtain ⟨t, ty, kit, nf⟩ := oa.ty T
  have M := m_eqA (P := X.prog) (w := X.w) (base := X.base) T
  obtain ⟨fd, F, B⟩ := M.ok
  obtain ⟨dx, e⟩ := id h1
  exact Oeq.op_neX M.mt F B hr p0 T.ne_Alarm T.is_Alarm.o (E := fun _ _ _ => False) pins s σ H (.ref a) y v u Q I rx ry ⟨a, dx, _, t, rfl, e, ty, nf, a, c, o, f, y, p, rfl, h1, oa, _, rfl, q⟩
end K48
set_option Elab.async false
set_option linter.all false
set_option maxRecDepth 100000
set_option maxHeartbeats 4000000
namespace K48
open PySem PySem.Spec PyProof.Rows L2 Pre Dfs Vls
/-- the last c of some -/
def lastN (c : Nat) (xs : List Int) : List Int := xs.drop (xs.length - c)
theorem lastN_len (c : Nat) (xs : List Int) : (lastN c xs).length = min c xs.length := by
  unfold lastN
  rw [List.length_drop]
  omega
/-- whether an alarm is on behind so much -/
def stays (on : Bool) (o f s : Int) : Bool := decide ((if on = true then f else o) ≤ s)
/-- a watch -/
def WtO (K : PySem.W.Frag) (H : Hp) (w al : Addr) (rows : List Int) (on : Bool) (n : Int) : Prop := ∃ dx t, H w = some (.ins (CW K) dx [("alarm", .ref al), ("_rows", .ref t), ("_on", .bl on), ("_times", .int n)]) ∧ H t = some (.tup (rows.map V.int))
theorem WtO.same {K : PySem.W.Frag} {H H' : Hp} {w al : Addr} {rows : List Int} {on : Bool} {n : Int} (h : WtO K H w al rows on n) (S : Same H H') : WtO K H' w al rows on n := by
  obtain ⟨dx, t, e1, e2⟩ := h
  exact ⟨dx, t, S _ _ e1, S _ _ e2⟩
theorem WtO.but {K : PySem.W.Frag} {H H' : Hp} {w v al : Addr} {rows : List Int} {on : Bool} {n : Int} {C dx0 : Addr} {fs : List (Str × V)} (h : WtO K H w al rows on n) (hv : H v = some (.ins C dx0 fs)) (ne : w ≠ v) (S : But v H H') : WtO K H' w al rows on n := by
  obtain ⟨dx, t, e1, e2⟩ := h
  exact ⟨dx, t, S _ _ ne e1, S _ _ (ne_of e2 hv (by intro z; cases z)) e2⟩
theorem AlO.but {K : PySem.W.Frag} {H H' : Hp} {a v al : Addr} {c o f : Int} {rows : List Int} {on : Bool} {n : Int} (h : AlO K H a c o f) (hv : WtO K H v al rows on n) (S : But v H H') : AlO K H' a c o f := by
  obtain ⟨dx, e⟩ := h
  obtain ⟨dx2, t, e1, e2⟩ := hv
  refine ⟨dx, S _ _ (ne_of e e1 (by intro z; simp at z)) e⟩
section
variable {P : Program} {w : World} {K : PySem.W.Frag} {mg : Str → Option Value} {base : Heap}
def spSt (K : PySem.W.Frag) : Sp := fun vs H Q _ => ∃ (al : Addr) (c o f : Int) (on : Bool) (s : Int), vs = [.ref al, .bl on, .int s] ∧ AlO K H al c o f ∧ Q (.bl (stays on o f s)) H
theorem d_stays (T : Tx K mg) : Dfn P w K mg base CX0 1 "stays_on" ["alarm", "was_on", "together"] (spSt K) := by
  refine dfn T.q_stays_on T.g_stays_on (N := ["alarm", "was_on", "together"]) ⟨rfl, rfl, rfl, by decide +kernel, rfl, by decide +kernel, by decide +kernel⟩ (fun vs H Q E h => ?_) (fun kV doc pm an cdv ct => bind3 fun a b c => rfl) (fun cdv A outer s H vs Q E hr h => ?_)
  · obtain ⟨_, _, _, _, _, _, rfl, _⟩ := h
    rfl
  · obtain ⟨al, c, o, f, on, s, rfl, ⟨dx, e⟩, q⟩ := h
    refine ⟨_, pss_one (ps_ret (pe_cmpR op_ge (pv 2) (pe_ifExp (pt_truth (pv 1) (fun _ => rfl)) (fld (pv 0)) (fld (pv 0))) (nomark _))), ?_⟩
    refine ⟨_, rfl, _, rfl, on, rfl, ?_⟩
    cases on with
    | true => exact ⟨_, rfl, al, _, _, _, _, rfl, e, T.c_Alarm, T.n_Alarm_off, rfl, _, _, rfl, rfl, q⟩
    | false => exact ⟨_, rfl, al, _, _, _, _, rfl, e, T.c_Alarm, T.n_Alarm_on, rfl, _, _, rfl, rfl, q⟩
def spCa (K : PySem.W.Frag) : Sp := fun vs H Q _ => ∃ (al : Addr) (c o f : Int), vs = [.ref al] ∧ AlO K H al c o f ∧ Q .non H
theorem d_calarm (T : Tx K mg) : Dfn P w K mg base CX0 1 "check_alarm" ["alarm"] (spCa K) := by
  refine dfn T.q_check_alarm T.g_check_alarm (N := ["alarm"]) ⟨rfl, rfl, rfl, by decide +kernel, rfl, by decide +kernel, by decide +kernel⟩ (fun vs H Q E h => ?_) (fun kV doc pm an cdv ct => bind1 fun a => rfl) (fun cdv A outer s H vs Q E hr h => ?_)
  · obtain ⟨_, _, _, _, rfl, _⟩ := h
    rfl
  · obtain ⟨al, c, o, f, rfl, ⟨dx, e⟩, q⟩ := h
    refine ⟨_, pss_one (ps_if (pt_not (pt_val (pe_callB call_isi (by rfl) T.f_isinstance (by decide +kernel) (pa_cons (pv 0) (pa_cons (pe_glob (v := .ref (CA K)) (by rfl) T.g_Alarm rfl) pa_nil))))) (pss_one ps_dead) pss_nil), ?_⟩
    exact ⟨_, rfl, _, _, _, _, _, rfl, .own _, T.is_Alarm.ty T.c_Alarm e, T.k_Alarm_Alarm, _, rfl, ite3 (fun h => by cases h) (fun _ => q)⟩
/-! Watch(alarm) -/
def spWi (K : PySem.W.Frag) : Sp := fun vs H Q _ => ∃ (w dx al : Addr) (c o f : Int), vs = [.ref w, .ref al] ∧ H w = some (.ins (CW K) dx []) ∧ AlO K H al c o f ∧ ∀ H', But w H H' → WtO K H' w al [] false 0 → Q .non H'
theorem f_Watch (T : Tx K mg) : ∃ fd, FnOk P w K mg base CX0 2 (He.ma K (CW K) "__init__") fd ["self", "alarm"] (spWi K) ∧ FunD K "__init__" "Watch.__init__" (defArgs s_Watch_init) (defBody s_Watch_init) (defScope s_Watch_init) [] [] (He.ma K (CW K) "__init__") fd := by
  obtain ⟨fd, F⟩ := T.q_Watch_init
  refine ⟨fd, F.ok (N := ["self", "alarm"]) ⟨rfl, rfl, rfl, by decide +kernel, rfl, by decide +kernel, by decide +kernel⟩ (fun vs H Q E h => ?_) (fun cdv A outer s H vs Q E hr h => ?_), F⟩
  · obtain ⟨_, _, _, _, _, _, rfl, _⟩ := h
    rfl
  · obtain ⟨x, dx, al, c, o, f, rfl, ex, ha, q⟩ := h
    refine ⟨_, pss_cons (ps_expr (pe_d (d_calarm T) hr (by rfl) (E := E) p0 (pa_cons (pv 1) pa_nil)))
      (pss_cons (ps_fld (pv 0) (pv 1) rfl)
      (pss_cons (ps_fld (pv 0) (pe_tup pa_nil) rfl)
      (pss_cons (ps_fld (pv 0) pe_bl rfl)
      (pss_one (ps_fld (pv 0) pe_int rfl))))), ?_⟩
    refine ⟨_, rfl, al, c, o, f, rfl, ha, ?_⟩
    refine ⟨_, rfl, _, rfl, x, _, dx, _, rfl, ex, T.c_Watch, T.n_Watch_alarm, (by show (0 : Nat) < 1000; decide), ?_⟩
    refine ⟨Nat.zero_le _, fun t ht => ?_⟩
    have nt : x ≠ t := ne_of_none upd_same ht
    refine ⟨_, rfl, x, _, dx, _, rfl, (upd_ne nt).trans upd_same, T.c_Watch, T.n_Watch_rows, (by show (1 : Nat) < 1000; decide), ?_⟩
    refine ⟨_, rfl, x, _, dx, _, rfl, upd_same, T.c_Watch, T.n_Watch_on, (by show (2 : Nat) < 1000; decide), ?_⟩
    refine ⟨_, rfl, x, _, dx, _, rfl, upd_same, T.c_Watch, T.n_Watch_times, (by show (3 : Nat) < 1000; decide), ?_⟩
    refine q _ (((But.at_.new ht).set).set.set) ⟨dx, t, upd_same, ?_⟩
    rw [upd_ne nt.symm, upd_ne nt.symm, upd_ne nt.symm, upd_same]
    rfl
end
def tWt (K : PySem.W.Frag) (t : TA) : TE := fun σ H Q => t σ H fun vs H1 => ∃ (al : Addr) (c o f : Int), vs = [.ref al] ∧ AlO K H1 al c o f ∧
  ∀ (w : Addr) (H' : Hp), Same H1 H' → H1 w = none → WtO K H' w al [] false 0 → Q (.ref w) H'
theorem wt_go {K : PySem.W.Frag} {H1 : Hp} {Q : VK} {al : Addr} {c o f : Int} {x dx : Addr} (ha : AlO K H1 al c o f) (q : ∀ (a : Addr) (H' : Hp), Same H1 H' → H1 a = none → WtO K H' a al [] false 0 → Q (.ref a) H') (nx : H1 x = none) (nd : H1 dx = none) (ne : dx ≠ x) :
    spWi K [.ref x, .ref al] (upd (upd H1 dx (.own x)) x (.ins (CW K) dx [])) (fun v H2 => v = .non ∧ Q (.ref x) H2) (fun _ _ _ => False) :=
  ⟨x, dx, al, c, o, f, rfl, upd_same, ha.same (Same.new (Same.upd nd) (by rw [upd_ne ne.symm]; exact nx)), fun H' b e => ⟨rfl, q x H' (But.made nx nd b) nx e⟩⟩
section
variable {X : Cx} {e : Expr} {es : List Expr} {p pos : Pos} {t : TA} {kws : List Keyword}
theorem pe_wt (T : Tx X.K X.mg) (hr : Room 3 X.A) (hg : Gl X "Watch") (ha : PA X (e :: es) t)
    (he : starEach (e :: es) X.env = (false, eval e X.env) :: starEach es X.env := by rfl) (hpl : (backTo pos (starEach es X.env)).any (·.1) = false := by rfl) :
    PE X (.Call (.Name "Watch" p) (e :: es) [] pos) (tWt X.K t) := by
  obtain ⟨fd, F, D⟩ := f_Watch (P := X.prog) (w := X.w) (base := X.base) T
  have hb : Binds X.K fd ["self", "alarm"] [] := D.bindsN fun kV doc pm an cdv ct => bind2 fun a b => rfl
  refine ⟨fun pins s σ H Q I h => ?_⟩
  refine wpAny_Call_Name_kw (ld_glob I hg T.g_Watch ?_ (by decide))
  refine PySem.W.callWith_K (h₀ := X.base) I.ok.mod.kin T.k_Watch.kp (thn (ha.run pos pins s σ H _ I h) fun us s1 ⟨vs, H1, I1, r, al, c, o, f, e1, ha, q⟩ => ⟨I1.kIn, ?_⟩) he hpl
  have e2 : vs = [.ref al] := e1
  subst e2
  exact run_make T.k_Watch F hr hb .nil (E := fun _ _ _ => False) p0 I1 r fun x dx nx nd ne => wt_go ha q nx nd ne
theorem pe_wtk {tk : TA} (T : Tx X.K X.mg) (hr : Room 3 X.A) (hg : Gl X "Watch") (hkw : PK X kws tk)
    (hall : (backToKw pos (keywordEach kws X.env)).all (·.1.isSome) = true := by rfl) (hks : (backToKw pos (keywordEach kws X.env)).filterMap (·.1) = (["alarm"] : List Str) := by rfl)
    (hpl : ((backTo pos (starEach [] X.env)).any (·.1) || (backToKw pos (keywordEach kws X.env)).any (·.1.isNone)) = false := by rfl) :
    PE X (.Call (.Name "Watch" p) [] kws pos) (tWt X.K tk) := by
  obtain ⟨fd, F, D⟩ := f_Watch (P := X.prog) (w := X.w) (base := X.base) T
  have hb : KBn X.K fd ["self", "alarm"] 1 ["alarm"] (fun us ws => us ++ ws) (fun vs zs => vs ++ zs) := Mk0.kb1 fun s a b _ => by
    obtain ⟨oc, od, dV, kV, doc, pm, an, cdv, ct, osl, rfl, lk, hcd, hD, hK⟩ := D.ex
    rcases hD with ⟨_, rfl⟩ | ⟨e, _⟩
    · exact .of_eq rfl
    · exact absurd rfl e
  refine ⟨fun pins s σ H Q I h => ?_⟩
  refine wpAny_Call_Name_kw (ld_glob I hg T.g_Watch ?_ (by decide))
  refine PySem.W.callWith_KW0 (h₀ := X.base) I.ok.mod.kin T.k_Watch.kp hall ?_ hpl
  refine thn (hkw.run pos pins s σ H _ I h) fun ws s2 ⟨zs, H2, I2, rz, al, c, o, f, e1, ha, q⟩ => ⟨I2.kIn, ?_⟩
  have e2 : zs = [.ref al] := e1
  subst e2
  rw [hks]
  exact run_makeN (n := 0) T.k_Watch F hr hb (E := fun _ _ _ => False) p0 I2 .nil rz rfl rfl fun x dx nx nd ne => wt_go ha q nx nd ne
end
/-! properties -/
section
variable {P : Program} {w : World} {K : PySem.W.Frag} {mg : Str → Option Value} {base : Heap}
def spOn (K : PySem.W.Frag) : Sp := fun vs H Q _ => ∃ (x al : Addr) (rows : List Int) (on : Bool) (n : Int), vs = [.ref x] ∧ WtO K H x al rows on n ∧ Q (.bl on) H
def spNow (K : PySem.W.Frag) : Sp := fun vs H Q _ => ∃ (x al : Addr) (rows : List Int) (on : Bool) (n : Int), vs = [.ref x] ∧ WtO K H x al rows on n ∧ Q (.int rows.sum) H
def spTi (K : PySem.W.Frag) : Sp := fun vs H Q _ => ∃ (x al : Addr) (rows : List Int) (on : Bool) (n : Int), vs = [.ref x] ∧ WtO K H x al rows on n ∧ Q (.int n) H
theorem p_on (T : Tx K mg) : ∃ fd, FnOk P w K mg base CX0 1 (Prp.gp K (CW K) "is_on") fd ["self"] (spOn K) ∧ Binds K fd ["self"] [] := by
  obtain ⟨_, h2, h3⟩ := T.pr_Watch_is_on
  obtain ⟨fd, F⟩ := Prp.funP T.v_Watch_is_on h2 h3
  refine ⟨fd, F.ok (N := ["self"]) ⟨rfl, rfl, rfl, by decide +kernel, rfl, by decide +kernel, by decide +kernel⟩ (fun vs H Q E h => ?_) (fun cdv A outer s H vs Q E hr h => ?_), F.bindsN fun kV doc pm an cdv ct => bind1 fun a => rfl⟩
  · obtain ⟨_, _, _, _, _, rfl, _⟩ := h
    rfl
  · obtain ⟨x, al, rows, on, n, rfl, ⟨dx, t, e1, e2⟩, q⟩ := h
    exact ⟨_, pss_one (ps_ret (fld (pv 0))), _, rfl, x, _, _, _, _, rfl, e1, T.c_Watch, T.n_Watch_on, rfl, q⟩
theorem p_times (T : Tx K mg) : ∃ fd, FnOk P w K mg base CX0 1 (Prp.gp K (CW K) "times_on") fd ["self"] (spTi K) ∧ Binds K fd ["self"] [] := by
  obtain ⟨_, h2, h3⟩ := T.pr_Watch_times_on
  obtain ⟨fd, F⟩ := Prp.funP T.v_Watch_times_on h2 h3
  refine ⟨fd, F.ok (N := ["self"]) ⟨rfl, rfl, rfl, by decide +kernel, rfl, by decide +kernel, by decide +kernel⟩ (fun vs H Q E h => ?_) (fun cdv A outer s H vs Q E hr h => ?_), F.bindsN fun kV doc pm an cdv ct => bind1 fun a => rfl⟩
  · obtain ⟨_, _, _, _, _, rfl, _⟩ := h
    rfl
  · obtain ⟨x, al, rows, on, n, rfl, ⟨dx, t, e1, e2⟩, q⟩ := h
    exact ⟨_, pss_one (ps_ret (fld (pv 0))), _, rfl, x, _, _, _, _, rfl, e1, T.c_Watch, T.n_Watch_times, rfl, q⟩
theorem p_now (T : Tx K mg) : ∃ fd, FnOk P w K mg base CX0 1 (Prp.gp K (CW K) "rows_now") fd ["self"] (spNow K) ∧ Binds K fd ["self"] [] := by
  obtain ⟨_, h2, h3⟩ := T.pr_Watch_rows_now
  obtain ⟨fd, F⟩ := Prp.funP T.v_Watch_rows_now h2 h3
  refine ⟨fd, F.ok (N := ["self"]) ⟨rfl, rfl, rfl, by decide +kernel, rfl, by decide +kernel, by decide +kernel⟩ (fun vs H Q E h => ?_) (fun cdv A outer s H vs Q E hr h => ?_), F.bindsN fun kV doc pm an cdv ct => bind1 fun a => rfl⟩
  · obtain ⟨_, _, _, _, _, rfl, _⟩ := h
    rfl
  · obtain ⟨x, al, rows, on, n, rfl, ⟨dx, t, e1, e2⟩, q⟩ := h
    exact ⟨_, pss_one (ps_ret (pe_callB (TSum.cr_sumA rfl) (by rfl) T.f_sum (by decide +kernel) (pa_cons (fld (pv 0)) pa_nil))), _, rfl, x, _, _, _, _, rfl, e1, T.c_Watch, T.n_Watch_rows, rfl, t, rows, rfl, .inr (SqT.of e2), q⟩
end
section
variable {X : Cx} {e : Expr} {ta : TE} {pos : Pos}
def tPr (K : PySem.W.Frag) (g : List Int → Bool → Int → V) (ta : TE) : TE := fun σ H Q => ta σ H fun x H1 => ∃ (a al : Addr) (rows : List Int) (on : Bool) (n : Int), x = .ref a ∧ WtO K H1 a al rows on n ∧ Q (g rows on n) H1
theorem pe_on (T : Tx X.K X.mg) (hr : Room 2 X.A) (he : PE X e ta) (hab : attributeBase e "is_on" X.env (eval e X.env) = eval e X.env := by rfl) : PE X (.Attribute e "is_on" pos) (tPr X.K (fun _ on _ => .bl on) ta) := by
  obtain ⟨fd, F, hb⟩ := p_on (P := X.prog) (w := X.w) (base := X.base) T
  refine ⟨fun pins s σ H Q I h => attr_of hab (thn (he.run pins s σ H _ I h) fun u s1 ⟨x, H1, I1, rx, a, al, rows, on, n, ex, hw, q⟩ => ?_)⟩
  subst ex
  obtain rfl : u = Value.ref a := rx
  obtain ⟨dx, t, e1, e2⟩ := id hw
  exact getprop_ok I1 e1 T.c_Watch T.pr_Watch_is_on.1 F hr hb .nil (E := fun _ _ _ => False) p0 ⟨a, al, rows, on, n, rfl, hw, q⟩
theorem pe_times (T : Tx X.K X.mg) (hr : Room 2 X.A) (he : PE X e ta) (hab : attributeBase e "times_on" X.env (eval e X.env) = eval e X.env := by rfl) : PE X (.Attribute e "times_on" pos) (tPr X.K (fun _ _ n => .int n) ta) := by
  obtain ⟨fd, F, hb⟩ := p_times (P := X.prog) (w := X.w) (base := X.base) T
  refine ⟨fun pins s σ H Q I h => attr_of hab (thn (he.run pins s σ H _ I h) fun u s1 ⟨x, H1, I1, rx, a, al, rows, on, n, ex, hw, q⟩ => ?_)⟩
  subst ex
  obtain rfl : u = Value.ref a := rx
  obtain ⟨dx, t, e1, e2⟩ := id hw
  exact getprop_ok I1 e1 T.c_Watch T.pr_Watch_times_on.1 F hr hb .nil (E := fun _ _ _ => False) p0 ⟨a, al, rows, on, n, rfl, hw, q⟩
theorem pe_now (T : Tx X.K X.mg) (hr : Room 2 X.A) (he : PE X e ta) (hab : attributeBase e "rows_now" X.env (eval e X.env) = eval e X.env := by rfl) : PE X (.Attribute e "rows_now" pos) (tPr X.K (fun rows _ _ => .int rows.sum) ta) := by
  obtain ⟨fd, F, hb⟩ := p_now (P := X.prog) (w := X.w) (base := X.base) T
  refine ⟨fun pins s σ H Q I h => attr_of hab (thn (he.run pins s σ H _ I h) fun u s1 ⟨x, H1, I1, rx, a, al, rows, on, n, ex, hw, q⟩ => ?_)⟩
  subst ex
  obtain rfl : u = Value.ref a := rx
  obtain ⟨dx, t, e1, e2⟩ := id hw
  exact getprop_ok I1 e1 T.c_Watch T.pr_Watch_rows_now.1 F hr hb .nil (E := fun _ _ _ => False) p0 ⟨a, al, rows, on, n, rfl, hw, q⟩
end
end K48
set_option Elab.async false
set_option linter.all false
set_option maxRecDepth 100000
set_option maxHeartbeats 4000000
namespace K48
open PySem PySem.Spec PyProof.Rows L2 Pre Dfs Vls
theorem sIx_neg (n d c : Nat) (h : 0 < c) : HT.sIx n d (some (-(c : Int))) = n - c := by
  unfold HT.sIx
  show (if -(c : Int) < 0 then (-(c : Int) + (n : Int)).toNat else min (-(c : Int)).toNat n) = n - c
  rw [if_pos (by omega)]
  omega
theorem cut_last {c : Nat} (h : 0 < c) (xs : List Int) : cutV (xs.map V.int) (some (-(c : Int))) none = (lastN c xs).map V.int := by
  unfold cutV lastN
  rw [List.length_map, sIx_neg _ _ _ h, HT.sIx_none, List.map_drop, List.take_of_length_le]
  rw [List.length_drop, List.length_map]
  exact Nat.le_refl _
/-- the last ones of a tuple -/
theorem sl_last {K : PySem.W.Frag} {H : Hp} {a : Addr} {xs : List Int} {c : Nat} {Q : VK} (h : 0 < c) (e : H a = some (.tup (xs.map V.int))) (q : ∀ (p : Addr) (H' : Hp), Same H H' → (H' = H ∨ H p = none) → H' p = some (.tup ((lastN c xs).map V.int)) → Q (.ref p) H') :
    rSlA K (.ref a) (some (-(c : Int))) none H Q := by
  refine ⟨a, _, rfl, SqT.of e, fun hh => ?_, fun _ p hp => ?_⟩
  · refine q a H (Same.refl H) (.inl rfl) ?_
    have h1 := hh.1
    rw [List.length_map, sIx_neg _ _ _ h] at h1
    unfold lastN
    rw [h1, List.drop_zero]
    exact e
  · refine q p _ (Same.upd hp) (.inr hp) ?_
    rw [upd_same, cut_last h]
/-- .. as the reading of a part asks it -/
theorem sl_lastP {K : PySem.W.Frag} {H : Hp} {a : Addr} {xs : List Int} {c : Nat} {σ : L2.St} {Q : VK} (h : 0 < c) (e : H a = some (.tup (xs.map V.int))) (q : ∀ (p : Addr) (H' : Hp), Same H H' → (H' = H ∨ H p = none) → H' p = some (.tup ((lastN c xs).map V.int)) → Q (.ref p) H') :
    (fun l H2 => tNoPart σ H2 fun u H3 => rSlA K (.ref a) l u H3 Q) (some (-(c : Int))) H := sl_last h e q
section
variable {P : Program} {w : World} {K : PySem.W.Frag} {mg : Str → Option Value} {base : Heap}
def spStep (K : PySem.W.Frag) : Sp := fun vs H Q _ => ∃ (x al : Addr) (rows : List Int) (on : Bool) (n : Int) (c : Nat) (o f r : Int), vs = [.ref x, .int r] ∧ WtO K H x al rows on n ∧ AlO K H al c o f ∧ 0 < c ∧ rows.length ≤ 1000 ∧ 0 ≤ r ∧ r ≤ 10 ^ 40 ∧
  ∀ H', But x H H' → WtO K H' x al (lastN c (rows ++ [r])) (stays on o f (lastN c (rows ++ [r])).sum) (n + (if stays on o f (lastN c (rows ++ [r])).sum && !on then 1 else 0)) → Q (.bl (stays on o f (lastN c (rows ++ [r])).sum)) H'
theorem m_step (T : Tx K mg) : Mk0.Mk1 P w K mg base CX0 4 (CW K) "step" "self" "rows" (spStep K) := by
  have nd : (["self", "rows", "columns", "was_on"] : List Str).Nodup := by decide +kernel
  refine Mk0.mfk1 T.q_Watch_step T.c_Watch T.m_Watch_step (N := ["self", "rows", "columns", "was_on"]) ⟨rfl, rfl, rfl, nd, rfl, by decide +kernel, by decide +kernel⟩ (fun vs H Q E h => ?_) (fun kV doc pm an cdv ct a b => rfl) (fun kV doc pm an cdv ct a b => rfl) (fun cdv A outer s H vs Q E hr h => ?_)
  · obtain ⟨_, _, _, _, _, _, _, _, _, rfl, _⟩ := h
    rfl
  · obtain ⟨x, al, rows, on, n, c, o, f, r, rfl, hw, ha, hc, hl, r0, r1, q⟩ := h
    obtain ⟨t1, h1⟩ := T.i_FAR
    refine ⟨_, pss_cons (ps_expr (pe_d (d_check T) hr (by rfl) (E := E) p0 (pa_cons (pv 1) (pa_cons pe_int (pa_cons (pe_glob (v := .int (10 ^ 40)) (by rfl) h1 ⟨t1, rfl⟩) pa_nil)))))
      (pss_cons (ps_set (i := 2) nd rfl (Or.inl rfl) (pe_tup (StX.pa_star (fld (pv 0)) (pa_cons (pv 1) pa_nil))))
      (pss_cons (ps_set (i := 3) nd rfl (Or.inl rfl) (fld (pv 0)))
      (pss_cons (ps_fld (pv 0) (pe_slice sl_tupA (pv 2) (po_some (pe_un un_neg (fld (fld (pv 0))))) po_none) rfl)
      (pss_cons (ps_fld (pv 0) (pe_d (d_stays T) (hr.mono (by decide)) (by rfl) (E := E) p0 (pa_cons (fld (pv 0)) (pa_cons (pv 3) (pa_cons (pe_callB (TSum.cr_sumA rfl) (by rfl) T.f_sum (by decide +kernel) (pa_cons (fld (pv 0)) pa_nil)) pa_nil)))) rfl)
      (pss_cons (ps_if (PW.pt (pw_and (pt_truth (fld (pv 0)) (fun _ => rfl)) (pw_and1 (pt_not (pt_truth (pv 3) (fun _ => rfl))))))
        (pss_one (ps_fldaug (pv 0) pe_int in_add)) pss_nil)
      (pss_one (ps_ret (fld (pv 0))))))))), ?_⟩
    obtain ⟨dx, t, e1, e2⟩ := hw
    obtain ⟨dxa, ea⟩ := ha
    have nal : al ≠ x := ne_of ea e1 (by intro z; simp at z)
    refine ⟨_, rfl, r, 0, 10 ^ 40, rfl, r0, r1, ?_⟩
    refine ⟨_, rfl, x, _, _, _, _, rfl, e1, T.c_Watch, T.n_Watch_rows, rfl, t, _, rfl, .inl (SqT.of e2), _, rfl, ?_⟩
    refine ⟨(by rw [sizeLine_eq, List.length_append, List.length_map]; show rows.length + 1 ≤ _; omega), fun p hp => ?_⟩
    have ep : rows.map V.int ++ [V.int r] = (rows ++ [r]).map V.int := by rw [List.map_append]; rfl
    have S1 : Same H (upd H p (.tup (rows.map V.int ++ [V.int r]))) := Same.upd hp
    generalize hH1 : upd H p (.tup (rows.map V.int ++ [V.int r])) = H1 at S1
    have hp1 : H1 p = some (.tup ((rows ++ [r]).map V.int)) := by rw [← hH1, upd_same, ep]
    refine ⟨_, rfl, x, _, _, _, _, rfl, S1 _ _ e1, T.c_Watch, T.n_Watch_on, rfl, ?_⟩
    refine ⟨_, rfl, _, rfl, x, _, _, _, _, rfl, S1 _ _ e1, T.c_Watch, T.n_Watch_alarm, rfl, al, _, _, _, _, rfl, S1 _ _ ea, T.c_Alarm, T.n_Alarm_columns, rfl, _, rfl, _, rfl, ?_⟩
    refine sl_lastP (K := K) hc hp1 fun p2 H2 S2 np2 hp2 => ?_
    have S12 : Same H H2 := fun b u h => S2 b u (S1 b u h)
    have n2 : p2 ≠ x := (ne_of (S12 _ _ e1) hp2 (by intro z; cases z)).symm
    have na2 : al ≠ p2 := ne_of (S12 _ _ ea) hp2 (by intro z; cases z)
    refine ⟨_, rfl, x, _, dx, _, rfl, S12 _ _ e1, T.c_Watch, T.n_Watch_rows, (by show (4 : Nat) < 1000; decide), ?_⟩
    generalize hL : lastN c (rows ++ [r]) = L at q hp2
    show tSeq _ _ _ _ (upd H2 x (.ins (CW K) dx [("alarm", .ref al), ("_rows", .ref p2), ("_on", .bl on), ("_times", .int n)]))
    refine ⟨_, rfl, x, _, _, _, _, rfl, upd_same, T.c_Watch, T.n_Watch_alarm, rfl, _, rfl, _, rfl, x, _, _, _, _, rfl, upd_same, T.c_Watch, T.n_Watch_rows, rfl, p2, L, rfl, .inr (SqT.of (by rw [upd_ne n2]; exact hp2)), ?_⟩
    refine ⟨al, c, o, f, on, L.sum, rfl, ⟨dxa, by rw [upd_ne nal]; exact S12 _ _ ea⟩, ?_⟩
    generalize hB : stays on o f L.sum = B at q
    refine ⟨_, rfl, x, _, dx, _, rfl, upd_same, T.c_Watch, T.n_Watch_on, (by show (4 : Nat) < 1000; decide), ?_⟩
    refine ⟨_, rfl, x, _, _, _, _, rfl, upd_same, T.c_Watch, T.n_Watch_on, rfl, B, rfl, ?_⟩
    have fin : ∀ (H' : Hp) (m : Int), But x H H' → H' p2 = some (.tup (L.map V.int)) → H' x = some (.ins (CW K) dx [("alarm", .ref al), ("_rows", .ref p2), ("_on", .bl B), ("_times", .int m)]) → m = n + (if B && !on then 1 else 0) → Q (.bl B) H' := fun H' m b h1 h2 h3 => by
      subst h3
      exact q H' b ⟨dx, p2, h2, h1⟩
    cases B with
    | false =>
      refine ite3 (fun h => by cases h) (fun _ => ?_)
      refine ⟨_, rfl, x, _, _, _, _, rfl, upd_same, T.c_Watch, T.n_Watch_on, rfl, fin _ n ((But.of S12).set.set) ?_ upd_same (by simp)⟩
      rw [upd_ne n2, upd_ne n2]
      exact hp2
    | true =>
      refine ite3 (fun _ => ?_) (fun h => by cases h)
      cases on with
      | true =>
        refine ⟨_, rfl, true, rfl, ite3 (fun h => by cases h) (fun _ => ?_)⟩
        refine ⟨_, rfl, x, _, _, _, _, rfl, upd_same, T.c_Watch, T.n_Watch_on, rfl, fin _ n ((But.of S12).set.set) ?_ upd_same (by simp)⟩
        rw [upd_ne n2, upd_ne n2]
        exact hp2
      | false =>
        refine ⟨_, rfl, false, rfl, ite3 (fun _ => ?_) (fun h => by cases h)⟩
        refine ⟨_, rfl, x, _, _, _, _, rfl, upd_same, T.c_Watch, T.n_Watch_times, rfl, _, _, rfl, rfl, dx, _, upd_same, (by show (4 : Nat) < 1000; decide), ?_⟩
        refine ⟨_, rfl, x, _, _, _, _, rfl, upd_same, T.c_Watch, T.n_Watch_on, rfl, fin _ (n + 1) ((But.of S12).set.set.set) ?_ upd_same (by simp)⟩
        rw [upd_ne n2, upd_ne n2, upd_ne n2]
        exact hp2
end
end K48
set_option Elab.async false
set_option linter.all false
set_option maxRecDepth 100000
set_option maxHeartbeats 4000000
namespace K48
open PySem PySem.Spec PyProof.Rows L2 Pre Dfs Vls
section
variable {P : Program} {w : World} {K : PySem.W.Frag} {mg : Str → Option Value} {base : Heap}
def spTw (K : PySem.W.Frag) : Sp := fun vs H Q _ => ∃ (x al : Addr) (rows : List Int) (on : Bool) (n : Int) (c o f : Int), vs = [.ref x] ∧ WtO K H x al rows on n ∧ AlO K H al c o f ∧
  ∀ (y : Addr) (H' : Hp), Same H H' → H y = none → WtO K H' y al rows on n → Q (.ref y) H'
theorem m_twin (T : Tx K mg) : Mfn P w K mg base CX0 4 (CW K) "twin" ["self"] (spTw K) := by
  have nd : (["self", "other"] : List Str).Nodup := by decide +kernel
  refine mfn T.q_Watch_twin T.c_Watch T.m_Watch_twin (N := ["self", "other"]) ⟨rfl, rfl, rfl, nd, rfl, by decide +kernel, by decide +kernel⟩ (fun vs H Q E h => ?_) (fun kV doc pm an cdv ct => bind1 fun a => rfl) (fun cdv A outer s H vs Q E hr h => ?_)
  · obtain ⟨_, _, _, _, _, _, _, _, rfl, _⟩ := h
    rfl
  · obtain ⟨x, al, rows, on, n, c, o, f, rfl, ⟨dx, t, e1, e2⟩, ha, q⟩ := h
    refine ⟨_, pss_cons (ps_set (i := 1) nd rfl (Or.inl rfl) (pe_wt T hr (by rfl) (pa_cons (fld (pv 0)) pa_nil)))
      (pss_cons (ps_fld (pv 1) (fld (pv 0)) rfl)
      (pss_cons (ps_fld (pv 1) (fld (pv 0)) rfl)
      (pss_cons (ps_fld (pv 1) (fld (pv 0)) rfl)
      (pss_one (ps_ret (pv 1)))))), ?_⟩
    refine ⟨_, rfl, x, _, _, _, _, rfl, e1, T.c_Watch, T.n_Watch_alarm, rfl, al, c, o, f, rfl, ha, fun y H1 S1 ny hy => ?_⟩
    obtain ⟨dy, ty, y1, y2⟩ := hy
    have nxy : x ≠ y := ne_of_none e1 ny
    have nty : t ≠ y := ne_of_none e2 ny
    refine ⟨_, rfl, x, _, _, _, _, rfl, S1 _ _ e1, T.c_Watch, T.n_Watch_rows, rfl, _, rfl, y, _, dy, _, rfl, y1, T.c_Watch, T.n_Watch_rows, (by show (4 : Nat) < 1000; decide), ?_⟩
    refine ⟨_, rfl, x, _, _, _, _, rfl, (upd_ne nxy).trans (S1 _ _ e1), T.c_Watch, T.n_Watch_on, rfl, _, rfl, y, _, dy, _, rfl, upd_same, T.c_Watch, T.n_Watch_on, (by show (4 : Nat) < 1000; decide), ?_⟩
    refine ⟨_, rfl, x, _, _, _, _, rfl, (upd_ne nxy).trans ((upd_ne nxy).trans (S1 _ _ e1)), T.c_Watch, T.n_Watch_times, rfl, _, rfl, y, _, dy, _, rfl, upd_same, T.c_Watch, T.n_Watch_times, (by show (4 : Nat) < 1000; decide), ?_⟩
    refine ⟨_, rfl, q y _ (fun b u h => ?_) ny ⟨dy, t, upd_same, ?_⟩⟩
    · have nb : b ≠ y := ne_of_none h ny
      rw [upd_ne nb, upd_ne nb, upd_ne nb]
      exact S1 _ _ h
    · rw [upd_ne nty, upd_ne nty, upd_ne nty]
      exact S1 _ _ e2
/-- what a watch can be compared with, and what of it counts -/
inductive Ow (K : PySem.W.Frag) (H : Hp) : V → Option ((Int × Int × Int) × List Int × Bool) → Prop where
  | wt {a al : Addr} {c o f : Int} {rows : List Int} {on : Bool} {n : Int} (h : WtO K H a al rows on n) (h2 : AlO K H al c o f) (few : rows.length ≤ 100) (big : ∀ r ∈ rows, r.natAbs < 10 ^ 50) : Ow K H (.ref a) (some ((c, o, f), rows, on))
  | al {a : Addr} {c o f : Int} (h : AlO K H a c o f) : Ow K H (.ref a) none
theorem Ow.same {K : PySem.W.Frag} {H H' : Hp} {y : V} {p : Option ((Int × Int × Int) × List Int × Bool)} (h : Ow K H y p) (S : Same H H') : Ow K H' y p := by
  cases h with
  | wt h h2 few big => exact .wt (h.same S) (h2.same S) few big
  | al h => exact .al (h.same S)
theorem Ow.ty (T : Tx K mg) {H : Hp} {y : V} {p : Option ((Int × Int × Int) × List Int × Bool)} (h : Ow K H y p) : ∃ t, TyX K H y t ∧ PySem.W.kitOne K t (.ref (CW K)) = some p.isSome ∧ PySem.W.notFirst K (CW K) t = true := by
  cases h with
  | wt h h2 few big =>
    obtain ⟨dx, t, e, _⟩ := h
    exact ⟨_, T.is_Watch.ty T.c_Watch e, T.k_Watch_Watch, T.nf_Watch_Watch⟩
  | al h =>
    obtain ⟨dx, e⟩ := h
    exact ⟨_, T.is_Alarm.ty T.c_Alarm e, T.k_Alarm_Watch, T.nf_Watch_Alarm⟩
def spWe (K : PySem.W.Frag) : Sp := fun vs H Q _ => ∃ (x : Addr) (y : V) (m : (Int × Int × Int) × List Int × Bool) (p : Option ((Int × Int × Int) × List Int × Bool)), vs = [.ref x, y] ∧ Ow K H (.ref x) (some m) ∧ Ow K H y p ∧ Q (.bl (decide (p = some m))) H
theorem m_eqW (T : Tx K mg) : Mfn P w K mg base CX0 4 (CW K) "__eq__" ["self", "other"] (spWe K) := by
  refine mfn T.q_Watch_eq T.c_Watch T.m_Watch_eq (N := ["self", "other"]) ⟨rfl, rfl, rfl, by decide +kernel, rfl, by decide +kernel, by decide +kernel⟩ (fun vs H Q E h => ?_) (fun kV doc pm an cdv ct => bind2 fun a b => rfl) (fun cdv A outer s H vs Q E hr h => ?_)
  · obtain ⟨_, _, _, _, rfl, _⟩ := h
    rfl
  · obtain ⟨x, y, m, p, rfl, h1, oy, q⟩ := h
    obtain ⟨t, ty, kit, nf⟩ := oy.ty T
    refine ⟨_, pss_cons (ps_if (PW.pt (pw_or (pt_not (pt_val (pe_callB call_isi (by rfl) T.f_isinstance (by decide +kernel) (pa_cons (pv 1) (pa_cons (pe_glob (v := .ref (CW K)) (by rfl) T.g_Watch rfl) pa_nil)))))
        (pw_or1 (pt_cmpR (op_neA T hr) (fld (pv 0)) (fld (pv 1)) (nomark _))))) (pss_one (ps_ret pe_bl)) pss_nil)
      (pss_one (ps_ret (pe_and (pe_cmpR (op_eqD hr.units) (fld (pv 0)) (fld (pv 1)) (nomark _)) (pe_one (pe_cmpR op_eq (fld (pv 0)) (fld (pv 1)) (nomark _)))))), ?_⟩
    refine ⟨_, rfl, _, _, t, _, _, rfl, .own _, ty, kit, _, rfl, ?_⟩
    cases oy with
    | al h => exact ite3 (fun _ => ite3 (fun _ => q) (fun h => by cases h)) (fun h => by cases h)
    | wt h2 a2 few2 big2 =>
      cases h1 with
      | wt h1 a1 few1 big1 =>
        rename_i al2 c2 o2 f2 rows2 on2 n2 al1 c1 o1 f1 rows1 on1 n1
        obtain ⟨dx1, t1, e1, r1⟩ := h1
        obtain ⟨dx2, t2, e2, r2⟩ := h2
        refine ite3 (fun h => by cases h) (fun _ => ?_)
        refine ⟨_, rfl, x, _, _, _, _, rfl, e1, T.c_Watch, T.n_Watch_alarm, rfl, _, rfl, _, _, _, _, _, rfl, e2, T.c_Watch, T.n_Watch_alarm, rfl, al1, c1, o1, f1, _, rfl, a1, .al a2, _, rfl, ?_⟩
        refine ite3 (fun g => ?_) (fun g => ?_)
        · have z : decide (some ((c2, o2, f2), rows2, on2) = some ((c1, o1, f1), rows1, on1)) = false := decide_eq_false fun h => by
            injection h with h
            injection h with h _
            rw [h, decide_eq_true rfl] at g
            cases g
          rw [z] at q
          exact q
        · have g2 : (c2, o2, f2) = (c1, o1, f1) := by
            have g3 := of_decide_eq_true (by simpa using g : decide (some (c2, o2, f2) = some (c1, o1, f1)) = true)
            injection g3
          rw [g2] at q
          have sm1 := (Flat.SmA.ints big1).tup
          have sm2 := (Flat.SmA.ints big2).tup
          refine ⟨_, rfl, x, _, _, _, _, rfl, e1, T.c_Watch, T.n_Watch_rows, rfl, _, rfl, _, _, _, _, _, rfl, e2, T.c_Watch, T.n_Watch_rows, rfl, _, _, .tup (SqT.of r1) (dp_ints rows1), .tup (SqT.of r2) (dp_ints rows2), sm1.shaped (by decide), sm2.shaped (by decide), _, rfl, ?_⟩
          rw [Flat.eqv_tup]
          refine ite3 (fun k => ?_) (fun k => ?_)
          · have k2 := of_decide_eq_true k
            subst k2
            refine ⟨_, rfl, x, _, _, _, _, rfl, e1, T.c_Watch, T.n_Watch_on, rfl, _, rfl, _, _, _, _, _, rfl, e2, T.c_Watch, T.n_Watch_on, rfl, rfl, ?_⟩
            have z : decide (some ((c1, o1, f1), rows1, on2) = some ((c1, o1, f1), rows1, on1)) = decide (V.bl on1 = V.bl on2) := by
              cases on1 <;> cases on2 <;> simp
            rw [z] at q
            exact q
          · have z : decide (some ((c1, o1, f1), rows2, on2) = some ((c1, o1, f1), rows1, on1)) = false := decide_eq_false fun h => by
              injection h with h
              injection h with _ h
              injection h with h _
              exact of_decide_eq_false k h.symm
            rw [z] at q
            exact q
end
def rEqW (K : PySem.W.Frag) : R2 := fun x y H Q => ∃ (a : Addr) (m : (Int × Int × Int) × List Int × Bool) (p : Option ((Int × Int × Int) × List Int × Bool)), x = .ref a ∧ Ow K H (.ref a) (some m) ∧ Ow K H y p ∧ Q (.bl (decide (p = some m))) H
def rNeW (K : PySem.W.Frag) : R2 := fun x y H Q => ∃ (a : Addr) (m : (Int × Int × Int) × List Int × Bool) (p : Option ((Int × Int × Int) × List Int × Bool)), x = .ref a ∧ Ow K H (.ref a) (some m) ∧ Ow K H y p ∧ Q (.bl (!decide (p = some m))) H
theorem Ow.ins {K : PySem.W.Frag} {H : Hp} {a : Addr} {m : (Int × Int × Int) × List Int × Bool} (h : Ow K H (.ref a) (some m)) : ∃ dx fs, H a = some (.ins (CW K) dx fs) := by
  cases h with
  | wt h h2 few big =>
    obtain ⟨dx, t, e, _⟩ := h
    exact ⟨_, _, e⟩
theorem op_eqW {X : Cx} (T : Tx X.K X.mg) (hr : Room 4 X.A) : OpR X (compareOp .Eq) (rEqW X.K) := by
  intro pins s σ H x y v u Q I rx ry h
  obtain ⟨a, m, p, rfl, h1, oa, q⟩ := h
  obtain ⟨t, ty, kit, nf⟩ := oa.ty T
  have M := m_eqW (P := X.prog) (w := X.w) (base := X.base) T
  obtain ⟨fd, F, B⟩ := M.ok
  obtain ⟨dx, fs, e⟩ := h1.ins
  exact Oeq.op_eqX M.mt F B hr p0 (E := fun _ _ _ => False) pins s σ H (.ref a) y v u Q I rx ry ⟨a, dx, _, t, rfl, e, ty, nf, a, y, m, p, rfl, h1, oa, _, rfl, q⟩
theorem op_neW {X : Cx} (T : Tx X.K X.mg) (hr : Room 6 X.A) : OpR X (compareOp .NotEq) (rNeW X.K) := by
  intro pins s σ H x y v u Q I rx ry h
  obtain ⟨a, m, p, rfl, h1, oa, q⟩ := h
  obtain ⟨t, ty, kit, nf⟩ := oa.ty T
  have M := m_eqW (P := X.prog) (w := X.w) (base := X.base) T
  obtain ⟨fd, F, B⟩ := M.ok
  obtain ⟨dx, fs, e⟩ := h1.ins
  exact Oeq.op_neX M.mt F B hr p0 T.ne_Watch T.is_Watch.o (E := fun _ _ _ => False) pins s σ H (.ref a) y v u Q I rx ry ⟨a, dx, _, t, rfl, e, ty, nf, a, y, m, p, rfl, h1, oa, _, rfl, q⟩
end K48
set_option Elab.async false
set_option linter.all false
set_option maxRecDepth 100000
set_option maxHeartbeats 4000000
namespace K48
open PySem PySem.Spec PyProof.Rows L2 Pre Dfs Vls
/-! an alarm, column by column -/
/-- what the last c of the first k tell -/
def tot (c : Nat) (xs : List Int) (k : Nat) : Int := (lastN c (xs.take k)).sum
/-- on, and how often -/
def stt (c : Nat) (o f : Int) (xs : List Int) : Nat → Bool × Int
  | 0 => (false, 0)
  | k + 1 => (stays (stt c o f xs k).1 o f (tot c xs (k + 1)), (stt c o f xs k).2 + (if stays (stt c o f xs k).1 o f (tot c xs (k + 1)) && !(stt c o f xs k).1 then 1 else 0))
def sttL (c : Nat) (o f : Int) (xs : List Int) (n : Nat) : List Bool := (List.range n).map fun k => (stt c o f xs k).1
theorem sttL_succ (c : Nat) (o f : Int) (xs : List Int) (n : Nat) : sttL c o f xs (n + 1) = sttL c o f xs n ++ [(stt c o f xs n).1] := by
  unfold sttL
  rw [List.range_succ, List.map_append]
  rfl
theorem cut_win {c k : Nat} {xs : List Int} (h : k ≤ xs.length) : cutV (xs.map V.int) (some ((k - c : Nat) : Int)) (some (k : Int)) = (lastN c (xs.take k)).map V.int := by
  unfold cutV lastN
  rw [HT.sIx_nat, HT.sIx_nat, List.length_map, Nat.min_eq_left h, Nat.min_eq_left (show k - c ≤ xs.length by omega), List.length_take, Nat.min_eq_left h, ← List.map_drop, ← List.map_take]
  congr 1
  rw [List.drop_take]
theorem max_sub (k c : Nat) : (if ((k : Int) - (c : Int)) > 0 then ((k : Int) - (c : Int)) else 0) = ((k - c : Nat) : Int) := by
  split <;> omega
/-- the slice of a list, or of a tuple -/
theorem sl_win {K : PySem.W.Frag} {H : Hp} {r : Addr} {xs : List Int} {c k : Nat} {Q : VK} (h : k ≤ xs.length) (e : SqL K H r (xs.map V.int) ∨ SqT K H r (xs.map V.int))
    (q : ∀ (p : Addr) (H' : Hp), Same H H' → (SqL K H' p ((lastN c (xs.take k)).map V.int) ∨ SqT K H' p ((lastN c (xs.take k)).map V.int)) → Q (.ref p) H') : (rSlL K (.ref r) (some ((k - c : Nat) : Int)) (some (k : Int)) H Q) ∨ (rSlA K (.ref r) (some ((k - c : Nat) : Int)) (some (k : Int)) H Q) := by
  rcases e with e | e
  · refine .inl ⟨r, _, rfl, e, fun p hp => q p _ (Same.upd hp) (.inl (SqL.of ?_))⟩
    rw [upd_same, cut_win h]
  · refine .inr ⟨r, _, rfl, e, fun hh => q r H (Same.refl H) (.inr ?_), fun _ p hp => q p _ (Same.upd hp) (.inr (SqT.of ?_))⟩
    · have h1 := hh.1
      have h2 := hh.2
      have z := cut_win (c := c) h
      unfold cutV at z
      rw [h1, h2, List.drop_zero, Nat.sub_zero, List.take_length] at z
      rw [← z]
      exact e
    · rw [upd_same, cut_win h]
section
variable {P : Program} {w : World} {K : PySem.W.Frag} {mg : Str → Option Value} {base : Heap}
def spSon (K : PySem.W.Frag) : Sp := fun vs H Q _ => ∃ (al r : Addr) (c : Nat) (o f : Int) (xs : List Int), vs = [.ref al, .ref r] ∧ AlO K H al c o f ∧ (SqL K H r (xs.map V.int) ∨ SqT K H r (xs.map V.int)) ∧ xs.length ≤ 100 ∧
  ∀ (p : Addr) (H' : Hp), Same H H' → H p = none → H' p = some (.lst (((sttL c o f xs (xs.length + 1)).drop 1).map V.bl)) → Q (.ref p) H'
theorem sqs {K : PySem.W.Frag} {H H' : Hp} {r : Addr} {xs : List V} (e : SqL K H r xs ∨ SqT K H r xs) (S : Same H H') : SqL K H' r xs ∨ SqT K H' r xs := by
  rcases e with e | e
  · exact .inl (S.seq e)
  · refine .inr ?_
    rcases e with (e | ⟨o, e⟩) | e
    · exact .inl (.inl (S _ _ e))
    · exact .inl (.inr ⟨o, S _ _ e⟩)
    · exact .inr e
theorem d_son (T : Tx K mg) : Dfn P w K mg base CX0 2 "states_on" ["alarm", "rows"] (spSon K) := by
  have nd : (["alarm", "rows", "found", "after", "together"] : List Str).Nodup := by decide +kernel
  refine dfn T.q_states_on T.g_states_on (N := ["alarm", "rows", "found", "after", "together"]) ⟨rfl, rfl, rfl, nd, rfl, by decide +kernel, by decide +kernel⟩ (fun vs H Q E h => ?_) (fun kV doc pm an cdv ct => bind2 fun a b => rfl) (fun cdv A outer s H vs Q E hr h => ?_)
  · obtain ⟨_, _, _, _, _, _, rfl, _⟩ := h
    rfl
  · obtain ⟨al, r, c, o, f, xs, rfl, ha, hx, few, q⟩ := h
    refine ⟨_, pss_cons (ps_set (i := 2) nd rfl (Or.inl rfl) (pe_lst (pa_cons pe_bl pa_nil)))
      (pss_cons (ps_for (passes_of rfl) rfl (pi_range2 (by rfl) T.f_range (pa_cons pe_int (pa_cons (pe_op op_add (pe_callB call_len_seq (by rfl) T.f_len PySem.boot_len (pa_cons (pv 1) pa_nil)) pe_int) pa_nil))) (pg_name (i := 3) nd rfl (Or.inl rfl))
        (pss_cons (ps_set (i := 4) nd rfl (Or.inl rfl) (pe_callB (TSum.cr_sumA rfl) (by rfl) T.f_sum (by decide +kernel) (pa_cons (pe_slice (SlR.or sl_list sl_tupA) (pv 1) (po_some (pe_callB (call_max2 rfl) (by rfl) T.f_max (by decide +kernel) (pa_cons pe_int (pa_cons (pe_op op_sub (pv 3) (fld (pv 0))) pa_nil)))) (po_some (pv 3))) pa_nil)))
        (pss_one (ps_expr (pe_bm PySem.F.plainAttrs_list PySem.F.slot_list_append PySem.F.type_list_append mt_append (pv 2) (pa_cons (pe_d (d_stays T) hr (by rfl) (E := E) p0 (pa_cons (pv 0) (pa_cons (pe_ix ix_list (pv 2) (pe_un un_neg pe_int) (fun _ _ => rfl)) (pa_cons (pv 4) pa_nil)))) pa_nil))))))
      (pss_one (ps_ret (pe_slice sl_list (pv 2) (po_some pe_int) po_none)))), ?_⟩
    refine ⟨(by show (1 : Nat) ≤ sizeLine; rw [sizeLine_eq]; decide), fun D hD => ?_⟩
    have S0 : Same H (upd H D (.lst [.bl false])) := Same.upd hD
    refine ⟨_, rfl, r, _, rfl, sqs hx S0, _, _, rfl, rfl, _, _, rfl, ⟨by decide, by decide, by omega, by rw [List.length_map]; omega⟩, ?_⟩
    have en : (((xs.map V.int).length : Nat) : Int) + 1 - 1 = ((xs.length : Nat) : Int) := by rw [List.length_map]; omega
    rw [en, Int.toNat_natCast]
    refine for_range (fun i σ H1 => Same H H1 ∧ H1 D = some (.lst ((sttL c o f xs (i + 1)).map V.bl)) ∧ ∃ x3 x4, σ = [some (.ref al), some (.ref r), some (.ref D), x3, x4]) ⟨S0, upd_same, none, none, rfl⟩ (fun i σ H1 hi z => ?_) (fun σ H1 z => ?_)
    · obtain ⟨S1, hD1, x3, x4, rfl⟩ := z
      rw [show (1 : Int) + (i : Int) = ((i + 1 : Nat) : Int) by omega]
      obtain ⟨dx, e⟩ := id ha
      refine ⟨_, rfl, _, rfl, _, rfl, al, _, _, _, _, rfl, S1 _ _ e, T.c_Alarm, T.n_Alarm_columns, rfl, _, _, rfl, rfl, _, _, rfl, _, rfl, ?_⟩
      dsimp only [tPart]
      rw [max_sub]
      refine ⟨_, rfl, _, rfl, ?_⟩
      refine sl_win (show i + 1 ≤ xs.length by omega) (sqs hx S1) fun p H2 S2 hp => ?_
      have hD2 := S2 _ _ hD1
      have e2 := S2 _ _ (S1 _ _ e)
      refine ⟨p, _, rfl, hp, ?_⟩
      have lst : ((sttL c o f xs (i + 1)).map V.bl) = ((sttL c o f xs i).map V.bl) ++ [V.bl (stt c o f xs i).1] := by rw [sttL_succ, List.map_append]; rfl
      refine ⟨_, rfl, .inl ⟨rfl, _, SqL.of hD2⟩, _, rfl, _, rfl, _, rfl, D, _, _, _, rfl, rfl, SqL.of hD2, (by rw [lst]; exact atI_last _ _), _, rfl, al, (c : Int), o, f, (stt c o f xs i).1, _, rfl, ⟨dx, e2⟩, ?_⟩
      refine ⟨D, _, _, rfl, rfl, hD2, (by rw [sizeLine_eq, List.length_map]; show ((List.range (i + 1)).map _).length < _; rw [List.length_map, List.length_range]; omega), ?_⟩
      refine ⟨Pre.Same.put (fun b u h => S2 b u (S1 b u h)) hD, ?_, _, _, rfl⟩
      rw [upd_same, sttL_succ c o f xs (i + 1), List.map_append]
      rfl
    · obtain ⟨S1, hD1, x3, x4, rfl⟩ := z
      refine ⟨_, rfl, _, rfl, D, _, rfl, SqL.of hD1, fun p hp => ?_⟩
      refine q p _ (Same.new S1 hp) (S1.free hp) ?_
      rw [upd_same]
      unfold cutV
      rw [List.length_map, HT.sIx_none, show HT.sIx (sttL c o f xs (xs.length + 1)).length 0 (some 1) = 1 from ?_, ← List.map_drop, List.take_of_length_le]
      · rw [List.length_map, List.length_drop]
        exact Nat.le_refl _
      · have := HT.sIx_nat (sttL c o f xs (xs.length + 1)).length 0 1
        have l1 : (sttL c o f xs (xs.length + 1)).length = xs.length + 1 := by unfold sttL; rw [List.length_map, List.length_range]
        rw [l1] at this ⊢
        refine Eq.trans this ?_
        omega
end
end K48
set_option Elab.async false
set_option linter.all false
set_option maxRecDepth 100000
set_option maxHeartbeats 4000000
namespace Flat
open PySem PySem.Spec PyProof.Rows L2 Pre
theorem SmA.bools (bs : List Bool) : SmA (1 * bs.length) 0 (bs.map PyData.bool) := by
  have a := SmA.all (w := 0) (k := 0) (ds := bs.map PyData.bool) (fun d hd => by
    obtain ⟨n, hn, rfl⟩ := List.mem_map.mp hd
    exact Sm.bl n)
  rw [List.length_map] at a
  exact a
theorem dp_bools {K : PySem.W.Frag} {H : Hp} : ∀ bs : List Bool, DpAll K H (bs.map V.bl) (bs.map PyData.bool)
  | [] => .nil
  | b :: r => .cons (.bl b) (dp_bools r)
theorem eqv_bnil (bs : List Bool) : PyData.eqv (.list (bs.map PyData.bool)) (.list []) = bs.isEmpty := by
  cases bs with
  | nil => simp [PyData.eqv, PyData.eqvAll]
  | cons y r => simp [PyData.eqv, PyData.eqvAll]
end Flat
namespace K48
open PySem PySem.Spec PyProof.Rows L2 Pre Dfs Vls
section
variable {P : Program} {w : World} {K : PySem.W.Frag} {mg : Str → Option Value} {base : Heap}
def spOaL (K : PySem.W.Frag) : Sp := fun vs H Q _ => ∃ (al r : Addr) (c : Nat) (o f : Int) (xs : List Int), vs = [.ref al, .ref r] ∧ AlO K H al c o f ∧ H r = some (.lst (xs.map V.int)) ∧ xs.length ≤ 100 ∧ (∀ x ∈ xs, 0 ≤ x ∧ x ≤ 10 ^ 40) ∧
  ∀ (H' : Hp), Same H H' → Q (.bl (stt c o f xs xs.length).1) H'
def spOaT (K : PySem.W.Frag) : Sp := fun vs H Q _ => ∃ (al r : Addr) (c : Nat) (o f : Int) (xs : List Int), vs = [.ref al, .ref r] ∧ AlO K H al c o f ∧ H r = some (.tup (xs.map V.int)) ∧ xs.length ≤ 100 ∧ (∀ x ∈ xs, 0 ≤ x ∧ x ≤ 10 ^ 40) ∧
  ∀ (H' : Hp), Same H H' → Q (.bl (stt c o f xs xs.length).1) H'
theorem d_onaL (T : Tx K mg) : ∃ fd, FnOk P w K mg base CX0 4 (He.ga K "on_after") fd ["alarm", "rows"] (spOaL K) ∧ FunD K "on_after" "on_after" (defArgs s_on_after) (defBody s_on_after) (defScope s_on_after) [] [] (He.ga K "on_after") fd := by
  have nd : (["alarm", "rows", "states", "row"] : List Str).Nodup := by decide +kernel
  obtain ⟨fd, F⟩ := T.q_on_after
  refine ⟨fd, F.ok (N := ["alarm", "rows", "states", "row"]) ⟨rfl, rfl, rfl, nd, rfl, by decide +kernel, by decide +kernel⟩ (fun vs H Q E h => ?_) (fun cdv A outer s H vs Q E hr h => ?_), F⟩
  · obtain ⟨_, _, _, _, _, _, rfl, _⟩ := h
    rfl
  · obtain ⟨al, r, c, o, f, xs, rfl, ha, hx, few, bd, q⟩ := h
    obtain ⟨t1, h1⟩ := T.i_FAR
    refine ⟨_, pss_cons (ps_expr (pe_d (d_calarm T) (hr.mono (by decide)) (by rfl) (E := E) p0 (pa_cons (pv 0) pa_nil)))
      (pss_cons (ps_if (PW.pt (pw_or (pt_not (pt_val (pe_callB call_isiT (by rfl) T.f_isinstance (by decide +kernel) (pa_cons (pv 1) (pa_cons (pe_tup (pa_cons (pe_bltn (v := .ty "list") (by rfl) T.f_list (by kernel_rfl) rfl) (pa_cons (pe_bltn (v := .ty "tuple") (by rfl) T.f_tuple (by kernel_rfl) rfl) pa_nil))) pa_nil)))))
          (pw_or1 (pt_not (pt_val (pe_callB (cr_all rfl) (by rfl) T.f_all (by decide +kernel) (pa_cons (pe_lc rfl nd (pi_list (pv 1)) (own := [("row", 3)]) (blk_by (by kernel_rfl)) (fun _ _ _ _ _ => pg_name (i := 3) nd rfl (Or.inl rfl)) (fun _ _ _ _ _ => pts_nil)
            (fun _ _ _ _ _ => pe_d (d_within T) (hr.mono (by decide)) (by rfl) (E := E) p0 (pa_cons (pe_var (i := 3) rfl (Or.inl rfl)) (pa_cons pe_int (pa_cons (pe_glob (v := .int (10 ^ 40)) (by rfl) h1 ⟨t1, rfl⟩) pa_nil))))) pa_nil))))))) (pss_one ps_dead) pss_nil)
      (pss_cons (ps_set (i := 2) nd rfl (Or.inl rfl) (pe_d (d_son T) (hr.mono (by decide)) (by rfl) (E := E) p0 (pa_cons (pv 0) (pa_cons (pv 1) pa_nil))))
      (pss_one (ps_ret (pe_and (pe_cmpR (op_neD hr.units) (pv 2) (pe_lst pa_nil) (nomark _)) (pe_one (pe_ix ix_list (pv 2) (pe_un un_neg pe_int) (fun _ _ => rfl)))))))), ?_⟩
    refine ⟨_, rfl, al, _, _, _, rfl, ha, ?_⟩
    refine ⟨_, rfl, (by show (2 : Nat) ≤ sizeLine; rw [sizeLine_eq]; decide), fun tp htp => ?_⟩
    have s0 : Same H (upd H tp (.tup [.ty "list", .ty "tuple"])) := Same.upd htp
    have dv : Dat (upd H tp (.tup [.ty "list", .ty "tuple"])) (.ref r) := .lst (s0 _ _ hx)
    have kk := dv.kSeq (K := K)
    have hb : (isL (upd H tp (.tup [.ty "list", .ty "tuple"])) (.ref r) || isT (upd H tp (.tup [.ty "list", .ty "tuple"])) (.ref r)) = true := by
      have hs := s0 _ _ hx
      simp only [isL, isT, hs]
      rfl
    rw [hb] at kk
    refine ⟨_, tp, _, _, _, _, rfl, upd_same, .cons (.ty _) (.cons (.ty _) .nil), dv.ty, kk, _, rfl, ite3 (fun h => by cases h) (fun _ => ?_)⟩
    refine ⟨_, rfl, r, rfl, ⟨_, SqL.of (s0 _ _ hx)⟩, fun D hD => ?_⟩
    refine lc_it (walk_list (xs := xs.map V.int)) (fun i H1 => Same H H1 ∧ H1 D = some (.lst ((List.replicate i true).map V.bl))) ⟨Pre.Same.put s0 (s0.free hD), upd_same⟩ (fun i H1 _ z => SqL.of (z.1 _ _ hx)) (fun i y H1 H3 hi z yy => ?_) (fun H1 z => ?_)
    · obtain ⟨rfl, hy⟩ := yy
      rw [List.length_map] at hi
      have hy2 : y = V.int xs[i] := by
        rw [List.getElem?_map, List.getElem?_eq_getElem hi] at hy
        exact (Option.some.inj hy).symm
      subst hy2
      refine ⟨rfl, ?_⟩
      unfold tYes
      refine ite3 (fun _ => ?_) (fun h => by cases h)
      obtain ⟨b1, b2⟩ := bd _ (List.getElem_mem hi)
      refine ⟨_, rfl, _, 0, _, rfl, .int _, ?_⟩
      rw [inR_ok b1 b2]
      refine ⟨_, z.2, ?_, Pre.Same.put z.1 (s0.free hD), ?_⟩
      · rw [List.length_map, List.length_replicate, sizeLine_eq]
        omega
      · rw [upd_same, List.replicate_succ', List.map_append]
        rfl
    · obtain ⟨S1, hD1⟩ := z
      refine ⟨D, _, rfl, SqL.of hD1, _, rfl, ?_⟩
      have ea : (List.replicate (xs.map V.int).length true).all id = true := by
        rw [List.all_eq_true]
        intro b hb
        exact (List.eq_of_mem_replicate hb)
      rw [ea]
      refine ite3 (fun h => by cases h) (fun _ => ?_)
      refine ⟨_, rfl, _, rfl, al, r, c, o, f, xs, rfl, ha.same S1, .inl (SqL.of (S1 _ _ hx)), few, fun p H2 S2 np hp => ?_⟩
      have lenS : ((sttL c o f xs (xs.length + 1)).drop 1).length = xs.length := by
        unfold sttL
        rw [List.length_drop, List.length_map, List.length_range]
        omega
      refine ⟨_, rfl, Nat.zero_le _, fun e he => ?_⟩
      have S3 : Same H (upd H2 e (.lst [])) := Same.new (fun b u h => S2 b u (S1 b u h)) he
      have pe : (upd H2 e (.lst [])) p = some (.lst (((sttL c o f xs (xs.length + 1)).drop 1).map V.bl)) := (upd_ne (ne_of_none hp he)).trans hp
      have sm := (Flat.SmA.bools ((sttL c o f xs (xs.length + 1)).drop 1)).lst
      refine ⟨_, _, .lst (SqL.of pe) (Flat.dp_bools _), .lst (SqL.of upd_same) .nil, sm.shaped (by decide), by decide, _, rfl, ?_⟩
      rw [Flat.eqv_bnil]
      cases xs with
      | nil => exact ite3 (fun h => by cases h) (fun _ => q _ S3)
      | cons x r =>
        have hne : ((sttL c o f (x :: r) ((x :: r).length + 1)).drop 1) ≠ [] := fun z => by
          rw [z] at lenS
          cases lenS
        refine ite3 (fun _ => ?_) (fun h => ?_)
        · have lst : ((sttL c o f (x :: r) ((x :: r).length + 1)).drop 1).map V.bl = (((sttL c o f (x :: r) (x :: r).length).drop 1).map V.bl) ++ [V.bl (stt c o f (x :: r) (x :: r).length).1] := by
            rw [sttL_succ, List.drop_append_of_le_length, List.map_append]
            · rfl
            · unfold sttL
              rw [List.length_map, List.length_range]
              exact Nat.succ_le_succ (Nat.zero_le _)
          exact ⟨_, rfl, _, rfl, p, _, _, _, rfl, rfl, SqL.of pe, (by rw [lst]; exact atI_last _ _), q _ S3⟩
        · rw [Bool.not_eq_false'] at h
          exact absurd (List.isEmpty_iff.mp h) hne
theorem d_onaT (T : Tx K mg) : ∃ fd, FnOk P w K mg base CX0 4 (He.ga K "on_after") fd ["alarm", "rows"] (spOaT K) ∧ FunD K "on_after" "on_after" (defArgs s_on_after) (defBody s_on_after) (defScope s_on_after) [] [] (He.ga K "on_after") fd := by
  have nd : (["alarm", "rows", "states", "row"] : List Str).Nodup := by decide +kernel
  obtain ⟨fd, F⟩ := T.q_on_after
  refine ⟨fd, F.ok (N := ["alarm", "rows", "states", "row"]) ⟨rfl, rfl, rfl, nd, rfl, by decide +kernel, by decide +kernel⟩ (fun vs H Q E h => ?_) (fun cdv A outer s H vs Q E hr h => ?_), F⟩
  · obtain ⟨_, _, _, _, _, _, rfl, _⟩ := h
    rfl
  · obtain ⟨al, r, c, o, f, xs, rfl, ha, hx, few, bd, q⟩ := h
    obtain ⟨t1, h1⟩ := T.i_FAR
    refine ⟨_, pss_cons (ps_expr (pe_d (d_calarm T) (hr.mono (by decide)) (by rfl) (E := E) p0 (pa_cons (pv 0) pa_nil)))
      (pss_cons (ps_if (PW.pt (pw_or (pt_not (pt_val (pe_callB call_isiT (by rfl) T.f_isinstance (by decide +kernel) (pa_cons (pv 1) (pa_cons (pe_tup (pa_cons (pe_bltn (v := .ty "list") (by rfl) T.f_list (by kernel_rfl) rfl) (pa_cons (pe_bltn (v := .ty "tuple") (by rfl) T.f_tuple (by kernel_rfl) rfl) pa_nil))) pa_nil)))))
          (pw_or1 (pt_not (pt_val (pe_callB (cr_all rfl) (by rfl) T.f_all (by decide +kernel) (pa_cons (pe_lc rfl nd (pi_tup (pv 1)) (own := [("row", 3)]) (blk_by (by kernel_rfl)) (fun _ _ _ _ _ => pg_name (i := 3) nd rfl (Or.inl rfl)) (fun _ _ _ _ _ => pts_nil)
            (fun _ _ _ _ _ => pe_d (d_within T) (hr.mono (by decide)) (by rfl) (E := E) p0 (pa_cons (pe_var (i := 3) rfl (Or.inl rfl)) (pa_cons pe_int (pa_cons (pe_glob (v := .int (10 ^ 40)) (by rfl) h1 ⟨t1, rfl⟩) pa_nil))))) pa_nil))))))) (pss_one ps_dead) pss_nil)
      (pss_cons (ps_set (i := 2) nd rfl (Or.inl rfl) (pe_d (d_son T) (hr.mono (by decide)) (by rfl) (E := E) p0 (pa_cons (pv 0) (pa_cons (pv 1) pa_nil))))
      (pss_one (ps_ret (pe_and (pe_cmpR (op_neD hr.units) (pv 2) (pe_lst pa_nil) (nomark _)) (pe_one (pe_ix ix_list (pv 2) (pe_un un_neg pe_int) (fun _ _ => rfl)))))))), ?_⟩
    refine ⟨_, rfl, al, _, _, _, rfl, ha, ?_⟩
    refine ⟨_, rfl, (by show (2 : Nat) ≤ sizeLine; rw [sizeLine_eq]; decide), fun tp htp => ?_⟩
    have s0 : Same H (upd H tp (.tup [.ty "list", .ty "tuple"])) := Same.upd htp
    have dv : Dat (upd H tp (.tup [.ty "list", .ty "tuple"])) (.ref r) := .tup (s0 _ _ hx)
    have kk := dv.kSeq (K := K)
    have hb : (isL (upd H tp (.tup [.ty "list", .ty "tuple"])) (.ref r) || isT (upd H tp (.tup [.ty "list", .ty "tuple"])) (.ref r)) = true := by
      have hs := s0 _ _ hx
      simp only [isL, isT, hs]
      rfl
    rw [hb] at kk
    refine ⟨_, tp, _, _, _, _, rfl, upd_same, .cons (.ty _) (.cons (.ty _) .nil), dv.ty, kk, _, rfl, ite3 (fun h => by cases h) (fun _ => ?_)⟩
    refine ⟨_, rfl, r, rfl, ⟨_, SqT.of (s0 _ _ hx)⟩, fun D hD => ?_⟩
    refine lc_it (walk_tup (xs := xs.map V.int)) (fun i H1 => Same H H1 ∧ H1 D = some (.lst ((List.replicate i true).map V.bl))) ⟨Pre.Same.put s0 (s0.free hD), upd_same⟩ (fun i H1 _ z => SqT.of (z.1 _ _ hx)) (fun i y H1 H3 hi z yy => ?_) (fun H1 z => ?_)
    · obtain ⟨rfl, hy⟩ := yy
      rw [List.length_map] at hi
      have hy2 : y = V.int xs[i] := by
        rw [List.getElem?_map, List.getElem?_eq_getElem hi] at hy
        exact (Option.some.inj hy).symm
      subst hy2
      refine ⟨rfl, ?_⟩
      unfold tYes
      refine ite3 (fun _ => ?_) (fun h => by cases h)
      obtain ⟨b1, b2⟩ := bd _ (List.getElem_mem hi)
      refine ⟨_, rfl, _, 0, _, rfl, .int _, ?_⟩
      rw [inR_ok b1 b2]
      refine ⟨_, z.2, ?_, Pre.Same.put z.1 (s0.free hD), ?_⟩
      · rw [List.length_map, List.length_replicate, sizeLine_eq]
        omega
      · rw [upd_same, List.replicate_succ', List.map_append]
        rfl
    · obtain ⟨S1, hD1⟩ := z
      refine ⟨D, _, rfl, SqL.of hD1, _, rfl, ?_⟩
      have ea : (List.replicate (xs.map V.int).length true).all id = true := by
        rw [List.all_eq_true]
        intro b hb
        exact (List.eq_of_mem_replicate hb)
      rw [ea]
      refine ite3 (fun h => by cases h) (fun _ => ?_)
      refine ⟨_, rfl, _, rfl, al, r, c, o, f, xs, rfl, ha.same S1, .inr (SqT.of (S1 _ _ hx)), few, fun p H2 S2 np hp => ?_⟩
      have lenS : ((sttL c o f xs (xs.length + 1)).drop 1).length = xs.length := by
        unfold sttL
        rw [List.length_drop, List.length_map, List.length_range]
        omega
      refine ⟨_, rfl, Nat.zero_le _, fun e he => ?_⟩
      have S3 : Same H (upd H2 e (.lst [])) := Same.new (fun b u h => S2 b u (S1 b u h)) he
      have pe : (upd H2 e (.lst [])) p = some (.lst (((sttL c o f xs (xs.length + 1)).drop 1).map V.bl)) := (upd_ne (ne_of_none hp he)).trans hp
      have sm := (Flat.SmA.bools ((sttL c o f xs (xs.length + 1)).drop 1)).lst
      refine ⟨_, _, .lst (SqL.of pe) (Flat.dp_bools _), .lst (SqL.of upd_same) .nil, sm.shaped (by decide), by decide, _, rfl, ?_⟩
      rw [Flat.eqv_bnil]
      cases xs with
      | nil => exact ite3 (fun h => by cases h) (fun _ => q _ S3)
      | cons x r =>
        have hne : ((sttL c o f (x :: r) ((x :: r).length + 1)).drop 1) ≠ [] := fun z => by
          rw [z] at lenS
          cases lenS
        refine ite3 (fun _ => ?_) (fun h => ?_)
        · have lst : ((sttL c o f (x :: r) ((x :: r).length + 1)).drop 1).map V.bl = (((sttL c o f (x :: r) (x :: r).length).drop 1).map V.bl) ++ [V.bl (stt c o f (x :: r) (x :: r).length).1] := by
            rw [sttL_succ, List.drop_append_of_le_length, List.map_append]
            · rfl
            · unfold sttL
              rw [List.length_map, List.length_range]
              exact Nat.succ_le_succ (Nat.zero_le _)
          exact ⟨_, rfl, _, rfl, p, _, _, _, rfl, rfl, SqL.of pe, (by rw [lst]; exact atI_last _ _), q _ S3⟩
        · rw [Bool.not_eq_false'] at h
          exact absurd (List.isEmpty_iff.mp h) hne
end
section
variable {X : Cx} {e : Expr} {es : List Expr} {p pos : Pos} {t tk : TA} {kws : List Keyword}
theorem pe_ona (T : Tx X.K X.mg) (hr : Room 4 X.A) (hg : Gl X "on_after") (ha : PA X (e :: es) t)
    (he : starEach (e :: es) X.env = (false, eval e X.env) :: starEach es X.env := by rfl) (hpl : (backTo pos (starEach es X.env)).any (·.1) = false := by rfl) :
    PE X (.Call (.Name "on_after" p) (e :: es) [] pos) (tCall (spOaL X.K) [] (fun _ _ _ => False) t) := by
  obtain ⟨fd, F, D⟩ := d_onaL (P := X.prog) (w := X.w) (base := X.base) T
  exact pe_call F hr hg T.g_on_after D.kp (D.bindsN fun kV doc pm an cdv ct => bind2 fun a b => rfl) .nil p0 ha (by decide) he hpl
/-- by keywords, a tuple -/
theorem pe_onak (T : Tx X.K X.mg) (hr : Room 4 X.A) (hg : Gl X "on_after") (hkw : PK X kws tk)
    (hall : (backToKw pos (keywordEach kws X.env)).all (·.1.isSome) = true := by rfl) (hks : (backToKw pos (keywordEach kws X.env)).filterMap (·.1) = (["rows", "alarm"] : List Str) := by rfl)
    (hpl : ((backTo pos (starEach [] X.env)).any (·.1) || (backToKw pos (keywordEach kws X.env)).any (·.1.isNone)) = false := by rfl) :
    PE X (.Call (.Name "on_after" p) [] kws pos) (fun σ H Q => tk σ H fun zs H1 => ∃ a b, zs = [a, b] ∧ spOaT X.K [b, a] H1 Q (fun _ _ _ => False)) := by
  obtain ⟨fd, F, D⟩ := d_onaT (P := X.prog) (w := X.w) (base := X.base) T
  have hb : KBn X.K fd ["alarm", "rows"] 0 ["rows", "alarm"] (fun us ws => us ++ ws.reverse) (fun vs zs => vs ++ zs.reverse) := by
    refine ⟨fun s us ws X l1 l2 => ?_, fun r1 r2 => r1.append r2.reverse⟩
    match us, ws, l1, l2 with
    | [], [a, b], _, _ =>
      obtain ⟨oc, od, dV, kV, doc, pm, an, cdv, ct, osl, rfl, lk, hcd, hD, hK⟩ := D.ex
      rcases hD with ⟨_, rfl⟩ | ⟨e, _⟩
      · exact .of_eq rfl
      · exact absurd rfl e
  refine ⟨fun pins s σ H Q I h => ?_⟩
  refine wpAny_Call_Name_kw (ld_glob I hg T.g_on_after ?_ (by decide))
  refine PySem.W.callWith_KW0 (h₀ := X.base) I.ok.mod.kin D.kp hall ?_ hpl
  refine thn (hkw.run pos pins s σ H _ I h) fun ws s2 ⟨zs, H2, I2, rz, a, b, e1, q⟩ => ⟨I2.kIn, ?_⟩
  have e2 : zs = [a, b] := e1
  subst e2
  rw [hks]
  exact run_fnN (us := []) (vs := []) F hr hb (E := fun _ _ _ => False) p0 I2 .nil rz rfl rfl q
end
end K48
set_option Elab.async false
set_option linter.all false
set_option maxRecDepth 100000
set_option maxHeartbeats 4000000
namespace K48
open PySem PySem.Spec PyProof.Rows L2 Pre Dfs Vls
/-- what the law tells of the first k columns -/
def dueV (c : Nat) (o f : Int) (xs : List Int) (k : Nat) : List V := [.bl (stt c o f xs k).1, .int (stt c o f xs k).2, .int (tot c xs k)]
/-- .. of all, in a list -/
structure DueO (H : Hp) (p : Addr) (as : List Addr) (c : Nat) (o f : Int) (xs : List Int) (n : Nat) : Prop where
  at_ : H p = some (.lst (as.map V.ref))
  len : as.length = n
  it : ∀ i a, as[i]? = some a → H a = some (.tup (dueV c o f xs (i + 1)))
theorem DueO.same {H H' : Hp} {p : Addr} {as : List Addr} {c : Nat} {o f : Int} {xs : List Int} {n : Nat} (d : DueO H p as c o f xs n) (S : Same H H') : DueO H' p as c o f xs n := ⟨S _ _ d.at_, d.len, fun i a h => S _ _ (d.it i a h)⟩
section
variable {P : Program} {w : World} {K : PySem.W.Frag} {mg : Str → Option Value} {base : Heap}
def spStates (K : PySem.W.Frag) : Sp := fun vs H Q _ => ∃ (t r : Addr) (c : Nat) (o f : Int) (xs : List Int), vs = [.ref t, .ref r] ∧ H t = some (.tup [.int (c : Int), .int o, .int f]) ∧ H r = some (.lst (xs.map V.int)) ∧ xs.length ≤ 100 ∧
  ∀ (p : Addr) (as : List Addr) (H' : Hp), Same H H' → H p = none → DueO H' p as c o f xs xs.length → Q (.ref p) H'
theorem d_states (T : Tx K mg) : Dfn P w K mg base CX0 1 "_law_states" ["_law_alarm", "_law_rows_here"] (spStates K) := by
  have nd : (["_law_alarm", "_law_rows_here", "_law_found", "_law_is_on", "_law_times", "_law_at", "_law_told"] : List Str).Nodup := by decide +kernel
  refine dfn T.q_law_states T.g_law_states (N := ["_law_alarm", "_law_rows_here", "_law_found", "_law_is_on", "_law_times", "_law_at", "_law_told"]) ⟨rfl, rfl, rfl, nd, rfl, by decide +kernel, by decide +kernel⟩ (fun vs H Q E h => ?_) (fun kV doc pm an cdv ct => bind2 fun a b => rfl) (fun cdv A outer s H vs Q E hr h => ?_)
  · obtain ⟨_, _, _, _, _, _, rfl, _⟩ := h
    rfl
  · obtain ⟨t, r, c, o, f, xs, rfl, ht, hx, few, q⟩ := h
    refine ⟨_, pss_cons (ps_par3 (i := 2) (j := 3) (l := 4) rfl nd rfl rfl rfl (by decide) (by decide) (by decide) rfl rfl rfl (pa_cons (pe_lst pa_nil) (pa_cons pe_bl (pa_cons pe_int pa_nil))) (by rfl))
      (pss_cons (ps_for (passes_of rfl) rfl (pi_range1 (by rfl) T.f_range (pa_cons (pe_callB call_len_seq (by rfl) T.f_len PySem.boot_len (pa_cons (pv 1) pa_nil)) pa_nil)) (pg_name (i := 5) nd rfl (Or.inl rfl))
        (pss_cons (ps_set (i := 6) nd rfl (Or.inl rfl) (pe_callB (TSum.cr_sumA rfl) (by rfl) T.f_sum (by decide +kernel) (pa_cons (pe_slice (SlR.or sl_list sl_tupA) (pv 1) (po_some (pe_callB (call_max2 rfl) (by rfl) T.f_max (by decide +kernel) (pa_cons pe_int (pa_cons (pe_op op_sub (pe_op op_add (pv 5) pe_int) (pe_ix ix_tup (pv 0) pe_int (fun _ _ => rfl))) pa_nil)))) (po_some (pe_op op_add (pv 5) pe_int))) pa_nil)))
        (pss_cons (ps_set (i := 4) nd rfl (Or.inl rfl) (pe_op op_add (pv 4) (pe_callTy call_int1 (by rfl) T.f_int (by decide +kernel) (pa_cons (pe_and (pe_not (pv 3)) (pe_one (pe_cmpR op_ge (pv 6) (pe_ix ix_tup (pv 0) pe_int (fun _ _ => rfl)) (nomark _)))) pa_nil))))
        (pss_cons (ps_set (i := 3) nd rfl (Or.inl rfl) (pe_cmpR op_ge (pv 6) (pe_ifExp (pt_truth (pv 3) (fun _ => rfl)) (pe_ix ix_tup (pv 0) pe_int (fun _ _ => rfl)) (pe_ix ix_tup (pv 0) pe_int (fun _ _ => rfl))) (nomark _)))
        (pss_one (ps_expr (pe_bm PySem.F.plainAttrs_list PySem.F.slot_list_append PySem.F.type_list_append mt_append (pv 2) (pa_cons (pe_tup (pa_cons (pv 3) (pa_cons (pv 4) (pa_cons (pv 6) pa_nil)))) pa_nil))))))))
      (pss_one (ps_ret (pv 2)))), ?_⟩
    refine ⟨Nat.zero_le _, fun D hD => ?_⟩
    have S0 : Same H (upd H D (.lst [])) := Same.upd hD
    refine ⟨_, _, _, rfl, ?_⟩
    refine ⟨_, rfl, r, _, rfl, .inl (SqL.of (S0 _ _ hx)), _, rfl, by omega, by rw [List.length_map]; omega, ?_⟩
    rw [Int.toNat_natCast, List.length_map]
    refine for_range (fun i σ H1 => Same H H1 ∧ ∃ as, DueO H1 D as c o f xs i ∧ ∃ x5 x6, σ = [some (.ref t), some (.ref r), some (.ref D), some (.bl (stt c o f xs i).1), some (.int (stt c o f xs i).2), x5, x6]) ⟨S0, [], ⟨upd_same, rfl, fun i a h => by cases h⟩, none, none, rfl⟩ (fun i σ H1 hi z => ?_) (fun σ H1 z => ?_)
    · obtain ⟨S1, as, du, x5, x6, rfl⟩ := z
      rw [show (0 : Int) + (i : Int) = (i : Int) by omega]
      have ht1 := SqT.of (K := K) (S1 _ _ ht)
      refine ⟨_, rfl, _, rfl, _, _, rfl, rfl, _, rfl, t, _, _, _, rfl, rfl, ht1, atI_nat (j := 0) (v := .int (c : Int)) rfl, _, _, rfl, rfl, _, _, rfl, _, rfl, ?_⟩
      dsimp only [tPart]
      rw [show (i : Int) + 1 = ((i + 1 : Nat) : Int) by omega, max_sub]
      refine ⟨_, rfl, _, _, rfl, rfl, _, rfl, ?_⟩
      rw [show (i : Int) + 1 = ((i + 1 : Nat) : Int) by omega]
      refine sl_win (show i + 1 ≤ xs.length by omega) (.inl (SqL.of (S1 _ _ hx))) fun p H2 S2 hp => ?_
      refine ⟨p, _, rfl, hp, ?_⟩
      have ht2 := SqT.of (K := K) (S2 _ _ (S1 _ _ ht))
      have S12 : Same H H2 := fun b u h => S2 b u (S1 b u h)
      have du2 := du.same S2
      show tSeq _ _ _ (_ : L2.St) _
      have es : (lastN c (xs.take (i + 1))).sum = tot c xs (i + 1) := rfl
      rw [es]
      have fin : ∀ (b : Bool) (m : Int) (x5 : Option V), b = (stt c o f xs (i + 1)).1 → m = (stt c o f xs (i + 1)).2 → ∀ a, H2 a = none →
          (Same H (upd (upd H2 a (.tup [.bl b, .int m, .int (tot c xs (i + 1))])) D (.lst (as.map V.ref ++ [.ref a]))) ∧ ∃ as', DueO (upd (upd H2 a (.tup [.bl b, .int m, .int (tot c xs (i + 1))])) D (.lst (as.map V.ref ++ [.ref a]))) D as' c o f xs (i + 1) ∧
            ∃ y5 y6, ([some (.ref t), some (.ref r), some (.ref D), some (.bl b), some (.int m), x5, some (.int (tot c xs (i + 1)))] : L2.St) = [some (.ref t), some (.ref r), some (.ref D), some (.bl (stt c o f xs (i + 1)).1), some (.int (stt c o f xs (i + 1)).2), y5, y6]) := by
        rintro b m x5 rfl rfl a na
        have nD : a ≠ D := (ne_of_none du2.at_ na).symm
        refine ⟨Pre.Same.put (Same.new S12 na) hD, as ++ [a], ⟨?_, ?_, ?_⟩, _, _, rfl⟩
        · rw [upd_same, List.map_append]
          rfl
        · rw [List.length_append, du2.len]
          rfl
        · intro j u hj
          rcases Nat.lt_or_ge j as.length with h | h
          · rw [List.getElem?_append_left h] at hj
            have e2 := du2.it j u hj
            have n1 : u ≠ a := ne_of_none e2 na
            have n2 : u ≠ D := ne_of e2 du2.at_ (by intro z; cases z)
            rw [upd_ne n2, upd_ne n1]
            exact e2
          · rw [List.getElem?_append_right h] at hj
            have e0 : j - as.length = 0 := by
              cases q0 : j - as.length with
              | zero => rfl
              | succ k => rw [q0] at hj; cases hj
            rw [e0] at hj
            obtain rfl : a = u := Option.some.inj hj
            have ej : j = i := by
              have := du2.len
              omega
            rw [upd_ne nD, upd_same, ej]
            rfl
      have lim : (as.map V.ref).length < sizeLine := by
        rw [List.length_map, du2.len, sizeLine_eq]
        omega
      have du_st : stt c o f xs (i + 1) = (stays (stt c o f xs i).1 o f (tot c xs (i + 1)), (stt c o f xs i).2 + (if stays (stt c o f xs i).1 o f (tot c xs (i + 1)) && !(stt c o f xs i).1 then 1 else 0)) := rfl
      generalize hst : stt c o f xs i = st at du_st
      obtain ⟨b0, m0⟩ := st
      generalize tot c xs (i + 1) = S at fin du_st
      cases b0 with
      | false =>
        refine ⟨_, rfl, _, rfl, _, rfl, _, rfl, ite3 (fun _ => ?_) (fun h => by cases h)⟩
        refine ⟨_, rfl, _, rfl, t, _, _, _, rfl, rfl, ht2, atI_nat (j := 1) (v := .int o) rfl, _, _, rfl, rfl, .inr ⟨_, rfl, _, _, rfl, rfl, ?_⟩⟩
        refine ⟨_, rfl, _, rfl, false, rfl, ite3 (fun h => by cases h) (fun _ => ?_)⟩
        refine ⟨_, rfl, t, _, _, _, rfl, rfl, ht2, atI_nat (j := 1) (v := .int o) rfl, _, _, rfl, rfl, ?_⟩
        refine ⟨_, rfl, .inl ⟨rfl, _, SqL.of du2.at_⟩, _, rfl, _, rfl, _, rfl, (by show (3 : Nat) ≤ sizeLine; rw [sizeLine_eq]; decide), fun a na => ?_⟩
        refine ⟨D, _, _, rfl, rfl, (upd_ne (ne_of_none du2.at_ na)).trans du2.at_, lim, ?_⟩
        refine fin _ _ _ ?_ ?_ a na
        · rw [du_st]
          rfl
        · rw [du_st]
          show _ = m0 + (if (decide (o ≤ S) && !false) = true then 1 else 0)
          rw [Bool.not_false, Bool.and_true]
      | true =>
        refine ⟨_, rfl, _, rfl, _, rfl, _, rfl, ite3 (fun h => by cases h) (fun _ => ?_)⟩
        refine .inr ⟨_, rfl, _, _, rfl, rfl, ?_⟩
        refine ⟨_, rfl, _, rfl, true, rfl, ite3 (fun _ => ?_) (fun h => by cases h)⟩
        refine ⟨_, rfl, t, _, _, _, rfl, rfl, ht2, atI_nat (j := 2) (v := .int f) rfl, _, _, rfl, rfl, ?_⟩
        refine ⟨_, rfl, .inl ⟨rfl, _, SqL.of du2.at_⟩, _, rfl, _, rfl, _, rfl, (by show (3 : Nat) ≤ sizeLine; rw [sizeLine_eq]; decide), fun a na => ?_⟩
        refine ⟨D, _, _, rfl, rfl, (upd_ne (ne_of_none du2.at_ na)).trans du2.at_, lim, ?_⟩
        refine fin _ _ _ ?_ ?_ a na
        · rw [du_st]
          rfl
        · rw [du_st]
          simp
    · obtain ⟨S1, as, du, x5, x6, rfl⟩ := z
      exact ⟨_, rfl, q D as H1 S1 hD du⟩
end
end K48
set_option Elab.async false
set_option linter.all false
set_option maxRecDepth 100000
set_option maxHeartbeats 4000000
namespace K48
open PySem PySem.Spec PyProof.Rows L2 Pre Dfs Vls
section
variable {P : Program} {w : World} {K : PySem.W.Frag} {mg : Str → Option Value} {base : Heap}
def spRows (K : PySem.W.Frag) : Sp := fun vs H Q _ => ∃ (p a : Addr) (ns : List Int) (s g o : Int), vs = [.ref p, .int o] ∧ Pen K H p a ns s g ∧ s < 900000 ∧ 1 ≤ o ∧ o ≤ 10 ^ 20 ∧
  ∀ (H' : Hp) (s' g' : Int) (r : Addr) (xs : List Int), But p H H' → Pen K H' p a ns s' g' → s ≤ s' → s' ≤ s + 60 → H' r = some (.lst (xs.map V.int)) → H r = none → 4 ≤ xs.length → xs.length ≤ 23 → (∀ x ∈ xs, 0 ≤ x ∧ x ≤ 10 ^ 40) → Q (.ref r) H'
theorem d_rows (T : Tx K mg) : Dfn P w K mg base CX0 3 "_law_rows" ["_law_pen_here", "_law_on"] (spRows K) := by
  have nd : (["_law_pen_here", "_law_on", "_law_found", "_law_lap"] : List Str).Nodup := by decide +kernel
  refine dfn T.q_law_rows T.g_law_rows (N := ["_law_pen_here", "_law_on", "_law_found", "_law_lap"]) ⟨rfl, rfl, rfl, nd, rfl, by decide +kernel, by decide +kernel⟩ (fun vs H Q E h => ?_) (fun kV doc pm an cdv ct => bind2 fun a b => rfl) (fun cdv A outer s H vs Q E hr h => ?_)
  · obtain ⟨_, _, _, _, _, _, rfl, _⟩ := h
    rfl
  · obtain ⟨p, a, ns, z, g, o, rfl, R, hz, o1, o2, q⟩ := h
    have z0 := R.s0
    have o60 : o + 2 < 10 ^ 60 := by
      have e : (10 : Int) ^ 60 = 1000000000000000000000000000000000000000000000000000000000000 := by decide
      have e2 : (10 : Int) ^ 20 = 100000000000000000000 := by decide
      rw [e2] at o2
      rw [e]
      omega
    refine ⟨_, pss_cons (ps_set (i := 2) nd rfl (Or.inl rfl) (pe_lst pa_nil))
      (pss_cons (ps_for (passes_of rfl) rfl (pi_range1 (by rfl) T.f_range (pa_cons (pe_op op_add pe_int (pe_d (d_draw T) (hr.mono (by decide)) (by rfl) (E := E) p0 (pa_cons (pv 0) (pa_cons pe_int pa_nil)))) pa_nil)) (pg_name (i := 3) nd rfl (Or.inl rfl))
        (pss_one (ps_expr (pe_bm PySem.F.plainAttrs_list PySem.F.slot_list_append PySem.F.type_list_append mt_append (pv 2) (pa_cons (pe_d (d_pick T) hr (by rfl) (E := E) p0 (pa_cons (pv 0) (pa_cons (pe_lst
          (pa_cons pe_int (pa_cons pe_int (pa_cons pe_int (pa_cons (pv 1) (pa_cons (pe_d (d_draw T) (hr.mono (by decide)) (by rfl) (E := E) p0 (pa_cons (pv 0) (pa_cons (pe_op op_add (pv 1) pe_int) pa_nil))) (pa_cons (pe_op op_fdiv (pv 1) pe_int)
            (pa_cons (pe_ifExp (pt_cmpR op_gt (pv 1) pe_int (nomark _)) (pe_op op_pow pe_int pe_int) pe_int) pa_nil)))))))) pa_nil))) pa_nil)))))
      (pss_one (ps_ret (pv 2)))), ?_⟩
    refine ⟨Nat.zero_le _, fun D hD => ?_⟩
    have S0 : Same H (upd H D (.lst [])) := Same.upd hD
    have nDp : D ≠ p := (ne_of_none R.at_ hD).symm
    refine ⟨_, rfl, p, a, ns, z, g, 20, rfl, R.same S0, by omega, by decide, by decide, fun H1 s1 g1 k b1 R1 h1 h2 h3 h4 => ?_⟩
    obtain ⟨n, rfl⟩ := Int.eq_ofNat_of_zero_le h3
    have eD : H1 D = some (.lst []) := b1 _ _ nDp upd_same
    have B1 : But p H H1 := (But.of S0).trans b1
    refine ⟨_, _, rfl, rfl, _, rfl, by omega, by omega, ?_⟩
    rw [show ((4 : Int) + (n : Int)).toNat = 4 + n by omega]
    refine for_range (fun i σ H2 => But p H H2 ∧ (∃ s2 g2, Pen K H2 p a ns s2 g2 ∧ z ≤ s2 ∧ s2 ≤ z + 1 + 2 * i) ∧ (∃ xs : List Int, H2 D = some (.lst (xs.map V.int)) ∧ xs.length = i ∧ ∀ x ∈ xs, 0 ≤ x ∧ x ≤ 10 ^ 40) ∧ ∃ x3, σ = [some (.ref p), some (.int o), some (.ref D), x3])
      ⟨B1, ⟨s1, g1, R1, h1, by omega⟩, ⟨[], eD, rfl, fun x h => by cases h⟩, none, rfl⟩ (fun i σ H2 hi y => ?_) (fun σ H2 y => ?_)
    · obtain ⟨B2, ⟨s2, g2, R2, k1, k2⟩, ⟨xs, eD2, lx, bx⟩, x3, rfl⟩ := y
      refine ⟨_, rfl, .inl ⟨rfl, _, SqL.of eD2⟩, _, rfl, _, rfl, _, rfl, _, rfl, _, _, rfl, rfl, p, a, ns, s2, g2, o + 2, rfl, R2, by omega, by omega, o60, fun H3 s3 g3 r3 b3 R3 m1 m2 m3 m4 => ?_⟩
      refine ⟨_, rfl, _, _, rfl, rfl, ⟨by decide, by decide⟩, _, rfl, _, _, rfl, rfl, _, rfl, ?_⟩
      have o40 : o ≤ 10 ^ 20 := o2
      have e40 : (10 : Int) ^ 40 = 10000000000000000000000000000000000000000 := by decide
      have e20 : (10 : Int) ^ 20 = 100000000000000000000 := by decide
      rw [e20] at o2 o40
      refine ite3 (fun _ => ?_) (fun _ => ?_)
      · refine ⟨_, _, rfl, rfl, ⟨by decide, by decide, by decide⟩, ?_⟩
        refine ⟨(by show (7 : Nat) ≤ sizeLine; rw [sizeLine_eq]; decide), fun u hu => ?_⟩
        have nu : u ≠ p := (ne_of_none R3.at_ hu).symm
        have R3' := R3.same (Same.upd hu (o := .lst [.int 0, .int 0, .int 1, .int o, .int r3, .int (o / 2), .int ((10 : Int) ^ (40 : Int).toNat)]))
        have eD3 : H3 D = some (.lst (xs.map V.int)) := b3 _ _ nDp eD2
        have nDu : D ≠ u := ne_of_none eD3 hu
        refine ⟨p, a, u, ns, s3, g3, _, rfl, R3', by omega, nu, upd_same, (by show (0 : Nat) < 7; decide), (by show (7 : Nat) < 1000; decide), fun H4 s4 g4 x b4 R4 n1 n2 hx => ?_⟩
        have eD4 : H4 D = some (.lst (xs.map V.int)) := b4 _ _ nDp ((upd_ne nDu).trans eD3)
        have hx2 : ∃ y : Int, x = .int y ∧ 0 ≤ y ∧ y ≤ 10 ^ 40 := by
          simp only [List.mem_cons, List.not_mem_nil, or_false] at hx
          rcases hx with rfl | rfl | rfl | rfl | rfl | rfl | rfl
          · exact ⟨_, rfl, by decide, by decide⟩
          · exact ⟨_, rfl, by decide, by decide⟩
          · exact ⟨_, rfl, by decide, by decide⟩
          · exact ⟨_, rfl, by omega, by rw [e40]; omega⟩
          · exact ⟨_, rfl, by omega, by rw [e40]; omega⟩
          · exact ⟨_, rfl, by omega, by rw [e40]; omega⟩
          · exact ⟨_, rfl, by decide, by decide⟩
        obtain ⟨y, rfl, y0, y1⟩ := hx2
        refine ⟨D, _, _, rfl, rfl, eD4, (by rw [List.length_map, lx, sizeLine_eq]; omega), ?_⟩
        have B4 : But p H (upd H4 D (.lst (xs.map V.int ++ [.int y]))) := fun b ob n h => by
          rw [upd_ne (ne_of_none h hD)]
          refine b4 _ _ n ?_
          rw [upd_ne (ne_of_none (b3 _ _ n (B2 _ _ n h)) hu)]
          exact b3 _ _ n (B2 _ _ n h)
        refine ⟨B4, ⟨s4, g4, ⟨?_, ?_, R4.len, R4.s0, R4.g0⟩, by omega, by omega⟩, ⟨xs ++ [y], ?_, by rw [List.length_append, lx]; rfl, fun v hv => ?_⟩, _, rfl⟩
        · rw [upd_ne nDp.symm]
          exact R4.at_
        · rw [upd_ne (ne_of_none R.cells hD)]
          exact R4.cells
        · rw [upd_same, List.map_append]
          rfl
        · rcases List.mem_append.mp hv with h | h
          · exact bx v h
          · obtain rfl : v = y := by simpa using h
            exact ⟨y0, y1⟩
      · skip
        refine ⟨(by show (7 : Nat) ≤ sizeLine; rw [sizeLine_eq]; decide), fun u hu => ?_⟩
        have nu : u ≠ p := (ne_of_none R3.at_ hu).symm
        have R3' := R3.same (Same.upd hu (o := .lst [.int 0, .int 0, .int 1, .int o, .int r3, .int (o / 2), .int 2]))
        have eD3 : H3 D = some (.lst (xs.map V.int)) := b3 _ _ nDp eD2
        have nDu : D ≠ u := ne_of_none eD3 hu
        refine ⟨p, a, u, ns, s3, g3, _, rfl, R3', by omega, nu, upd_same, (by show (0 : Nat) < 7; decide), (by show (7 : Nat) < 1000; decide), fun H4 s4 g4 x b4 R4 n1 n2 hx => ?_⟩
        have eD4 : H4 D = some (.lst (xs.map V.int)) := b4 _ _ nDp ((upd_ne nDu).trans eD3)
        have hx2 : ∃ y : Int, x = .int y ∧ 0 ≤ y ∧ y ≤ 10 ^ 40 := by
          simp only [List.mem_cons, List.not_mem_nil, or_false] at hx
          rcases hx with rfl | rfl | rfl | rfl | rfl | rfl | rfl
          · exact ⟨_, rfl, by decide, by decide⟩
          · exact ⟨_, rfl, by decide, by decide⟩
          · exact ⟨_, rfl, by decide, by decide⟩
          · exact ⟨_, rfl, by omega, by rw [e40]; omega⟩
          · exact ⟨_, rfl, by omega, by rw [e40]; omega⟩
          · exact ⟨_, rfl, by omega, by rw [e40]; omega⟩
          · exact ⟨_, rfl, by decide, by decide⟩
        obtain ⟨y, rfl, y0, y1⟩ := hx2
        refine ⟨D, _, _, rfl, rfl, eD4, (by rw [List.length_map, lx, sizeLine_eq]; omega), ?_⟩
        have B4 : But p H (upd H4 D (.lst (xs.map V.int ++ [.int y]))) := fun b ob n h => by
          rw [upd_ne (ne_of_none h hD)]
          refine b4 _ _ n ?_
          rw [upd_ne (ne_of_none (b3 _ _ n (B2 _ _ n h)) hu)]
          exact b3 _ _ n (B2 _ _ n h)
        refine ⟨B4, ⟨s4, g4, ⟨?_, ?_, R4.len, R4.s0, R4.g0⟩, by omega, by omega⟩, ⟨xs ++ [y], ?_, by rw [List.length_append, lx]; rfl, fun v hv => ?_⟩, _, rfl⟩
        · rw [upd_ne nDp.symm]
          exact R4.at_
        · rw [upd_ne (ne_of_none R.cells hD)]
          exact R4.cells
        · rw [upd_same, List.map_append]
          rfl
        · rcases List.mem_append.mp hv with h | h
          · exact bx v h
          · obtain rfl : v = y := by simpa using h
            exact ⟨y0, y1⟩
    · obtain ⟨B2, ⟨s2, g2, R2, k1, k2⟩, ⟨xs, eD2, lx, bx⟩, x3, rfl⟩ := y
      exact ⟨_, rfl, q H2 s2 g2 D xs B2 R2 k1 (by omega) eD2 hD (by omega) (by omega) bx⟩
end
end K48
set_option Elab.async false
set_option linter.all false
set_option maxRecDepth 100000
set_option maxHeartbeats 4000000
namespace K48
open PySem PySem.Spec PyProof.Rows L2 Pre Dfs Vls
/-! what stays while watches go on -/
def Nw (K : PySem.W.Frag) (o : HO) : Prop := ∀ dx al t b n, o ≠ .ins (CW K) dx [("alarm", .ref al), ("_rows", .ref t), ("_on", .bl b), ("_times", .int n)]
def Kw (K : PySem.W.Frag) (H H' : Hp) : Prop := ∀ b u, H b = some u → Nw K u → H' b = some u
theorem Kw.refl {K : PySem.W.Frag} {H : Hp} : Kw K H H := fun _ _ h _ => h
theorem Kw.of {K : PySem.W.Frag} {H H' : Hp} (S : Same H H') : Kw K H H' := fun b u h _ => S b u h
theorem Kw.trans {K : PySem.W.Frag} {H H1 H2 : Hp} (a : Kw K H H1) (b : Kw K H1 H2) : Kw K H H2 := fun c u h n => b c u (a c u h n) n
theorem Kw.but {K : PySem.W.Frag} {H H' : Hp} {w al : Addr} {rows : List Int} {on : Bool} {n : Int} (h : WtO K H w al rows on n) (b : But w H H') : Kw K H H' := fun c u e nw => by
  refine b c u (fun z => ?_) e
  obtain ⟨dx, t, e1, _⟩ := h
  rw [z, e1] at e
  exact nw _ _ _ _ _ (Option.some.inj e).symm
/-- .. but for the pen -/
def Kp (K : PySem.W.Frag) (p : Addr) (H H' : Hp) : Prop := ∀ b u, b ≠ p → H b = some u → Nw K u → H' b = some u
theorem Kp.refl {K : PySem.W.Frag} {p : Addr} {H : Hp} : Kp K p H H := fun _ _ _ h _ => h
theorem Kp.kw {K : PySem.W.Frag} {p : Addr} {H H1 H2 : Hp} (a : Kp K p H H1) (b : Kw K H1 H2) : Kp K p H H2 := fun c u n h nw => b c u (a c u n h nw) nw
theorem Kp.but {K : PySem.W.Frag} {p : Addr} {H H1 H2 : Hp} (a : Kp K p H H1) (b : But p H1 H2) : Kp K p H H2 := fun c u n h nw => b c u n (a c u n h nw)
theorem Kp.trans {K : PySem.W.Frag} {p : Addr} {H H1 H2 : Hp} (a : Kp K p H H1) (b : Kp K p H1 H2) : Kp K p H H2 := fun c u n h nw => b c u n (a c u n h nw) nw
theorem nw_lst {K : PySem.W.Frag} {xs : List V} : Nw K (.lst xs) := fun _ _ _ _ _ h => by cases h
theorem nw_tup {K : PySem.W.Frag} {xs : List V} : Nw K (.tup xs) := fun _ _ _ _ _ h => by cases h
/-- the numbers of a law's turn -/
structure Cn (c : Nat) (o f : Int) (xs : List Int) : Prop where
  c0 : 0 < c
  c1 : c ≤ 4
  f1 : 1 ≤ f
  f2 : f ≤ o
  o2 : o ≤ 10 ^ 20
  l1 : 4 ≤ xs.length
  l2 : xs.length ≤ 23
  bd : ∀ x ∈ xs, 0 ≤ x ∧ x ≤ 10 ^ 40
/-- what stands throughout a law's turn -/
structure Bs (K : PySem.W.Frag) (H0 H : Hp) (p a : Addr) (ns : List Int) (z0 : Int) (t al : Addr) (c : Nat) (o f : Int) (r d : Addr) (xs : List Int) (as : List Addr) : Prop where
  kp : Kp K p H0 H
  pt : ∃ s g, Pen K H p a ns s g ∧ z0 ≤ s ∧ s ≤ z0 + 61
  tu : H t = some (.tup [.int (c : Int), .int o, .int f])
  ao : AlO K H al c o f
  rl : H r = some (.lst (xs.map V.int))
  du : DueO H d as c o f xs xs.length
theorem Bs.kw {K : PySem.W.Frag} {H0 H H' : Hp} {p a : Addr} {ns : List Int} {z0 : Int} {t al : Addr} {c : Nat} {o f : Int} {r d : Addr} {xs : List Int} {as : List Addr} (b : Bs K H0 H p a ns z0 t al c o f r d xs as) (k : Kw K H H') : Bs K H0 H' p a ns z0 t al c o f r d xs as := by
  obtain ⟨s, g, R, h1, h2⟩ := b.pt
  obtain ⟨dx, e⟩ := b.ao
  refine ⟨b.kp.kw k, ⟨s, g, ⟨k _ _ R.at_ nw_lst, k _ _ R.cells nw_lst, R.len, R.s0, R.g0⟩, h1, h2⟩, k _ _ b.tu nw_tup, ⟨dx, k _ _ e (fun _ _ _ _ _ z => by simp at z)⟩, k _ _ b.rl nw_lst, ⟨k _ _ b.du.at_ nw_lst, b.du.len, fun i u h => k _ _ (b.du.it i u h) nw_tup⟩⟩
/-! the last ones -/
theorem lastN_app {c : Nat} (h : 0 < c) (l : List Int) (r : Int) : lastN c (lastN c l ++ [r]) = lastN c (l ++ [r]) := by
  unfold lastN
  rw [List.length_append, List.length_drop, List.length_append, List.length_singleton]
  by_cases hl : l.length < c
  · rw [show l.length - c = 0 by omega, List.drop_zero, show l.length - 0 + 1 - c = l.length + 1 - c by omega]
  · have e : l.drop (l.length - c) ++ [r] = (l ++ [r]).drop (l.length - c) := by rw [List.drop_append_of_le_length (by omega)]
    rw [e, List.drop_drop]
    congr 1
    omega
theorem take_succ' {xs : List Int} {k : Nat} (h : k < xs.length) : xs.take (k + 1) = xs.take k ++ [xs[k]] := by
  rw [List.take_succ, List.getElem?_eq_getElem h]
  rfl
theorem lastN_step {c : Nat} (h : 0 < c) {xs : List Int} {k : Nat} (hk : k < xs.length) : lastN c (lastN c (xs.take k) ++ [xs[k]]) = lastN c (xs.take (k + 1)) := by
  rw [lastN_app h, take_succ' hk]
/-- a watch behind k columns -/
def WtK (K : PySem.W.Frag) (H : Hp) (w al : Addr) (c : Nat) (o f : Int) (xs : List Int) (k : Nat) : Prop := WtO K H w al (lastN c (xs.take k)) (stt c o f xs k).1 (stt c o f xs k).2
theorem WtK.same {K : PySem.W.Frag} {H H' : Hp} {w al : Addr} {c : Nat} {o f : Int} {xs : List Int} {k : Nat} (h : WtK K H w al c o f xs k) (S : Same H H') : WtK K H' w al c o f xs k := WtO.same h S
theorem WtO.buts {K : PySem.W.Frag} {H H' : Hp} {w v al al2 : Addr} {rows rows2 : List Int} {on on2 : Bool} {n n2 : Int} (h : WtO K H w al rows on n) (hv : WtO K H v al2 rows2 on2 n2) (ne : w ≠ v) (b : But v H H') : WtO K H' w al rows on n := by
  obtain ⟨dx, t, e, _⟩ := hv
  exact h.but e ne b
theorem last_bd {c k : Nat} {xs : List Int} (bd : ∀ x ∈ xs, 0 ≤ x ∧ x ≤ 10 ^ 40) : ∀ x ∈ lastN c (xs.take k), 0 ≤ x ∧ x ≤ 10 ^ 40 := fun x h => bd x (List.mem_of_mem_take (List.mem_of_mem_drop h))
theorem nat50 {x : Int} (h : 0 ≤ x ∧ x ≤ 10 ^ 40) : x.natAbs < 10 ^ 50 := by
  have e1 : (10 : Int) ^ 40 = 10000000000000000000000000000000000000000 := by decide
  have e2 : (10 : Nat) ^ 50 = 100000000000000000000000000000000000000000000000000 := by decide
  have h2 := h.2
  rw [e1] at h2
  rw [e2]
  omega
theorem last_len {c : Nat} {xs : List Int} : (lastN c xs).length ≤ xs.length := by
  rw [lastN_len]
  omega
/-- two watches of one alarm, compared -/
theorem ow_of {K : PySem.W.Frag} {H : Hp} {w al : Addr} {c o f : Int} {rows : List Int} {on : Bool} {n : Int} (h : WtO K H w al rows on n) (ha : AlO K H al c o f) (l : rows.length ≤ 100) (bd : ∀ x ∈ rows, 0 ≤ x ∧ x ≤ 10 ^ 40) : Ow K H (.ref w) (some ((c, o, f), rows, on)) :=
  .wt h ha l fun r hr => nat50 (bd r hr)
/-! what is told, shown -/
theorem sum_bd : ∀ {l : List Int}, (∀ x ∈ l, 0 ≤ x ∧ x ≤ 10 ^ 40) → 0 ≤ l.sum ∧ l.sum ≤ 10 ^ 40 * l.length
  | [], _ => ⟨Int.le_refl 0, by simp⟩
  | y :: l, h => by
    obtain ⟨a, b⟩ := h y (List.mem_cons_self ..)
    obtain ⟨c, d⟩ := sum_bd (l := l) fun x hx => h x (List.mem_cons_of_mem _ hx)
    rw [List.sum_cons, List.length_cons]
    have e : (10 : Int) ^ 40 * ((l.length + 1 : Nat) : Int) = 10 ^ 40 * (l.length : Int) + 10 ^ 40 := by rw [Int.natCast_add, Int.mul_add]; simp
    omega
theorem sum50 {l : List Int} (h : ∀ x ∈ l, 0 ≤ x ∧ x ≤ 10 ^ 40) (hl : l.length ≤ 100) : l.sum.natAbs < 10 ^ 50 := by
  obtain ⟨a, b⟩ := sum_bd h
  have e1 : (10 : Int) ^ 40 = 10000000000000000000000000000000000000000 := by decide
  have e2 : (10 : Nat) ^ 50 = 100000000000000000000000000000000000000000000000000 := by decide
  rw [e1] at b
  rw [e2]
  omega
theorem stt_bd (c : Nat) (o f : Int) (xs : List Int) : ∀ k : Nat, 0 ≤ (stt c o f xs k).2 ∧ (stt c o f xs k).2 ≤ k
  | 0 => ⟨Int.le_refl 0, Int.le_refl 0⟩
  | k + 1 => by
    obtain ⟨a, b⟩ := stt_bd c o f xs k
    show 0 ≤ (stt c o f xs k).2 + (if _ then 1 else 0) ∧ (stt c o f xs k).2 + (if _ then 1 else 0) ≤ ((k + 1 : Nat) : Int)
    split <;> omega
/-- a truth value and two numbers -/
theorem sm_bii {b : Bool} {i j : Int} (hi : i.natAbs < 10 ^ 50) (hj : j.natAbs < 10 ^ 50) : Flat.Sm 343 1 (.tuple [.bool b, .int i, .int j]) :=
  ((Flat.SmA.cons (Flat.Sm.bl b) (.cons (Flat.Sm.int hi) (.cons (Flat.Sm.int hj) .nil))).tup).mono (by decide) (by decide)
theorem dp_bii {K : PySem.W.Frag} {H : Hp} {u : Addr} {b : Bool} {i j : Int} (h : H u = some (.tup [.bl b, .int i, .int j])) : Dp K H (.ref u) (.tuple [.bool b, .int i, .int j]) := .tup (SqT.of h) (.cons (.bl b) (.cons (.int i) (.cons (.int j) .nil)))
theorem nat50' {k : Nat} {x : Int} (h : 0 ≤ x) (h2 : x ≤ k) (hk : k ≤ 1000) : x.natAbs < 10 ^ 50 := by
  have e2 : (10 : Nat) ^ 50 = 100000000000000000000000000000000000000000000000000 := by decide
  rw [e2]
  omega
end K48
set_option Elab.async false
set_option linter.all false
set_option maxRecDepth 100000
set_option maxHeartbeats 4000000
namespace K48
open PySem PySem.Spec PyProof.Rows L2 Pre Dfs Vls
/-! a statement from one state to the next -/
def tPP (S S' : L2.St → Hp → Prop) : TS := fun D σ H => S σ H ∧ ∀ σ' H', S' σ' H' → D.nx σ' H'
theorem PS.pp {X : Cx} {st : Stmt} {t : TS} {S S' : L2.St → Hp → Prop} (h : PS X st t) (i : ∀ D σ H, S σ H → (∀ σ' H', S' σ' H' → D.nx σ' H') → t D σ H) : PS X st (tPP S S') :=
  ⟨fun pins s σ H D I q => h.run pins s σ H D I (i D σ H q.1 q.2)⟩
theorem pp_go {S S' : L2.St → Hp → Prop} {u : TS} {D : Ends} {σ : L2.St} {H : Hp} (h : S σ H) (k : ∀ σ' H', S' σ' H' → u D σ' H') : tSeq (tPP S S') u D σ H := ⟨h, k⟩
def tPR (S : L2.St → Hp → Prop) (R : Hp → Prop) : TS := fun D σ H => S σ H ∧ ∀ H', R H' → D.rt (.bl true) H'
theorem PS.pr {X : Cx} {st : Stmt} {t : TS} {S : L2.St → Hp → Prop} {R : Hp → Prop} (h : PS X st t) (i : ∀ D σ H, S σ H → (∀ H', R H' → D.rt (.bl true) H') → t D σ H) : PS X st (tPR S R) :=
  ⟨fun pins s σ H D I q => h.run pins s σ H D I (i D σ H q.1 q.2)⟩
abbrev NR : List Str := ["_law_pen_here", "_law_plain", "_law_alarm", "_law_rows_here", "_law_watch", "_law_due", "_law_cut", "_law_at", "_law_twin", "_law_here", "_law_row", "_law_mate", "_law_again", "_law_other", "_law_told"]
abbrev scR : Scope := defScope s_law_right
theorem ndR : NR.Nodup := by decide +kernel
def stR (i : Nat) : Stmt := (defBody s_law_right).getD i (.Pass default)
theorem body_eq : defBody s_law_right = [stR 0, stR 1, stR 2, stR 3, stR 4, stR 5, stR 6, stR 7, stR 8, stR 9] := rfl
def rest8 : L2.St := [none, none, none, none, none, none, none, none]
section
variable {P : Program} {w : World} {K : PySem.W.Frag} {mg : Str → Option Value} {base : Heap} {cdv : Value} {A : Around} {outer : List Env} {s : Shared} {H0 : Hp} {E : XK}
abbrev XR (P : Program) (w : World) (K : PySem.W.Frag) (mg : Str → Option Value) (base : Heap) (cdv : Value) (A : Around) (outer : List Env) (s : Shared) (H0 : Hp) (E : XK) : Cx := cxOf CX0 P w K mg base NR "_law_right" scR (He.ga K "_law_right") cdv A outer s H0 E
variable (I0 : Hp) (p a t al : Addr) (ns : List Int) (z0 : Int) (c : Nat) (o f : Int)
structure Co (c : Nat) (o f : Int) : Prop where
  c0 : 0 < c
  c1 : c ≤ 4
  f1 : 1 ≤ f
  f2 : f ≤ o
  o2 : o ≤ 10 ^ 20
/-- the pen between two counts of draws -/
def Pt (K : PySem.W.Frag) (H : Hp) (p a : Addr) (ns : List Int) (lo hi : Int) : Prop := ∃ s g, Pen K H p a ns s g ∧ lo ≤ s ∧ s ≤ hi
def Q0 (K : PySem.W.Frag) : L2.St → Hp → Prop := fun σ H => σ = [some (.ref p), some (.ref t), some (.ref al), none, none, none, none, none, none, none, none, none, none, none, none] ∧ H = I0 ∧ Co c o f ∧ Pt K H p a ns z0 z0 ∧ H t = some (.tup [.int (c : Int), .int o, .int f]) ∧ AlO K H al c o f
def Q1 (K : PySem.W.Frag) : L2.St → Hp → Prop := fun σ H => ∃ r x xs, σ = [some (.ref p), some (.ref t), some (.ref al), some (.ref r), some (.ref x), none, none, none, none, none, none, none, none, none, none] ∧ Cn c o f xs ∧ Kp K p I0 H ∧ Pt K H p a ns z0 (z0 + 60) ∧
  H t = some (.tup [.int (c : Int), .int o, .int f]) ∧ AlO K H al c o f ∧ H r = some (.lst (xs.map V.int)) ∧ WtO K H x al [] false 0
def Q2 (K : PySem.W.Frag) : L2.St → Hp → Prop := fun σ H => ∃ r x d xs as, ∃ cut : Nat, σ = [some (.ref p), some (.ref t), some (.ref al), some (.ref r), some (.ref x), some (.ref d), some (.int (cut : Int)), none, none, none, none, none, none, none, none] ∧ Cn c o f xs ∧ cut < xs.length ∧
  Bs K I0 H p a ns z0 t al c o f r d xs as ∧ WtK K H x al c o f xs 0
theorem nt_p {H : Hp} (R : Pt K H p a ns z0 z0) (h : H t = some (.tup [.int (c : Int), .int o, .int f])) : t ≠ p := by
  obtain ⟨s, g, R, _⟩ := R
  exact ne_of h R.at_ (by intro z; cases z)
theorem AlO.butp {H H' : Hp} {p al : Addr} {c o f s g : Int} (h : AlO K H al c o f) (R : Pen K H p a ns s g) (b : But p H H') : AlO K H' al c o f := by
  obtain ⟨dx, e⟩ := h
  exact ⟨dx, b _ _ (ne_of e R.at_ (by intro z; cases z)) e⟩
theorem ps0 (T : Tx K mg) (hz : 0 ≤ z0) (hz2 : z0 < 800000) (hr : Room 8 (XR P w K mg base cdv A outer s H0 E).A) : PS (XR P w K mg base cdv A outer s H0 E) (stR 0) (tPP (Q0 I0 p a t al ns z0 c o f K) (Q1 I0 p a t al ns z0 c o f K)) := by
  refine PS.pp (ps_par (i := 3) (j := 4) rfl ndR rfl rfl (by decide) rfl rfl (pa_cons (pe_d (d_rows T) (hr.mono (by decide)) (by rfl) (E := E) p0 (pa_cons (pv 0) (pa_cons (pe_ix ix_tup (pv 1) pe_int (fun _ _ => rfl)) pa_nil)))
    (pa_cons (pe_wt T (hr.mono (by decide)) (by rfl) (pa_cons (pv 2) pa_nil)) pa_nil)) (by rfl)) (fun D σ H q nx => ?_)
  obtain ⟨rfl, rfl, co, pt, tu, ao⟩ := q
  have ntp := nt_p p a t ns z0 c o f pt tu
  obtain ⟨s1, g1, R, h1, h2⟩ := pt
  have o1 : 1 ≤ o := by
    have := co.f1
    have := co.f2
    omega
  refine ⟨_, rfl, _, rfl, t, _, _, _, rfl, rfl, SqT.of tu, atI_nat (j := 1) (v := .int o) rfl, p, a, ns, s1, g1, o, rfl, R, by omega, o1, co.o2, fun H1 s2 g2 r xs b1 R1 h3 h4 hr1 nr l1 l2 bd => ?_⟩
  have ao1 := AlO.butp a ns ao R b1
  refine ⟨_, rfl, al, (c : Int), o, f, rfl, ao1, fun x H2 S2 nx2 hw => ?_⟩
  refine ⟨_, _, rfl, nx _ _ ⟨r, x, xs, rfl, ⟨co.c0, co.c1, co.f1, co.f2, co.o2, l1, l2, bd⟩, (Kp.refl.but b1).kw (Kw.of S2), ⟨s2, g2, R1.same S2, by omega, by omega⟩, S2 _ _ (b1 _ _ ntp tu), ao1.same S2, S2 _ _ hr1, hw⟩⟩
theorem ps1 (T : Tx K mg) (hz : 0 ≤ z0) (hz2 : z0 < 800000) (hr : Room 8 (XR P w K mg base cdv A outer s H0 E).A) : PS (XR P w K mg base cdv A outer s H0 E) (stR 1) (tPP (Q1 I0 p a t al ns z0 c o f K) (Q2 I0 p a t al ns z0 c o f K)) := by
  refine PS.pp (ps_par (i := 5) (j := 6) rfl ndR rfl rfl (by decide) rfl rfl (pa_cons (pe_d (d_states T) (hr.mono (by decide)) (by rfl) (E := E) p0 (pa_cons (pv 1) (pa_cons (pv 3) pa_nil)))
    (pa_cons (pe_d (d_draw T) (hr.mono (by decide)) (by rfl) (E := E) p0 (pa_cons (pv 0) (pa_cons (pe_callB call_len_seq (by rfl) T.f_len PySem.boot_len (pa_cons (pv 3) pa_nil)) pa_nil))) pa_nil)) (by rfl)) (fun D σ H q nx => ?_)
  obtain ⟨r, x, xs, rfl, cn, kp, ⟨s1, g1, R, h1, h2⟩, tu, ao, rl, hw⟩ := q
  have l1 := cn.l1
  have l2 := cn.l2
  refine ⟨_, rfl, _, rfl, t, r, c, o, f, xs, rfl, tu, rl, by omega, fun d as H1 S1 nd1 du => ?_⟩
  have R1 := R.same S1
  have lenV : (((xs.map V.int).length : Nat) : Int) = (xs.length : Int) := by rw [List.length_map]
  refine ⟨_, rfl, _, rfl, r, _, rfl, .inl (SqL.of (S1 _ _ rl)), p, a, ns, s1, g1, _, rfl, R1, by omega, by rw [lenV]; omega, ?_, fun H2 s2 g2 cut b2 R2 h3 h4 h5 h6 => ?_⟩
  · rw [lenV]
    have e : (10 : Int) ^ 60 = 1000000000000000000000000000000000000000000000000000000000000 := by decide
    rw [e]
    omega
  · rw [lenV] at h6
    obtain ⟨cut, rfl⟩ := Int.eq_ofNat_of_zero_le h5
    have np : ∀ {b : Addr} {u : HO}, H1 b = some u → u ≠ .lst [.ref a, .int s1, .int g1] → b ≠ p := fun h n z => by
      rw [z, R1.at_] at h
      exact n (Option.some.inj h).symm
    have tu2 := b2 _ _ (np (S1 _ _ tu) (by intro z; cases z)) (S1 _ _ tu)
    have nlist : V.int <$> xs = xs.map V.int := rfl
    have rl2 : H2 r = some (.lst (xs.map V.int)) := b2 _ _ (np (S1 _ _ rl) (fun z => by
      have z2 := HO.lst.inj z
      cases xs with
      | nil => cases z2
      | cons y ys => cases z2)) (S1 _ _ rl)
    have du2 : DueO H2 d as c o f xs xs.length := ⟨b2 _ _ (ne_of_none R.at_ nd1).symm du.at_, du.len, fun i u h => b2 _ _ (np (du.it i u h) (by intro z; cases z)) (du.it i u h)⟩
    have hw2 : WtO K H2 x al [] false 0 := by
      obtain ⟨dx, tt, e1, e2⟩ := hw.same S1
      exact ⟨dx, tt, b2 _ _ (np e1 (by intro z; cases z)) e1, b2 _ _ (np e2 (by intro z; cases z)) e2⟩
    have e0 : lastN c (xs.take 0) = [] := by unfold lastN; simp
    refine ⟨_, _, rfl, nx _ _ ⟨r, x, d, xs, as, cut, rfl, cn, by omega, ⟨(kp.kw (Kw.of S1)).but b2, ⟨s2, g2, R2, by omega, by omega⟩, tu2, AlO.butp a ns (ao.same S1) R1 b2, rl2, du2⟩, ?_⟩⟩
    show WtO K H2 x al (lastN c (xs.take 0)) false 0
    rw [e0]
    exact hw2
theorem eqv_bii : PyData.eqv (.list [.bool false, .int 0, .int 0]) (.list [.bool false, .int 0, .int 0]) = true := by
  simp [PyData.eqv, PyData.eqvAll]
theorem ps2 (T : Tx K mg) (hr : Room 8 (XR P w K mg base cdv A outer s H0 E).A) : PS (XR P w K mg base cdv A outer s H0 E) (stR 2) (tPP (Q2 I0 p a t al ns z0 c o f K) (Q2 I0 p a t al ns z0 c o f K)) := by
  refine PS.pp (ps_if (PW.pt (pw_or (pt_cmpR (op_neD hr.units) (pe_lst (pa_cons (pe_on T (hr.mono (by decide)) (pv 4)) (pa_cons (pe_now T (hr.mono (by decide)) (pv 4)) (pa_cons (pe_times T (hr.mono (by decide)) (pv 4)) pa_nil)))) (pe_lst (pa_cons pe_bl (pa_cons pe_int (pa_cons pe_int pa_nil)))) (nomark _))
      (pw_or1 (pt_cmpR (op_neW T (hr.mono (by decide))) (pv 4) (pe_wtk T (hr.mono (by decide)) (by rfl) (pk_cons (pv 2) pk_nil)) (nomark _))))) (pss_one (ps_ret pe_bl)) pss_nil) (fun D σ H q nx => ?_)
  obtain ⟨r, x, d, xs, as, cut, rfl, cn, hcut, bs, hk⟩ := q
  have e0 : lastN c (xs.take 0) = [] := by unfold lastN; simp
  have hw : WtO K H x al [] false 0 := by
    have z : WtO K H x al (lastN c (xs.take 0)) false 0 := hk
    rw [e0] at z
    exact z
  refine ⟨_, rfl, x, al, [], false, 0, rfl, hw, _, rfl, x, al, [], false, 0, rfl, hw, _, rfl, x, al, [], false, 0, rfl, hw, (by show (3 : Nat) ≤ sizeLine; rw [sizeLine_eq]; decide), fun u hu => ?_⟩
  have S1 : Same H (upd H u (.lst [.bl false, .int (List.sum []), .int 0])) := Same.upd hu
  refine ⟨(by show (3 : Nat) ≤ sizeLine; rw [sizeLine_eq]; decide), fun v hv => ?_⟩
  have S12 := Same.upd hv (o := .lst [.bl false, .int 0, .int 0])
  have S2 : Same H _ := fun b q h => S12 b q (S1 b q h)
  have eu := S12 u (.lst [.bl false, .int (List.sum []), .int 0]) upd_same
  have D1 : ∀ {H2 : Hp} {b : Addr}, H2 b = some (.lst [.bl false, .int 0, .int 0]) → Dp K H2 (.ref b) (.list [.bool false, .int 0, .int 0]) := fun h => .lst (SqL.of h) (.cons (.bl false) (.cons (.int 0) (.cons (.int 0) .nil)))
  refine ⟨_, _, D1 eu, D1 upd_same, by decide, by decide, ?_⟩
  rw [eqv_bii]
  refine ⟨_, rfl, ite3 (fun h => by cases h) (fun _ => ?_)⟩
  refine ⟨_, rfl, _, rfl, al, (c : Int), o, f, rfl, bs.ao.same S2, fun y H3 S3 ny hy => ?_⟩
  have S23 : Same H H3 := fun b q h => S3 b q (S2 b q h)
  have ao3 := (bs.ao).same S23
  refine ⟨x, ((c, o, f), [], false), some ((c, o, f), [], false), rfl, ow_of (hw.same S23) ao3 (by decide) (fun _ h => by cases h), ow_of hy ao3 (by decide) (fun _ h => by cases h), ?_⟩
  rw [decide_eq_true rfl]
  refine ⟨_, rfl, ite3 (fun h => by cases h) (fun _ => ?_)⟩
  exact nx _ _ ⟨r, x, d, xs, as, cut, rfl, cn, hcut, bs.kw (Kw.of S23), WtK.same hk S23⟩
end
end K48
set_option Elab.async false
set_option linter.all false
set_option maxRecDepth 100000
set_option maxHeartbeats 4000000
namespace K48
open PySem PySem.Spec PyProof.Rows L2 Pre Dfs Vls
def forBody : Stmt → List Stmt
  | .For _ _ b _ _ => b
  | _ => []
def ifBody : Stmt → List Stmt
  | .If _ b _ _ => b
  | _ => []
def stA : Stmt := (forBody (stR 3)).getD 0 (.Pass default)
def stB : Stmt := (forBody (stR 3)).getD 1 (.Pass default)
def stb (i : Nat) : Stmt := (ifBody stA).getD i (.Pass default)
theorem ifB_eq : ifBody stA = [stb 0, stb 1, stb 2, stb 3, stb 4, stb 5] := rfl
theorem forB_eq : forBody (stR 3) = [stA, stB] := rfl
/-- what has been told behind k columns, as a value -/
def toldO (H : Hp) (u : Addr) (c : Nat) (o f : Int) (xs : List Int) (k : Nat) : Prop := H u = some (.tup (dueV c o f xs k))
theorem sum_last {c : Nat} (h : 0 < c) {l : List Int} {r : Int} (hl : ∀ x ∈ l, 0 ≤ x) : r ≤ (lastN c (l ++ [r])).sum := by
  have e : lastN c (l ++ [r]) = l.drop (l.length + 1 - c) ++ [r] := by
    unfold lastN
    rw [List.length_append, List.length_singleton, List.drop_append_of_le_length (by omega)]
  rw [e, List.sum_append]
  have z : 0 ≤ (l.drop (l.length + 1 - c)).sum := by
    have : ∀ m : List Int, (∀ x ∈ m, 0 ≤ x) → 0 ≤ m.sum := by
      intro m
      induction m with
      | nil => intro _; exact Int.le_refl 0
      | cons y m ih =>
        intro hm
        rw [List.sum_cons]
        have a := hm y (List.mem_cons_self ..)
        have b := ih fun x hx => hm x (List.mem_cons_of_mem _ hx)
        omega
    exact this _ fun x hx => hl x (List.mem_of_mem_drop hx)
  simp only [List.sum_cons, List.sum_nil]
  omega
section
variable {P : Program} {w : World} {K : PySem.W.Frag} {mg : Str → Option Value} {base : Heap} {cdv : Value} {A : Around} {outer : List Env} {s : Shared} {H0 : Hp} {E : XK}
variable (I0 : Hp) (p a t al : Addr) (ns : List Int) (z0 : Int) (c : Nat) (o f : Int) (r x d : Addr) (xs : List Int) (as : List Addr) (cut i : Nat)
/-- the slots -/
abbrev sg (p t al r x d : Addr) (cut i : Nat) (x8 x9 x10 x11 : Option V) : L2.St := [some (.ref p), some (.ref t), some (.ref al), some (.ref r), some (.ref x), some (.ref d), some (.int (cut : Int)), some (.int (i : Int)), x8, x9, x10, x11, none, none, none]
/-- the watch behind i columns, and what stands -/
structure Wk (K : PySem.W.Frag) (I0 H : Hp) (p a t al : Addr) (ns : List Int) (z0 : Int) (c : Nat) (o f : Int) (r x d : Addr) (xs : List Int) (as : List Addr) (i : Nat) : Prop where
  bs : Bs K I0 H p a ns z0 t al c o f r d xs as
  wk : WtK K H x al c o f xs i
def A0 (K : PySem.W.Frag) : L2.St → Hp → Prop := fun σ H => ∃ x8 x9 x10 x11, σ = sg p t al r x d cut i x8 x9 x10 x11 ∧ Wk K I0 H p a t al ns z0 c o f r x d xs as i
def A1 (K : PySem.W.Frag) : L2.St → Hp → Prop := fun σ H => ∃ tw he x10 x11, σ = sg p t al r x d cut i (some (.ref tw)) (some (.ref he)) x10 x11 ∧ Wk K I0 H p a t al ns z0 c o f r x d xs as i ∧ WtK K H tw al c o f xs i ∧ x ≠ tw ∧ toldO H he c o f xs i
def A2 (K : PySem.W.Frag) : L2.St → Hp → Prop := fun σ H => ∃ tw he x10 x11 R, σ = sg p t al r x d cut i (some (.ref tw)) (some (.ref he)) x10 x11 ∧ Wk K I0 H p a t al ns z0 c o f r x d xs as i ∧ WtO K H tw al R true ((stt c o f xs i).2 + (if (stt c o f xs i).1 then 0 else 1)) ∧ toldO H he c o f xs i
def A3 (K : PySem.W.Frag) (j : Nat) : L2.St → Hp → Prop := fun σ H => ∃ tw ma x9 x10, σ = sg p t al r x d cut i (some (.ref tw)) x9 x10 (some (.ref ma)) ∧ Wk K I0 H p a t al ns z0 c o f r x d xs as i ∧ WtK K H tw al c o f xs j ∧ WtK K H ma al c o f xs j ∧ x ≠ tw ∧ x ≠ ma ∧ tw ≠ ma
theorem WtO.tw {H : Hp} {y al : Addr} {rows : List Int} {on : Bool} {n : Int} (h : WtO K H y al rows on n) : ∃ dx fs, H y = some (.ins (CW K) dx fs) ∧ fs.lookup ("twin" : Str) = none ∧ fs.lookup ("step" : Str) = none := by
  obtain ⟨dx, tt, e, _⟩ := h
  exact ⟨dx, _, e, rfl, rfl⟩
theorem Wk.same {I0 H H' : Hp} {p a t al : Addr} {ns : List Int} {z0 : Int} {c : Nat} {o f : Int} {r x d : Addr} {xs : List Int} {as : List Addr} {i : Nat} (k : Wk K I0 H p a t al ns z0 c o f r x d xs as i) (S : Same H H') : Wk K I0 H' p a t al ns z0 c o f r x d xs as i := ⟨k.bs.kw (Kw.of S), k.wk.same S⟩
theorem Wk.but {I0 H H' : Hp} {p a t al al2 : Addr} {ns : List Int} {z0 : Int} {c : Nat} {o f : Int} {r x d v : Addr} {xs rows2 : List Int} {on2 : Bool} {n2 : Int} {as : List Addr} {i : Nat} (k : Wk K I0 H p a t al ns z0 c o f r x d xs as i) (hv : WtO K H v al2 rows2 on2 n2) (ne : x ≠ v) (b : But v H H') : Wk K I0 H' p a t al ns z0 c o f r x d xs as i :=
  ⟨k.bs.kw (Kw.but hv b), WtO.buts k.wk hv ne b⟩
theorem pb0 (T : Tx K mg) (hi : i < xs.length) (hr : Room 8 (XR P w K mg base cdv A outer s H0 E).A) : PS (XR P w K mg base cdv A outer s H0 E) (stb 0) (tPP (A0 I0 p a t al ns z0 c o f r x d xs as cut i K) (A1 I0 p a t al ns z0 c o f r x d xs as cut i K)) := by
  refine PS.pp (ps_par (i := 8) (j := 9) rfl ndR rfl rfl (by decide) rfl rfl (pa_cons (Dfs.pe_m0 (pv 4) (m_twin T) (hr.mono (by decide)) (E := E) p0)
    (pa_cons (pe_ifExp (pt_cmpR op_gt (pv 7) pe_int (nomark _)) (pe_ix ix_list (pv 5) (pe_op op_sub (pv 7) pe_int) (fun _ _ => rfl)) (pe_tup (pa_cons pe_bl (pa_cons pe_int (pa_cons pe_int pa_nil))))) pa_nil)) (by rfl)) (fun D σ H q nx => ?_)
  obtain ⟨x8, x9, x10, x11, rfl, k⟩ := q
  obtain ⟨dx, fs, ex, l1, l2⟩ := WtO.tw k.wk
  refine ⟨_, rfl, x, dx, fs, rfl, ex, l1, x, al, _, _, _, (c : Int), o, f, rfl, k.wk, k.bs.ao, fun tw H1 S1 ntw htw => ?_⟩
  have nxt : x ≠ tw := ne_of_none ex ntw
  refine ⟨_, rfl, _, _, rfl, rfl, _, rfl, ?_⟩
  cases i with
  | zero =>
    refine ite3 (fun h => by simp at h) (fun _ => ?_)
    refine ⟨(by show (3 : Nat) ≤ sizeLine; rw [sizeLine_eq]; decide), fun u hu => ?_⟩
    have S2 := Same.upd hu (o := .tup [.bl false, .int 0, .int 0])
    refine ⟨_, _, rfl, nx _ _ ⟨tw, u, x10, x11, rfl, k.same (fun b q h => S2 b q (S1 b q h)), WtK.same htw S2, nxt, ?_⟩⟩
    show upd H1 u _ u = some (.tup [.bl false, .int 0, .int (lastN c (xs.take 0)).sum])
    have e0 : lastN c (xs.take 0) = [] := by unfold lastN; simp
    rw [upd_same, e0]
    rfl
  | succ j =>
    refine ite3 (fun _ => ?_) (fun h => absurd (of_decide_eq_false h) (by omega))
    have du := (k.same S1).bs.du
    have hj : j < as.length := by
      rw [du.len]
      omega
    refine ⟨_, rfl, _, rfl, _, _, rfl, rfl, d, _, _, .ref as[j], rfl, rfl, SqL.of du.at_, ?_, ?_⟩
    · rw [show ((j + 1 : Nat) : Int) - 1 = (j : Nat) by omega]
      refine atI_nat ?_
      rw [List.getElem?_map, List.getElem?_eq_getElem hj]
      rfl
    · exact ⟨_, _, rfl, nx _ _ ⟨tw, as[j], x10, x11, rfl, k.same S1, htw, nxt, du.it j _ (List.getElem?_eq_getElem hj)⟩⟩
end
end K48
set_option Elab.async false
set_option linter.all false
set_option maxRecDepth 100000
set_option maxHeartbeats 4000000
namespace K48
open PySem PySem.Spec PyProof.Rows L2 Pre Dfs Vls
section
variable {P : Program} {w : World} {K : PySem.W.Frag} {mg : Str → Option Value} {base : Heap} {cdv : Value} {A : Around} {outer : List Env} {s : Shared} {H0 : Hp} {E : XK}
variable (I0 : Hp) (p a t al : Addr) (ns : List Int) (z0 : Int) (c : Nat) (o f : Int) (r x d : Addr) (xs : List Int) (as : List Addr) (cut i : Nat)
theorem nope {x y : V} {q : Prop} (h : (!decide (x = y)) = true) (e : x = y) : q := by
  rw [decide_eq_true e] at h
  cases h
theorem tot_bd {c : Nat} {xs : List Int} (bd : ∀ x ∈ xs, 0 ≤ x ∧ x ≤ 10 ^ 40) (l : xs.length ≤ 100) (k : Nat) : (tot c xs k).natAbs < 10 ^ 50 :=
  sum50 (last_bd bd) (Nat.le_trans last_len (by rw [List.length_take]; omega))
theorem stt_nat {c : Nat} {o f : Int} {xs : List Int} {k : Nat} (h : k ≤ 1000) : (stt c o f xs k).2.natAbs < 10 ^ 50 := nat50' (stt_bd c o f xs k).1 (stt_bd c o f xs k).2 h
/-- what repr asks of what was told -/
theorem due_sm {c : Nat} {o f : Int} {xs : List Int} (bd : ∀ x ∈ xs, 0 ≤ x ∧ x ≤ 10 ^ 40) (l : xs.length ≤ 100) {k : Nat} (h : k ≤ 1000) : Flat.Sm 343 1 (.tuple [.bool (stt c o f xs k).1, .int (stt c o f xs k).2, .int (tot c xs k)]) := sm_bii (stt_nat h) (tot_bd bd l k)
theorem rows100 {c : Nat} {xs : List Int} (l : xs.length ≤ 23) (k : Nat) : (lastN c (xs.take k)).length ≤ 100 := Nat.le_trans last_len (by rw [List.length_take]; omega)
theorem pb1 (T : Tx K mg) (cn : Cn c o f xs) (hi : i < xs.length) (still : (XR P w K mg base cdv A outer s H0 E).A.guards = some []) (hr : Room 8 (XR P w K mg base cdv A outer s H0 E).A) : PS (XR P w K mg base cdv A outer s H0 E) (stb 1) (tPP (A1 I0 p a t al ns z0 c o f r x d xs as cut i K) (A2 I0 p a t al ns z0 c o f r x d xs as cut i K)) := by
  have M := m_step (P := P) (w := w) (base := base) T
  obtain ⟨fd, F, B, kb⟩ := M.ok
  refine PS.pp (ps_if (PW.pt (pw_or (pt_cmpR (op_neW T (hr.mono (by decide))) (pv 8) (pv 4) (nomark _))
      (pw_or (pt_cmpR op_notBl (Mk0.pe_methK (pv 8) M.cl M.mt F (hr.mono (by decide)) kb (E := fun _ _ _ => False) p0 (pk_cons (pe_ix ix_tup (pv 1) pe_int (fun _ _ => rfl)) pk_nil)) pe_bl (nomark _))
      (pw_or1 (pt_cmpR op_ne (pe_callB (Shw.call_repr hr still) (by rfl) T.f_repr (by decide +kernel) (pa_cons (pe_tup (pa_cons (pe_on T (hr.mono (by decide)) (pv 4)) (pa_cons (pe_times T (hr.mono (by decide)) (pv 4)) (pa_cons (pe_now T (hr.mono (by decide)) (pv 4)) pa_nil)))) pa_nil))
        (pe_callB (Shw.call_repr hr still) (by rfl) T.f_repr (by decide +kernel) (pa_cons (pv 9) pa_nil)) (nomark _)))))) (pss_one (ps_ret pe_bl)) pss_nil) (fun D σ H q nx => ?_)
  obtain ⟨tw, he, x10, x11, rfl, k, htw, nxt, ht⟩ := q
  have l2 := cn.l2
  have o2 := cn.o2
  have f1 := cn.f1
  have f2 := cn.f2
  have bd := cn.bd
  have e1 : (10 : Int) ^ 40 = 10000000000000000000000000000000000000000 := by decide
  have e2 : (10 : Int) ^ 20 = 100000000000000000000 := by decide
  refine ⟨_, rfl, _, rfl, tw, ((c, o, f), lastN c (xs.take i), (stt c o f xs i).1), some ((c, o, f), lastN c (xs.take i), (stt c o f xs i).1), rfl, ow_of htw k.bs.ao (rows100 l2 i) (last_bd bd), ow_of k.wk k.bs.ao (rows100 l2 i) (last_bd bd), ?_⟩
  rw [decide_eq_true rfl]
  refine ⟨_, rfl, ite3 (fun h => by cases h) (fun _ => ?_)⟩
  obtain ⟨dx, fs, ex, _, lk⟩ := WtO.tw htw
  refine ⟨_, rfl, tw, dx, fs, rfl, ex, lk, _, rfl, t, _, _, _, rfl, rfl, SqT.of k.bs.tu, atI_nat (j := 1) (v := .int o) rfl, rfl, tw, al, _, _, _, c, o, f, o, rfl, htw, k.bs.ao, cn.c0, Nat.le_trans (rows100 l2 i) (by decide), by omega, by rw [e1]; rw [e2] at o2; omega, fun H2 b2 hw2 => ?_⟩
  have big : o ≤ (lastN c (lastN c (xs.take i) ++ [o])).sum := sum_last cn.c0 fun y hy => (last_bd bd y hy).1
  have es : stays (stt c o f xs i).1 o f (lastN c (lastN c (xs.take i) ++ [o])).sum = true := by
    unfold stays
    refine decide_eq_true ?_
    split <;> omega
  rw [es] at hw2 ⊢
  refine ⟨_, _, rfl, rfl, _, rfl, ite3 (fun h => by rw [decide_eq_true rfl] at h; cases h) (fun _ => ?_)⟩
  have k2 := k.but htw nxt b2
  have ht2 : toldO H2 he c o f xs i := Kw.but htw b2 _ _ ht nw_tup
  have sm := due_sm (c := c) (o := o) (f := f) bd (show xs.length ≤ 100 by omega) (show i ≤ 1000 by omega)
  obtain ⟨r1, r2, r3, r4⟩ := sm.repr (by decide) (by decide)
  refine ⟨_, rfl, x, al, _, _, _, rfl, k2.wk, _, rfl, x, al, _, _, _, rfl, k2.wk, _, rfl, x, al, _, _, _, rfl, k2.wk, (by show (3 : Nat) ≤ sizeLine; rw [sizeLine_eq]; decide), fun u hu => ?_⟩
  refine ⟨_, _, rfl, dp_bii upd_same, r1, r2, r3, r4, ?_⟩
  have S3 := Same.upd hu (o := .tup [.bl (stt c o f xs i).1, .int (stt c o f xs i).2, .int (tot c xs i)])
  refine ⟨_, rfl, _, _, rfl, dp_bii (S3 _ _ ht2), r1, r2, r3, r4, rfl, ?_⟩
  refine ⟨_, rfl, ite3 (fun h => nope h rfl) (fun _ => ?_)⟩
  refine nx _ _ ⟨tw, he, x10, x11, lastN c (lastN c (xs.take i) ++ [o]), rfl, k2.same S3, ?_, S3 _ _ ht2⟩
  have z := hw2.same S3
  have e3 : (if (true && !(stt c o f xs i).1) = true then (1 : Int) else 0) = (if (stt c o f xs i).1 = true then 0 else 1) := by
    cases (stt c o f xs i).1 <;> rfl
  rw [e3] at z
  exact z
theorem pb2 (T : Tx K mg) (cn : Cn c o f xs) (hi : i < xs.length) (still : (XR P w K mg base cdv A outer s H0 E).A.guards = some []) (hr : Room 8 (XR P w K mg base cdv A outer s H0 E).A) : PS (XR P w K mg base cdv A outer s H0 E) (stb 2) (tPP (A2 I0 p a t al ns z0 c o f r x d xs as cut i K) (A2 I0 p a t al ns z0 c o f r x d xs as cut i K)) := by
  refine PS.pp (ps_if (pt_cmpR op_ne (pe_callB (Shw.call_repr hr still) (by rfl) T.f_repr (by decide +kernel) (pa_cons (pe_tup (pa_cons (pe_on T (hr.mono (by decide)) (pv 8)) (pa_cons (pe_times T (hr.mono (by decide)) (pv 8)) pa_nil))) pa_nil))
        (pe_callB (Shw.call_repr hr still) (by rfl) T.f_repr (by decide +kernel) (pa_cons (pe_tup (pa_cons pe_bl (pa_cons (pe_op op_add (pe_ix ix_tup (pv 9) pe_int (fun _ _ => rfl)) (pe_callTy call_int1 (by rfl) T.f_int (by decide +kernel) (pa_cons (pe_not (pe_ix ix_tup (pv 9) pe_int (fun _ _ => rfl))) pa_nil))) pa_nil))) pa_nil)) (nomark _)) (pss_one (ps_ret pe_bl)) pss_nil) (fun D σ H q nx => ?_)
  obtain ⟨tw, he, x10, x11, R, rfl, k, htw, ht⟩ := q
  have l2 := cn.l2
  have bd := stt_bd c o f xs i
  have sm : Flat.Sm 172 1 (.tuple [.bool true, .int ((stt c o f xs i).2 + (if (stt c o f xs i).1 then 0 else 1))]) :=
    ((Flat.SmA.cons (Flat.Sm.bl true) (.cons (Flat.Sm.int (nat50' (k := 1000) (by split <;> omega) (by split <;> omega) (by decide))) .nil)).tup).mono (by decide) (by decide)
  obtain ⟨r1, r2, r3, r4⟩ := sm.repr (by decide) (by decide)
  have dp2 : ∀ {H2 : Hp} {u : Addr} {j : Int}, H2 u = some (.tup [.bl true, .int j]) → Dp K H2 (.ref u) (.tuple [.bool true, .int j]) := fun h => .tup (SqT.of h) (.cons (.bl true) (.cons (.int _) .nil))
  refine ⟨_, rfl, tw, al, _, _, _, rfl, htw, _, rfl, tw, al, _, _, _, rfl, htw, (by show (2 : Nat) ≤ sizeLine; rw [sizeLine_eq]; decide), fun u hu => ?_⟩
  have S1 := Same.upd hu (o := .tup [.bl true, .int ((stt c o f xs i).2 + (if (stt c o f xs i).1 then 0 else 1))])
  refine ⟨_, _, rfl, dp2 upd_same, r1, r2, r3, r4, ?_⟩
  have ht1 := S1 _ _ ht
  refine ⟨_, rfl, he, _, _, _, rfl, rfl, SqT.of ht1, atI_nat (j := 1) (v := .int (stt c o f xs i).2) rfl, ?_⟩
  refine ⟨_, rfl, he, _, _, _, rfl, rfl, SqT.of ht1, atI_nat (j := 0) (v := .bl (stt c o f xs i).1) rfl, _, rfl, .inr ⟨_, rfl, _, _, rfl, rfl, (by show (2 : Nat) ≤ sizeLine; rw [sizeLine_eq]; decide), fun v hv => ?_⟩⟩
  have e3 : (if (!(stt c o f xs i).1) = true then (1 : Int) else 0) = (if (stt c o f xs i).1 = true then 0 else 1) := by
    cases (stt c o f xs i).1 <;> rfl
  rw [e3]
  refine ⟨_, _, rfl, dp2 upd_same, r1, r2, r3, r4, rfl, ?_⟩
  refine ⟨_, rfl, ite3 (fun h => nope h rfl) (fun _ => ?_)⟩
  have S2 := Same.new S1 hv (o := .tup [.bl true, .int ((stt c o f xs i).2 + (if (stt c o f xs i).1 then 0 else 1))])
  exact nx _ _ ⟨tw, he, x10, x11, R, rfl, k.same S2, htw.same S2, S2 _ _ ht⟩
theorem pb3 (T : Tx K mg) (hr : Room 8 (XR P w K mg base cdv A outer s H0 E).A) : PS (XR P w K mg base cdv A outer s H0 E) (stb 3) (tPP (A2 I0 p a t al ns z0 c o f r x d xs as cut i K) (A3 I0 p a t al ns z0 c o f r x d xs as cut i K i)) := by
  refine PS.pp (ps_par (i := 8) (j := 11) rfl ndR rfl rfl (by decide) rfl rfl (pa_cons (Dfs.pe_m0 (pv 4) (m_twin T) (hr.mono (by decide)) (E := E) p0) (pa_cons (Dfs.pe_m0 (pv 4) (m_twin T) (hr.mono (by decide)) (E := E) p0) pa_nil)) (by rfl)) (fun D σ H q nx => ?_)
  obtain ⟨tw, he, x10, x11, R, rfl, k, _, ht⟩ := q
  obtain ⟨dx, fs, ex, l1, l2⟩ := WtO.tw k.wk
  refine ⟨_, rfl, x, dx, fs, rfl, ex, l1, x, al, _, _, _, (c : Int), o, f, rfl, k.wk, k.bs.ao, fun u H1 S1 nu hu => ?_⟩
  have k1 := k.same S1
  refine ⟨_, rfl, x, dx, fs, rfl, S1 _ _ ex, l1, x, al, _, _, _, (c : Int), o, f, rfl, k1.wk, k1.bs.ao, fun v H2 S2 nv hv => ?_⟩
  obtain ⟨du, fu, eu, _⟩ := WtO.tw hu
  exact ⟨_, _, rfl, nx _ _ ⟨u, v, some (.ref he), x10, rfl, k1.same S2, WtK.same hu S2, hv, ne_of_none ex nu, ne_of_none (S1 _ _ ex) nv, ne_of_none eu nv⟩⟩
end
end K48
set_option Elab.async false
set_option linter.all false
set_option maxRecDepth 100000
set_option maxHeartbeats 4000000
namespace K48
open PySem PySem.Spec PyProof.Rows L2 Pre Dfs Vls
section
variable {P : Program} {w : World} {K : PySem.W.Frag} {mg : Str → Option Value} {base : Heap} {cdv : Value} {A : Around} {outer : List Env} {s : Shared} {H0 : Hp} {E : XK}
variable (I0 : Hp) (p a t al : Addr) (ns : List Int) (z0 : Int) (c : Nat) (o f : Int) (r x d : Addr) (xs : List Int) (as : List Addr) (cut i : Nat)
theorem on_step {c : Nat} {o f : Int} {xs : List Int} {k : Nat} (c0 : 0 < c) (hk : k < xs.length) : stays (stt c o f xs k).1 o f (lastN c (lastN c (xs.take k) ++ [xs[k]])).sum = (stt c o f xs (k + 1)).1 := by
  rw [lastN_step c0 hk]
  rfl
theorem wk_step {H : Hp} {x al : Addr} {c : Nat} {o f : Int} {xs : List Int} {k : Nat} (c0 : 0 < c) (hk : k < xs.length)
    (h : WtO K H x al (lastN c (lastN c (xs.take k) ++ [xs[k]])) (stays (stt c o f xs k).1 o f (lastN c (lastN c (xs.take k) ++ [xs[k]])).sum) ((stt c o f xs k).2 + (if stays (stt c o f xs k).1 o f (lastN c (lastN c (xs.take k) ++ [xs[k]])).sum && !(stt c o f xs k).1 then 1 else 0))) :
    WtK K H x al c o f xs (k + 1) := by
  rw [lastN_step c0 hk] at h
  exact h
/-- a step, as a promise of the state behind it -/
theorem sp_step {H : Hp} {Q : VK} {y al : Addr} {c : Nat} {o f : Int} {xs : List Int} {k : Nat} (cn : Cn c o f xs) (hk : k < xs.length) (h : WtK K H y al c o f xs k) (ha : AlO K H al c o f)
    (q : ∀ H', But y H H' → WtK K H' y al c o f xs (k + 1) → Q (.bl (stt c o f xs (k + 1)).1) H') : spStep K [.ref y, .int xs[k]] H Q (fun _ _ _ => False) := by
  obtain ⟨b1, b2⟩ := cn.bd _ (List.getElem_mem hk)
  refine ⟨y, al, _, _, _, c, o, f, xs[k], rfl, h, ha, cn.c0, Nat.le_trans (rows100 cn.l2 k) (by decide), b1, b2, fun H' b h' => ?_⟩
  rw [on_step cn.c0 hk]
  exact q H' b (wk_step cn.c0 hk h')
theorem cut_from {k : Nat} {ys : List Int} (h : k ≤ ys.length) : cutV (ys.map V.int) (some (k : Int)) none = (ys.drop k).map V.int := by
  unfold cutV
  rw [HT.sIx_nat, HT.sIx_none, List.length_map, Nat.min_eq_left h, List.map_drop, List.take_of_length_le]
  rw [List.length_drop, List.length_map]
  exact Nat.le_refl _
theorem pb4 (T : Tx K mg) (cn : Cn c o f xs) (hi : i < xs.length) (still : (XR P w K mg base cdv A outer s H0 E).A.guards = some []) (hr : Room 8 (XR P w K mg base cdv A outer s H0 E).A) : PS (XR P w K mg base cdv A outer s H0 E) (stb 4) (tPP (A3 I0 p a t al ns z0 c o f r x d xs as cut i K i) (A3 I0 p a t al ns z0 c o f r x d xs as cut i K xs.length)) := by
  have M := (m_step (P := P) (w := w) (base := base) T).mfn
  refine PS.pp (ps_for (passes_of rfl) rfl (pi_list (pe_slice sl_list (pv 3) (po_some (pv 7)) po_none)) (pg_name (i := 10) ndR rfl (Or.inl rfl))
    (pss_one (ps_if (pt_cmpR op_ne (pe_callB (Shw.call_repr hr still) (by rfl) T.f_repr (by decide +kernel) (pa_cons (pe_tup (pa_cons (Dfs.pe_m (pv 11) M (hr.mono (by decide)) (E := fun _ _ _ => False) p0 (pa_cons (pv 10) pa_nil)) (pa_cons (pe_times T (hr.mono (by decide)) (pv 11)) (pa_cons (pe_now T (hr.mono (by decide)) (pv 11)) pa_nil)))) pa_nil))
      (pe_callB (Shw.call_repr hr still) (by rfl) T.f_repr (by decide +kernel) (pa_cons (pe_tup (pa_cons (Dfs.pe_m (pv 8) M (hr.mono (by decide)) (E := fun _ _ _ => False) p0 (pa_cons (pv 10) pa_nil)) (pa_cons (pe_times T (hr.mono (by decide)) (pv 8)) (pa_cons (pe_now T (hr.mono (by decide)) (pv 8)) pa_nil)))) pa_nil)) (nomark _)) (pss_one (ps_ret pe_bl)) pss_nil))) (fun D σ H q nx => ?_)
  obtain ⟨tw, ma, x9, x10, rfl, k, htw, hma, n1, n2, n3⟩ := q
  have l2 := cn.l2
  refine ⟨_, rfl, _, rfl, _, rfl, ?_⟩
  dsimp only [tNoPart]
  refine ⟨r, _, rfl, SqL.of k.bs.rl, fun u hu => ?_⟩
  rw [cut_from (Nat.le_of_lt hi)]
  have S1 := Same.upd hu (o := .lst ((xs.drop i).map V.int))
  refine ⟨u, rfl, ⟨_, SqL.of upd_same⟩, ?_⟩
  refine for_it (walk_list (xs := (xs.drop i).map V.int)) (fun j σ H1 => (∃ x9 x10, σ = sg p t al r x d cut i (some (.ref tw)) x9 x10 (some (.ref ma))) ∧ Wk K I0 H1 p a t al ns z0 c o f r x d xs as i ∧ WtK K H1 tw al c o f xs (i + j) ∧ WtK K H1 ma al c o f xs (i + j) ∧ H1 u = some (.lst ((xs.drop i).map V.int)))
    ⟨⟨x9, x10, rfl⟩, k.same S1, WtK.same htw S1, WtK.same hma S1, upd_same⟩ (fun j σ H1 _ z => SqL.of z.2.2.2.2) (fun j y σ H1 H2 hj z yy => ?_) (fun σ H1 z => ?_)
  · obtain ⟨⟨y9, y10, rfl⟩, k1, htw1, hma1, eu⟩ := z
    obtain ⟨rfl, hy⟩ := yy
    rw [List.length_map, List.length_drop] at hj
    have hij : i + j < xs.length := by omega
    have hy2 : y = V.int xs[i + j] := by
      rw [List.getElem?_map, List.getElem?_drop, List.getElem?_eq_getElem hij] at hy
      exact (Option.some.inj hy).symm
    subst hy2
    have sm := due_sm (c := c) (o := o) (f := f) cn.bd (show xs.length ≤ 100 by omega) (show i + j + 1 ≤ 1000 by omega)
    obtain ⟨r1, r2, r3, r4⟩ := sm.repr (by decide) (by decide)
    obtain ⟨dm, fm, em, _, lm⟩ := WtO.tw hma1
    refine ⟨_, rfl, ma, dm, fm, rfl, em, lm, _, rfl, ?_⟩
    dsimp only [tNil]
    refine sp_step cn hij hma1 k1.bs.ao fun H3 b3 hma3 => ?_
    have k3 := k1.but hma1 n2 b3
    have htw3 : WtK K H3 tw al c o f xs (i + j) := WtO.buts htw1 hma1 n3 b3
    have eu3 : H3 u = some (.lst ((xs.drop i).map V.int)) := Kw.but hma1 b3 _ _ eu nw_lst
    refine ⟨_, rfl, ma, al, _, _, _, rfl, hma3, _, rfl, ma, al, _, _, _, rfl, hma3, (by show (3 : Nat) ≤ sizeLine; rw [sizeLine_eq]; decide), fun v hv => ?_⟩
    have S4 := Same.upd hv (o := .tup [.bl (stt c o f xs (i + j + 1)).1, .int (stt c o f xs (i + j + 1)).2, .int (tot c xs (i + j + 1))])
    refine ⟨_, _, rfl, dp_bii upd_same, r1, r2, r3, r4, ?_⟩
    have k4 := k3.same S4
    have htw4 := WtK.same htw3 S4
    have hma4 := WtK.same hma3 S4
    obtain ⟨dt, ft, et, _, lt⟩ := WtO.tw htw4
    refine ⟨_, rfl, tw, dt, ft, rfl, et, lt, _, rfl, ?_⟩
    dsimp only [tNil]
    refine sp_step cn hij htw4 k4.bs.ao fun H5 b5 htw5 => ?_
    have k5 := k4.but htw4 n1 b5
    have hma5 : WtK K H5 ma al c o f xs (i + j + 1) := WtO.buts hma4 htw4 n3.symm b5
    have eu5 : H5 u = some (.lst ((xs.drop i).map V.int)) := Kw.but htw4 b5 _ _ (S4 _ _ eu3) nw_lst
    refine ⟨_, rfl, tw, al, _, _, _, rfl, htw5, _, rfl, tw, al, _, _, _, rfl, htw5, (by show (3 : Nat) ≤ sizeLine; rw [sizeLine_eq]; decide), fun v5 hv5 => ?_⟩
    have S6 := Same.upd hv5 (o := .tup [.bl (stt c o f xs (i + j + 1)).1, .int (stt c o f xs (i + j + 1)).2, .int (tot c xs (i + j + 1))])
    refine ⟨_, _, rfl, dp_bii upd_same, r1, r2, r3, r4, rfl, ?_⟩
    refine ⟨_, rfl, ite3 (fun h => nope h rfl) (fun _ => ?_)⟩
    exact ⟨⟨y9, _, rfl⟩, k5.same S6, WtK.same htw5 S6, WtK.same hma5 S6, S6 _ _ eu5⟩
  · obtain ⟨⟨y9, y10, rfl⟩, k1, htw1, hma1, eu⟩ := z
    rw [List.length_map, List.length_drop, show i + (xs.length - i) = xs.length by omega] at htw1 hma1
    exact nx _ _ ⟨tw, ma, y9, y10, rfl, k1, htw1, hma1, n1, n2, n3⟩
end
end K48
set_option Elab.async false
set_option linter.all false
set_option maxRecDepth 100000
set_option maxHeartbeats 4000000
namespace K48
open PySem PySem.Spec PyProof.Rows L2 Pre Dfs Vls
theorem due_last {H : Hp} {d : Addr} {as : List Addr} {c : Nat} {o f : Int} {xs : List Int} {n : Nat} (du : DueO H d as c o f xs n) (h : 0 < n) : ∃ u, atI (as.map V.ref) (-1) = some (.ref u) ∧ H u = some (.tup (dueV c o f xs n)) := by
  have hl := du.len
  have ne : as ≠ [] := fun z => by
    rw [z] at hl
    simp at hl
    omega
  refine ⟨as.getLast ne, ?_, ?_⟩
  · have e : as.map V.ref = as.dropLast.map V.ref ++ [V.ref (as.getLast ne)] := by
      have z := congrArg (List.map V.ref) (List.dropLast_concat_getLast ne)
      rw [List.map_append] at z
      exact z.symm
    rw [e]
    exact atI_last _ _
  · have z := du.it (n - 1) (as.getLast ne) (by rw [← hl, List.getLast_eq_getElem, List.getElem?_eq_getElem])
    rw [show n - 1 + 1 = n by omega] at z
    exact z
theorem due_at {H : Hp} {d : Addr} {as : List Addr} {c : Nat} {o f : Int} {xs : List Int} {n i : Nat} (du : DueO H d as c o f xs n) (h : i < n) : ∃ u, atI (as.map V.ref) ((i : Nat) : Int) = some (.ref u) ∧ H u = some (.tup (dueV c o f xs (i + 1))) := by
  have hl : i < as.length := by
    rw [du.len]
    exact h
  refine ⟨as[i], atI_nat ?_, du.it i _ (List.getElem?_eq_getElem hl)⟩
  rw [List.getElem?_map, List.getElem?_eq_getElem hl]
  rfl
section
variable {P : Program} {w : World} {K : PySem.W.Frag} {mg : Str → Option Value} {base : Heap} {cdv : Value} {A : Around} {outer : List Env} {s : Shared} {H0 : Hp} {E : XK}
variable (I0 : Hp) (p a t al : Addr) (ns : List Int) (z0 : Int) (c : Nat) (o f : Int) (r x d : Addr) (xs : List Int) (as : List Addr) (cut i : Nat)
theorem pb5 (T : Tx K mg) (cn : Cn c o f xs) (hi : i < xs.length) (still : (XR P w K mg base cdv A outer s H0 E).A.guards = some []) (hr : Room 8 (XR P w K mg base cdv A outer s H0 E).A) : PS (XR P w K mg base cdv A outer s H0 E) (stb 5) (tPP (A3 I0 p a t al ns z0 c o f r x d xs as cut i K xs.length) (A0 I0 p a t al ns z0 c o f r x d xs as cut i K)) := by
  refine PS.pp (ps_if (pt_cmpR op_ne (pe_callB (Shw.call_repr hr still) (by rfl) T.f_repr (by decide +kernel) (pa_cons (pe_tup (pa_cons (pe_on T (hr.mono (by decide)) (pv 11)) (pa_cons (pe_times T (hr.mono (by decide)) (pv 11)) (pa_cons (pe_now T (hr.mono (by decide)) (pv 11)) pa_nil)))) pa_nil))
        (pe_callB (Shw.call_repr hr still) (by rfl) T.f_repr (by decide +kernel) (pa_cons (pe_ix ix_list (pv 5) (pe_un un_neg pe_int) (fun _ _ => rfl)) pa_nil)) (nomark _)) (pss_one (ps_ret pe_bl)) pss_nil) (fun D σ H q nx => ?_)
  obtain ⟨tw, ma, x9, x10, rfl, k, htw, hma, n1, n2, n3⟩ := q
  have l2 := cn.l2
  have sm := due_sm (c := c) (o := o) (f := f) cn.bd (show xs.length ≤ 100 by omega) (show xs.length ≤ 1000 by omega)
  obtain ⟨r1, r2, r3, r4⟩ := sm.repr (by decide) (by decide)
  refine ⟨_, rfl, ma, al, _, _, _, rfl, hma, _, rfl, ma, al, _, _, _, rfl, hma, _, rfl, ma, al, _, _, _, rfl, hma, (by show (3 : Nat) ≤ sizeLine; rw [sizeLine_eq]; decide), fun u hu => ?_⟩
  have S1 := Same.upd hu (o := .tup [.bl (stt c o f xs xs.length).1, .int (stt c o f xs xs.length).2, .int (tot c xs xs.length)])
  refine ⟨_, _, rfl, dp_bii upd_same, r1, r2, r3, r4, ?_⟩
  obtain ⟨v, e1, e2⟩ := due_last k.bs.du (by omega)
  refine ⟨_, rfl, _, rfl, d, _, _, _, rfl, rfl, SqL.of (S1 _ _ k.bs.du.at_), e1, _, _, rfl, dp_bii (S1 _ _ e2), r1, r2, r3, r4, rfl, ?_⟩
  refine ⟨_, rfl, ite3 (fun h => nope h rfl) (fun _ => ?_)⟩
  exact nx _ _ ⟨_, _, _, _, rfl, k.same S1⟩
/-- behind a column -/
def LP (K : PySem.W.Frag) : L2.St → Hp → Prop := fun σ H => ∃ x7 x8 x9 x10 x11, σ = [some (.ref p), some (.ref t), some (.ref al), some (.ref r), some (.ref x), some (.ref d), some (.int (cut : Int)), x7, x8, x9, x10, x11, none, none, none] ∧ Wk K I0 H p a t al ns z0 c o f r x d xs as i
theorem psA (T : Tx K mg) (cn : Cn c o f xs) (hi : i < xs.length) (still : (XR P w K mg base cdv A outer s H0 E).A.guards = some []) (hr : Room 8 (XR P w K mg base cdv A outer s H0 E).A) : PS (XR P w K mg base cdv A outer s H0 E) stA (tPP (A0 I0 p a t al ns z0 c o f r x d xs as cut i K) (A0 I0 p a t al ns z0 c o f r x d xs as cut i K)) := by
  refine PS.pp (ps_if (pt_cmpR op_eq (pv 7) (pv 6) (nomark _))
    (show PSs _ [stb 0, stb 1, stb 2, stb 3, stb 4, stb 5] _ from pss_cons (pb0 I0 p a t al ns z0 c o f r x d xs as cut i T hi hr) (pss_cons (pb1 I0 p a t al ns z0 c o f r x d xs as cut i T cn hi still hr) (pss_cons (pb2 I0 p a t al ns z0 c o f r x d xs as cut i T cn hi still hr)
      (pss_cons (pb3 I0 p a t al ns z0 c o f r x d xs as cut i T hr) (pss_cons (pb4 I0 p a t al ns z0 c o f r x d xs as cut i T cn hi still hr) (pss_one (pb5 I0 p a t al ns z0 c o f r x d xs as cut i T cn hi still hr))))))) pss_nil) (fun D σ H q nx => ?_)
  have q2 := q
  obtain ⟨x8, x9, x10, x11, rfl, k⟩ := q
  refine ⟨_, rfl, _, rfl, rfl, _, rfl, ite3 (fun _ => ?_) (fun _ => nx _ _ q2)⟩
  exact pp_go q2 fun _ _ s1 => pp_go s1 fun _ _ s2 => pp_go s2 fun _ _ s3 => pp_go s3 fun _ _ s4 => pp_go s4 fun _ _ s5 => ⟨s5, nx⟩
theorem psB (T : Tx K mg) (cn : Cn c o f xs) (hi : i < xs.length) (still : (XR P w K mg base cdv A outer s H0 E).A.guards = some []) (hr : Room 8 (XR P w K mg base cdv A outer s H0 E).A) : PS (XR P w K mg base cdv A outer s H0 E) stB (tPP (A0 I0 p a t al ns z0 c o f r x d xs as cut i K) (LP I0 p a t al ns z0 c o f r x d xs as cut (i + 1) K)) := by
  have M := (m_step (P := P) (w := w) (base := base) T).mfn
  refine PS.pp (ps_if (PW.pt (pw_or (pt_cmpR op_ne (pe_callB (Shw.call_repr hr still) (by rfl) T.f_repr (by decide +kernel) (pa_cons (Dfs.pe_m (pv 4) M (hr.mono (by decide)) (E := fun _ _ _ => False) p0 (pa_cons (pe_ix ix_list (pv 3) (pv 7) (fun _ _ => rfl)) pa_nil)) pa_nil))
        (pe_callB (Shw.call_repr hr still) (by rfl) T.f_repr (by decide +kernel) (pa_cons (pe_ix ix_tup (pe_ix ix_list (pv 5) (pv 7) (fun _ _ => rfl)) pe_int (fun _ _ => rfl)) pa_nil)) (nomark _))
      (pw_or1 (pt_cmpR op_ne (pe_callB (Shw.call_repr hr still) (by rfl) T.f_repr (by decide +kernel) (pa_cons (pe_tup (pa_cons (pe_on T (hr.mono (by decide)) (pv 4)) (pa_cons (pe_times T (hr.mono (by decide)) (pv 4)) (pa_cons (pe_now T (hr.mono (by decide)) (pv 4)) pa_nil)))) pa_nil))
        (pe_callB (Shw.call_repr hr still) (by rfl) T.f_repr (by decide +kernel) (pa_cons (pe_ix ix_list (pv 5) (pv 7) (fun _ _ => rfl)) pa_nil)) (nomark _))))) (pss_one (ps_ret pe_bl)) pss_nil) (fun D σ H q nx => ?_)
  obtain ⟨x8, x9, x10, x11, rfl, k⟩ := q
  have l2 := cn.l2
  have sm := due_sm (c := c) (o := o) (f := f) cn.bd (show xs.length ≤ 100 by omega) (show i + 1 ≤ 1000 by omega)
  obtain ⟨r1, r2, r3, r4⟩ := sm.repr (by decide) (by decide)
  obtain ⟨b1, b2, b3, b4⟩ := (Flat.Sm.bl (stt c o f xs (i + 1)).1).repr (by decide) (by decide)
  obtain ⟨dx, fx, ex, _, lx⟩ := WtO.tw k.wk
  have hat : atI (xs.map V.int) ((i : Nat) : Int) = some (.int xs[i]) := by
    refine atI_nat ?_
    rw [List.getElem?_map, List.getElem?_eq_getElem hi]
    rfl
  refine ⟨_, rfl, x, dx, fx, rfl, ex, lx, _, rfl, _, rfl, r, _, _, _, rfl, rfl, SqL.of k.bs.rl, hat, ?_⟩
  dsimp only [tNil]
  refine sp_step cn hi k.wk k.bs.ao fun H1 h1 wk1 => ?_
  have bs1 := k.bs.kw (Kw.but k.wk h1)
  obtain ⟨v, e1, e2⟩ := due_at bs1.du hi
  refine ⟨_, _, rfl, .bl _, b1, b2, b3, b4, ?_⟩
  refine ⟨_, rfl, _, rfl, d, _, _, _, rfl, rfl, SqL.of bs1.du.at_, e1, v, _, _, _, rfl, rfl, SqT.of e2, atI_nat (j := 0) (v := .bl (stt c o f xs (i + 1)).1) rfl, _, _, rfl, .bl _, b1, b2, b3, b4, rfl, ?_⟩
  refine ⟨_, rfl, ite3 (fun h => nope h rfl) (fun _ => ?_)⟩
  refine ⟨_, rfl, x, al, _, _, _, rfl, wk1, _, rfl, x, al, _, _, _, rfl, wk1, _, rfl, x, al, _, _, _, rfl, wk1, (by show (3 : Nat) ≤ sizeLine; rw [sizeLine_eq]; decide), fun u hu => ?_⟩
  have S2 := Same.upd hu (o := .tup [.bl (stt c o f xs (i + 1)).1, .int (stt c o f xs (i + 1)).2, .int (tot c xs (i + 1))])
  refine ⟨_, _, rfl, dp_bii upd_same, r1, r2, r3, r4, ?_⟩
  refine ⟨_, rfl, _, rfl, d, _, _, _, rfl, rfl, SqL.of (S2 _ _ bs1.du.at_), e1, _, _, rfl, dp_bii (S2 _ _ e2), r1, r2, r3, r4, rfl, ?_⟩
  refine ⟨_, rfl, ite3 (fun h => nope h rfl) (fun _ => ?_)⟩
  exact nx _ _ ⟨_, _, _, _, _, rfl, bs1.kw (Kw.of S2), WtK.same wk1 S2⟩
end
end K48
set_option Elab.async false
set_option linter.all false
set_option maxRecDepth 100000
set_option maxHeartbeats 4000000
namespace K48
open PySem PySem.Spec PyProof.Rows L2 Pre Dfs Vls
section
variable {P : Program} {w : World} {K : PySem.W.Frag} {mg : Str → Option Value} {base : Heap} {cdv : Value} {A : Around} {outer : List Env} {s : Shared} {H0 : Hp} {E : XK}
variable (I0 : Hp) (p a t al : Addr) (ns : List Int) (z0 : Int) (c : Nat) (o f : Int)
/-- a step of a watch over any row -/
theorem sp_stepG {H : Hp} {Q : VK} {y al : Addr} {c : Nat} {o f : Int} {xs : List Int} {k : Nat} (c0 : 0 < c) (l2 : xs.length ≤ 23) (bd : ∀ x ∈ xs, 0 ≤ x ∧ x ≤ 10 ^ 40) (hk : k < xs.length) (h : WtK K H y al c o f xs k) (ha : AlO K H al c o f)
    (q : ∀ H', But y H H' → WtK K H' y al c o f xs (k + 1) → Q (.bl (stt c o f xs (k + 1)).1) H') : spStep K [.ref y, .int xs[k]] H Q (fun _ _ _ => False) := by
  obtain ⟨b1, b2⟩ := bd _ (List.getElem_mem hk)
  refine ⟨y, al, _, _, _, c, o, f, xs[k], rfl, h, ha, c0, Nat.le_trans (rows100 l2 k) (by decide), b1, b2, fun H' b h' => ?_⟩
  rw [on_step c0 hk]
  exact q H' b (wk_step c0 hk h')
abbrev sh (p t al r x d : Addr) (cut : Nat) (x7 x8 x9 x10 x11 x12 x13 : Option V) : L2.St := [some (.ref p), some (.ref t), some (.ref al), some (.ref r), some (.ref x), some (.ref d), some (.int (cut : Int)), x7, x8, x9, x10, x11, x12, x13, none]
def Q4 (K : PySem.W.Frag) : L2.St → Hp → Prop := fun σ H => ∃ r x d xs as, ∃ cut : Nat, ∃ x7 x8 x9 x10 x11, σ = sh p t al r x d cut x7 x8 x9 x10 x11 none none ∧ Cn c o f xs ∧ cut < xs.length ∧ Wk K I0 H p a t al ns z0 c o f r x d xs as xs.length
def tBd (K : PySem.W.Frag) : TS := fun D σ H => ∃ r x d xs as, ∃ cut i : Nat, Cn c o f xs ∧ i < xs.length ∧ A0 I0 p a t al ns z0 c o f r x d xs as cut i K σ H ∧ ∀ σ' H', LP I0 p a t al ns z0 c o f r x d xs as cut (i + 1) K σ' H' → D.nx σ' H'
theorem body3 (T : Tx K mg) (still : (XR P w K mg base cdv A outer s H0 E).A.guards = some []) (hr : Room 8 (XR P w K mg base cdv A outer s H0 E).A) : PSs (XR P w K mg base cdv A outer s H0 E) [stA, stB] (tBd I0 p a t al ns z0 c o f K) := by
  refine ⟨fun pins s1 σ H D I q => ?_⟩
  obtain ⟨r, x, d, xs, as, cut, i, cn, hi, a0, nx⟩ := q
  exact (pss_cons (psA I0 p a t al ns z0 c o f r x d xs as cut i T cn hi still hr) (pss_one (psB I0 p a t al ns z0 c o f r x d xs as cut i T cn hi still hr))).run pins s1 σ H D I (pp_go a0 fun _ _ s1 => ⟨s1, nx⟩)
theorem ps3 (T : Tx K mg) (still : (XR P w K mg base cdv A outer s H0 E).A.guards = some []) (hr : Room 8 (XR P w K mg base cdv A outer s H0 E).A) : PS (XR P w K mg base cdv A outer s H0 E) (stR 3) (tPP (Q2 I0 p a t al ns z0 c o f K) (Q4 I0 p a t al ns z0 c o f K)) := by
  refine PS.pp (ps_for (passes_of rfl) rfl (pi_range1 (by rfl) T.f_range (pa_cons (pe_callB call_len_seq (by rfl) T.f_len PySem.boot_len (pa_cons (pv 3) pa_nil)) pa_nil)) (pg_name (i := 7) ndR rfl (Or.inl rfl))
    (body3 I0 p a t al ns z0 c o f T still hr)) (fun D σ H q nx => ?_)
  obtain ⟨r, x, d, xs, as, cut, rfl, cn, hcut, bs, hk⟩ := q
  have l2 := cn.l2
  refine ⟨_, rfl, r, _, rfl, .inl (SqL.of bs.rl), _, rfl, by omega, by rw [List.length_map]; omega, ?_⟩
  rw [Int.toNat_natCast, List.length_map]
  refine for_range (fun i σ H1 => LP I0 p a t al ns z0 c o f r x d xs as cut i K σ H1) ⟨_, _, _, _, _, rfl, bs, hk⟩ (fun i σ H1 hi z => ?_) (fun σ H1 z => ?_)
  · obtain ⟨x7, x8, x9, x10, x11, rfl, k⟩ := z
    rw [show (0 : Int) + (i : Int) = (i : Int) by omega]
    exact ⟨r, x, d, xs, as, cut, i, cn, hi, ⟨x8, x9, x10, x11, rfl, k⟩, fun _ _ q => q⟩
  · obtain ⟨x7, x8, x9, x10, x11, rfl, k⟩ := z
    exact nx _ _ ⟨r, x, d, xs, as, cut, x7, x8, x9, x10, x11, rfl, cn, hcut, k⟩
def Q5 (K : PySem.W.Frag) (ys zs : List Int → List Int) (j m : List Int → Nat) : L2.St → Hp → Prop := fun σ H => ∃ r x d xs as, ∃ cut : Nat, ∃ x7 x8 x9 x10 x11 ag ot, σ = sh p t al r x d cut x7 x8 x9 x10 x11 (some (.ref ag)) (some (.ref ot)) ∧ Cn c o f xs ∧ cut < xs.length ∧ Wk K I0 H p a t al ns z0 c o f r x d xs as xs.length ∧
  WtK K H ag al c o f (ys xs) (j xs) ∧ WtK K H ot al c o f (zs xs) (m xs) ∧ x ≠ ag ∧ x ≠ ot ∧ ag ≠ ot
theorem wk0 {H : Hp} {y al : Addr} {c : Nat} {o f : Int} {xs : List Int} (h : WtO K H y al [] false 0) : WtK K H y al c o f xs 0 := by
  show WtO K H y al (lastN c (xs.take 0)) false 0
  have e0 : lastN c (xs.take 0) = [] := by unfold lastN; simp
  rw [e0]
  exact h
/-- the row whose last one is another -/
def alt (xs : List Int) : List Int := xs.dropLast ++ [if xs.getLastD 0 > 0 then xs.getLastD 0 - 1 else 1]
theorem ps4 (T : Tx K mg) (hr : Room 8 (XR P w K mg base cdv A outer s H0 E).A) : PS (XR P w K mg base cdv A outer s H0 E) (stR 4) (tPP (Q4 I0 p a t al ns z0 c o f K) (Q5 I0 p a t al ns z0 c o f K (lastN c) alt (fun _ => 0) (fun _ => 0))) := by
  refine PS.pp (ps_par (i := 12) (j := 13) rfl ndR rfl rfl (by decide) rfl rfl (pa_cons (pe_wt T (hr.mono (by decide)) (by rfl) (pa_cons (pv 2) pa_nil)) (pa_cons (pe_wt T (hr.mono (by decide)) (by rfl) (pa_cons (pv 2) pa_nil)) pa_nil)) (by rfl)) (fun D σ H q nx => ?_)
  obtain ⟨r, x, d, xs, as, cut, x7, x8, x9, x10, x11, rfl, cn, hcut, k⟩ := q
  obtain ⟨dx, fs, ex, _⟩ := WtO.tw k.wk
  refine ⟨_, rfl, al, (c : Int), o, f, rfl, k.bs.ao, fun u H1 S1 nu hu => ?_⟩
  have k1 := k.same S1
  refine ⟨_, rfl, al, (c : Int), o, f, rfl, k1.bs.ao, fun v H2 S2 nv hv => ?_⟩
  obtain ⟨du, fu, eu, _⟩ := WtO.tw hu
  exact ⟨_, _, rfl, nx _ _ ⟨r, x, d, xs, as, cut, x7, x8, x9, x10, x11, u, v, rfl, cn, hcut, k1.same S2, wk0 (hu.same S2), wk0 hv, ne_of_none ex nu, ne_of_none (S1 _ _ ex) nv, ne_of_none eu nv⟩⟩
end
end K48
set_option Elab.async false
set_option linter.all false
set_option maxRecDepth 100000
set_option maxHeartbeats 4000000
namespace K48
open PySem PySem.Spec PyProof.Rows L2 Pre Dfs Vls
theorem last_split {xs : List Int} (h : xs ≠ []) : xs = xs.dropLast ++ [xs.getLastD 0] := by
  have e : xs.getLastD 0 = xs.getLast h := by
    cases xs with
    | nil => exact absurd rfl h
    | cons y r => simp [List.getLastD, List.getLast?_eq_getLast, List.getLast]
  rw [e]
  exact (List.dropLast_concat_getLast h).symm
theorem last_at {xs : List Int} (h : xs ≠ []) : atI (xs.map V.int) (-1) = some (.int (xs.getLastD 0)) := by
  have e : xs.map V.int = xs.dropLast.map V.int ++ [V.int (xs.getLastD 0)] := by
    have z := congrArg (List.map V.int) (last_split h)
    rw [List.map_append] at z
    exact z
  rw [e]
  exact atI_last _ _
theorem cut_init (xs : List Int) : cutV (xs.map V.int) none (some (-1)) = xs.dropLast.map V.int := by
  unfold cutV
  have z := sIx_neg (xs.map V.int).length (xs.map V.int).length 1 (by decide)
  have e : (some (-((1 : Nat) : Int)) : Option Int) = some (-1) := rfl
  rw [e] at z
  rw [z, HT.sIx_none, List.drop_zero, Nat.sub_zero, List.length_map, List.dropLast_eq_take, ← List.map_take]
theorem alt_len {xs : List Int} (h : 1 ≤ xs.length) : (alt xs).length = xs.length := by
  unfold alt
  rw [List.length_append, List.length_dropLast]
  show xs.length - 1 + 1 = _
  omega
theorem last_mem {xs : List Int} (h : xs ≠ []) : xs.getLastD 0 ∈ xs := by
  have z := last_split h
  generalize xs.getLastD 0 = y at z ⊢
  rw [z]
  exact List.mem_append_right _ (List.mem_cons_self ..)
theorem alt_bd {xs : List Int} (h : xs ≠ []) (bd : ∀ x ∈ xs, 0 ≤ x ∧ x ≤ 10 ^ 40) : ∀ x ∈ alt xs, 0 ≤ x ∧ x ≤ 10 ^ 40 := fun x hx => by
  rcases List.mem_append.mp hx with g | g
  · exact bd x (List.dropLast_subset _ g)
  · have e : x = if xs.getLastD 0 > 0 then xs.getLastD 0 - 1 else 1 := by simpa using g
    obtain ⟨b1, b2⟩ := bd _ (last_mem h)
    rw [e]
    split
    · omega
    · exact ⟨by decide, by decide⟩
/-- the last ones of both differ -/
theorem alt_ne {c : Nat} (c0 : 0 < c) {xs : List Int} (h : xs ≠ []) : lastN c xs ≠ lastN c (alt xs) := fun z => by
  have e1 := last_split h
  have k : ∀ (l : List Int) (y : Int), lastN c (l ++ [y]) = l.drop (l.length + 1 - c) ++ [y] := fun l y => by
    unfold lastN
    rw [List.length_append, List.length_singleton, List.drop_append_of_le_length (by omega)]
  generalize xs.getLastD 0 = y at e1
  have z2 : lastN c (xs.dropLast ++ [xs.getLastD 0]) = lastN c (xs.dropLast ++ [if xs.getLastD 0 > 0 then xs.getLastD 0 - 1 else 1]) := by
    rw [← last_split h]
    exact z
  rw [k, k] at z2
  have z3 := List.append_cancel_left z2
  have z4 : xs.getLastD 0 = if xs.getLastD 0 > 0 then xs.getLastD 0 - 1 else 1 := by simpa using z3
  split at z4 <;> omega
section
variable {P : Program} {w : World} {K : PySem.W.Frag} {mg : Str → Option Value} {base : Heap} {cdv : Value} {A : Around} {outer : List Env} {s : Shared} {H0 : Hp} {E : XK}
variable (I0 : Hp) (p a t al : Addr) (ns : List Int) (z0 : Int) (c : Nat) (o f : Int)
theorem ps5 (T : Tx K mg) (hr : Room 8 (XR P w K mg base cdv A outer s H0 E).A) : PS (XR P w K mg base cdv A outer s H0 E) (stR 5) (tPP (Q5 I0 p a t al ns z0 c o f K (lastN c) alt (fun _ => 0) (fun _ => 0)) (Q5 I0 p a t al ns z0 c o f K (lastN c) alt (fun xs => (lastN c xs).length) (fun _ => 0))) := by
  have M := (m_step (P := P) (w := w) (base := base) T).mfn
  refine PS.pp (ps_for (passes_of rfl) rfl (pi_list (pe_slice sl_list (pv 3) (po_some (pe_callB (call_max2 rfl) (by rfl) T.f_max (by decide +kernel) (pa_cons pe_int (pa_cons (pe_op op_sub (pe_callB call_len_seq (by rfl) T.f_len PySem.boot_len (pa_cons (pv 3) pa_nil)) (pe_ix ix_tup (pv 1) pe_int (fun _ _ => rfl))) pa_nil)))) po_none)) (pg_name (i := 10) ndR rfl (Or.inl rfl))
    (pss_one (ps_expr (Dfs.pe_m (pv 12) M (hr.mono (by decide)) (E := fun _ _ _ => False) p0 (pa_cons (pv 10) pa_nil))))) (fun D σ H q nx => ?_)
  obtain ⟨r, x, d, xs, as, cut, x7, x8, x9, x10, x11, ag, ot, rfl, cn, hcut, k, hag, hot, n1, n2, n3⟩ := q
  refine ⟨_, rfl, _, rfl, r, _, rfl, .inl (SqL.of k.bs.rl), _, rfl, t, _, _, _, rfl, rfl, SqT.of k.bs.tu, atI_nat (j := 0) (v := .int (c : Int)) rfl, _, _, rfl, rfl, _, _, rfl, _, rfl, ?_⟩
  dsimp only [tNoPart]
  rw [List.length_map, max_sub]
  refine ⟨r, _, rfl, SqL.of k.bs.rl, fun u hu => ?_⟩
  rw [cut_from (show xs.length - c ≤ xs.length by omega)]
  have ey : xs.drop (xs.length - c) = lastN c xs := rfl
  rw [ey]
  have S1 := Same.upd hu (o := .lst ((lastN c xs).map V.int))
  have ly : (lastN c xs).length ≤ 23 := Nat.le_trans last_len cn.l2
  have by' : ∀ v ∈ lastN c xs, 0 ≤ v ∧ v ≤ 10 ^ 40 := fun v hv => cn.bd v (List.mem_of_mem_drop hv)
  refine ⟨u, rfl, ⟨_, SqL.of upd_same⟩, ?_⟩
  refine for_it (walk_list (xs := (lastN c xs).map V.int)) (fun j σ H1 => (∃ x10, σ = sh p t al r x d cut x7 x8 x9 x10 x11 (some (.ref ag)) (some (.ref ot))) ∧ Wk K I0 H1 p a t al ns z0 c o f r x d xs as xs.length ∧ WtK K H1 ag al c o f (lastN c xs) j ∧ WtK K H1 ot al c o f (alt xs) 0 ∧ H1 u = some (.lst ((lastN c xs).map V.int)))
    ⟨⟨x10, rfl⟩, k.same S1, WtK.same hag S1, WtK.same hot S1, upd_same⟩ (fun j σ H1 _ z => SqL.of z.2.2.2.2) (fun j y σ H1 H2 hj z yy => ?_) (fun σ H1 z => ?_)
  · obtain ⟨⟨y10, rfl⟩, k1, hag1, hot1, eu⟩ := z
    obtain ⟨rfl, hy⟩ := yy
    rw [List.length_map] at hj
    have hy2 : y = V.int (lastN c xs)[j] := by
      rw [List.getElem?_map, List.getElem?_eq_getElem hj] at hy
      exact (Option.some.inj hy).symm
    subst hy2
    obtain ⟨dm, fm, em, _, lm⟩ := WtO.tw hag1
    refine ⟨_, rfl, ag, dm, fm, rfl, em, lm, _, rfl, ?_⟩
    dsimp only [tNil]
    refine sp_stepG cn.c0 ly by' hj hag1 k1.bs.ao fun H3 b3 hag3 => ?_
    exact ⟨⟨_, rfl⟩, k1.but hag1 n1 b3, hag3, WtO.buts hot1 hag1 n3.symm b3, Kw.but hag1 b3 _ _ eu nw_lst⟩
  · obtain ⟨⟨y10, rfl⟩, k1, hag1, hot1, eu⟩ := z
    rw [List.length_map] at hag1
    exact nx _ _ ⟨r, x, d, xs, as, cut, x7, x8, x9, y10, x11, ag, ot, rfl, cn, hcut, k1, hag1, hot1, n1, n2, n3⟩
theorem ps6 (T : Tx K mg) (hr : Room 8 (XR P w K mg base cdv A outer s H0 E).A) : PS (XR P w K mg base cdv A outer s H0 E) (stR 6) (tPP (Q5 I0 p a t al ns z0 c o f K (lastN c) alt (fun xs => (lastN c xs).length) (fun _ => 0)) (Q5 I0 p a t al ns z0 c o f K (lastN c) alt (fun xs => (lastN c xs).length) (fun xs => (alt xs).length))) := by
  have M := (m_step (P := P) (w := w) (base := base) T).mfn
  refine PS.pp (ps_for (passes_of rfl) rfl (pi_list (pe_op op_cat (pe_slice sl_list (pv 3) po_none (po_some (pe_un un_neg pe_int)))
      (pe_lst (pa_cons (pe_ifExp (pt_cmpR op_gt (pe_ix ix_list (pv 3) (pe_un un_neg pe_int) (fun _ _ => rfl)) pe_int (nomark _)) (pe_op op_sub (pe_ix ix_list (pv 3) (pe_un un_neg pe_int) (fun _ _ => rfl)) pe_int) pe_int) pa_nil)))) (pg_name (i := 10) ndR rfl (Or.inl rfl))
    (pss_one (ps_expr (Dfs.pe_m (pv 13) M (hr.mono (by decide)) (E := fun _ _ _ => False) p0 (pa_cons (pv 10) pa_nil))))) (fun D σ H q nx => ?_)
  obtain ⟨r, x, d, xs, as, cut, x7, x8, x9, x10, x11, ag, ot, rfl, cn, hcut, k, hag, hot, n1, n2, n3⟩ := q
  have l1 := cn.l1
  have l2 := cn.l2
  have ne : xs ≠ [] := fun z => by rw [z] at l1; simp at l1
  refine ⟨_, rfl, ?_⟩
  dsimp only [tNoPart]
  refine ⟨_, rfl, _, rfl, r, _, rfl, SqL.of k.bs.rl, fun u hu => ?_⟩
  rw [cut_init]
  have S1 := Same.upd hu (o := .lst (xs.dropLast.map V.int))
  have rl1 := S1 _ _ k.bs.rl
  refine ⟨_, rfl, _, rfl, r, _, _, _, rfl, rfl, SqL.of rl1, last_at ne, _, _, rfl, rfl, _, rfl, ite3 (fun g => ?_) (fun g => ?_)⟩
  · have g2 : 0 < xs.getLastD 0 := of_decide_eq_true g
    refine ⟨_, rfl, _, rfl, r, _, _, _, rfl, rfl, SqL.of rl1, last_at ne, _, _, rfl, rfl, ?_⟩
    refine ⟨(by show (1 : Nat) ≤ sizeLine; rw [sizeLine_eq]; decide), fun v hv => ?_⟩
    have S2 := Same.upd hv (o := .lst [.int (xs.getLastD 0 - 1)])
    have few : (xs.dropLast.map V.int).length + 1 ≤ sizeLine := by
      rw [List.length_map, List.length_dropLast, sizeLine_eq]
      omega
    refine ⟨u, v, _, _, rfl, rfl, S2 _ _ upd_same, upd_same, few, fun q hq => ?_⟩
    have ea : xs.dropLast.map V.int ++ [V.int (xs.getLastD 0 - 1)] = (alt xs).map V.int := by
      unfold alt
      rw [List.map_append, if_pos g2]
      rfl
    rw [ea]
    have S3 : Same H _ := fun b ob h => Same.upd hq (o := .lst ((alt xs).map V.int)) b ob (S2 b ob (S1 b ob h))
    refine ⟨q, rfl, ⟨_, SqL.of upd_same⟩, ?_⟩
    have lz : (alt xs).length ≤ 23 := by
      rw [alt_len (by omega)]
      exact l2
    have bz := alt_bd ne cn.bd
    refine for_it (walk_list (xs := (alt xs).map V.int)) (fun j σ H1 => (∃ x10, σ = sh p t al r x d cut x7 x8 x9 x10 x11 (some (.ref ag)) (some (.ref ot))) ∧ Wk K I0 H1 p a t al ns z0 c o f r x d xs as xs.length ∧ WtK K H1 ag al c o f (lastN c xs) (lastN c xs).length ∧ WtK K H1 ot al c o f (alt xs) j ∧ H1 q = some (.lst ((alt xs).map V.int)))
      ⟨⟨x10, rfl⟩, k.same S3, WtK.same hag S3, WtK.same hot S3, upd_same⟩ (fun j σ H1 _ z => SqL.of z.2.2.2.2) (fun j y σ H1 H2 hj z yy => ?_) (fun σ H1 z => ?_)
    · obtain ⟨⟨y10, rfl⟩, k1, hag1, hot1, eu⟩ := z
      obtain ⟨rfl, hy⟩ := yy
      rw [List.length_map] at hj
      have hy2 : y = V.int (alt xs)[j] := by
        rw [List.getElem?_map, List.getElem?_eq_getElem hj] at hy
        exact (Option.some.inj hy).symm
      subst hy2
      obtain ⟨dm, fm, em, _, lm⟩ := WtO.tw hot1
      refine ⟨_, rfl, ot, dm, fm, rfl, em, lm, _, rfl, ?_⟩
      dsimp only [tNil]
      refine sp_stepG cn.c0 lz bz hj hot1 k1.bs.ao fun H3 b3 hot3 => ?_
      exact ⟨⟨_, rfl⟩, k1.but hot1 n2 b3, WtO.buts hag1 hot1 n3 b3, hot3, Kw.but hot1 b3 _ _ eu nw_lst⟩
    · obtain ⟨⟨y10, rfl⟩, k1, hag1, hot1, eu⟩ := z
      rw [List.length_map] at hot1
      exact nx _ _ ⟨r, x, d, xs, as, cut, x7, x8, x9, y10, x11, ag, ot, rfl, cn, hcut, k1, hag1, hot1, n1, n2, n3⟩
  · have g2 : ¬ (0 < xs.getLastD 0) := of_decide_eq_false g
    refine ⟨(by show (1 : Nat) ≤ sizeLine; rw [sizeLine_eq]; decide), fun v hv => ?_⟩
    have S2 := Same.upd hv (o := .lst [.int 1])
    have few : (xs.dropLast.map V.int).length + 1 ≤ sizeLine := by
      rw [List.length_map, List.length_dropLast, sizeLine_eq]
      omega
    refine ⟨u, v, _, _, rfl, rfl, S2 _ _ upd_same, upd_same, few, fun q hq => ?_⟩
    have ea : xs.dropLast.map V.int ++ [V.int 1] = (alt xs).map V.int := by
      unfold alt
      rw [List.map_append, if_neg g2]
      rfl
    rw [ea]
    have S3 : Same H _ := fun b ob h => Same.upd hq (o := .lst ((alt xs).map V.int)) b ob (S2 b ob (S1 b ob h))
    refine ⟨q, rfl, ⟨_, SqL.of upd_same⟩, ?_⟩
    have lz : (alt xs).length ≤ 23 := by
      rw [alt_len (by omega)]
      exact l2
    have bz := alt_bd ne cn.bd
    refine for_it (walk_list (xs := (alt xs).map V.int)) (fun j σ H1 => (∃ x10, σ = sh p t al r x d cut x7 x8 x9 x10 x11 (some (.ref ag)) (some (.ref ot))) ∧ Wk K I0 H1 p a t al ns z0 c o f r x d xs as xs.length ∧ WtK K H1 ag al c o f (lastN c xs) (lastN c xs).length ∧ WtK K H1 ot al c o f (alt xs) j ∧ H1 q = some (.lst ((alt xs).map V.int)))
      ⟨⟨x10, rfl⟩, k.same S3, WtK.same hag S3, WtK.same hot S3, upd_same⟩ (fun j σ H1 _ z => SqL.of z.2.2.2.2) (fun j y σ H1 H2 hj z yy => ?_) (fun σ H1 z => ?_)
    · obtain ⟨⟨y10, rfl⟩, k1, hag1, hot1, eu⟩ := z
      obtain ⟨rfl, hy⟩ := yy
      rw [List.length_map] at hj
      have hy2 : y = V.int (alt xs)[j] := by
        rw [List.getElem?_map, List.getElem?_eq_getElem hj] at hy
        exact (Option.some.inj hy).symm
      subst hy2
      obtain ⟨dm, fm, em, _, lm⟩ := WtO.tw hot1
      refine ⟨_, rfl, ot, dm, fm, rfl, em, lm, _, rfl, ?_⟩
      dsimp only [tNil]
      refine sp_stepG cn.c0 lz bz hj hot1 k1.bs.ao fun H3 b3 hot3 => ?_
      exact ⟨⟨_, rfl⟩, k1.but hot1 n2 b3, WtO.buts hag1 hot1 n3 b3, hot3, Kw.but hot1 b3 _ _ eu nw_lst⟩
    · obtain ⟨⟨y10, rfl⟩, k1, hag1, hot1, eu⟩ := z
      rw [List.length_map] at hot1
      exact nx _ _ ⟨r, x, d, xs, as, cut, x7, x8, x9, y10, x11, ag, ot, rfl, cn, hcut, k1, hag1, hot1, n1, n2, n3⟩
end
end K48
set_option Elab.async false
set_option linter.all false
set_option maxRecDepth 100000
set_option maxHeartbeats 4000000
namespace K48
open PySem PySem.Spec PyProof.Rows L2 Pre Dfs Vls
theorem lastN_self {c : Nat} {xs : List Int} : lastN c (lastN c xs) = lastN c xs := by
  have l : (lastN c xs).length - c = 0 := by
    rw [lastN_len]
    omega
  generalize lastN c xs = ys at l ⊢
  unfold lastN
  rw [l, List.drop_zero]
theorem stt_take {c : Nat} {o f : Int} {xs : List Int} {m : Nat} : ∀ k : Nat, k ≤ m → stt c o f (xs.take m) k = stt c o f xs k
  | 0, _ => rfl
  | k + 1, h => by
    have ih := stt_take (c := c) (o := o) (f := f) (xs := xs) (m := m) k (by omega)
    have e : tot c (xs.take m) (k + 1) = tot c xs (k + 1) := by
      unfold tot
      rw [List.take_take, Nat.min_eq_left h]
    simp only [stt, ih, e]
theorem cut_to {k : Nat} {ys : List Int} (h : k ≤ ys.length) : cutV (ys.map V.int) none (some (k : Int)) = (ys.take k).map V.int := by
  unfold cutV
  rw [HT.sIx_nat, HT.sIx_none, List.length_map, Nat.min_eq_left h, List.drop_zero, Nat.sub_zero, List.map_take]
section
variable {P : Program} {w : World} {K : PySem.W.Frag} {mg : Str → Option Value} {base : Heap} {cdv : Value} {A : Around} {outer : List Env} {s : Shared} {H0 : Hp} {E : XK}
variable (I0 : Hp) (p a t al : Addr) (ns : List Int) (z0 : Int) (c : Nat) (o f : Int)
def Q8 (K : PySem.W.Frag) : L2.St → Hp → Prop := fun σ H => ∃ r x d xs as, ∃ cut : Nat, ∃ x7 x8 x9 x10 x11 x12 x13, σ = sh p t al r x d cut x7 x8 x9 x10 x11 x12 x13 ∧ Cn c o f xs ∧ cut < xs.length ∧ Bs K I0 H p a ns z0 t al c o f r d xs as
theorem ps7 (T : Tx K mg) (still : (XR P w K mg base cdv A outer s H0 E).A.guards = some []) (hr : Room 8 (XR P w K mg base cdv A outer s H0 E).A) : PS (XR P w K mg base cdv A outer s H0 E) (stR 7) (tPP (Q5 I0 p a t al ns z0 c o f K (lastN c) alt (fun xs => (lastN c xs).length) (fun xs => (alt xs).length)) (Q8 I0 p a t al ns z0 c o f K)) := by
  refine PS.pp (ps_if (PW.pt (pw_or (pt_cmpR op_ne (pe_callB (Shw.call_repr hr still) (by rfl) T.f_repr (by decide +kernel) (pa_cons (pe_cmpR (op_eqW T (hr.mono (by decide))) (pv 4) (pv 12) (nomark _)) pa_nil))
        (pe_callB (Shw.call_repr hr still) (by rfl) T.f_repr (by decide +kernel) (pa_cons (pe_cmpR op_eq (pe_on T (hr.mono (by decide)) (pv 4)) (pe_on T (hr.mono (by decide)) (pv 12)) (nomark _)) pa_nil)) (nomark _))
      (pw_or (pt_cmpR (op_eqW T (hr.mono (by decide))) (pv 4) (pv 13) (nomark _))
      (pw_or1 (pt_not (pt_cmpR (op_eqW T (hr.mono (by decide))) (pv 4) (Dfs.pe_m0 (pv 4) (m_twin T) (hr.mono (by decide)) (E := E) p0) (nomark _))))))) (pss_one (ps_ret pe_bl)) pss_nil) (fun D σ H q nx => ?_)
  obtain ⟨r, x, d, xs, as, cut, x7, x8, x9, x10, x11, ag, ot, rfl, cn, hcut, k, hag, hot, n1, n2, n3⟩ := q
  have l1 := cn.l1
  have l2 := cn.l2
  have ne : xs ≠ [] := fun z => by rw [z] at l1; simp at l1
  have hx : WtO K H x al (lastN c xs) (stt c o f xs xs.length).1 (stt c o f xs xs.length).2 := by
    have z := k.wk
    unfold WtK at z
    rw [List.take_length] at z
    exact z
  have hag2 : WtO K H ag al (lastN c xs) (stt c o f (lastN c xs) (lastN c xs).length).1 (stt c o f (lastN c xs) (lastN c xs).length).2 := by
    have z := hag
    unfold WtK at z
    rw [List.take_length, lastN_self] at z
    exact z
  have hot2 : WtO K H ot al (lastN c (alt xs)) (stt c o f (alt xs) (alt xs).length).1 (stt c o f (alt xs) (alt xs).length).2 := by
    have z := hot
    unfold WtK at z
    rw [List.take_length] at z
    exact z
  have lx : (lastN c xs).length ≤ 100 := Nat.le_trans last_len (by omega)
  have bx : ∀ v ∈ lastN c xs, 0 ≤ v ∧ v ≤ 10 ^ 40 := fun v hv => cn.bd v (List.mem_of_mem_drop hv)
  have lo : (lastN c (alt xs)).length ≤ 100 := Nat.le_trans last_len (by rw [alt_len (by omega)]; omega)
  have bo : ∀ v ∈ lastN c (alt xs), 0 ≤ v ∧ v ≤ 10 ^ 40 := fun v hv => alt_bd ne cn.bd v (List.mem_of_mem_drop hv)
  generalize stt c o f (lastN c xs) (lastN c xs).length = s2 at hag2
  generalize stt c o f (alt xs) (alt xs).length = s3 at hot2
  generalize hs1 : stt c o f xs xs.length = s1 at hx
  obtain ⟨b1, m1⟩ := s1
  obtain ⟨b2, m2⟩ := s2
  obtain ⟨b3, m3⟩ := s3
  have oB : ∀ b : Bool, (PyData.bool b).showable = true ∧ (PyData.bool b).hasDict = false ∧ (PyData.bool b).depth ≤ 60 ∧ (PyData.bool b).shown.length ≤ sizeLine := fun b => (Flat.Sm.bl b).repr (by decide) (by decide)
  have eB : decide (some ((((c : Int), o, f), lastN c xs, b2) : (Int × Int × Int) × List Int × Bool) = some (((c : Int), o, f), lastN c xs, b1)) = decide (V.bl b1 = V.bl b2) := by
    cases b1 <;> cases b2 <;> simp
  refine ⟨_, rfl, _, rfl, x, (((c : Int), o, f), lastN c xs, b1), some (((c : Int), o, f), lastN c xs, b2), rfl, ow_of hx k.bs.ao lx bx, ow_of hag2 k.bs.ao lx bx, ?_⟩
  rw [eB]
  obtain ⟨r1, r2, r3, r4⟩ := oB (decide (V.bl b1 = V.bl b2))
  refine ⟨_, _, rfl, .bl _, r1, r2, r3, r4, ?_⟩
  refine ⟨_, rfl, x, al, _, _, _, rfl, hx, _, rfl, ag, al, _, _, _, rfl, hag2, rfl, _, _, rfl, .bl _, r1, r2, r3, r4, rfl, ?_⟩
  refine ⟨_, rfl, ite3 (fun h => nope h rfl) (fun _ => ?_)⟩
  refine ⟨_, rfl, _, rfl, x, (((c : Int), o, f), lastN c xs, b1), some (((c : Int), o, f), lastN c (alt xs), b3), rfl, ow_of hx k.bs.ao lx bx, ow_of hot2 k.bs.ao lo bo, ?_⟩
  have eO : decide (some ((((c : Int), o, f), lastN c (alt xs), b3) : (Int × Int × Int) × List Int × Bool) = some (((c : Int), o, f), lastN c xs, b1)) = false := decide_eq_false fun h => by
    injection h with h
    injection h with _ h
    injection h with h _
    exact alt_ne cn.c0 ne h.symm
  rw [eO]
  refine ⟨_, rfl, ite3 (fun h => by cases h) (fun _ => ?_)⟩
  obtain ⟨dx, fs, ex, lk, _⟩ := WtO.tw hx
  refine ⟨_, rfl, _, rfl, x, dx, fs, rfl, ex, lk, x, al, _, _, _, (c : Int), o, f, rfl, hx, k.bs.ao, fun y H2 S2 ny hy => ?_⟩
  refine ⟨x, (((c : Int), o, f), lastN c xs, b1), some (((c : Int), o, f), lastN c xs, b1), rfl, ow_of (hx.same S2) (k.bs.ao.same S2) lx bx, ow_of hy (k.bs.ao.same S2) lx bx, ?_⟩
  rw [decide_eq_true rfl]
  refine ⟨_, rfl, ite3 (fun h => by cases h) (fun _ => ?_)⟩
  exact nx _ _ ⟨r, x, d, xs, as, cut, x7, x8, x9, x10, x11, _, _, rfl, cn, hcut, k.bs.kw (Kw.of S2)⟩
def Q9 (K : PySem.W.Frag) : L2.St → Hp → Prop := fun σ H => ∃ r x d xs as, ∃ cut : Nat, ∃ x7 x8 x9 x10 x11 x12 x13 m, σ = [some (.ref p), some (.ref t), some (.ref al), some (.ref r), some (.ref x), some (.ref d), some (.int (cut : Int)), x7, x8, x9, x10, x11, x12, x13, some (.ref m)] ∧ Cn c o f xs ∧ cut < xs.length ∧ Bs K I0 H p a ns z0 t al c o f r d xs as ∧
  H m = some (.lst [.bl (stt c o f xs xs.length).1, .bl (stt c o f xs cut).1, .bl false])
theorem ps8 (T : Tx K mg) (hr : Room 8 (XR P w K mg base cdv A outer s H0 E).A) : PS (XR P w K mg base cdv A outer s H0 E) (stR 8) (tPP (Q8 I0 p a t al ns z0 c o f K) (Q9 I0 p a t al ns z0 c o f K)) := by
  refine PS.pp (ps_set (i := 14) ndR rfl (Or.inl rfl) (pe_lst (pa_cons (pe_ona T (hr.mono (by decide)) (by rfl) (pa_cons (pv 2) (pa_cons (pv 3) pa_nil)))
    (pa_cons (pe_onak T (hr.mono (by decide)) (by rfl) (pk_cons (pe_callTy call_tuple_of (by rfl) T.f_tuple (by kernel_rfl) (pa_cons (pe_slice sl_list (pv 3) po_none (po_some (pv 6))) pa_nil)) (pk_cons (pv 2) pk_nil)))
    (pa_cons (pe_ona T (hr.mono (by decide)) (by rfl) (pa_cons (pv 2) (pa_cons (pe_lst pa_nil) pa_nil))) pa_nil))))) (fun D σ H q nx => ?_)
  obtain ⟨r, x, d, xs, as, cut, x7, x8, x9, x10, x11, x12, x13, rfl, cn, hcut, bs⟩ := q
  have l1 := cn.l1
  have l2 := cn.l2
  refine ⟨_, rfl, _, rfl, al, r, c, o, f, xs, rfl, bs.ao, bs.rl, by omega, cn.bd, fun H1 S1 => ?_⟩
  refine ⟨_, rfl, _, rfl, _, rfl, ?_⟩
  refine ⟨r, _, rfl, SqL.of (S1 _ _ bs.rl), fun u hu => ?_⟩
  rw [cut_to (Nat.le_of_lt hcut)]
  have S2 : Same H _ := fun b ob h => Same.upd hu (o := .lst ((xs.take cut).map V.int)) b ob (S1 b ob h)
  refine ⟨u, _, rfl, .inl ⟨SqL.of upd_same, fun v hv => ?_⟩⟩
  have S3 : Same H _ := fun b ob h => Same.upd hv (o := .tup ((xs.take cut).map V.int)) b ob (S2 b ob h)
  refine ⟨_, rfl, .ref v, .ref al, rfl, al, v, c, o, f, xs.take cut, rfl, bs.ao.same S3, upd_same, by rw [List.length_take]; omega, fun y hy => cn.bd y (List.mem_of_mem_take hy), fun H4 S4 => ?_⟩
  have e1 : stt c o f (xs.take cut) (xs.take cut).length = stt c o f xs cut := by
    rw [List.length_take, Nat.min_eq_left (Nat.le_of_lt hcut)]
    exact stt_take cut (Nat.le_refl _)
  rw [e1]
  have S14 : Same H H4 := fun b ob h => S4 b ob (S3 b ob h)
  refine ⟨_, rfl, Nat.zero_le _, fun e he => ?_⟩
  have S5 : Same H (upd H4 e (.lst [])) := Same.new S14 he
  refine ⟨al, e, c, o, f, [], rfl, bs.ao.same S5, upd_same, by decide, (fun y hy => by cases hy), fun H6 S6 => ?_⟩
  have S16 : Same H H6 := fun b ob h => S6 b ob (S5 b ob h)
  refine ⟨(by show (3 : Nat) ≤ sizeLine; rw [sizeLine_eq]; decide), fun m hm => ?_⟩
  have S7 : Same H (upd H6 m (.lst [.bl (stt c o f xs xs.length).1, .bl (stt c o f xs cut).1, .bl (stt c o f [] 0).1])) := Same.new S16 hm
  exact nx _ _ ⟨r, x, d, xs, as, cut, x7, x8, x9, x10, x11, x12, x13, m, rfl, cn, hcut, bs.kw (Kw.of S7), upd_same⟩
theorem sm_bbb (a b c : Bool) : Flat.Sm 10 1 (.list [.bool a, .bool b, .bool c]) := ((Flat.SmA.cons (Flat.Sm.bl a) (.cons (Flat.Sm.bl b) (.cons (Flat.Sm.bl c) .nil))).lst).mono (by decide) (by decide)
def Rr (K : PySem.W.Frag) : Hp → Prop := fun H => Kp K p I0 H ∧ ∃ s g, Pen K H p a ns s g ∧ z0 ≤ s ∧ s ≤ z0 + 61
theorem ps9 (T : Tx K mg) (still : (XR P w K mg base cdv A outer s H0 E).A.guards = some []) (hr : Room 8 (XR P w K mg base cdv A outer s H0 E).A) : PS (XR P w K mg base cdv A outer s H0 E) (stR 9) (tPR (Q9 I0 p a t al ns z0 c o f K) (Rr I0 p a ns z0 K)) := by
  refine PS.pr (ps_ret (pe_cmpR op_eq (pe_callB (Shw.call_repr hr still) (by rfl) T.f_repr (by decide +kernel) (pa_cons (pv 14) pa_nil))
    (pe_callB (Shw.call_repr hr still) (by rfl) T.f_repr (by decide +kernel) (pa_cons (pe_lst (pa_cons (pe_ix ix_tup (pe_ix ix_list (pv 5) (pe_un un_neg pe_int) (fun _ _ => rfl)) pe_int (fun _ _ => rfl))
      (pa_cons (pe_ifExp (pt_cmpR op_gt (pv 6) pe_int (nomark _)) (pe_ix ix_tup (pe_ix ix_list (pv 5) (pe_op op_sub (pv 6) pe_int) (fun _ _ => rfl)) pe_int (fun _ _ => rfl)) pe_bl) (pa_cons pe_bl pa_nil)))) pa_nil)) (nomark _))) (fun D σ H q nx => ?_)
  obtain ⟨r, x, d, xs, as, cut, x7, x8, x9, x10, x11, x12, x13, m, rfl, cn, hcut, bs, hm⟩ := q
  have l1 := cn.l1
  obtain ⟨r1, r2, r3, r4⟩ := (sm_bbb (stt c o f xs xs.length).1 (stt c o f xs cut).1 false).repr (by decide) (by decide)
  have dp3 : ∀ {H2 : Hp} {u : Addr} {a b c : Bool}, H2 u = some (.lst [.bl a, .bl b, .bl c]) → Dp K H2 (.ref u) (.list [.bool a, .bool b, .bool c]) := fun h => .lst (SqL.of h) (.cons (.bl _) (.cons (.bl _) (.cons (.bl _) .nil)))
  refine ⟨_, rfl, _, _, rfl, dp3 hm, r1, r2, r3, r4, ?_⟩
  obtain ⟨v, e1, e2⟩ := due_last bs.du (by omega)
  refine ⟨_, rfl, _, rfl, d, _, _, _, rfl, rfl, SqL.of bs.du.at_, e1, v, _, _, _, rfl, rfl, SqT.of e2, atI_nat (j := 0) (v := .bl (stt c o f xs xs.length).1) rfl, ?_⟩
  have fin : ∀ (u : Addr), H u = none → (b : Bool) → b = (stt c o f xs cut).1 → Rr I0 p a ns z0 K (upd H u (.lst [.bl (stt c o f xs xs.length).1, .bl b, .bl false])) := fun u hu b _ => by
    have S := Same.upd hu (o := .lst [.bl (stt c o f xs xs.length).1, .bl b, .bl false])
    have bs2 := bs.kw (Kw.of S)
    exact ⟨bs2.kp, bs2.pt⟩
  refine ⟨_, rfl, _, _, rfl, rfl, _, rfl, ite3 (fun g => ?_) (fun g => ?_)⟩
  · have g2 : (0 : Int) < (cut : Int) := of_decide_eq_true g
    obtain ⟨u, f1, f2⟩ := due_at bs.du (show cut - 1 < xs.length by omega)
    rw [show cut - 1 + 1 = cut by omega] at f2
    refine ⟨_, rfl, _, rfl, _, _, rfl, rfl, d, _, _, _, rfl, rfl, SqL.of bs.du.at_, (by rw [show (cut : Int) - 1 = ((cut - 1 : Nat) : Int) by omega]; exact f1), u, _, _, _, rfl, rfl, SqT.of f2, atI_nat (j := 0) (v := .bl (stt c o f xs cut).1) rfl, ?_⟩
    refine ⟨(by show (3 : Nat) ≤ sizeLine; rw [sizeLine_eq]; decide), fun y hy => ?_⟩
    refine ⟨_, _, rfl, dp3 upd_same, r1, r2, r3, r4, rfl, ?_⟩
    rw [decide_eq_true rfl]
    exact nx _ (fin y hy _ rfl)
  · have g2 : cut = 0 := by
      have := of_decide_eq_false g
      omega
    subst g2
    refine ⟨(by show (3 : Nat) ≤ sizeLine; rw [sizeLine_eq]; decide), fun y hy => ?_⟩
    refine ⟨_, _, rfl, dp3 upd_same, r1, r2, r3, r4, rfl, ?_⟩
    have ez : decide (V.str (PyData.list [.bool (stt c o f xs xs.length).1, .bool (stt c o f xs 0).1, .bool false]).shown = V.str (PyData.list [.bool (stt c o f xs xs.length).1, .bool false, .bool false]).shown) = true := decide_eq_true rfl
    show D.rt (.bl (decide (V.str (PyData.list [.bool (stt c o f xs xs.length).1, .bool (stt c o f xs 0).1, .bool false]).shown = V.str (PyData.list [.bool (stt c o f xs xs.length).1, .bool false, .bool false]).shown))) _
    rw [ez]
    exact nx _ (fin y hy _ rfl)
end
end K48
set_option Elab.async false
set_option linter.all false
set_option maxRecDepth 100000
set_option maxHeartbeats 4000000
namespace K48
open PySem PySem.Spec PyProof.Rows L2 Pre Dfs Vls
section
variable {P : Program} {w : World} {K : PySem.W.Frag} {mg : Str → Option Value} {base : Heap}
def spRight (K : PySem.W.Frag) : Sp := fun vs H Q _ => ∃ (p a t al : Addr) (ns : List Int) (z0 g : Int) (c : Nat) (o f : Int), vs = [.ref p, .ref t, .ref al] ∧ Pen K H p a ns z0 g ∧ z0 < 800000 ∧ Co c o f ∧ H t = some (.tup [.int (c : Int), .int o, .int f]) ∧ AlO K H al c o f ∧
  ∀ (H' : Hp) (s' g' : Int), Kp K p H H' → Pen K H' p a ns s' g' → z0 ≤ s' → s' ≤ z0 + 61 → Q (.bl true) H'
theorem f_right (T : Tx K mg) :
    ∃ fd, Shw.FnG P w K mg base CX0 9 (He.ga K "_law_right") fd ["_law_pen_here", "_law_plain", "_law_alarm"] (spRight K) ∧ Binds K fd ["_law_pen_here", "_law_plain", "_law_alarm"] [] ∧ PySem.W.keepIn K (.ref (He.ga K "_law_right")) = true := by
  obtain ⟨fd, F⟩ := T.q_law_right
  refine ⟨fd, Shw.okG F (N := NR) ⟨rfl, rfl, rfl, ndR, rfl, by decide +kernel, by decide +kernel⟩ (fun vs H Q E h => ?_) (fun cdv A outer s H vs Q E hr still h => ?_), F.bindsN fun kV doc pm an cdv ct => bind3 fun a b c => rfl, F.kp⟩
  · obtain ⟨_, _, _, _, _, _, _, _, _, _, rfl, _⟩ := h
    rfl
  · obtain ⟨p, a, t, al, ns, z0, g, c, o, f, rfl, R, hz2, co, tu, ao, q⟩ := h
    have hz := R.s0
    rw [body_eq]
    refine ⟨_, pss_cons (ps0 (P := P) (w := w) (K := K) (mg := mg) (base := base) H p a t al ns z0 c o f T hz hz2 hr)
      (pss_cons (ps1 H p a t al ns z0 c o f T hz hz2 hr)
      (pss_cons (ps2 H p a t al ns z0 c o f T hr)
      (pss_cons (ps3 H p a t al ns z0 c o f T still hr)
      (pss_cons (ps4 H p a t al ns z0 c o f T hr)
      (pss_cons (ps5 H p a t al ns z0 c o f T hr)
      (pss_cons (ps6 H p a t al ns z0 c o f T hr)
      (pss_cons (ps7 H p a t al ns z0 c o f T still hr)
      (pss_cons (ps8 H p a t al ns z0 c o f T hr)
      (pss_one (ps9 H p a t al ns z0 c o f T still hr)))))))))), ?_⟩
    exact pp_go ⟨rfl, rfl, co, ⟨z0, g, R, Int.le_refl _, Int.le_refl _⟩, tu, ao⟩ fun _ _ s1 => pp_go s1 fun _ _ s2 => pp_go s2 fun _ _ s3 => pp_go s3 fun _ _ s4 => pp_go s4 fun _ _ s5 => pp_go s5 fun _ _ s6 => pp_go s6 fun _ _ s7 => pp_go s7 fun _ _ s8 =>
      pp_go s8 fun _ _ s9 => ⟨s9, fun H' z => by
        obtain ⟨kp, s', g', R', h1, h2⟩ := z
        exact q H' s' g' kp R' h1 h2⟩
end
end K48
set_option Elab.async false
set_option linter.all false
set_option maxRecDepth 100000
set_option maxHeartbeats 4000000
namespace K48
open PySem PySem.Spec PyProof.Rows L2 Pre Dfs Vls
abbrev NL : List Str := ["_law_script", "_law_pen_here", "_law_turn", "_law_columns", "_law_on", "_law_off", "_law_plain", "_law_alarm", "_law_some", "_law_one", "_law_other", "_law_steps_so", "_law_watch", "_law_rows_here"]
abbrev scL : Scope := defScope s_law
theorem ndL : NL.Nodup := by decide +kernel
def stL (i : Nat) : Stmt := (defBody s_law).getD i (.Pass default)
theorem bodyL_eq : defBody s_law = [stL 0, stL 1, stL 2, stL 3, stL 4, stL 5, stL 6] := rfl
def stK (i : Nat) : Stmt := (forBody (stL 1)).getD i (.Pass default)
theorem forK_eq : forBody (stL 1) = [stK 0, stK 1, stK 2, stK 3, stK 4, stK 5, stK 6, stK 7] := rfl
section
variable {P : Program} {w : World} {K : PySem.W.Frag} {mg : Str → Option Value} {base : Heap} {cdv : Value} {A : Around} {outer : List Env} {s : Shared} {H0 : Hp} {E : XK}
abbrev XL (P : Program) (w : World) (K : PySem.W.Frag) (mg : Str → Option Value) (base : Heap) (cdv : Value) (A : Around) (outer : List Env) (s : Shared) (H0 : Hp) (E : XK) : Cx := cxOf CX0 P w K mg base NL "law" scL (He.ga K "law") cdv A outer s H0 E
/-- the slots of the law -/
abbrev sl (a0 p : Addr) (i : Nat) (x3 x4 x5 x6 x7 x8 x9 x10 x11 x12 x13 : Option V) : L2.St := [some (.ref a0), some (.ref p), some (.int (i : Int)), x3, x4, x5, x6, x7, x8, x9, x10, x11, x12, x13]
variable (a0 p a : Addr) (ns : List Int) (i : Nat)
def M0 (K : PySem.W.Frag) : L2.St → Hp → Prop := fun σ H => ∃ x3 x4 x5 x6 x7 x8 x9 x10 x11 x12 x13, σ = sl a0 p i x3 x4 x5 x6 x7 x8 x9 x10 x11 x12 x13 ∧ Pt K H p a ns 0 (100 * i)
def M1 (K : PySem.W.Frag) : L2.St → Hp → Prop := fun σ H => ∃ x5 x6 x7 x8 x9 x10 x11 x12 x13, ∃ c : Nat, ∃ o : Int, σ = sl a0 p i (some (.int (c : Int))) (some (.int o)) x5 x6 x7 x8 x9 x10 x11 x12 x13 ∧ Pt K H p a ns 0 (100 * i + 5) ∧ 0 < c ∧ c ≤ 4 ∧ 1 ≤ o ∧ o ≤ 10 ^ 20
def M2 (K : PySem.W.Frag) : L2.St → Hp → Prop := fun σ H => ∃ x6 x7 x8 x9 x10 x11 x12 x13, ∃ c : Nat, ∃ o f : Int, ∃ y : V, σ = sl a0 p i (some (.int (c : Int))) (some (.int o)) (some y) x6 x7 x8 x9 x10 x11 x12 x13 ∧ Pt K H p a ns 0 (100 * i + 10) ∧ Co c o f ∧ OffOk y o f
def M3 (K : PySem.W.Frag) : L2.St → Hp → Prop := fun σ H => ∃ x8 x9 x10 x11 x12 x13, ∃ c : Nat, ∃ o f : Int, ∃ y t al, σ = sl a0 p i (some (.int (c : Int))) (some (.int o)) (some y) (some (.ref t)) (some (.ref al)) x8 x9 x10 x11 x12 x13 ∧ Pt K H p a ns 0 (100 * i + 10) ∧ Co c o f ∧ OffOk y o f ∧
  H t = some (.tup [.int (c : Int), .int o, .int f]) ∧ AlO K H al c o f
def M6 (K : PySem.W.Frag) : L2.St → Hp → Prop := fun σ H => ∃ b x9 x10 x11 x12 x13, ∃ c : Nat, ∃ o f : Int, ∃ y t al vs, σ = sl a0 p i (some (.int (c : Int))) (some (.int o)) (some y) (some (.ref t)) (some (.ref al)) (some (.ref b)) x9 x10 x11 x12 x13 ∧ Pt K H p a ns 0 (100 * i + 10) ∧ Co c o f ∧ OffOk y o f ∧
  H t = some (.tup [.int (c : Int), .int o, .int f]) ∧ AlO K H al c o f ∧ H b = some (.lst vs) ∧ ∀ v ∈ vs, ∃ q, Oa K H v q ∧ q ≠ some ((c : Int), o, f)
theorem Pt.same {H H' : Hp} {lo hi : Int} (h : Pt K H p a ns lo hi) (S : Same H H') : Pt K H' p a ns lo hi := by
  obtain ⟨s, g, R, h1, h2⟩ := h
  exact ⟨s, g, R.same S, h1, h2⟩
theorem pk0 (T : Tx K mg) (hi : i < 6) (hr : Room 9 (XL P w K mg base cdv A outer s H0 E).A) : PS (XL P w K mg base cdv A outer s H0 E) (stK 0) (tPP (M0 a0 p a ns i K) (M1 a0 p a ns i K)) := by
  refine PS.pp (ps_par (i := 3) (j := 4) rfl ndL rfl rfl (by decide) rfl rfl (pa_cons (pe_op op_add pe_int (pe_d (d_draw T) (hr.mono (by decide)) (by rfl) (E := E) p0 (pa_cons (pv 1) (pa_cons pe_int pa_nil))))
    (pa_cons (pe_d (d_pick T) (hr.mono (by decide)) (by rfl) (E := E) p0 (pa_cons (pv 1) (pa_cons (pe_lst (pa_cons pe_int (pa_cons pe_int (pa_cons (pe_op op_add pe_int (pe_d (d_draw T) (hr.mono (by decide)) (by rfl) (E := E) p0 (pa_cons (pv 1) (pa_cons pe_int pa_nil)))) (pa_cons (pe_op op_pow pe_int pe_int) pa_nil))))) pa_nil))) pa_nil)) (by rfl)) (fun D σ H q nx => ?_)
  obtain ⟨x3, x4, x5, x6, x7, x8, x9, x10, x11, x12, x13, rfl, s1, g1, R, h1, h2⟩ := q
  refine ⟨_, rfl, p, a, ns, s1, g1, 4, rfl, R, by omega, by decide, by decide, fun H1 s2 g2 k b1 R1 h3 h4 h5 h6 => ?_⟩
  obtain ⟨n, rfl⟩ := Int.eq_ofNat_of_zero_le h5
  refine ⟨_, _, rfl, rfl, _, rfl, ?_⟩
  refine ⟨_, rfl, p, a, ns, s2, g2, 9, rfl, R1, by omega, by decide, by decide, fun H2 s3 g3 m b2 R2 h7 h8 h9 h10 => ?_⟩
  refine ⟨_, _, rfl, rfl, _, _, rfl, rfl, ⟨by decide, by decide, by decide⟩, (by show (4 : Nat) ≤ sizeLine; rw [sizeLine_eq]; decide), fun u hu => ?_⟩
  have S3 := Same.upd hu (o := .lst [.int 1, .int 2, .int (1 + m), .int ((10 : Int) ^ (20 : Int).toNat)])
  refine ⟨p, a, u, ns, s3, g3, _, rfl, R2.same S3, by omega, (ne_of_none R2.at_ hu).symm, upd_same, (by show (0 : Nat) < 4; decide), (by show (4 : Nat) < 1000; decide), fun H4 s4 g4 x b4 R4 n1 n2 hx => ?_⟩
  have hx2 : ∃ o : Int, x = .int o ∧ 1 ≤ o ∧ o ≤ 10 ^ 20 := by
    have e20 : (10 : Int) ^ 20 = 100000000000000000000 := by decide
    simp only [List.mem_cons, List.not_mem_nil, or_false] at hx
    rcases hx with rfl | rfl | rfl | rfl
    · exact ⟨_, rfl, by decide, by decide⟩
    · exact ⟨_, rfl, by decide, by decide⟩
    · exact ⟨_, rfl, by omega, by rw [e20]; omega⟩
    · exact ⟨_, rfl, by decide, by decide⟩
  obtain ⟨o, rfl, o1, o2⟩ := hx2
  have en : (1 : Int) + ((n : Nat) : Int) = ((n + 1 : Nat) : Int) := by omega
  have fin := nx (sl a0 p i (some (.int ((n + 1 : Nat) : Int))) (some (.int o)) x5 x6 x7 x8 x9 x10 x11 x12 x13) H4 ⟨x5, x6, x7, x8, x9, x10, x11, x12, x13, n + 1, o, rfl, ⟨s4, g4, R4, by omega, by omega⟩, by omega, by omega, o1, o2⟩
  rw [← en] at fin
  exact ⟨_, _, rfl, fin⟩
theorem pk1 (T : Tx K mg) (hi : i < 6) (hr : Room 9 (XL P w K mg base cdv A outer s H0 E).A) : PS (XL P w K mg base cdv A outer s H0 E) (stK 1) (tPP (M1 a0 p a ns i K) (M2 a0 p a ns i K)) := by
  refine PS.pp (ps_set (i := 5) ndL rfl (Or.inl rfl) (pe_d (d_pick T) (hr.mono (by decide)) (by rfl) (E := E) p0 (pa_cons (pv 1) (pa_cons (pe_lst (pa_cons pe_non (pa_cons (pv 4) (pa_cons pe_int (pa_cons (pe_op op_add pe_int (pe_d (d_draw T) (hr.mono (by decide)) (by rfl) (E := E) p0 (pa_cons (pv 1) (pa_cons (pv 4) pa_nil)))) pa_nil))))) pa_nil)))) (fun D σ H q nx => ?_)
  obtain ⟨x5, x6, x7, x8, x9, x10, x11, x12, x13, c, o, rfl, ⟨s1, g1, R, h1, h2⟩, c0, c1, o1, o2⟩ := q
  have e20 : (10 : Int) ^ 20 = 100000000000000000000 := by decide
  have e60 : (10 : Int) ^ 60 = 1000000000000000000000000000000000000000000000000000000000000 := by decide
  refine ⟨_, rfl, _, rfl, _, rfl, _, rfl, p, a, ns, s1, g1, o, rfl, R, by omega, by omega, by rw [e60]; rw [e20] at o2; omega, fun H2 s3 g3 m b2 R2 h7 h8 h9 h10 => ?_⟩
  refine ⟨_, _, rfl, rfl, (by show (4 : Nat) ≤ sizeLine; rw [sizeLine_eq]; decide), fun u hu => ?_⟩
  have S3 := Same.upd hu (o := .lst [.non, .int o, .int 1, .int (1 + m)])
  refine ⟨p, a, u, ns, s3, g3, _, rfl, R2.same S3, by omega, (ne_of_none R2.at_ hu).symm, upd_same, (by show (0 : Nat) < 4; decide), (by show (4 : Nat) < 1000; decide), fun H4 s4 g4 x b4 R4 n1 n2 hx => ?_⟩
  have hx2 : ∃ f : Int, OffOk x o f ∧ 1 ≤ f ∧ f ≤ o := by
    simp only [List.mem_cons, List.not_mem_nil, or_false] at hx
    rcases hx with rfl | rfl | rfl | rfl
    · exact ⟨o, .inl ⟨rfl, rfl⟩, o1, Int.le_refl _⟩
    · exact ⟨o, .inr ⟨rfl, o1, Int.le_refl _⟩, o1, Int.le_refl _⟩
    · exact ⟨1, .inr ⟨rfl, Int.le_refl _, o1⟩, Int.le_refl _, o1⟩
    · exact ⟨1 + m, .inr ⟨rfl, by omega, by omega⟩, by omega, by omega⟩
  obtain ⟨f, ho, f1, f2⟩ := hx2
  exact nx _ _ ⟨x6, x7, x8, x9, x10, x11, x12, x13, c, o, f, x, rfl, ⟨s4, g4, R4, by omega, by omega⟩, ⟨c0, c1, f1, f2, o2⟩, ho⟩
theorem off_val {y : V} {o f : Int} (h : OffOk y o f) : (y = .non ∧ f = o) ∨ y = .int f := by
  rcases h with h | h
  · exact .inl h
  · exact .inr h.1
theorem pk2 (T : Tx K mg) (hr : Room 9 (XL P w K mg base cdv A outer s H0 E).A) : PS (XL P w K mg base cdv A outer s H0 E) (stK 2) (tPP (M2 a0 p a ns i K) (M3 a0 p a ns i K)) := by
  refine PS.pp (ps_asg (pe_tup (pa_cons (pe_tup (pa_cons (pv 3) (pa_cons (pv 4) (pa_cons (pe_ifExp (pt_cmpR op_isN (pv 5) pe_non (nomark _)) (pv 4) (pv 5)) pa_nil)))) (pa_cons (pe_al3 T (hr.mono (by decide)) (by rfl) (pa_cons (pv 3) (pa_cons (pv 4) (pa_cons (pv 5) pa_nil)))) pa_nil)))
    (pg_tup rfl (pgs_cons (pg_name (i := 6) ndL rfl (Or.inl rfl)) (pgs_cons (pg_name (i := 7) ndL rfl (Or.inr rfl)) pgs_nil)))) (fun D σ H q nx => ?_)
  obtain ⟨x6, x7, x8, x9, x10, x11, x12, x13, c, o, f, y, rfl, pt, co, ho⟩ := q
  have c1 := co.c1
  have c0 := co.c0
  have f1 := co.f1
  have f2 := co.f2
  have o2 := co.o2
  have tail : ∀ (u : Addr) (H1 : Hp), Same H H1 → H1 u = some (.tup [.int (c : Int), .int o, .int f]) → ∀ (al : Addr) (H2 : Hp), Same H1 H2 → AlO K H2 al c o f → ∀ (q : Addr) (H3 : Hp), Same H2 H3 →
      D.nx (sl a0 p i (some (.int (c : Int))) (some (.int o)) (some y) (some (.ref u)) (some (.ref al)) x8 x9 x10 x11 x12 x13) H3 := fun u H1 S1 e1 al H2 S2 ha q H3 S3 =>
    nx _ _ ⟨x8, x9, x10, x11, x12, x13, c, o, f, y, u, al, rfl, pt.same p a ns (fun b ob h => S3 b ob (S2 b ob (S1 b ob h))), co, ho, S3 _ _ (S2 _ _ e1), ha.same S3⟩
  have al3' : (1 ≤ (c : Int) ∧ (c : Int) ≤ 50) ∧ (1 ≤ o ∧ o ≤ 10 ^ 20) := ⟨⟨by omega, by omega⟩, by omega, o2⟩
  rcases off_val ho with ⟨rfl, rfl⟩ | rfl
  · refine ⟨_, rfl, _, rfl, _, rfl, rfl, _, rfl, ite3 (fun _ => ?_) (fun h => by cases h)⟩
    refine ⟨_, rfl, (by show (3 : Nat) ≤ sizeLine; rw [sizeLine_eq]; decide), fun u hu => ?_⟩
    refine ⟨_, rfl, _, rfl, _, rfl, (c : Int), f, .non, f, rfl, al3'.1, al3'.2, ho, fun al H2 S2 n2 ha => ?_⟩
    refine ⟨(by show (2 : Nat) ≤ sizeLine; rw [sizeLine_eq]; decide), fun v hv => ⟨v, _, rfl, SqT.of upd_same, rfl, _, _, rfl, _, _, rfl, rfl, ?_⟩⟩
    exact tail u _ (Same.upd hu) upd_same al H2 S2 ha v _ (Same.upd hv)
  · refine ⟨_, rfl, _, rfl, _, rfl, rfl, _, rfl, ite3 (fun h => by cases h) (fun _ => ?_)⟩
    refine ⟨_, rfl, (by show (3 : Nat) ≤ sizeLine; rw [sizeLine_eq]; decide), fun u hu => ?_⟩
    refine ⟨_, rfl, _, rfl, _, rfl, (c : Int), o, .int f, f, rfl, al3'.1, al3'.2, ho, fun al H2 S2 n2 ha => ?_⟩
    refine ⟨(by show (2 : Nat) ≤ sizeLine; rw [sizeLine_eq]; decide), fun v hv => ⟨v, _, rfl, SqT.of upd_same, rfl, _, _, rfl, _, _, rfl, rfl, ?_⟩⟩
    exact tail u _ (Same.upd hu) upd_same al H2 S2 ha v _ (Same.upd hv)
end
end K48
set_option Elab.async false
set_option linter.all false
set_option maxRecDepth 100000
set_option maxHeartbeats 4000000
namespace K48
open PySem PySem.Spec PyProof.Rows L2 Pre Dfs Vls
theorem sm_iii {i j k : Int} (hi : i.natAbs < 10 ^ 50) (hj : j.natAbs < 10 ^ 50) (hk : k.natAbs < 10 ^ 50) : Flat.Sm 514 1 (.tuple [.int i, .int j, .int k]) :=
  ((Flat.SmA.cons (Flat.Sm.int hi) (.cons (Flat.Sm.int hj) (.cons (Flat.Sm.int hk) .nil))).tup).mono (by decide) (by decide)
theorem dp_iii {K : PySem.W.Frag} {H : Hp} {u : Addr} {i j k : Int} (h : H u = some (.tup [.int i, .int j, .int k])) : Dp K H (.ref u) (.tuple [.int i, .int j, .int k]) := .tup (SqT.of h) (.cons (.int i) (.cons (.int j) (.cons (.int k) .nil)))
theorem on50 {o : Int} (h : 1 ≤ o) (h2 : o ≤ 10 ^ 20) : o.natAbs < 10 ^ 50 := nat50 ⟨by omega, by
  have e20 : (10 : Int) ^ 20 = 100000000000000000000 := by decide
  have e40 : (10 : Int) ^ 40 = 10000000000000000000000000000000000000000 := by decide
  rw [e40]
  rw [e20] at h2
  omega⟩
theorem Co.b {c : Nat} {o f : Int} (co : Co c o f) : (1 ≤ (c : Int) ∧ (c : Int) ≤ 50) ∧ (1 ≤ o ∧ o ≤ 10 ^ 20) ∧ (1 ≤ (c : Int) + 1 ∧ (c : Int) + 1 ≤ 50) := by
  have c1 := co.c1
  have c0 := co.c0
  have f1 := co.f1
  have f2 := co.f2
  exact ⟨⟨by omega, by omega⟩, ⟨by omega, co.o2⟩, by omega, by omega⟩
section
variable {P : Program} {w : World} {K : PySem.W.Frag} {mg : Str → Option Value} {base : Heap} {cdv : Value} {A : Around} {outer : List Env} {s : Shared} {H0 : Hp} {E : XK}
variable (a0 p a : Addr) (ns : List Int) (i : Nat)
theorem pk3 (T : Tx K mg) (still : (XL P w K mg base cdv A outer s H0 E).A.guards = some []) (hr : Room 9 (XL P w K mg base cdv A outer s H0 E).A) : PS (XL P w K mg base cdv A outer s H0 E) (stK 3) (tPP (M3 a0 p a ns i K) (M3 a0 p a ns i K)) := by
  refine PS.pp (ps_if (PW.pt (pw_or (pt_cmpR op_ne (pe_callB (Shw.call_repr hr still) (by rfl) T.f_repr (by decide +kernel) (pa_cons (pe_tup (pa_cons (fld (pv 7)) (pa_cons (fld (pv 7)) (pa_cons (fld (pv 7)) pa_nil)))) pa_nil))
        (pe_callB (Shw.call_repr hr still) (by rfl) T.f_repr (by decide +kernel) (pa_cons (pv 6) pa_nil)) (nomark _))
      (pw_or1 (pt_cmpR (op_neA T (hr.mono (by decide))) (pv 7) (pe_alk T (hr.mono (by decide)) (by rfl) (pk_cons (pv 5) (pk_cons (pv 4) (pk_cons (pv 3) pk_nil)))) (nomark _))))) (pss_one (ps_ret pe_bl)) pss_nil) (fun D σ H q nx => ?_)
  obtain ⟨x8, x9, x10, x11, x12, x13, c, o, f, y, t, al, rfl, pt, co, ho, tu, ao⟩ := q
  obtain ⟨dx, ea⟩ := id ao
  have c1 := co.c1
  obtain ⟨bc, bo, _⟩ := co.b
  have f50 : f.natAbs < 10 ^ 50 := on50 co.f1 (Int.le_trans co.f2 co.o2)
  have sm := sm_iii (i := (c : Int)) (j := o) (k := f) (nat50' (k := 50) (by omega) (by omega) (by decide)) (on50 bo.1 bo.2) f50
  obtain ⟨r1, r2, r3, r4⟩ := sm.repr (by decide) (by decide)
  refine ⟨_, rfl, al, _, _, _, _, rfl, ea, T.c_Alarm, T.n_Alarm_columns, rfl, _, rfl, al, _, _, _, _, rfl, ea, T.c_Alarm, T.n_Alarm_on, rfl, _, rfl, al, _, _, _, _, rfl, ea, T.c_Alarm, T.n_Alarm_off, rfl, (by show (3 : Nat) ≤ sizeLine; rw [sizeLine_eq]; decide), fun u hu => ?_⟩
  have S1 := Same.upd hu (o := .tup [.int (c : Int), .int o, .int f])
  refine ⟨_, _, rfl, dp_iii upd_same, r1, r2, r3, r4, ?_⟩
  refine ⟨_, rfl, _, _, rfl, dp_iii (S1 _ _ tu), r1, r2, r3, r4, rfl, ?_⟩
  refine ⟨_, rfl, ite3 (fun h => nope h rfl) (fun _ => ?_)⟩
  refine ⟨_, rfl, _, rfl, _, rfl, _, rfl, (c : Int), o, y, f, rfl, bc, bo, ho, fun al2 H2 S2 n2 ha => ?_⟩
  have S12 : Same H H2 := fun b ob h => S2 b ob (S1 b ob h)
  refine ⟨al, (c : Int), o, f, some ((c : Int), o, f), rfl, ao.same S12, .al ha, ?_⟩
  rw [decide_eq_true rfl]
  refine ⟨_, rfl, ite3 (fun h => by cases h) (fun _ => ?_)⟩
  exact nx _ _ ⟨x8, x9, x10, x11, x12, x13, c, o, f, y, t, al, rfl, pt.same p a ns S12, co, ho, S12 _ _ tu, ao.same S12⟩
theorem pk4 (T : Tx K mg) (hr : Room 9 (XL P w K mg base cdv A outer s H0 E).A) : PS (XL P w K mg base cdv A outer s H0 E) (stK 4) (tPP (M3 a0 p a ns i K) (M3 a0 p a ns i K)) := by
  refine PS.pp (ps_if (PW.pt (pw_or (pt_cmpR (op_eqW T (hr.mono (by decide))) (pe_wt T (hr.mono (by decide)) (by rfl) (pa_cons (pv 7) pa_nil)) (pe_wt T (hr.mono (by decide)) (by rfl) (pa_cons (pe_al3 T (hr.mono (by decide)) (by rfl) (pa_cons (pe_op op_add (pv 3) pe_int) (pa_cons (pv 4) (pa_cons (pv 5) pa_nil)))) pa_nil)) (nomark _))
      (pw_or1 (pt_cmpR (op_eqW T (hr.mono (by decide))) (pe_wt T (hr.mono (by decide)) (by rfl) (pa_cons (pv 7) pa_nil)) (pv 7) (nomark _))))) (pss_one (ps_ret pe_bl)) pss_nil) (fun D σ H q nx => ?_)
  obtain ⟨x8, x9, x10, x11, x12, x13, c, o, f, y, t, al, rfl, pt, co, ho, tu, ao⟩ := q
  obtain ⟨bc, bo, bc1⟩ := co.b
  refine ⟨_, rfl, al, (c : Int), o, f, rfl, ao, fun w1 H1 S1 n1 hw1 => ?_⟩
  refine ⟨_, rfl, _, _, rfl, rfl, _, rfl, _, rfl, (c : Int) + 1, o, y, f, rfl, bc1, bo, ho, fun al2 H2 S2 n2 ha2 => ?_⟩
  refine ⟨al2, (c : Int) + 1, o, f, rfl, ha2, fun w2 H3 S3 n3 hw2 => ?_⟩
  have S13 : Same H1 H3 := fun b ob h => S3 b ob (S2 b ob h)
  have S03 : Same H H3 := fun b ob h => S13 b ob (S1 b ob h)
  refine ⟨w1, (((c : Int), o, f), [], false), some (((c : Int) + 1, o, f), [], false), rfl, ow_of (hw1.same S13) (ao.same S03) (by decide) (fun _ h => by cases h), ow_of hw2 (ha2.same S3) (by decide) (fun _ h => by cases h), ?_⟩
  have e1 : decide (some ((((c : Int) + 1, o, f), [], false) : (Int × Int × Int) × List Int × Bool) = some (((c : Int), o, f), [], false)) = false := decide_eq_false fun h => by
    injection h with h
    injection h with h _
    injection h with h _
    omega
  rw [e1]
  refine ⟨_, rfl, ite3 (fun h => by cases h) (fun _ => ?_)⟩
  refine ⟨_, rfl, al, (c : Int), o, f, rfl, ao.same S03, fun w4 H4 S4 n4 hw4 => ?_⟩
  have S04 : Same H H4 := fun b ob h => S4 b ob (S03 b ob h)
  refine ⟨_, rfl, w4, (((c : Int), o, f), [], false), none, rfl, ow_of hw4 (ao.same S04) (by decide) (fun _ h => by cases h), .al (ao.same S04), ?_⟩
  refine ⟨_, rfl, ite3 (fun h => by cases h) (fun _ => ?_)⟩
  exact nx _ _ ⟨x8, x9, x10, x11, x12, x13, c, o, f, y, t, al, rfl, pt.same p a ns S04, co, ho, S04 _ _ tu, ao.same S04⟩
theorem pk5 (T : Tx K mg) (hr : Room 9 (XL P w K mg base cdv A outer s H0 E).A) : PS (XL P w K mg base cdv A outer s H0 E) (stK 5) (tPP (M3 a0 p a ns i K) (M6 a0 p a ns i K)) := by
  refine PS.pp (ps_set (i := 8) ndL rfl (Or.inl rfl) (pe_op op_cat (pe_lst (pa_cons (pe_al3 T (hr.mono (by decide)) (by rfl) (pa_cons (pe_op op_add (pv 3) pe_int) (pa_cons (pv 4) (pa_cons (pv 5) pa_nil)))) (pa_cons pe_non (pa_cons (pv 6) (pa_cons pe_str (pa_cons (pe_wt T (hr.mono (by decide)) (by rfl) (pa_cons (pv 7) pa_nil)) pa_nil))))))
    (pe_ifExp (pt_cmpR op_gt (pv 4) pe_int (nomark _)) (pe_lst (pa_cons (pe_al2 T (hr.mono (by decide)) (by rfl) (pa_cons (pv 3) (pa_cons (pe_op op_sub (pv 4) pe_int) pa_nil))) pa_nil)) (pe_lst pa_nil)))) (fun D σ H q nx => ?_)
  obtain ⟨x8, x9, x10, x11, x12, x13, c, o, f, y, t, al, rfl, pt, co, ho, tu, ao⟩ := q
  obtain ⟨bc, bo, bc1⟩ := co.b
  have f2 := co.f2
  have f1 := co.f1
  refine ⟨_, rfl, _, _, rfl, rfl, _, rfl, _, rfl, (c : Int) + 1, o, y, f, rfl, bc1, bo, ho, fun al2 H1 S1 n1 ha2 => ?_⟩
  refine ⟨_, rfl, _, rfl, al, (c : Int), o, f, rfl, ao.same S1, fun w1 H2 S2 n2 hw1 => ?_⟩
  have S02 : Same H H2 := fun b ob h => S2 b ob (S1 b ob h)
  refine ⟨(by show (5 : Nat) ≤ sizeLine; rw [sizeLine_eq]; decide), fun u hu => ?_⟩
  have S3 := Same.upd hu (o := .lst [.ref al2, .non, .ref t, .str "alarm", .ref w1])
  have S03 : Same H _ := fun b ob h => S3 b ob (S02 b ob h)
  obtain ⟨dw, tw, ew, _⟩ := id hw1
  have five : ∀ {H5 : Hp}, Same (upd H2 u (.lst [.ref al2, .non, .ref t, .str "alarm", .ref w1])) H5 → ∀ v ∈ [V.ref al2, .non, .ref t, .str "alarm", .ref w1], ∃ q, Oa K H5 v q ∧ q ≠ some ((c : Int), o, f) := fun S v hv => by
    simp only [List.mem_cons, List.not_mem_nil, or_false] at hv
    rcases hv with rfl | rfl | rfl | rfl | rfl
    · exact ⟨_, .al (((ha2.same S2).same S3).same S), fun h => by
        injection h with h
        injection h with h _
        omega⟩
    · exact ⟨_, .non, fun h => by cases h⟩
    · exact ⟨_, .tup (S _ _ (S03 _ _ tu)), fun h => by cases h⟩
    · exact ⟨_, .str _, fun h => by cases h⟩
    · exact ⟨_, .wt (S _ _ (S3 _ _ ew)), fun h => by cases h⟩
  refine ⟨_, rfl, _, _, rfl, rfl, _, rfl, ite3 (fun g => ?_) (fun g => ?_)⟩
  · have g2 : 1 < o := of_decide_eq_true g
    have o2 := bo.2
    refine ⟨_, rfl, _, rfl, _, _, rfl, rfl, (c : Int), o - 1, .non, o - 1, ⟨rfl, rfl⟩, bc, ⟨by omega, by omega⟩, .inl ⟨rfl, rfl⟩, fun al3 H4 S4 n4 ha3 => ?_⟩
    refine ⟨(by show (1 : Nat) ≤ sizeLine; rw [sizeLine_eq]; decide), fun v hv => ?_⟩
    have S5 := Same.upd hv (o := .lst [.ref al3])
    refine ⟨u, v, _, _, rfl, rfl, S5 _ _ (S4 _ _ upd_same), upd_same, (by show (6 : Nat) ≤ sizeLine; rw [sizeLine_eq]; decide), fun q hq => ?_⟩
    have S6 := Same.upd hq (o := .lst ([V.ref al2, .non, .ref t, .str "alarm", .ref w1] ++ [.ref al3]))
    have S36 : Same (upd H2 u (.lst [.ref al2, .non, .ref t, .str "alarm", .ref w1])) _ := fun b ob h => S6 b ob (S5 b ob (S4 b ob h))
    have S06 : Same H _ := fun b ob h => S36 b ob (S03 b ob h)
    refine nx _ _ ⟨q, x9, x10, x11, x12, x13, c, o, f, y, t, al, _, rfl, pt.same p a ns S06, co, ho, S06 _ _ tu, ao.same S06, upd_same, fun v' hv' => ?_⟩
    rcases List.mem_append.mp hv' with h | h
    · exact five S36 v' h
    · obtain rfl : v' = .ref al3 := by simpa using h
      exact ⟨_, .al ((ha3.same S5).same S6), fun h => by
        injection h with h
        injection h with _ h
        injection h with h _
        omega⟩
  · refine ⟨Nat.zero_le _, fun v hv => ?_⟩
    have S5 := Same.upd hv (o := .lst [])
    refine ⟨u, v, _, _, rfl, rfl, S5 _ _ upd_same, upd_same, (by show (5 : Nat) ≤ sizeLine; rw [sizeLine_eq]; decide), fun q hq => ?_⟩
    have S6 := Same.upd hq (o := .lst ([V.ref al2, .non, .ref t, .str "alarm", .ref w1] ++ []))
    have S36 : Same (upd H2 u (.lst [.ref al2, .non, .ref t, .str "alarm", .ref w1])) _ := fun b ob h => S6 b ob (S5 b ob h)
    have S06 : Same H _ := fun b ob h => S36 b ob (S03 b ob h)
    refine nx _ _ ⟨q, x9, x10, x11, x12, x13, c, o, f, y, t, al, _, rfl, pt.same p a ns S06, co, ho, S06 _ _ tu, ao.same S06, upd_same, fun v' hv' => ?_⟩
    rw [List.append_nil] at hv'
    exact five S36 v' hv'
end
end K48
set_option Elab.async false
set_option linter.all false
set_option maxRecDepth 100000
set_option maxHeartbeats 4000000
namespace K48
open PySem PySem.Spec PyProof.Rows L2 Pre Dfs Vls
section
variable {P : Program} {w : World} {K : PySem.W.Frag} {mg : Str → Option Value} {base : Heap} {cdv : Value} {A : Around} {outer : List Env} {s : Shared} {H0 : Hp} {E : XK}
variable (a0 p a : Addr) (ns : List Int) (i : Nat)
theorem pk6 (T : Tx K mg) (hr : Room 9 (XL P w K mg base cdv A outer s H0 E).A) : PS (XL P w K mg base cdv A outer s H0 E) (stK 6) (tPP (M6 a0 p a ns i K) (M3 a0 p a ns i K)) := by
  refine PS.pp (ps_if (PW.pt (pw_or (pt_cmpR (op_neD hr.units) (pe_lc rfl ndL (pi_list (pv 8)) (own := [("_law_one", 9)]) (blk_by (by kernel_rfl)) (fun _ _ _ _ _ => pg_name (i := 9) ndL rfl (Or.inl rfl))
        (fun _ _ _ _ _ => pts_one (pt_cmpR (X := Cx.blk _ _ _ _ _ _) (r := rEqA K) (op_eqA T (hr.mono (by decide))) (pv 7) (pe_var (i := 9) rfl (Or.inl rfl)) (nomark _))) (fun _ _ _ _ _ => pe_var (i := 9) rfl (Or.inl rfl))) (pe_lst pa_nil) (nomark _))
      (pw_or1 (pt_cmpR op_ne (pe_cmpR (op_eqA T (hr.mono (by decide))) (pv 7) (pe_al2 T (hr.mono (by decide)) (by rfl) (pa_cons (pv 3) (pa_cons (pv 4) pa_nil))) (nomark _)) (pe_cmpR op_eq (pe_ix ix_tup (pv 6) pe_int (fun _ _ => rfl)) (pv 4) (nomark _)) (nomark _))))) (pss_one (ps_ret pe_bl)) pss_nil) (fun D σ H q nx => ?_)
  obtain ⟨b, x9, x10, x11, x12, x13, c, o, f, y, t, al, vs, rfl, pt, co, ho, tu, ao, hb, hv⟩ := q
  obtain ⟨bc, bo, bc1⟩ := co.b
  refine ⟨_, rfl, b, rfl, ⟨_, SqL.of hb⟩, fun D0 hD => ?_⟩
  have S0 := Same.upd hD (o := .lst [])
  refine lc_it (walk_list (xs := vs)) (fun j H1 => Same H H1 ∧ H1 D0 = some (.lst [])) ⟨S0, upd_same⟩ (fun j H1 _ z => SqL.of (z.1 _ _ hb)) (fun j v H1 H3 hj z yy => ?_) (fun H1 z => ?_)
  · obtain ⟨rfl, hx⟩ := yy
    obtain ⟨q, oa, nq⟩ := hv v (List.mem_of_getElem? hx)
    refine ⟨rfl, ?_⟩
    refine ⟨_, rfl, _, rfl, al, (c : Int), o, f, q, rfl, ao.same z.1, oa.same z.1, ?_⟩
    rw [decide_eq_false nq]
    exact ⟨_, rfl, ite3 (fun h => by cases h) (fun _ => z)⟩
  · obtain ⟨S1, e1⟩ := z
    refine ⟨Nat.zero_le _, fun u hu => ?_⟩
    have S2 := Same.upd hu (o := .lst [])
    have S02 : Same H _ := fun b' ob h => S2 b' ob (S1 b' ob h)
    refine ⟨_, _, .lst (SqL.of (S2 _ _ e1)) .nil, .lst (SqL.of upd_same) .nil, by decide, by decide, _, rfl, ite3 (fun h => by simp [PyData.eqv, PyData.eqvAll] at h) (fun _ => ?_)⟩
    refine ⟨_, rfl, _, rfl, _, rfl, (c : Int), o, .non, o, ⟨rfl, rfl⟩, bc, bo, .inl ⟨rfl, rfl⟩, fun al2 H3 S3 n3 ha => ?_⟩
    have S03 : Same H H3 := fun b' ob h => S3 b' ob (S02 b' ob h)
    refine ⟨al, (c : Int), o, f, some ((c : Int), o, o), rfl, ao.same S03, .al ha, ?_⟩
    refine ⟨_, rfl, t, _, _, _, rfl, rfl, SqT.of (S03 _ _ tu), atI_nat (j := 2) (v := .int f) rfl, _, rfl, rfl, rfl, ?_⟩
    refine ⟨_, rfl, ite3 (fun h => nope h ?_) (fun _ => ?_)⟩
    · have e : decide (some ((c : Int), o, o) = some ((c : Int), o, f)) = decide (V.int f = V.int o) := by
        rw [d_int]
        refine decide_eq_decide.mpr ⟨fun h => ?_, fun h => by rw [h]⟩
        injection h with h
        injection h with _ h
        injection h with _ h
        exact h.symm
      rw [e]
    · exact nx _ _ ⟨_, _, _, _, _, _, c, o, f, y, t, al, rfl, pt.same p a ns S03, co, ho, S03 _ _ tu, ao.same S03⟩
/-- behind the turn -/
def M7 (K : PySem.W.Frag) : L2.St → Hp → Prop := fun σ H => ∃ x2 x3 x4 x5 x6 x7 x8 x9 x10 x11 x12 x13, σ = [some (.ref a0), some (.ref p), x2, x3, x4, x5, x6, x7, x8, x9, x10, x11, x12, x13] ∧ Pt K H p a ns 0 (100 * i)
theorem pk7 (T : Tx K mg) (hi : i < 6) (still : (XL P w K mg base cdv A outer s H0 E).A.guards = some []) (hr : Room 9 (XL P w K mg base cdv A outer s H0 E).A) : PS (XL P w K mg base cdv A outer s H0 E) (stK 7) (tPP (M3 a0 p a ns i K) (M7 a0 p a ns (i + 1) K)) := by
  obtain ⟨fd, F, B, kp⟩ := f_right (P := P) (w := w) (base := base) T
  refine PS.pp (ps_if (pt_not (pt_val (Shw.pe_callG F hr still (by rfl) T.g_law_right kp B .nil (E := E) p0 (pa_cons (pv 1) (pa_cons (pv 6) (pa_cons (pv 7) pa_nil)))))) (pss_one (ps_ret pe_bl)) pss_nil) (fun D σ H q nx => ?_)
  obtain ⟨x8, x9, x10, x11, x12, x13, c, o, f, y, t, al, rfl, ⟨s1, g1, R, h1, h2⟩, co, ho, tu, ao⟩ := q
  refine ⟨_, rfl, _, rfl, _, rfl, p, a, t, al, ns, s1, g1, c, o, f, rfl, R, by omega, co, tu, ao, fun H1 s2 g2 kp2 R2 h3 h4 => ?_⟩
  refine ⟨_, rfl, ite3 (fun h => by cases h) (fun _ => ?_)⟩
  exact nx _ _ ⟨_, _, _, _, _, _, _, _, _, _, _, _, rfl, s2, g2, R2, by omega, by omega⟩
def tBk (K : PySem.W.Frag) : TS := fun D σ H => ∃ p a, ∃ i : Nat, i < 6 ∧ M0 a0 p a ns i K σ H ∧ ∀ σ' H', M7 a0 p a ns (i + 1) K σ' H' → D.nx σ' H'
theorem bodyK (T : Tx K mg) (still : (XL P w K mg base cdv A outer s H0 E).A.guards = some []) (hr : Room 9 (XL P w K mg base cdv A outer s H0 E).A) : PSs (XL P w K mg base cdv A outer s H0 E) [stK 0, stK 1, stK 2, stK 3, stK 4, stK 5, stK 6, stK 7] (tBk a0 ns K) := by
  refine ⟨fun pins s1 σ H D I q => ?_⟩
  obtain ⟨p, a, i, hi, m0, nx⟩ := q
  exact (pss_cons (pk0 a0 p a ns i T hi hr) (pss_cons (pk1 a0 p a ns i T hi hr) (pss_cons (pk2 a0 p a ns i T hr) (pss_cons (pk3 a0 p a ns i T still hr) (pss_cons (pk4 a0 p a ns i T hr) (pss_cons (pk5 a0 p a ns i T hr) (pss_cons (pk6 a0 p a ns i T hr) (pss_one (pk7 a0 p a ns i T hi still hr))))))))).run pins s1 σ H D I
    (pp_go m0 fun _ _ s1 => pp_go s1 fun _ _ s2 => pp_go s2 fun _ _ s3 => pp_go s3 fun _ _ s4 => pp_go s4 fun _ _ s5 => pp_go s5 fun _ _ s6 => pp_go s6 fun _ _ s7 => ⟨s7, nx⟩)
/-! the law's statements -/
def L0 (K : PySem.W.Frag) : L2.St → Hp → Prop := fun σ H => σ = [some (.ref a0), none, none, none, none, none, none, none, none, none, none, none, none, none] ∧ SqL K H a0 (ns.map V.int) ∧ ns.length ≤ 63
def L1 (K : PySem.W.Frag) : L2.St → Hp → Prop := fun σ H => ∃ p a, M7 a0 p a ns 0 K σ H
def L2s : L2.St → Hp → Prop := fun σ _ => ∃ x1 x2 x3 x4 x5 x6 x7 x8 x9 x10 x11 x12 x13, σ = [some (.ref a0), x1, x2, x3, x4, x5, x6, x7, x8, x9, x10, x11, x12, x13]
theorem sl0 (T : Tx K mg) (hr : Room 9 (XL P w K mg base cdv A outer s H0 E).A) : PS (XL P w K mg base cdv A outer s H0 E) (stL 0) (tPP (L0 a0 ns K) (L1 a0 ns K)) := by
  refine PS.pp (ps_set (i := 1) ndL rfl (Or.inl rfl) (pe_d (d_pen T) (hr.mono (by decide)) (by rfl) (E := E) p0 (pa_cons (pv 0) pa_nil))) (fun D σ H q nx => ?_)
  obtain ⟨rfl, sq, hl⟩ := q
  exact ⟨_, rfl, a0, ns, rfl, sq, hl, fun H' p c S n1 n2 R => nx _ _ ⟨p, c, _, _, _, _, _, _, _, _, _, _, _, _, rfl, 0, 0, R, by decide, by decide⟩⟩
theorem sl1 (T : Tx K mg) (still : (XL P w K mg base cdv A outer s H0 E).A.guards = some []) (hr : Room 9 (XL P w K mg base cdv A outer s H0 E).A) : PS (XL P w K mg base cdv A outer s H0 E) (stL 1) (tPP (L1 a0 ns K) (L2s a0)) := by
  refine PS.pp (ps_for (passes_of rfl) rfl (pi_range1 (by rfl) T.f_range (pa_cons pe_int pa_nil)) (pg_name (i := 2) ndL rfl (Or.inl rfl)) (bodyK a0 ns T still hr)) (fun D σ H q nx => ?_)
  obtain ⟨p, a, q⟩ := q
  refine ⟨6, rfl, by decide, by decide, ?_⟩
  refine for_range (n := 6) (fun i σ H1 => M7 a0 p a ns i K σ H1) q (fun i σ H1 hi z => ?_) (fun σ H1 z => ?_)
  · obtain ⟨x2, x3, x4, x5, x6, x7, x8, x9, x10, x11, x12, x13, rfl, pt⟩ := z
    rw [show (0 : Int) + (i : Int) = (i : Int) by omega]
    exact ⟨p, a, i, hi, ⟨x3, x4, x5, x6, x7, x8, x9, x10, x11, x12, x13, rfl, pt⟩, fun _ _ q => q⟩
  · obtain ⟨x2, x3, x4, x5, x6, x7, x8, x9, x10, x11, x12, x13, rfl, pt⟩ := z
    exact nx _ _ ⟨_, _, _, _, _, _, _, _, _, _, _, _, _, rfl⟩
end
end K48
set_option Elab.async false
set_option linter.all false
set_option maxRecDepth 100000
set_option maxHeartbeats 4000000
namespace K48
open PySem PySem.Spec PyProof.Rows L2 Pre Dfs Vls
section
variable {P : Program} {w : World} {K : PySem.W.Frag} {mg : Str → Option Value} {base : Heap} {cdv : Value} {A : Around} {outer : List Env} {s : Shared} {H0 : Hp} {E : XK}
variable (a0 : Addr)
/-- two watches of like alarms behind j and m steps -/
def L3 (K : PySem.W.Frag) : L2.St → Hp → Prop := fun σ H => ∃ x1 x2 x3 x4 x5 x6 x7 x8 one other x11 x12 x13 al1 al2, σ = [some (.ref a0), x1, x2, x3, x4, x5, x6, x7, x8, some (.ref one), some (.ref other), x11, x12, x13] ∧ WtK K H one al1 2 9 9 [1, 2] 0 ∧ WtK K H other al2 2 9 9 [2, 1] 0 ∧
  AlO K H al1 2 9 9 ∧ AlO K H al2 2 9 9 ∧ one ≠ other
def L4 (K : PySem.W.Frag) : L2.St → Hp → Prop := fun σ H => ∃ x1 x2 x3 x4 x5 x6 x7 x8 one other u x12 x13 al1 al2, σ = [some (.ref a0), x1, x2, x3, x4, x5, x6, x7, x8, some (.ref one), some (.ref other), some (.ref u), x12, x13] ∧ WtK K H one al1 2 9 9 [1, 2] 2 ∧ WtK K H other al2 2 9 9 [2, 1] 2 ∧
  AlO K H al1 2 9 9 ∧ AlO K H al2 2 9 9 ∧ H u = some (.lst [.bl false, .bl false, .bl false, .bl false])
theorem sl2 (T : Tx K mg) (hr : Room 9 (XL P w K mg base cdv A outer s H0 E).A) : PS (XL P w K mg base cdv A outer s H0 E) (stL 2) (tPP (L2s a0) (L3 a0 K)) := by
  refine PS.pp (ps_par (i := 9) (j := 10) rfl ndL rfl rfl (by decide) rfl rfl (pa_cons (pe_wt T (hr.mono (by decide)) (by rfl) (pa_cons (pe_al2 T (hr.mono (by decide)) (by rfl) (pa_cons pe_int (pa_cons pe_int pa_nil))) pa_nil))
    (pa_cons (pe_wt T (hr.mono (by decide)) (by rfl) (pa_cons (pe_al2 T (hr.mono (by decide)) (by rfl) (pa_cons pe_int (pa_cons pe_int pa_nil))) pa_nil)) pa_nil)) (by rfl)) (fun D σ H q nx => ?_)
  obtain ⟨x1, x2, x3, x4, x5, x6, x7, x8, x9, x10, x11, x12, x13, rfl⟩ := q
  refine ⟨2, 9, .non, 9, ⟨rfl, rfl⟩, ⟨by decide, by decide⟩, ⟨by decide, by decide⟩, .inl ⟨rfl, rfl⟩, fun al1 H1 S1 n1 ha1 => ?_⟩
  refine ⟨al1, 2, 9, 9, rfl, ha1, fun one H2 S2 n2 hw1 => ?_⟩
  refine ⟨2, 9, .non, 9, ⟨rfl, rfl⟩, ⟨by decide, by decide⟩, ⟨by decide, by decide⟩, .inl ⟨rfl, rfl⟩, fun al2 H3 S3 n3 ha2 => ?_⟩
  refine ⟨al2, 2, 9, 9, rfl, ha2, fun other H4 S4 n4 hw2 => ?_⟩
  have S24 : Same H2 H4 := fun b ob h => S4 b ob (S3 b ob h)
  obtain ⟨d1, t1, e1, _⟩ := hw1.same S3
  exact ⟨_, _, rfl, nx _ _ ⟨x1, x2, x3, x4, x5, x6, x7, x8, one, other, x11, x12, x13, al1, al2, rfl, wk0 (hw1.same S24), wk0 hw2, (ha1.same S2).same S24, ha2.same S4, ne_of_none e1 n4⟩⟩
theorem two_bd : (∀ x ∈ ([1, 2] : List Int), 0 ≤ x ∧ x ≤ 10 ^ 40) ∧ (∀ x ∈ ([2, 1] : List Int), 0 ≤ x ∧ x ≤ 10 ^ 40) ∧ (∀ x ∈ ([1, 2, 0, 1, 0, 3] : List Int), 0 ≤ x ∧ x ≤ 10 ^ 40) := by
  refine ⟨?_, ?_, ?_⟩ <;> decide
theorem AlO.kw {K : PySem.W.Frag} {H H' : Hp} {al : Addr} {c o f : Int} (h : AlO K H al c o f) (k : Kw K H H') : AlO K H' al c o f := by
  obtain ⟨dx, e⟩ := h
  exact ⟨dx, k _ _ e (fun _ _ _ _ _ z => by simp at z)⟩
theorem sl3 (T : Tx K mg) (hr : Room 9 (XL P w K mg base cdv A outer s H0 E).A) : PS (XL P w K mg base cdv A outer s H0 E) (stL 3) (tPP (L3 a0 K) (L4 a0 K)) := by
  have M := (m_step (P := P) (w := w) (base := base) T).mfn
  refine PS.pp (ps_set (i := 11) ndL rfl (Or.inl rfl) (pe_lst (pa_cons (Dfs.pe_m (pv 9) M (hr.mono (by decide)) (E := fun _ _ _ => False) p0 (pa_cons pe_int pa_nil)) (pa_cons (Dfs.pe_m (pv 9) M (hr.mono (by decide)) (E := fun _ _ _ => False) p0 (pa_cons pe_int pa_nil))
    (pa_cons (Dfs.pe_m (pv 10) M (hr.mono (by decide)) (E := fun _ _ _ => False) p0 (pa_cons pe_int pa_nil)) (pa_cons (Dfs.pe_m (pv 10) M (hr.mono (by decide)) (E := fun _ _ _ => False) p0 (pa_cons pe_int pa_nil)) pa_nil)))))) (fun D σ H q nx => ?_)
  obtain ⟨x1, x2, x3, x4, x5, x6, x7, x8, one, other, x11, x12, x13, al1, al2, rfl, h1, h2, ha1, ha2, ne⟩ := q
  obtain ⟨bd1, bd2, _⟩ := two_bd
  obtain ⟨d1, f1, e1, _, l1⟩ := WtO.tw h1
  refine ⟨_, rfl, one, d1, f1, rfl, e1, l1, ?_⟩
  dsimp only [tNil, tC, tCons]
  refine sp_stepG (c := 2) (o := 9) (f := 9) (xs := [1, 2]) (k := 0) (by decide) (by decide) bd1 (by decide) h1 ha1 fun H1 b1 h1' => ?_
  have ha1' := ha1.kw (Kw.but h1 b1)
  have ha2' := ha2.kw (Kw.but h1 b1)
  have h2' := WtO.buts h2 h1 ne.symm b1
  obtain ⟨d2, f2, e2, _, l2⟩ := WtO.tw h1'
  refine ⟨_, rfl, one, d2, f2, rfl, e2, l2, ?_⟩
  dsimp only [tNil, tC, tCons]
  refine sp_stepG (c := 2) (o := 9) (f := 9) (xs := [1, 2]) (k := 1) (by decide) (by decide) bd1 (by decide) h1' ha1' fun H2 b2 h1'' => ?_
  have ha1'' := ha1'.kw (Kw.but h1' b2)
  have ha2'' := ha2'.kw (Kw.but h1' b2)
  have h2'' : WtK K H2 other al2 2 9 9 [2, 1] 0 := WtO.buts h2' h1' ne.symm b2
  obtain ⟨d3, f3, e3, _, l3⟩ := WtO.tw h2''
  refine ⟨_, rfl, other, d3, f3, rfl, e3, l3, ?_⟩
  dsimp only [tNil, tC, tCons]
  refine sp_stepG (c := 2) (o := 9) (f := 9) (xs := [2, 1]) (k := 0) (by decide) (by decide) bd2 (by decide) h2'' ha2'' fun H3 b3 h3 => ?_
  have hb1 := WtO.buts h1'' h2'' ne b3
  have ga1 := ha1''.kw (Kw.but h2'' b3)
  have ga2 := ha2''.kw (Kw.but h2'' b3)
  obtain ⟨d4, f4, e4, _, l4⟩ := WtO.tw h3
  refine ⟨_, rfl, other, d4, f4, rfl, e4, l4, ?_⟩
  dsimp only [tNil, tC, tCons]
  refine sp_stepG (c := 2) (o := 9) (f := 9) (xs := [2, 1]) (k := 1) (by decide) (by decide) bd2 (by decide) h3 ga2 fun H4 b4 h4 => ?_
  have hb1' : WtK K H4 one al1 2 9 9 [1, 2] 2 := WtO.buts hb1 h3 ne b4
  refine ⟨(by show (4 : Nat) ≤ sizeLine; rw [sizeLine_eq]; decide), fun u hu => ?_⟩
  have S5 := Same.upd hu (o := .lst [.bl false, .bl false, .bl false, .bl false])
  exact nx _ _ ⟨x1, x2, x3, x4, x5, x6, x7, x8, one, other, u, x12, x13, al1, al2, rfl, WtK.same hb1' S5, WtK.same h4 S5, (ga1.kw (Kw.but h3 b4)).same S5, (ga2.kw (Kw.but h3 b4)).same S5, upd_same⟩
theorem sl4 (T : Tx K mg) (hr : Room 9 (XL P w K mg base cdv A outer s H0 E).A) : PS (XL P w K mg base cdv A outer s H0 E) (stL 4) (tPP (L4 a0 K) (L2s a0)) := by
  refine PS.pp (ps_if (PW.pt (pw_or (pt_cmpR op_in_seq pe_bl (pv 11) (by with_unfolding_all rfl)) (pw_or (pt_cmpR (op_eqW T (hr.mono (by decide))) (pv 9) (pv 10) (nomark _))
    (pw_or1 (pt_cmpR op_ne (pe_now T (hr.mono (by decide)) (pv 9)) (pe_now T (hr.mono (by decide)) (pv 10)) (nomark _)))))) (pss_one (ps_ret pe_bl)) pss_nil) (fun D σ H q nx => ?_)
  obtain ⟨x1, x2, x3, x4, x5, x6, x7, x8, one, other, u, x12, x13, al1, al2, rfl, h1, h2, ha1, ha2, hu⟩ := q
  refine ⟨_, rfl, u, _, rfl, .inl (SqL.of hu), rfl, rfl, _, rfl, ite3 (fun h => by cases h) (fun _ => ?_)⟩
  obtain ⟨bd1, bd2, _⟩ := two_bd
  refine ⟨_, rfl, _, rfl, one, ((2, 9, 9), [1, 2], false), some ((2, 9, 9), [2, 1], false), rfl, ow_of h1 ha1 (by decide) bd1, ow_of h2 ha2 (by decide) bd2, _, rfl, ite3 (fun h => by simp at h) (fun _ => ?_)⟩
  refine ⟨_, rfl, one, al1, _, _, _, rfl, h1, _, rfl, other, al2, _, _, _, rfl, h2, rfl, _, rfl, ite3 (fun h => nope h rfl) (fun _ => ?_)⟩
  exact nx _ _ ⟨_, _, _, _, _, _, _, _, _, _, _, _, _, rfl⟩
def L6 (K : PySem.W.Frag) : L2.St → Hp → Prop := fun σ H => ∃ x1 x2 x3 x4 x5 x6 x7 x8 x9 x10 x11 x x13 al, σ = [some (.ref a0), x1, x2, x3, x4, x5, x6, x7, x8, x9, x10, x11, some (.ref x), x13] ∧ WtK K H x al 2 3 2 [1, 2, 0, 1, 0, 3] 0 ∧ AlO K H al 2 3 2
theorem sl5 (T : Tx K mg) (hr : Room 9 (XL P w K mg base cdv A outer s H0 E).A) : PS (XL P w K mg base cdv A outer s H0 E) (stL 5) (tPP (L2s a0) (L6 a0 K)) := by
  refine PS.pp (ps_set (i := 12) ndL rfl (Or.inr rfl) (pe_wt T (hr.mono (by decide)) (by rfl) (pa_cons (pe_al3 T (hr.mono (by decide)) (by rfl) (pa_cons pe_int (pa_cons pe_int (pa_cons pe_int pa_nil)))) pa_nil))) (fun D σ H q nx => ?_)
  obtain ⟨x1, x2, x3, x4, x5, x6, x7, x8, x9, x10, x11, x12, x13, rfl⟩ := q
  refine ⟨2, 3, .int 2, 2, rfl, ⟨by decide, by decide⟩, ⟨by decide, by decide⟩, .inr ⟨rfl, by decide, by decide⟩, fun al1 H1 S1 n1 ha1 => ?_⟩
  refine ⟨al1, 2, 3, 2, rfl, ha1, fun x H2 S2 n2 hw1 => ?_⟩
  exact nx _ _ ⟨x1, x2, x3, x4, x5, x6, x7, x8, x9, x10, x11, x, x13, al1, rfl, wk0 hw1, ha1.same S2⟩
def bsL : List Bool := [false, true, true, false, false, true]
theorem sl6 (T : Tx K mg) (hr : Room 9 (XL P w K mg base cdv A outer s H0 E).A) : PS (XL P w K mg base cdv A outer s H0 E) (stL 6) (tPR (L6 a0 K) (fun _ => True)) := by
  have M := (m_step (P := P) (w := w) (base := base) T).mfn
  refine PS.pr (ps_ret (pe_and (pe_cmpR (op_eqD hr.units) (pe_lc rfl ndL (pi_tup (pe_tup (pa_cons pe_int (pa_cons pe_int (pa_cons pe_int (pa_cons pe_int (pa_cons pe_int (pa_cons pe_int pa_nil)))))))) (own := [("_law_rows_here", 13)]) (blk_by (by kernel_rfl)) (fun _ _ _ _ _ => pg_name (i := 13) ndL rfl (Or.inl rfl)) (fun _ _ _ _ _ => pts_nil)
      (fun _ _ _ _ _ => Dfs.pe_m (X := Cx.blk _ _ _ _ _ _) (pv 12) M (hr.mono (by decide)) (E := fun _ _ _ => False) p0 (pa_cons (pe_var (i := 13) rfl (Or.inl rfl)) pa_nil)))
      (pe_lst (pa_cons pe_bl (pa_cons pe_bl (pa_cons pe_bl (pa_cons pe_bl (pa_cons pe_bl (pa_cons pe_bl pa_nil))))))) (nomark _))
    (pe_one (pe_cmpR op_eq (pe_times T (hr.mono (by decide)) (pv 12)) pe_int (nomark _))))) (fun D σ H q nx => ?_)
  obtain ⟨x1, x2, x3, x4, x5, x6, x7, x8, x9, x10, x11, x, x13, al, rfl, hw, ha⟩ := q
  obtain ⟨_, _, bd⟩ := two_bd
  refine ⟨(by show (6 : Nat) ≤ sizeLine; rw [sizeLine_eq]; decide), fun u hu => ?_⟩
  have S1 := Same.upd hu (o := .tup (([1, 2, 0, 1, 0, 3] : List Int).map V.int))
  refine ⟨u, rfl, ⟨_, SqT.of upd_same⟩, fun D0 hD => ?_⟩
  have S2 := Same.upd hD (o := .lst [])
  have hw2 := WtK.same (WtK.same hw S1) S2
  have ha2 := (ha.same S1).same S2
  refine lc_it (walk_tup (xs := ([1, 2, 0, 1, 0, 3] : List Int).map V.int)) (fun j H1 => WtK K H1 x al 2 3 2 [1, 2, 0, 1, 0, 3] j ∧ AlO K H1 al 2 3 2 ∧ H1 u = some (.tup (([1, 2, 0, 1, 0, 3] : List Int).map V.int)) ∧ H1 D0 = some (.lst ((bsL.take j).map V.bl)))
    ⟨hw2, ha2, S2 _ _ upd_same, upd_same⟩ (fun j H1 _ z => SqT.of z.2.2.1) (fun j v H1 H3 hj z yy => ?_) (fun H1 z => ?_)
  · obtain ⟨h1, a1, eu, eD⟩ := z
    obtain ⟨rfl, hy⟩ := yy
    have hj' : j < ([1, 2, 0, 1, 0, 3] : List Int).length := by
      rw [List.length_map] at hj
      exact hj
    have hy2 : v = V.int ([1, 2, 0, 1, 0, 3] : List Int)[j] := by
      rw [List.getElem?_map, List.getElem?_eq_getElem hj'] at hy
      exact (Option.some.inj hy).symm
    subst hy2
    refine ⟨rfl, ?_⟩
    unfold tYes
    refine ite3 (fun _ => ?_) (fun h => by cases h)
    obtain ⟨d1, f1, e1, _, l1⟩ := WtO.tw h1
    refine ⟨_, rfl, x, d1, f1, rfl, e1, l1, _, rfl, ?_⟩
    dsimp only [tNil]
    refine sp_stepG (c := 2) (o := 3) (f := 2) (xs := [1, 2, 0, 1, 0, 3]) (by decide) (by decide) bd hj' h1 a1 fun H4 b4 h4 => ?_
    have eD4 := Kw.but h1 b4 _ _ eD nw_lst
    have nx0 : x ≠ D0 := ne_of e1 eD (by intro z; cases z)
    have S5 : But D0 H4 (upd H4 D0 (.lst ((bsL.take j).map V.bl ++ [V.bl (stt 2 3 2 [1, 2, 0, 1, 0, 3] (j + 1)).1]))) := But.at_
    refine ⟨_, eD4, ?_, ?_, ?_, ?_, ?_⟩
    · rw [List.length_map, List.length_take, sizeLine_eq]
      show min j 6 < _
      omega
    · obtain ⟨d2, t2, g1, g2⟩ := h4
      exact ⟨d2, t2, S5 _ _ (ne_of g1 eD4 (by intro z; cases z)) g1, S5 _ _ (ne_of g2 eD4 (by intro z; cases z)) g2⟩
    · obtain ⟨d2, g1⟩ := a1.kw (Kw.but h1 b4)
      exact ⟨d2, S5 _ _ (ne_of g1 eD4 (by intro z; cases z)) g1⟩
    · exact S5 _ _ (ne_of (Kw.but h1 b4 _ _ eu nw_tup) eD4 (by intro z; cases z)) (Kw.but h1 b4 _ _ eu nw_tup)
    · rw [upd_same]
      have six : j = 0 ∨ j = 1 ∨ j = 2 ∨ j = 3 ∨ j = 4 ∨ j = 5 := by
        have : j < 6 := hj'
        omega
      rcases six with rfl | rfl | rfl | rfl | rfl | rfl <;> rfl
  · obtain ⟨h1, a1, eu, eD⟩ := z
    refine ⟨(by show (6 : Nat) ≤ sizeLine; rw [sizeLine_eq]; decide), fun q hq => ?_⟩
    have S3 := Same.upd hq (o := .lst (bsL.map V.bl))
    have dp6 : ∀ {H2 : Hp} {b : Addr}, H2 b = some (.lst (bsL.map V.bl)) → Dp K H2 (.ref b) (.list (bsL.map PyData.bool)) := fun h => .lst (SqL.of h) (Flat.dp_bools _)
    refine ⟨_, _, dp6 (S3 _ _ eD), dp6 upd_same, by decide, by decide, _, rfl, ?_⟩
    refine ite3 (fun _ => ?_) (fun h => by simp [bsL, PyData.eqv, PyData.eqvAll] at h)
    refine ⟨_, rfl, x, al, _, _, _, rfl, WtK.same h1 S3, rfl, ?_⟩
    exact nx _ True.intro
end
end K48
set_option Elab.async false
set_option linter.all false
set_option maxRecDepth 100000
set_option maxHeartbeats 4000000
namespace K48
open PySem PySem.Spec PyProof.Rows L2 Pre Dfs Vls
section
variable {P : Program} {w : World} {K : PySem.W.Frag} {mg : Str → Option Value} {base : Heap}
def spLaw (K : PySem.W.Frag) : Sp := fun vs H Q _ => ∃ (a : Addr) (ns : List Int), vs = [.ref a] ∧ SqL K H a (ns.map V.int) ∧ ns.length ≤ 63 ∧ ∀ H', Q (.bl true) H'
theorem ok_law (T : Tx K mg) {fd : FuncData} (F : FunD K "law" "law" (defArgs s_law) (defBody s_law) (defScope s_law) [] [] (He.ga K "law") fd) :
    Shw.FnG P w K mg base CX0 10 (He.ga K "law") fd ["_law_script"] (spLaw K) := by
  refine Shw.okG F (N := NL) ⟨rfl, rfl, rfl, ndL, rfl, by decide +kernel, by decide +kernel⟩ (fun vs H Q E h => ?_) (fun cdv A outer s H vs Q E hr still h => ?_)
  · obtain ⟨_, _, rfl, _⟩ := h
    rfl
  · obtain ⟨a, ns, rfl, sq, hl, q⟩ := h
    rw [bodyL_eq]
    refine ⟨_, pss_cons (sl0 (P := P) (w := w) (K := K) (mg := mg) (base := base) a ns T hr)
      (pss_cons (sl1 a ns T still hr)
      (pss_cons (sl2 a T hr)
      (pss_cons (sl3 a T hr)
      (pss_cons (sl4 a T hr)
      (pss_cons (sl5 a T hr)
      (pss_one (sl6 a T hr))))))), ?_⟩
    exact pp_go ⟨rfl, sq, hl⟩ fun _ _ s1 => pp_go s1 fun _ _ s2 => pp_go s2 fun _ _ s3 => pp_go s3 fun _ _ s4 => pp_go s4 fun _ _ s5 => pp_go s5 fun _ _ s6 => ⟨s6, fun H' _ => q H'⟩
end
end K48
set_option Elab.async false
set_option linter.all false
set_option maxRecDepth 100000
set_option maxHeartbeats 8000000
open PySem PySem.W PySem.Calls PyProof.Rows
theorem PySem.Challenge.cw_gaugeroad_k48_alarms_and_watches_holds : PySem.Challenge.rw_gaugeroad_k48_alarms_and_watches.Holds := by
  w_on; o_law
  refine HandSHeadRun.head_any (r := OpenLaw.row PySem.Challenge.rw_gaugeroad_k48_alarms_and_watches) (q := view (OpenLaw.row PySem.Challenge.rw_gaugeroad_k48_alarms_and_watches).prog [26]) (H := K48.hk) (ob := K48.ob) (M := 8000) (loose := K48.names)
    (d := HandSHeadRun.topDef (OpenLaw.row PySem.Challenge.rw_gaugeroad_k48_alarms_and_watches).prog 26) (kwd := []) K48.ob_eq (by kernel_rfl) (fun s => by kernel_rfl) K48.run
    (by kernel_rfl) (by kernel_rfl) (by kernel_rfl) (by rfl) (by first | assumption | decide +kernel) (by decide +kernel) ⟨rfl, rfl, rfl, rfl, rfl, by decide +kernel⟩ ?hw ?hc
  case hw => w_witness2
  case hc =>
    refine Shw.walkG (l := PySem.Challenge.rw_gaugeroad_k48_alarms_and_watches) (n := 63) (k := 10) (x := "_law_script") (CX := fun _ => L2.CX0) rfl (by decide) (by kernel_rfl) ⟨rfl, by decide, by decide⟩ ?F (fun _ _ _ _ _ z => z)
    intro w mg fa h Y G hmg0
    obtain ⟨K, KX, c⟩ := Y
    have hmg : mg ("law" : PySem.Str) = some (.ref fa) := by
      have e : (HandSHeadRun.topDef (OpenLaw.row PySem.Challenge.rw_gaugeroad_k48_alarms_and_watches).prog 26).name = ("law" : PySem.Str) := by kernel_rfl
      rw [← e]
      exact hmg0
    have T : K48.Tx K mg := ⟨c.x.t.d, c.x.more, c.m, h, KX, G⟩
    have ef : fa = He.ga K "law" := by
      have z := hmg.symm.trans T.g_law
      cases z
      rfl
    subst ef
    obtain ⟨fd, F⟩ := T.q_law
    refine ⟨K, KX, fd, [], K48.spLaw K, ?_⟩
    refine ⟨(fun p hp => by cases hp), (fun p hp => by cases hp), (fun p hp => by cases hp), fun s u => F.bindsA (ps := ["_law_script"]) (fun kV doc pm an cdv ct => Vls.bind1 fun a => rfl) s [u] rfl, fun H a ns hl _ hT hS => ⟨a, ns, rfl, hS, hl, fun _ => rfl⟩, fun base KB NB TB => K48.ok_law T F⟩
