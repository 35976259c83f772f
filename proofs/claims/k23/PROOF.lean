import PyProof.Rows.All
import Wide.All
import OpenK.AllK
import Wide.FinOn
import HandS.ForMost
import HandS.ForExc
import HandS.Codes
import HandS.Evl
import KE.KExcIs
import HandS.IsInst
import HandS.ExcField
import HandS.ExcInit
import HandS.Defaults
import HandS.HeadHook1
import HandS.HeadHook2
import HandS.Lambda
import HandS.EndBits
import HandS.EndTab
import PyProof.ReprRoads
import HandS.Star
import HandS.ClsMeth
import HandS.Property
import HandS.Gcd
import HandS.Zip
import KE.KSuper
import HandS.Nested
import HandS.HeadHook4
import HandS.HeadWalk
import PySem.Challenge.RW_gaugeroad_k23_registers_and_their_readin
import KE.KStateDown
import Lean
import HandS.Head0
import HandS.Head1
import HandS.Head2
import HandS.Head3
import HandS.HeadEnd
import HandS.Walk
import HandS.MakeKw
import KE.KMathG
import KE.GoesMore
import PyProof.EnumMake
import PyProof.InstNe
import KE.KCallOwn
import HandS.FStr
import HandS.Style
import HandS.TupMul
import HandS.MakeKwOnly
set_option Elab.async false
set_option linter.all false
set_option maxRecDepth 100000
set_option maxHeartbeats 2000000
namespace Pre
open PySem PySem.Spec PyProof.Rows L2
/-- all but what stands at p is kept -/
def But (p : Addr) (H H' : Hp) : Prop := ∀ b o, b ≠ p → H b = some o → H' b = some o
theorem But.refl (p : Addr) (H : Hp) : But p H H := fun _ _ _ h => h
theorem But.trans {p : Addr} {H H1 H2 : Hp} (a : But p H H1) (b : But p H1 H2) : But p H H2 := fun c o n h => b c o n (a c o n h)
theorem But.of {p : Addr} {H H1 : Hp} (a : Same H H1) : But p H H1 := fun c o _ h => a c o h
theorem But.at_ {p : Addr} {H : Hp} {o : HO} : But p H (upd H p o) := fun c u n h => by
  rw [upd_ne n]
  exact h
theorem But.new {p q : Addr} {H H1 : Hp} {o : HO} (a : But p H H1) (n : H1 q = none) : But p H (upd H1 q o) := fun c u z h => by
  have h1 := a c u z h
  rw [upd_ne (ne_of_none h1 n)]
  exact h1
theorem But.set {p : Addr} {H H1 : Hp} {o : HO} (a : But p H H1) : But p H (upd H1 p o) := fun c u z h => by
  rw [upd_ne z]
  exact a c u z h
theorem Same.new {q : Addr} {H H1 : Hp} {o : HO} (a : Same H H1) (n : H1 q = none) : Same H (upd H1 q o) := fun c u h => by
  have h1 := a c u h
  rw [upd_ne (ne_of_none h1 n)]
  exact h1
theorem Same.upd {q : Addr} {H : Hp} {o : HO} (n : H q = none) : Same H (L2.upd H q o) := fun c u h => by
  rw [upd_ne (ne_of_none h n)]
  exact h
/-! data -/
theorem dp_ints {K : PySem.W.Frag} {H : Hp} : ∀ ns : List Int, DpAll K H (ns.map V.int) (ns.map PyData.int)
  | [] => .nil
  | n :: r => .cons (.int n) (dp_ints r)
theorem canLay_ints : ∀ ns : List Int, PyData.canLayAll0 (ns.map PyData.int) = true
  | [] => by decide
  | n :: r => by
    have h := canLay_ints r
    simp only [List.map_cons, PyData.canLayAll0, PyData.canLay0, Bool.true_and]
    exact h
theorem depth_ints : ∀ ns : List Int, PyData.depthAll (ns.map PyData.int) ≤ 1
  | [] => by decide
  | n :: r => by
    have h := depth_ints r
    simp only [List.map_cons, PyData.depthAll, PyData.depth, Nat.max_def]
    split <;> omega
theorem shaped_ints (ns : List Int) : SeqAt.shaped (.list (ns.map PyData.int)) = true := by
  unfold SeqAt.shaped
  have h := depth_ints ns
  have h2 := canLay_ints ns
  have e1 : PyData.canLay0 (.list (ns.map PyData.int)) = true := by simp only [PyData.canLay0]; exact h2
  have e2 : PyData.depth (.list (ns.map PyData.int)) ≤ 64 := by simp only [PyData.depth]; omega
  rw [e1, decide_eq_true e2]
  rfl
theorem eqv_nil (ns : List Int) : PyData.eqv (.list (ns.map PyData.int)) (.list []) = ns.isEmpty := by
  cases ns with
  | nil => simp [PyData.eqv, PyData.eqvAll]
  | cons y r => simp [PyData.eqv, PyData.eqvAll]
end Pre
set_option Elab.async false
set_option linter.all false
set_option maxRecDepth 100000
set_option maxHeartbeats 2000000
/-! An error that a clause caught and a name keeps: tracked behind the try, asked for its class, read. -/
namespace Kept
open PySem PySem.Spec PyProof.Rows L2

/-- at a: an error of the class cls, its own dict at d -/
def errO (a : Addr) (cls : Value) (d : Option Addr) : HO :=
  .ext fun h => ∃ (ob : Obj) (fl : Array Value), h.get? a = some ob ∧ Zc cls d ob ∧ ob.data = .fields fl

theorem errO_get {P : Program} {w : World} {H : Hp} {h : Heap} {a : Addr} {cls : Value} {d : Option Addr}
    (ok : HOk P w H h) (e : H a = some (errO a cls d)) :
    ∃ (ob : Obj) (fl : Array Value), h.get? a = some ob ∧ Zc cls d ob ∧ ob.data = .fields fl := by
  have z : ObjOk P w H h a (.ext fun h => ∃ (ob : Obj) (fl : Array Value), h.get? a = some ob ∧ Zc cls d ob ∧ ob.data = .fields fl) := ok a _ e
  exact z.1

section
variable {X : Cx} {pins : List (Addr × Obj)} {σ : L2.St} {H : Hp} {s : Shared} {a : Addr} {cls : Value} {d : Option Addr} {ob : Obj} {fl : Array Value}
/-- an untracked object that was made behind the def's entry comes to be tracked -/
theorem track (I : Inv X pins σ H s) (hx : X.ex = []) (new : X.s_0.heap.get? a = none) (at_ : s.heap.get? a = some ob)
    (un : H a = none) (nl : a ≠ X.env.locals) (np : ∀ p ∈ X.pn ++ pins, p.1 ≠ a) (hz : Zc cls d ob) (hf : ob.data = .fields fl) :
    Inv X pins σ (upd H a (errO a cls d)) s := by
  have away : ∀ {b : Addr} {o : HO}, H b = some o → upd H a (errO a cls d) b = some o := fun {b o} e => by
    rw [upd_ne (fun q => by rw [q, un] at e; cases e)]
    exact e
  refine ⟨I.ok, I.os, I.bare, ⟨I.base.keep, I.base.slot, ?_, I.base.there, ?_, ?_, ?_⟩, I.loc, I.cell, ?_, ?_, ?_, ?_, I.len⟩
  · intro b o e n q
    rw [upd_ne (fun z => by rw [z, new] at e; cases e)]
    exact I.base.free b o e n q
  · exact fun b xs e => away (I.base.tups b xs e)
  · exact fun b o u e => away (I.base.frzs b o u e)
  · intro b ps e
    obtain ⟨m, z⟩ := I.base.tbls b ps e
    exact ⟨m, away z⟩
  · rw [upd_ne nl.symm]
    exact I.free
  · intro x c e
    have nc : c ≠ a := fun z => by
      obtain ⟨v, o, ho, hd⟩ := I.cell x c e
      rw [z, at_] at ho
      cases ho
      rw [hf] at hd
      cases hd
    rw [upd_ne nc]
    exact I.freeC x c e
  · intro p hp
    obtain ⟨e1, e2, e3, e4, e5⟩ := I.pin p hp
    refine ⟨e1, ?_, e3, e4, e5⟩
    rw [upd_ne (np p hp)]
    exact e2
  · intro b o e
    by_cases hb : b = a
    · subst hb
      rw [upd_same] at e
      cases e
      refine ⟨⟨ob, fl, at_, hz, hf⟩, ⟨ob, at_⟩, ?_⟩
      rintro h1 h2 ⟨o1, f1, g1, g2, g3⟩ st
      exact ⟨o1, f1, st _ g1, g2, g3⟩
    · rw [upd_ne hb] at e
      exact (I.hok b o e).stay (fun _ _ _ q => q) (fun _ q => away q) (fun _ _ q => away q)
end

/-- what 'except x as n' wishes of an error of the body, the error being tracked behind the suite; slot i is n's -/
def wKept (K : PySem.W.Frag) (c : Value) (i : Nat) (ts : Addr → Value → Option Addr → TS) (Wo : WX) (D : Ends) : WX := fun cls d σ H =>
  ∃ b, PySem.W.exmOne K cls c = some b ∧
    (b = true → ∀ a, H a = none → ts a cls d
      { nx := fun σ' H' => D.nx (σ'.set i none) (upd H' a (errO a cls d)), rt := fun v H' => D.rt v (upd H' a (errO a cls d)),
        bk := fun σ' H' => D.bk (σ'.set i none) (upd H' a (errO a cls d)), ct := fun σ' H' => D.ct (σ'.set i none) (upd H' a (errO a cls d)) }
      (σ.set i (some (.ref a))) H) ∧
    (b = false → Wo cls d σ H)

section
variable {X : Cx} {x n : Str} {c : Value} {i : Nat} {body suite : List Stmt} {b0 : Stmt} {np pos pos' : Pos} {tb : WX → TS} {ts : Addr → Value → Option Addr → TS} {Wo : WX}
theorem ps_try_kept (hs : X.stack = X.env :: X.outer) (hf : X.env.frame = some X.env.locals) (hex : X.ex = []) (hN : X.N.Nodup) (hi : X.N[i]? = some n)
    (hln : X.env.kindOf n = some .local) (hc : Names X x c) (tk : Takes X Wo)
    (hb : ∀ (W : WX) (pn : List (Addr × Obj)) (xe : Value → Shared → Prop), Takes (X.tr pn xe) W →
      PassesOwn (model X.prog X.w) X.A X.env xe → PSs (X.tr pn xe) body (tb W))
    (hsu : ∀ (a : Addr) (oe : Obj) (cls : Value) (d : Option Addr) (pn : List (Addr × Obj)), Zc cls d oe → (∃ vs, oe.data = .fields vs) →
      PSs (X.suite a ((a, oe) :: pn)) (b0 :: suite) (ts a cls d)) :
    PS X (.Try body [.ExceptHandler (some (.Name x np)) (some n) (b0 :: suite) pos'] [] [] pos)
      (fun D σ H => tb (wKept X.K c i ts Wo D) D σ H) := by
  refine ⟨fun pins s σ H D I0 h0 => ?_⟩
  have fr0 : X.A.frames = some (X.env :: X.outer) := by
    rw [I0.ok.frames, hs]
  refine wpAny_Try_except (wpAny_mono ((hb (wKept X.K c i ts Wo D) (X.pn ++ pins)
    (fun e s1 => wpAny (model X.prog X.w) X.A (noteFrame e X.env) (fun _ s2 => wpAny (model X.prog X.w) X.A (setFlight e none)
      (fun _ s3 => wpAny (model X.prog X.w) X.A (handleBy e X.env [.ExceptHandler (some (.Name x np)) (some n) (b0 :: suite) pos'])
        (SP X pins D) X.xe s3) X.xe s2) X.xe s1) ?_ PassesOwn.looking).run [] s σ H D (I0.toTry _) h0) ?_ fun _ _ z => z)
  · -- the error lands
    rintro u s' ⟨a, B, sI, pq, σ1, H1, cls, d, rfl, J0, ground, ups, sky, una, os1, bare1, yes, em, wy, wn⟩
    have J : Inv X pins σ1 H1 sI := J0.ofTry I0.ok
    have sky1 : Sky B (X.env :: X.outer) a (Zc cls d) X.env.locals s'.heap := by
      rw [← hs]
      exact sky
    show wpAny (model X.prog X.w) X.A (noteFrame (.ref a) X.env) _ _ _
    refine Sky.land Zc.steady fr0 hf sky1 fun hp3 fl3 up3 => ?_
    have J3 : Inv X pins σ1 H1 { s' with heap := hp3 } := J.landed ground fl3.1 (ups.trans up3) os1 bare1
    obtain ⟨o3, v3, at3, z3, f3⟩ := fl3.there
    have out : a ∉ frs (X.env :: X.outer) := fun hm => by
      obtain ⟨_, oq, eq, nf⟩ := fl3.2.2.1.mem hm
      rw [at3] at eq
      cases eq
      exact nf _ f3
    have nl : a ≠ X.env.locals := fun q => out (List.mem_filterMap.mpr ⟨X.env, List.mem_cons_self, by rw [hf, q]⟩)
    have nf : a ∉ X.fs := fun hm => by
      obtain ⟨en, hen, q⟩ := List.mem_filterMap.mp hm
      exact out (List.mem_filterMap.mpr ⟨en, List.mem_cons_of_mem _ hen, q⟩)
    have noI : sI.heap.get? a = none := by
      cases q : sI.heap.get? a with
      | none => rfl
      | some o =>
        have z := ground a o q (by rw [hs]; exact out)
        rw [fl3.2.1] at z
        cases z
    have no0 : X.s_0.heap.get? a = none := by
      cases q : X.s_0.heap.get? a with
      | none => rfl
      | some o =>
        obtain ⟨o', z⟩ := J.base.there a o q (by rw [hex]; simp)
        rw [noI] at z
        cases z
    have npin : ∀ p ∈ X.pn ++ pins, p.1 ≠ a := fun p hp q => by
      have z := (J.pin p hp).1
      rw [q, noI] at z
      cases z
    refine wpAny_handleBy_cons (codeAny_handlers_test ?_) (by intro q; cases q)
    have tyL : PySem.W.Looks (model X.prog X.w) hp3 (typeOf (.ref a)) cls := fun A Q E s k q =>
      wpAny_typeOf_ref (k _ _ at3) (by rw [z3.1]; exact q)
    have S3 := J3.suite at3 f3 una nl nf
    have asked : ∀ {Q : Value → Shared → Prop} {E : Value → Shared → Prop}, Q c { s' with heap := hp3 } →
        wpAny (model X.prog X.w) (X.A.mark (some (.ref a))) (eval (.Name x np) X.env) Q E { s' with heap := hp3 } := by
      intro Q E q
      obtain ⟨g1, g2, g3 | ⟨g3, g4, g5⟩⟩ := hc
      · exact ld_glob (X := X.suite a ((a, o3) :: (X.pn ++ pins))) S3 g1 g3 q g2
      · exact ld_blt (X := X.suite a ((a, o3) :: (X.pn ++ pins))) S3 g1 g3 g4 q g5 g2
    refine asked ((PySem.W.exm_one (M := model X.prog X.w) J3.kIn tyL em).here ?_)
    cases yes with
    | false =>
      show wpAny _ X.A (handleBy (.ref a) X.env []) _ _ _
      refine wpAny_handleBy_nil ?_
      obtain ⟨k1, k2, k3, oq, vq, T, oT, tq, hq, hzq, hdq, h1q, hrq⟩ := id fl3
      unfold PySem.passOn
      refine wpAny_bind (wpAny_field hq hdq h1q ?_)
      rw [if_neg (show ¬ ((Value.ref T == Value.none) = true) from by simp)]
      have last : wpAny (model X.prog X.w) X.A (setFlight (.ref a) X.env.frame)
          (fun _ s4 => wpAny (model X.prog X.w) X.A (throw (.ref a) : Sem Flow) (SP X pins D) X.xe s4) X.xe { s' with heap := hp3 } := by
        rw [hf]
        refine HandSPX.setFlight_upZ fl3 fun hp4 held up4 => wpAny_throw (tk _ _ ?_)
        exact ⟨a, B, sI, pins, σ1, H1, cls, d, rfl, J, ground, (ups.trans up3).trans up4,
          .inr (.inr (by rw [hs]; exact held)), una, os1, bare1, wn rfl⟩
      first
        | exact wpAny_bind (wpAny_pure (wpAny_bind last))
        | exact wpAny_bind last
    | true =>
      refine codeAny_handlers_suite_as (HandSPX.lands_againZ fl3 fun hp4 fl4 up4 => ?_)
      have J4 : Inv X pins σ1 H1 { s' with heap := hp4 } := J.landed ground fl4.1 ((ups.trans up3).trans up4) os1 bare1
      obtain ⟨o4, v4, at4, z4, f4⟩ := fl4.there
      have S4 := J4.suite at4 f4 una nl nf
      refine store_ok (X := X.suite a ((a, o4) :: (X.pn ++ pins))) (v := .ref a) S4 hN hi (.inl hln) rfl (fun s5 S5 => ?_) (.inr hln)
      refine wpAny_mono ((hsu a o4 cls d (X.pn ++ pins) z4 ⟨_, f4⟩).run [] s5 _ H1 _ S5 (wy rfl a una)) ?_ (fun _ _ z => False.elim z)
      have over : ∀ {s6 : Shared} {σ6 : L2.St} {H6 : Hp} {Q : Shared → Prop}, Inv (X.suite a ((a, o4) :: (X.pn ++ pins))) [] σ6 H6 s6 →
          (∀ s7, Inv X pins (σ6.set i none) (upd H6 a (errO a cls d)) s7 → Q s7) →
          wpAny (model X.prog X.w) X.A (do bindName X.env n .none; unbindBehindTheSuite X.env n pos') (fun _ s7 => Q s7) X.xe s6 := by
        intro s6 σ6 H6 Q S6 hq
        have P6 : Inv X ((a, o4) :: pins) σ6 H6 s6 := ⟨I0.ok, S6.os, S6.bare, S6.base, S6.loc, S6.cell, S6.free, S6.freeC, fun p hp => by
          refine S6.pin p (List.mem_append_left _ ?_)
          rcases List.mem_append.mp hp with q | q
          · exact List.mem_cons_of_mem _ (List.mem_append_left _ q)
          · rcases List.mem_cons.mp q with q | q
            · rw [q]
              exact List.mem_cons_self
            · exact List.mem_cons_of_mem _ (List.mem_append_right _ q), S6.hok, S6.len⟩
        refine gone_ok P6 hN hi hln fun s7 J7 => hq s7 ?_
        obtain ⟨e1, e2, e3, e4, e5⟩ := J7.pin (a, o4) (List.mem_append_right _ List.mem_cons_self)
        have J8 : Inv X pins (σ6.set i none) H6 s7 := J7.pins_of fun p hp => J7.pin p (List.mem_append_right _ (List.mem_cons_of_mem _ hp))
        exact track J8 hex no0 e1 e2 e3 npin z4 f4
      intro fl6 s6 sp6
      cases fl6 with
      | next =>
        obtain ⟨σ6, H6, S6, q6⟩ := sp6
        exact over S6 fun s7 J7 => ⟨_, _, J7, q6⟩
      | brk =>
        obtain ⟨σ6, H6, S6, q6⟩ := sp6
        exact over S6 fun s7 J7 => ⟨_, _, J7, q6⟩
      | cont =>
        obtain ⟨σ6, H6, S6, q6⟩ := sp6
        exact over S6 fun s7 J7 => ⟨_, _, J7, q6⟩
      | ret u =>
        obtain ⟨v6, σ6, H6, S6, r6, q6⟩ := sp6
        exact over S6 fun s7 J7 => ⟨_, _, _, J7, r6, q6⟩
  · intro fl s1 hsp
    cases fl with
    | next =>
      obtain ⟨σ2, H2, J2, q2⟩ := hsp
      exact wpAny_execs_nil ⟨σ2, H2, J2.ofTry I0.ok, q2⟩
    | brk =>
      obtain ⟨σ2, H2, J2, q2⟩ := hsp
      exact ⟨σ2, H2, J2.ofTry I0.ok, q2⟩
    | cont =>
      obtain ⟨σ2, H2, J2, q2⟩ := hsp
      exact ⟨σ2, H2, J2.ofTry I0.ok, q2⟩
    | ret u =>
      obtain ⟨v2, σ2, H2, J2, r2, q2⟩ := hsp
      exact ⟨v2, σ2, H2, J2.ofTry I0.ok, r2, q2⟩
end
end Kept

namespace Kept
open PySem PySem.Spec PyProof.Rows L2
/-- what the error's class tells, for isinstance and for its fields -/
structure ErrC (K : PySem.W.Frag) (C : Addr) : Prop where
  cl : (PySem.W.clsIn K C).isSome = true
  ga : PySem.W.findIn K (.ref C) "__getattribute__" = some (some (.builtin "BaseException.__getattribute__"))
  gg : PySem.W.findIn K (.ref C) "__getattr__" = some none
  sb : PySem.W.subIn K (.ref C) (.type "BaseException") = some true
  ca : PySem.W.findIn K (.ref C) "__class__" = some (some (.builtin "object.__class__"))
  cg : PySem.W.specialIn K (.builtin "object.__class__") "__get__" = some (some (.builtin "getset_descriptor.__get__"))
  ct : PySem.W.takesIn K (.builtin "object.__class__") = some true
  mo : PySem.W.mroIn K C (.type "object") = some true
  hd : PySem.W.hasDictIn K C = true
def errB (K : PySem.W.Frag) (C : Addr) : Bool :=
  (PySem.W.clsIn K C).isSome &&
  (decide (PySem.W.findIn K (.ref C) "__getattribute__" = some (some (.builtin "BaseException.__getattribute__"))) &&
  (decide (PySem.W.findIn K (.ref C) "__getattr__" = some none) &&
  (decide (PySem.W.subIn K (.ref C) (.type "BaseException") = some true) &&
  (decide (PySem.W.findIn K (.ref C) "__class__" = some (some (.builtin "object.__class__"))) &&
  (decide (PySem.W.specialIn K (.builtin "object.__class__") "__get__" = some (some (.builtin "getset_descriptor.__get__"))) &&
  (decide (PySem.W.takesIn K (.builtin "object.__class__") = some true) &&
  (decide (PySem.W.mroIn K C (.type "object") = some true) && PySem.W.hasDictIn K C)))))))
theorem errB_ok {K : PySem.W.Frag} {C : Addr} (h : errB K C = true) : ErrC K C := by
  unfold errB at h
  simp only [Bool.and_eq_true, decide_eq_true_eq] at h
  obtain ⟨h1, h2, h3, h4, h5, h6, h7, h8, h9⟩ := h
  exact ⟨h1, h2, h3, h4, h5, h6, h7, h8, h9⟩

section
variable {X : Cx} {pins : List (Addr × Obj)} {σ : L2.St} {H : Hp} {s : Shared} {a C : Addr} {d : Option Addr}
theorem errO_inst (I : Inv X pins σ H s) (e : H a = some (errO a (.ref C) d))
    (hd : ∀ dd, d = some dd → ∃ fs, H dd = some (.xd fs)) :
    ∃ ob od, PySem.W.InstAt s.heap a ob C od := by
  obtain ⟨ob, fl, h1, h2, h3⟩ := errO_get I.hok e
  have nc : PySem.W.notCls ob = true := by
    unfold PySem.W.notCls
    rw [h3]
    all_goals rfl
  cases d with
  | none => exact ⟨ob, none, h1, h2.1, nc, by rw [h2.2]; trivial⟩
  | some dd =>
    obtain ⟨fs, hq⟩ := hd dd rfl
    have z : ObjOk X.prog X.w H s.heap dd (.xd fs) := I.hok dd _ hq
    obtain ⟨mA, hns, hr⟩ := z
    obtain ⟨od, ho, _⟩ := lookIn_ns hns
    exact ⟨ob, some od, h1, h2.1, nc, by rw [h2.2]; exact ho⟩
end

/-- isinstance(e, c) of such an error, one class -/
def rIsErr (K : PySem.W.Frag) : List V → Hp → VK → Prop := fun xs H Q =>
  ∃ (a C : Addr) (d : Option Addr) (c : V) (u : Value) (b : Bool), xs = [.ref a, c] ∧ H a = some (errO a (.ref C) d) ∧
    (∀ dd, d = some dd → ∃ fs, H dd = some (.xd fs)) ∧ ErrC K C ∧ ClsV c u ∧ PySem.W.kitOne K (.ref C) u = some b ∧ Q (.bl b) H
/-- isinstance(e, (c1, c2)): the tuple laid just then -/
def rIsErrT (K : PySem.W.Frag) : List V → Hp → VK → Prop := fun xs H Q =>
  ∃ (a C tp : Addr) (d : Option Addr) (cs : List V) (us : List Value) (b : Bool), xs = [.ref a, .ref tp] ∧ H a = some (errO a (.ref C) d) ∧
    (∀ dd, d = some dd → ∃ fs, H dd = some (.xd fs)) ∧ ErrC K C ∧ H tp = some (.tup cs) ∧ Paired ClsV cs us ∧
    PySem.W.kitAny K (.ref C) us = some b ∧ Q (.bl b) H
section
variable {X : Cx}
theorem call_isErr : CallR X (.builtin "isinstance") (rIsErr X.K) := by
  intro pins s σ H xs us Q I r h
  obtain ⟨a, C, d, c, u, b, rfl, ea, hd, T, k, e, q⟩ := h
  obtain ⟨u1, u2, rfl, r1, r2⟩ := vals2 r
  cases (show u1 = Value.ref a from r1)
  have e2 := k.eq r2
  subst e2
  obtain ⟨ob, od, J⟩ := errO_inst I ea hd
  exact PySem.W.kia_one (PySem.W.kitx_exc T.cl T.ga T.gg T.sb T.ca T.cg T.ct T.mo) I.kIn J e (fun z => nomatch z)
    fun tk => ⟨.bl b, H, I.tok tk, rfl, q⟩
theorem call_isErrT : CallR X (.builtin "isinstance") (rIsErrT X.K) := by
  intro pins s σ H xs us Q I r h
  obtain ⟨a, C, tp, d, cs, ws, b, rfl, ea, hd, T, et, k, e, q⟩ := h
  obtain ⟨u1, u2, rfl, r1, r2⟩ := vals2 r
  cases (show u1 = Value.ref a from r1)
  cases (show u2 = Value.ref tp from r2)
  obtain ⟨ob, od, J⟩ := errO_inst I ea hd
  obtain ⟨_, its, rv, o, h1, h2, n, h3⟩ := (show ObjOk X.prog X.w H s.heap tp (.tup cs) from I.hok tp _ et)
  have e3 := ClsV.all k rv
  subst e3
  obtain ⟨oc, oq, dt, sl⟩ := o
  simp only at h2 h3
  subst h2 h3
  exact PySem.W.kia_tup (PySem.W.kitx_exc T.cl T.ga T.gg T.sb T.ca T.cg T.ct T.mo) I.kIn J h1 e (fun z => nomatch z)
    fun tk => ⟨.bl b, H, I.tok tk, rfl, q⟩
end

/-- e.f of such an error -/
def tErrF (K : PySem.W.Frag) (ta : TE) (f : Str) : TE := fun σ H Q => ta σ H fun x H1 =>
  ∃ (a C dd : Addr) (fs : List (Str × V)) (v : V), x = .ref a ∧ H1 a = some (errO a (.ref C) (some dd)) ∧ H1 dd = some (.xd fs) ∧
    ErrC K C ∧ PySem.W.findIn K (.ref C) f = some none ∧ fs.lookup f = some v ∧ Q v H1
theorem pe_errF {X : Cx} {e : Expr} {te : TE} {pos : Pos} {f : Str} (he : PE X e te)
    (hb : attributeBase e f X.env (eval e X.env) = eval e X.env := by rfl) : PE X (.Attribute e f pos) (tErrF X.K te f) := by
  refine ⟨fun pins s σ H Q I h => attr_of hb (thn (he.run pins s σ H _ I h) ?_)⟩
  rintro u s1 ⟨x, H1, I1, rx, a, C, dd, fs, v, rfl, ea, ed, T, no, l, q⟩
  obtain rfl : u = Value.ref a := rx
  obtain ⟨ob, fl, h1, h2, h3⟩ := errO_get I1.hok ea
  have nc : PySem.W.notCls ob = true := by
    unfold PySem.W.notCls
    rw [h3]
    all_goals rfl
  have z : ObjOk X.prog X.w H1 s1.heap dd (.xd fs) := I1.hok dd _ ed
  obtain ⟨mA, hns, hr⟩ := z
  obtain ⟨od, ho, hl⟩ := lookIn_ns hns
  obtain ⟨u, hu, ru⟩ := RelO.some_of (v := v) (o := mA f) (by rw [← l]; exact hr f)
  have J : PySem.W.InstAt s1.heap a ob C (some od) := ⟨h1, h2.1, nc, by rw [h2.2]; exact ho⟩
  exact HandSPX.exc_get I1.kIn J T.ga T.gg T.sb (PySem.W.findObj_own T.hd no rfl (by rw [hl, hu])) (handed_of ru) ⟨v, H1, I1.tok _, ru, q⟩
end Kept
set_option Elab.async false
set_option linter.all false
set_option maxRecDepth 100000
set_option maxHeartbeats 2000000
/-! Errors of the program: classes below an own class below ValueError, with fields set by __init__; raised, and let out. -/
namespace Ers
open PySem PySem.Spec PyProof.Rows L2 Pre Kept

def oexB (K : PySem.W.Frag) (C : Addr) : Bool := (match K.lookup C with
  | some ⟨.type t, _, .cls cd, sl⟩ => decide (t = "type") && (match cd.mro, sl.toList with
    | .ref C' :: bm, [_, _, _, _, some (.builtin n), _] => decide (C' = C) && (decide (n = "ValueError.__new__") && (!cd.hasDel && (cd.hasDict && PySem.HandSPX.refsVE bm)))
    | _, _ => false)
  | _ => false) && (decide (PySem.W.findIn K (.ref C) "__setattr__" = some (some (.builtin "object.__setattr__"))) &&
    (decide (PySem.W.subIn K (.ref C) (.type "BaseException") = some true) && (decide (PySem.W.typeIn K (.ref C) = some (.type "type")) && PySem.W.keepIn K (.ref C))))
theorem oexB_ok {K : PySem.W.Frag} {C : Addr} (h : oexB K C = true) : OexC K C := by
  unfold oexB at h
  simp only [Bool.and_eq_true, decide_eq_true_eq] at h
  obtain ⟨h1, h2, h3, h4, h5⟩ := h
  refine ⟨?_, h2, h3, h4, h5⟩
  cases q : K.lookup C with
  | none =>
    rw [q] at h1
    cases h1
  | some o =>
    obtain ⟨oc, dd, dt, sl⟩ := o
    rw [q] at h1
    cases oc with
    | type t =>
      cases dt with
      | cls cd =>
        simp only [Bool.and_eq_true, decide_eq_true_eq] at h1
        obtain ⟨rfl, h1⟩ := h1
        obtain ⟨nm, bs, mro, ns, qn, hd, sn, sub, ab, col, del⟩ := cd
        dsimp only at h1
        split at h1
        · rename_i C' bm k0 k1 k2 k3 n k5 hs
          simp only [Bool.and_eq_true, decide_eq_true_eq, Bool.not_eq_true'] at h1
          obtain ⟨rfl, rfl, rfl, rfl, h6⟩ := h1
          obtain ⟨l⟩ := sl
          have hs' : l = [k0, k1, k2, k3, some (.builtin "ValueError.__new__"), k5] := hs
          subst hs'
          exact ⟨nm, qn, ns, bs, bm, sn, sub, ab, col, dd, k0, k1, k2, k3, k5, rfl, h6⟩
        · cases h1
      | _ => cases h1
    | _ => cases dt <;> cases h1

/-- __init__ of one field -/
def spIni1 (C : Addr) (f : Str) : Sp := fun vs H Q _ => ∃ (a : Addr) (v : V), vs = [.ref a, v] ∧ H a = some (exo a C none) ∧
  ∀ dx, H dx = none → dx ≠ a → Q .non (upd (upd H dx (exd dx [(f, v)])) a (exo a C (some dx)))
/-- .. of two -/
def spIni2 (C : Addr) (f g : Str) : Sp := fun vs H Q _ => ∃ (a : Addr) (v u : V), vs = [.ref a, v, u] ∧ H a = some (exo a C none) ∧
  ∀ dx, H dx = none → dx ≠ a → Q .non (upd (upd H dx (exd dx [(g, u), (f, v)])) a (exo a C (some dx)))
theorem del_eq {H1 : Hp} {a dx : Addr} {fs : List (Str × V)} (n : H1 a = none) (ne : dx ≠ a) (H2 : Hp)
    (e : ∀ b, b ≠ a → b ≠ dx → H2 b = H1 b) : upd (del H2 a) dx (.xd fs) = upd H1 dx (.xd fs) := by
  funext b
  by_cases h1 : b = dx
  · subst h1
    rw [upd_same, upd_same]
  · rw [upd_ne h1, upd_ne h1]
    by_cases h2 : b = a
    · subst h2
      rw [del_same, n]
    · rw [del_ne h2]
      exact e b h2 h1
/-- a reading that is weaker behind its end -/
theorem pa_weak {X : Cx} {es : List Expr} {t : TA} (h : PA X es t) : PA X es (fun σ H Q => ∃ R : List V → Hp → Prop, t σ H R ∧ ∀ vs H1, R vs H1 → Q vs H1) := ⟨fun pos pins s σ H Q I q => by
  obtain ⟨R, h1, h2⟩ := q
  exact thn (h.run pos pins s σ H R I h1) fun us s1 ⟨vs, H1, I1, r1, q1⟩ => ⟨vs, H1, I1, r1, h2 vs H1 q1⟩⟩
section
variable {X : Cx} {W : WX} {x f g : Str} {C fI : Addr} {fd : FuncData} {e e2 : Expr} {te te2 : TE} {p pos pos' : Pos}
/-- raise x(e), x's __init__ setting one field -/
theorem ps_raise1 (T : OexC X.K C) (iC : PySem.W.findIn X.K (.ref C) "__init__" = some (some (.ref fI))) (tI : PySem.W.typeIn X.K (.ref fI) = some (.type "function"))
    (F : FnOk X.prog X.w X.K X.mg X.base CX0 1 fI fd ["self", f] (spIni1 C f)) (hr : Room 2 X.A) (hb : Binds X.K fd ["self", f] []) (hg : Gl X x) (hm : X.mg x = some (.ref C))
    (hc : X.calm = true) (tk : Takes X W) (he : PE X e te) (hdb : (x == ("__debug__" : Str)) = false := by decide)
    (hst : starEach [e] X.env = (false, eval e X.env) :: starEach [] X.env := by rfl) :
    PS X (.Raise (some (.Call (.Name x p) [e] [] pos)) none pos')
      (fun _ σ H => te σ H fun v H1 => ∀ d, H1 d = none → W (.ref C) (some d) σ (upd H1 d (.xd [(f, v)]))) := by
  have weak : PE X e (fun σ H Q => ∃ R : V → Hp → Prop, te σ H R ∧ ∀ v H1, R v H1 → Q v H1) := ⟨fun pins s σ H Q I h => by
    obtain ⟨R, h1, h2⟩ := h
    exact thn (he.run pins s σ H R I h1) fun u s1 ⟨v, H1, I1, r1, q1⟩ => ⟨v, H1, I1, r1, h2 v H1 q1⟩⟩
  have mk := pmk_oex (dvs := []) (pos := pos) (p := p) T iC tI F hr hb .nil (fun _ _ _ _ _ _ _ z => z.elim) hg hm (pa_cons weak pa_nil (hs := hst)) hdb hst (by rfl)
  refine ⟨fun pins s σ H D I h => (ps_raise (pos := pos') hc tk mk).run pins s σ H D I ?_⟩
  refine ⟨_, h, fun v H1 q => ⟨Nat.le_of_ble_eq_true rfl, fun a na => ⟨a, v, rfl, upd_same, fun dx nd ne => ⟨rfl, dx, [(f, v)], upd_same, ?_, ?_, ?_⟩⟩⟩⟩
  · rw [upd_ne ne, upd_same]
  · rw [upd_ne ne] at nd
    exact nd
  · have nd' : H1 dx = none := by
      rw [upd_ne ne] at nd
      exact nd
    rw [del_eq na ne _ (fun b h1 h2 => by rw [upd_ne h1, upd_ne h2, upd_ne h1])]
    exact q dx nd'
/-- raise x(e, e2) -/
theorem ps_raise2 (T : OexC X.K C) (iC : PySem.W.findIn X.K (.ref C) "__init__" = some (some (.ref fI))) (tI : PySem.W.typeIn X.K (.ref fI) = some (.type "function"))
    (F : FnOk X.prog X.w X.K X.mg X.base CX0 1 fI fd ["self", f, g] (spIni2 C f g)) (hr : Room 2 X.A) (hb : Binds X.K fd ["self", f, g] []) (hg : Gl X x) (hm : X.mg x = some (.ref C))
    (hc : X.calm = true) (tk : Takes X W) (he : PE X e te) (he2 : PE X e2 te2) (hdb : (x == ("__debug__" : Str)) = false := by decide)
    (hst : starEach [e, e2] X.env = (false, eval e X.env) :: starEach [e2] X.env := by rfl) (hst2 : starEach [e2] X.env = (false, eval e2 X.env) :: starEach [] X.env := by rfl)
    (hpl : (backTo pos (starEach [e2] X.env)).any (·.1) = false := by rfl) :
    PS X (.Raise (some (.Call (.Name x p) [e, e2] [] pos)) none pos')
      (fun _ σ H => te σ H fun v H1 => te2 σ H1 fun u H2 => ∀ d, H2 d = none → W (.ref C) (some d) σ (upd H2 d (.xd [(g, u), (f, v)]))) := by
  have mk := pmk_oex (dvs := []) (pos := pos) (p := p) T iC tI F hr hb .nil (fun _ _ _ _ _ _ _ z => z.elim) hg hm (pa_weak (pa_cons he (pa_cons he2 pa_nil (hs := hst2)) (hs := hst))) hdb hst hpl
  refine ⟨fun pins s σ H D I h => (ps_raise (pos := pos') hc tk mk).run pins s σ H D I ?_⟩
  refine ⟨fun vs H2 => match vs with | [v, u] => ∀ d, H2 d = none → W (.ref C) (some d) σ (upd H2 d (.xd [(g, u), (f, v)])) | _ => False, h, fun vs H2 q => ?_⟩
  match vs, q with
  | [v, u], q =>
    refine ⟨Nat.le_of_ble_eq_true rfl, fun a na => ⟨a, v, u, rfl, upd_same, fun dx nd ne => ⟨rfl, dx, [(g, u), (f, v)], upd_same, ?_, ?_, ?_⟩⟩⟩
    · rw [upd_ne ne, upd_same]
    · rw [upd_ne ne] at nd
      exact nd
    · have nd' : H2 dx = none := by
        rw [upd_ne ne] at nd
        exact nd
      rw [del_eq na ne _ (fun b h1 h2 => by rw [upd_ne h1, upd_ne h2, upd_ne h1])]
      exact q dx nd'
end
/-! the defs __init__ themselves -/
section
variable {P : Program} {w : World} {K : PySem.W.Frag} {mg : Str → Option Value} {base : Heap} {fI C : Addr} {fd : FuncData} {qual f g : Str} {params : Arguments} {scope : Scope} {dvs : List V} {kws : List (Str × V)}
  {p1 p2 p3 p4 p5 p6 p7 p8 : Pos}
theorem ok_ini1 (F : FunD K "__init__" qual params [.Assign [.Attribute (.Name "self" p1) f p2] (.Name f p3) p4] scope dvs kws fI fd) (S : FnScope ["self", f] ["self", f] scope) (T : OexC K C)
    (no : PySem.W.findIn K (.ref C) f = some none) (h0 : scope.names.lookup ("self" : Str) = some .local) (h1 : scope.names.lookup f = some .local) (hd : (f == ("__debug__" : Str)) = false) (hcd : (f == ("__classdict__" : Str)) = false) (hsw : ∀ env : Env, swapsWith (.Name f p3) (some (.Attribute (.Name "self" p1) f p2)) p4.line env = pure false) :
    FnOk P w K mg base CX0 1 fI fd ["self", f] (spIni1 C f) := by
  refine F.ok S (fun vs H Q E h => ?_) (fun cdv A outer s H vs Q E hr h => ?_)
  · obtain ⟨_, _, rfl, _⟩ := h
    rfl
  · obtain ⟨a, v, rfl, ea, k⟩ := h
    refine ⟨_, PSs.nox (pss_one (ps_ost (pe_var (i := 0) rfl (.inl h0)) (pe_var (i := 1) rfl (.inl h1) hd hcd) (hsw _))), ?_⟩
    exact ⟨v, rfl, .ref a, rfl, a, C, rfl, T, no, .inl ⟨ea, k⟩⟩
theorem ok_ini2 (F : FunD K "__init__" qual params [.Assign [.Attribute (.Name "self" p1) f p2] (.Name f p3) p4, .Assign [.Attribute (.Name "self" p5) g p6] (.Name g p7) p8] scope dvs kws fI fd)
    (S : FnScope ["self", f, g] ["self", f, g] scope) (T : OexC K C)
    (no : PySem.W.findIn K (.ref C) f = some none) (no2 : PySem.W.findIn K (.ref C) g = some none) (h0 : scope.names.lookup ("self" : Str) = some .local) (h1 : scope.names.lookup f = some .local) (h2 : scope.names.lookup g = some .local)
    (hd : (f == ("__debug__" : Str)) = false) (hcd : (f == ("__classdict__" : Str)) = false) (hd2 : (g == ("__debug__" : Str)) = false) (hcd2 : (g == ("__classdict__" : Str)) = false)
    (hsw : ∀ env : Env, swapsWith (.Name f p3) (some (.Attribute (.Name "self" p1) f p2)) p4.line env = pure false) (hsw2 : ∀ env : Env, swapsWith (.Name g p7) (some (.Attribute (.Name "self" p5) g p6)) p8.line env = pure false) :
    FnOk P w K mg base CX0 1 fI fd ["self", f, g] (spIni2 C f g) := by
  refine F.ok S (fun vs H Q E h => ?_) (fun cdv A outer s H vs Q E hr h => ?_)
  · obtain ⟨_, _, _, rfl, _⟩ := h
    rfl
  · obtain ⟨a, v, u, rfl, ea, k⟩ := h
    refine ⟨_, PSs.nox (pss_cons (ps_ost (pe_var (i := 0) rfl (.inl h0)) (pe_var (i := 1) rfl (.inl h1) hd hcd) (hsw _)) (pss_one (ps_ost (pe_var (i := 0) rfl (.inl h0)) (pe_var (i := 2) rfl (.inl h2) hd2 hcd2) (hsw2 _)))), ?_⟩
    refine ⟨v, rfl, .ref a, rfl, a, C, rfl, T, no, .inl ⟨ea, fun dx nd ne => ?_⟩⟩
    refine ⟨u, rfl, .ref a, rfl, a, C, rfl, T, no2, .inr ⟨dx, [(f, v)], upd_same, by rw [upd_ne ne, upd_same], Nat.le_of_ble_eq_true rfl, ?_⟩⟩
    have e : upd (upd (upd H dx (exd dx [(f, v)])) a (exo a C (some dx))) dx (exd dx [(g, u), (f, v)]) = upd (upd H dx (exd dx [(g, u), (f, v)])) a (exo a C (some dx)) := by
      funext b
      by_cases h1 : b = dx
      · subst h1
        rw [upd_same, upd_ne ne, upd_same]
      · rw [upd_ne h1]
        by_cases h2 : b = a
        · subst h2
          rw [upd_same, upd_same]
        · rw [upd_ne h2, upd_ne h1, upd_ne h2, upd_ne h1]
    rw [e]
    exact k dx nd ne
end
end Ers
set_option Elab.async false
set_option linter.all false
set_option maxRecDepth 100000
set_option maxHeartbeats 2000000
/-! Defs that show data (repr): called where nothing is being shown. -/
namespace Shw
open PySem PySem.Spec PyProof.Rows L2
/-- a def that keeps its promise where no repr is under way -/
structure FnG (P : Program) (w : World) (K : PySem.W.Frag) (mg : Str → Option Value) (base : Heap) (CX : CXT) (k : Nat) (f : Addr) (fd : FuncData) (ps : List Str) (sp : Sp) : Prop where
  many : ∀ vs H Q E, sp vs H Q E → vs.length = ps.length
  go : ∀ (A : Around) (up : List Env) (s : Shared) (H : Hp) (args : Args) (us : List Value) (vs : List V) (Q : VK) (E : XK), Room k A → A.guards = some [] →
    Env0 P w K mg base A up s H → BindsTo s fd args (ps.zip us) → Vals vs us → sp vs H Q E → codeAny (model P w) A (.call (.ref f) args) (CR CX up P w H s Q E) s
section
variable {P : Program} {w : World} {K : PySem.W.Frag} {mg : Str → Option Value} {base : Heap} {CX : CXT} {k j : Nat} {f : Addr} {fd : FuncData} {ps : List Str} {sp : Sp}
theorem FnG.of (F : FnOk P w K mg base CX k f fd ps sp) : FnG P w K mg base CX k f fd ps sp :=
  ⟨F.len, fun A up s H args us vs Q E hr _ => F.run A up s H args us vs Q E hr⟩
theorem FnG.mono (F : FnG P w K mg base CX j f fd ps sp) (h : j ≤ k) : FnG P w K mg base CX k f fd ps sp :=
  ⟨F.many, fun A up s H args us vs Q E hr => F.go A up s H args us vs Q E (hr.mono h)⟩
/-- the def by its body, nothing being shown -/
theorem fnG_of {name qual : Str} {params : Arguments} {body : List Stmt} {scope : Scope} {dV kV doc pm cdv ct oc : Value} {an od : Option Addr} {osl : Array (Option Value)} {N : List Str}
    (lk : K.lookup f = some ⟨oc, od, .func (PySem.W.fnOf name qual params body scope dV kV doc pm an cdv ct), osl⟩)
    (hcd : PySem.W.codeIn K cdv qual = true) (S : FnScope N ps scope) (many : ∀ vs H Q E, sp vs H Q E → vs.length = ps.length)
    (walk : ∀ (A : Around) (up : List Env) (s : Shared) (H : Hp) (vs : List V) (Q : VK) (E : XK), Room k (A.deeper (envOfC qual scope s.heap.objs.size f cdv)) →
      (A.deeper (envOfC qual scope s.heap.objs.size f cdv)).guards = some [] → sp vs H Q E →
      ∃ t, PSs (cxOf CX P w K mg base N qual scope f cdv A up s H E) body t ∧ t { nx := fun _ H' => Q .non H', rt := Q } (start N vs) H) :
    FnG P w K mg base CX (k + 1) f (PySem.W.fnOf name qual params body scope dV kV doc pm an cdv ct) ps sp := by
  refine ⟨many, ?_⟩
  intro A up s H args us vs Q E room still e0 bind rv hsp
  have nv := many _ _ _ _ hsp
  have stays : ∀ b o, base.get? b = some o → s.heap.get? b = some o := fun b o e => (e0.bs b o e).1
  have KX := e0.mod.kin.keeps stays
  have places : ∀ y ∈ ps.zip us, scope.names.lookup y.1 = some .local ∨
      (scope.names.lookup y.1 = some .cell ∧ ((cellsFrom (s.heap.objs.size + 1) scope.names []).lookup y.1).isSome = true) := by
    rintro ⟨n, v⟩ hy
    exact (S.par n (List.of_mem_zip hy).1).imp id fun q => ⟨q, PySem.W.cellsFrom_some _ _ _ (.inl q)⟩
  refine codeAny_call_function room.depth (KX _ _ lk) rfl S.co S.gen rfl (PySem.W.codeRec_of KX hcd) (bind _ _ _ _ ?_)
  refine wpAny_newFunctionEnv_cells S.kind places fun env he s1 x => ?_
  subst he
  refine ⟨(e0.mod.nolimit.keeps stays).keeps x.toInCall.keep, codeAny_func ?_⟩
  obtain ⟨t, ht, hq⟩ := walk A up s H vs Q E (room.deeper _) still hsp
  refine wpAny_mono (ht.run [] s1 (start N vs) H _ (inv_start S room.hd e0 nv rv x) hq) ?_ fun _ _ z => z
  intro fl s' out
  cases fl with
  | next =>
    obtain ⟨σ', H', J, q⟩ := out
    exact ⟨V.non, H', J.os, J.bare, J.base, J.hok, rfl, q⟩
  | ret u =>
    obtain ⟨v, σ', H', J, ru, q⟩ := out
    exact ⟨v, H', J.os, J.bare, J.base, J.hok, ru, q⟩
  | brk =>
    obtain ⟨_, _, _, q⟩ := out
    exact q.elim
  | cont =>
    obtain ⟨_, _, _, q⟩ := out
    exact q.elim
theorem okG {x qual : Str} {params : Arguments} {body : List Stmt} {scope : Scope} {dvs : List V} {kws : List (Str × V)} {N : List Str}
    (F : FunD K x qual params body scope dvs kws f fd) (S : FnScope N ps scope) (many : ∀ vs H Q E, sp vs H Q E → vs.length = ps.length)
    (walk : ∀ (cdv : Value) (A : Around) (up : List Env) (s : Shared) (H : Hp) (vs : List V) (Q : VK) (E : XK), Room k (A.deeper (envOfC qual scope s.heap.objs.size f cdv)) →
      (A.deeper (envOfC qual scope s.heap.objs.size f cdv)).guards = some [] → sp vs H Q E →
      ∃ t, PSs (cxOf CX P w K mg base N qual scope f cdv A up s H E) body t ∧ t { nx := fun _ H' => Q .non H', rt := Q } (start N vs) H) :
    FnG P w K mg base CX (k + 1) f fd ps sp := by
  obtain ⟨oc, od, dV, kV, doc, pm, an, cdv, ct, osl, rfl, lk, hcd, _, _⟩ := F.ex
  exact fnG_of lk hcd S many fun A up s H vs Q E hr hg hsp => walk cdv A up s H vs Q E hr hg hsp
end
section
variable {X : Cx} {CX : CXT} {k : Nat} {f : Addr} {fd : FuncData} {ps : List Str} {sp : Sp} {dvs : List V} {ds : List Value} {E : XK}
/-- the callee runs, nothing being shown -/
theorem run_G {pins : List (Addr × Obj)} {σ : L2.St} {H : Hp} {s : Shared} {Q : VK} {us : List Value} {vs : List V} (F : FnG X.prog X.w X.K X.mg X.base CX k f fd ps sp) (hr : Room k X.A)
    (still : X.A.guards = some []) (hb : Binds X.K fd ps ds) (hd : Vals dvs ds) (hx : Passes CX X E) (I : Inv X pins σ H s) (r : Vals vs us) (h : sp (vs ++ dvs) H Q E) :
    wpAny (model X.prog X.w) X.A (call (.ref f) us) (EP X pins σ Q) X.xe s := by
  have both : Vals (vs ++ dvs) (us ++ ds) := r.append hd
  have fits : (us ++ ds).length = ps.length := both.length.symm.trans (F.many _ _ _ _ h)
  refine wpAny_call (codeAny_mono (F.go X.A X.stack s H ⟨us, []⟩ (us ++ ds) (vs ++ dvs) Q E hr still I.env0 (hb s us I.kIn fits) both h) ?_)
  intro out s' hq
  cases out with
  | error e => exact hx pins σ H s e s' I hq
  | ok fl =>
    cases fl with
    | ret u => exact I.after hq
    | next => exact hq.elim
    | brk => exact hq.elim
    | cont => exact hq.elim
theorem pe_callG {x : Str} {p pos : Pos} {e : Expr} {es : List Expr} {t : TA} (F : FnG X.prog X.w X.K X.mg X.base CX k f fd ps sp) (hr : Room k X.A) (still : X.A.guards = some []) (hg : Gl X x)
    (hm : X.mg x = some (.ref f)) (hk : PySem.W.keepIn X.K (.ref f) = true) (hb : Binds X.K fd ps ds) (hd : Vals dvs ds) (hx : Passes CX X E) (ha : PA X (e :: es) t)
    (hdb : (x == ("__debug__" : Str)) = false := by decide) (he : starEach (e :: es) X.env = (false, eval e X.env) :: starEach es X.env := by rfl)
    (hpl : (backTo pos (starEach es X.env)).any (·.1) = false := by rfl) : PE X (.Call (.Name x p) (e :: es) [] pos) (tCall sp dvs E t) := by
  refine ⟨fun pins s σ H Q I h => wpAny_Call_Name_kw (ld_glob I hg hm ?_ hdb)⟩
  refine PySem.W.callWith_K (h₀ := X.base) I.ok.mod.kin hk (thn (ha.run pos pins s σ H _ I h) ?_) he hpl
  rintro us s1 ⟨vs, H1, I1, r, q⟩
  exact ⟨I1.kIn, run_G F hr still hb hd hx I1 r q⟩
end
/-- repr(x), x data without dicts, nothing being shown -/
def rRepr (K : PySem.W.Frag) : List V → Hp → VK → Prop := fun xs H Q =>
  ∃ (x : V) (d : PyData), xs = [x] ∧ Dp K H x d ∧ d.showable = true ∧ d.hasDict = false ∧ d.depth ≤ 60 ∧ d.shown.length ≤ sizeLine ∧ Q (.str d.shown) H
theorem call_repr {X : Cx} {k : Nat} (hr : Room k X.A) (still : X.A.guards = some []) : CallR X (.builtin "repr") (rRepr X.K) := by
  intro pins s σ H xs us Q I r h
  obtain ⟨x, d, rfl, dp, h1, h2, h3, h4, q⟩ := h
  obtain ⟨u, rfl, ru⟩ : ∃ u, us = [u] ∧ RelV x u := by
    cases r with
    | cons a b =>
      cases b
      exact ⟨_, rfl, a⟩
  obtain ⟨as, rd⟩ := Dp.reads I d x u dp ru
  have un := hr.un
  cases dp with
  | non =>
    cases (show u = Value.none from ru)
    refine PySem.P.repr_of_none ⟨.str _, H, I.tok _, ⟨_, rfl⟩, ?_⟩
    rw [PyData.shown_none] at q
    exact q
  | bl b =>
    cases (show u = Value.bool b from ru)
    refine PySem.P.repr_of_bool ⟨.str _, H, I.tok _, ⟨_, rfl⟩, ?_⟩
    rw [PyData.shown_bool] at q
    exact q
  | int i =>
    obtain ⟨t, rfl⟩ := (show ∃ t, u = Value.int i t from ru)
    have small : i.natAbs.log2 < 1920 := by
      simp only [PyData.showable, decide_eq_true_eq] at h1
      exact h1
    refine PySem.P.repr_of_int small ⟨.str _, H, I.tok _, ⟨_, rfl⟩, ?_⟩
    rw [PyData.shown_int] at q
    exact q
  | str y =>
    obtain ⟨t, rfl⟩ := (show ∃ t, u = Value.str y t from ru)
    rw [PyData.shown_str] at q h4
    exact PySem.P.repr_of_str ⟨.str _, H, I.tok _, ⟨_, rfl⟩, q⟩ h4
  | lst sq all_ =>
    cases ru
    exact repr_of_reads' rd h1 (PyData.noDict_hsm h2) still (by omega) (fun _ _ z => z) (fun h' u tk hk => ⟨.str _, H, I.kept hk, ⟨_, rfl⟩, q⟩) h4
  | tup sq all_ =>
    cases ru
    exact repr_of_reads' rd h1 (PyData.noDict_hsm h2) still (by omega) (fun _ _ z => z) (fun h' u tk hk => ⟨.str _, H, I.kept hk, ⟨_, rfl⟩, q⟩) h4
end Shw

/-! ### the end of a law whose defs show data -/
namespace Shw
open PySem PySem.Spec PyProof.Rows L2 LamX
/-- what is tracked at the law's entry: the tables T, empty; the script at a, if the written part does not hold it -/
def atLaw (K : PySem.W.Frag) (T : List Addr) (a : Addr) (ob : Obj) (xs : List V) : Hp := fun b =>
  if b ∈ T then some (.tbl #[]) else if b = a ∧ (K.lookup a).isNone = true then some (.frz ob (.lst xs)) else none
section
variable {K : PySem.W.Frag} {T : List Addr} {a b : Addr} {ob : Obj} {xs : List V} {u : HO}
theorem atLaw_tab (h : b ∈ T) : atLaw K T a ob xs b = some (.tbl #[]) := if_pos h
theorem atLaw_cases (h : atLaw K T a ob xs b = some u) : (b ∈ T ∧ u = .tbl #[]) ∨ (b ∉ T ∧ b = a ∧ K.lookup a = none ∧ u = .frz ob (.lst xs)) := by
  unfold atLaw at h
  by_cases h1 : b ∈ T
  · rw [if_pos h1] at h
    exact .inl ⟨h1, (Option.some.inj h).symm⟩
  · rw [if_neg h1] at h
    by_cases h2 : b = a ∧ (K.lookup a).isNone = true
    · rw [if_pos h2] at h
      exact .inr ⟨h1, h2.1, Option.isNone_iff_eq_none.mp h2.2, (Option.some.inj h).symm⟩
    · rw [if_neg h2] at h
      cases h
end
theorem endG {P : Program} {w : World} {K : PySem.W.Frag} {mg mb : Str → Option Value} {CX : CXT} {k : Nat} {fa a : Addr} {cs : List (Addr × Addr)} {fd : FuncData} {x : Str} {sp : Sp} {s1 : Shared} {vs : List Value} {ns : List Int}
    (KX : K.In s1.heap) (hns : s1.heap.Ns mainGlobals mg) (hb : s1.heap.Ns builtinsNs mb) (hbb : ∀ y : Str, y ≠ "__name__" → mb y = bootBuiltins y) (hlim : s1.heap.NoLimit) (hg : s1.gens = #[])
    (hT : ∀ p ∈ cs, s1.heap.get? p.2 = some { cls := .none, data := .fields #[] }) (nT : ∀ p ∈ cs, K.lookup p.2 = none) (hC : ∀ p ∈ cs, PySem.W.codeHdIn K p.1 p.2 = true)
    (hbm : ∃ (bm : Addr) (ob : Obj), mg "__builtins__" = some (.ref bm) ∧ bm ≠ builtinsNs ∧ s1.heap.get? bm = some ob ∧ ob.cls = .type "module" ∧ ob.dict = some builtinsNs ∧ ob.data = .plain)
    (ha : s1.heap.get? a = some { cls := .type "list", data := .seq vs.toArray }) (hi : IntsAre vs ns) (hl : ns.length ≤ sizeLine) (hr : Room k callerA)
    (F : ∀ base : Heap, K.In base → base.Ns mainGlobals mg → (∀ p ∈ cs, TabB base mg p.1 p.2) → FnG P w K mg base CX k fa fd [x] sp)
    (hbind : ∀ (s : Shared) (u : Value), BindsTo s fd ⟨[u], []⟩ [(x, u)])
    (hsp : ∀ H : Hp, (∀ p ∈ cs, H p.2 = some (.tbl #[])) → SqL K H a (ns.map V.int) → sp [.ref a] H (fun v _ => v = .bl true) fun _ _ _ => False)
    (hCX : ∀ H e s', CX [] H s1 (fun _ _ _ => False) e s' → False) :
    codeAny (model P w) callerA (.call (.ref fa) ⟨[.ref a], []⟩) (fun r s' => r = .ok (.ret (.bool true)) ∧ OldK s1.heap s'.heap ∧ s'.os = s1.os ∧ AllBare s'.gens) s1 := by
  let T := cs.map (·.2)
  let H := atLaw K T a { cls := .type "list", data := .seq vs.toArray } (ns.map V.int)
  have tabs : ∀ b ∈ T, s1.heap.get? b = some { cls := .none, data := .fields #[] } := fun b m => by
    obtain ⟨p, hp, rfl⟩ := List.mem_map.mp m
    exact hT p hp
  have tabK : ∀ b ∈ T, K.lookup b = none := fun b m => by
    obtain ⟨p, hp, rfl⟩ := List.mem_map.mp m
    exact nT p hp
  have aT : a ∉ T := fun m => by
    have q := tabs a m
    rw [ha] at q
    exact nomatch congrArg Obj.data (Option.some.inj q)
  have rv : Vals (ns.map V.int) vs := vals_ints hi
  have seen : SqL K H a (ns.map V.int) := by
    cases q : K.lookup a with
    | none =>
      refine .inl (.inr ⟨{ cls := .type "list", data := .seq vs.toArray }, ?_⟩)
      show atLaw K T a { cls := .type "list", data := .seq vs.toArray } (ns.map V.int) a = _
      unfold atLaw
      rw [if_neg aT, if_pos ⟨rfl, by rw [q]; rfl⟩]
    | some o =>
      have e := KX a o q
      rw [ha] at e
      cases e
      refine .inr ⟨_, vs.toArray, _, q, rfl, rfl, rfl, ?_, by simpa using rv⟩
      rw [List.size_toArray, hi.length]
      exact hl
  have ok : HOk P w H s1.heap := fun b u z => by
    rcases atLaw_cases z with ⟨m, rfl⟩ | ⟨_, rfl, _, rfl⟩
    · exact tabs b m
    · exact ⟨ha, by rw [List.length_map]; exact hl, vs, _, rv, ha⟩
  have stay : ∀ {b : Addr} {o : Obj}, s1.heap.get? b = some o → (∀ l n, o.data ≠ .seq l n) → o.data ≠ .fields #[] → (hidT s1.heap H).get? b = some o := fun {b o} e h1 h2 => by
    refine hidT_get e ?_
    cases q : H b with
    | none => rfl
    | some u =>
      rcases atLaw_cases q with ⟨m, _⟩ | ⟨_, rfl, _, _⟩
      · rw [tabs b m] at e
        cases e
        exact absurd rfl h2
      · rw [ha] at e
        cases e
        exact absurd rfl (h1 _ _)
  have nss : ∀ {b : Addr} {m : Str → Option Value}, s1.heap.Ns b m → (hidT s1.heap H).Ns b m := by
    rintro b m ⟨o, es, ep, e, d, r⟩
    exact ⟨o, es, ep, stay e (fun l n z => by rw [d] at z; cases z) (fun z => by rw [d] at z; cases z), d, r⟩
  have KB : K.In (hidT s1.heap H) := fun b o e => by
    refine hidT_get (KX b o e) ?_
    cases q : H b with
    | none => rfl
    | some u =>
      rcases atLaw_cases q with ⟨m, _⟩ | ⟨_, rfl, n, _⟩
      · rw [tabK b m] at e
        cases e
      · rw [n] at e
        cases e
  have MB : L2.Mod K mg (hidT s1.heap H) := ⟨KB, nss hns, ⟨mb, nss hb, hbb⟩, by
    obtain ⟨mc, z1, z2⟩ := hlim
    exact ⟨mc, nss z1, z2⟩⟩
  have notDict : ∀ {b : Addr} {m : Str → Option Value} {o : Obj}, s1.heap.Ns b m → s1.heap.get? b = some o → ∃ es ep, o.data = .dict es ep := by
    rintro b m o ⟨o', es, ep, e, d, _⟩ z
    rw [z] at e
    cases e
    exact ⟨es, ep, d⟩
  have TB : ∀ p ∈ cs, TabB (hidT s1.heap H) mg p.1 p.2 := fun p hp => by
    have gP : mainGlobals ≠ p.2 := fun z => by
      obtain ⟨es, ep, q⟩ := notDict hns (z ▸ hT p hp)
      cases q
    obtain ⟨bm, ob, b1, b2, b3, b4, b5, b6⟩ := hbm
    refine ⟨PySem.W.codeHd_of_K KB (hC p hp), ⟨bm, ob, b1, b2, fun z => ?_, fun z => ?_, stay b3 (fun l n z => by rw [b6] at z; cases z) (fun z => by rw [b6] at z; cases z), b4, b5, b6⟩, gP⟩
    · obtain ⟨es, ep, q⟩ := notDict hns (z ▸ b3)
      rw [b6] at q
      cases q
    · have q := hT p hp
      rw [← z, b3] at q
      cases q
      cases b6
  have e0 : Env0 P w K mg (hidT s1.heap H) callerA [] s1 H :=
    ⟨rfl, MB, fun b o e => of_hidT e, Nat.le_of_eq (hidT_size _ _), trivial, fun b hb => absurd (show b ∈ ([] : List Addr) from hb) (by simp), ok, .of_eq hg⟩
  have tracked : ∀ p ∈ cs, H p.2 = some (.tbl #[]) := fun p hp => atLaw_tab (List.mem_map.mpr ⟨p, hp, rfl⟩)
  refine codeAny_mono ((F _ KB (nss hns) TB).go callerA [] s1 H ⟨[.ref a], []⟩ [.ref a] [.ref a] _ _ hr rfl e0 (hbind s1 (.ref a)) (.cons rfl .nil) (hsp H tracked seen)) ?_
  intro r s' out
  cases r with
  | error e => exact (hCX H e s' out).elim
  | ok fl =>
    cases fl with
    | next => exact False.elim out
    | brk => exact False.elim out
    | cont => exact False.elim out
    | ret u =>
      obtain ⟨v, H', os', bare, un, ok', ru, ev⟩ := out
      cases (show v = .bl true from ev)
      cases (show u = Value.bool true from ru)
      refine ⟨rfl, ⟨fun b o e => ?_, fun b o e => ?_⟩, os', bare⟩
      · by_cases m : b ∈ T
        · obtain ⟨p, hp, rfl⟩ := List.mem_map.mp m
          rw [hT p hp] at e
          cases e
          obtain ⟨more, z⟩ := un.tbls p.2 #[] (tracked p hp)
          have z2 : s'.heap.get? p.2 = some { cls := .none, data := .fields (#[] ++ more) } := ok' p.2 _ z
          exact .inr (.inl ⟨((PySem.W.codeHd_of_K KX (hC p hp)).tab (hT p hp)).isCodeTable, rfl, #[], more, rfl, z2⟩)
        · cases q : H b with
          | none => exact .inl (un.keep b o e q (by simp [frs]) (by simp))
          | some u =>
            rcases atLaw_cases q with ⟨m', _⟩ | ⟨_, rfl, _, rfl⟩
            · exact absurd m' m
            · obtain ⟨z, _⟩ := ok' b _ (un.frzs b _ _ q)
              rw [ha] at e
              cases e
              exact .inl z
      · obtain ⟨o', z⟩ := un.there b o e (by simp)
        exact ⟨o', z⟩
end Shw

namespace Shw
open PySem PySem.Spec PyProof.Rows L2 LamX
/-- what is known of the law's def at the heap h behind the head -/
structure LawG (l : PySem.W.OpenLaw) (w : World) (K : PySem.W.Frag) (CX : CXT) (k n : Nat) (x : Str) (mg : Str → Option Value) (fa : Addr) (h : Heap) (fd : FuncData) (cs : List (Addr × Addr)) (sp : Sp) : Prop where
  laid : ∀ p ∈ cs, h.get? p.2 = some { cls := .none, data := .fields #[] }
  out : ∀ p ∈ cs, K.lookup p.2 = none
  code : ∀ p ∈ cs, PySem.W.codeHdIn K p.1 p.2 = true
  binds : ∀ (s : Shared) (u : Value), BindsTo s fd ⟨[u], []⟩ [(x, u)]
  asks : ∀ (H : Hp) (a : Addr) (ns : List Int), ns.length ≤ n → (∀ z ∈ ns, Builtin.Int.intBits z ≤ 1048576) → (∀ p ∈ cs, H p.2 = some (.tbl #[])) → SqL K H a (ns.map V.int) →
    sp [.ref a] H (fun v _ => v = .bl true) fun _ _ _ => False
  keeps : ∀ base : Heap, K.In base → base.Ns mainGlobals mg → (∀ p ∈ cs, TabB base mg p.1 p.2) → FnG l.prog w K mg base CX k fa fd [x] sp
theorem walkG {l : PySem.W.OpenLaw} {n k : Nat} {q : Program} {loose : List Str} {XP : (Str → Option Value) → Heap → Prop} {YP : World → Heap → Prop} {d : DefRec} {CX : World → CXT} {x : Str}
    (hn : l.most = some n) (hn2 : n ≤ sizeLine) (hdf : d.params.defaults = []) (hr : Room k callerA)
    (F : ∀ (w : World) (mg : Str → Option Value) (fa : Addr) (h : Heap), YP w h → h.Ns mainGlobals mg → mg d.name = some (.ref fa) →
      ∃ K : PySem.W.Frag, K.In h ∧ ∃ fd cs sp, LawG l w K (CX w) k n x mg fa h fd cs sp)
    (hCX : ∀ (w : World) (H : Hp) (s : Shared) (e : Value) (s' : Shared), CX w [] H s (fun _ _ _ => False) e s' → False) :
    PySem.W.WalkO q loose XP YP l.row.toRowW d [] (fun f vs => PySem.call f vs) := by
  refine Att.attach_callB hn hdf ?_
  intro w s0 s1 mg mb fa o pm cd doc a vs ns G Y ho hd hcd hmg hobj hints hlen hbits hg
  obtain ⟨K, KX, fd, cs, sp, L⟩ := F w mg fa _ Y G.T.g hmg
  exact endG KX G.T.g G.T.b G.T.builtins G.T.nolimit hg L.laid L.out L.code G.T.bmain hobj hints (Nat.le_trans hlen hn2) hr L.keeps L.binds
    (fun H hH hS => L.asks H a ns hlen hbits hH hS) fun H e s' => hCX w H s1 e s'
end Shw
set_option Elab.async false
set_option linter.all false
set_option maxRecDepth 100000
set_option maxHeartbeats 2000000
namespace Dfs
open PySem PySem.Spec PyProof.Rows L2 Pre
/-- a def of the module, by its name -/
structure Dfn (P : Program) (w : World) (K : PySem.W.Frag) (mg : Str → Option Value) (base : Heap) (CX : CXT) (k : Nat) (x : Str) (ps : List Str) (sp : Sp) : Prop where
  at_ : mg x = some (.ref (He.ga K x))
  kp : PySem.W.keepIn K (.ref (He.ga K x)) = true
  ok : ∃ fd, FnOk P w K mg base CX k (He.ga K x) fd ps sp ∧ Binds K fd ps []
/-- a method of a class of the module -/
structure Mfn (P : Program) (w : World) (K : PySem.W.Frag) (mg : Str → Option Value) (base : Heap) (CX : CXT) (k : Nat) (C : Addr) (m : Str) (ps : List Str) (sp : Sp) : Prop where
  cl : Cls K C
  mt : Meth K C m (He.ma K C m)
  ok : ∃ fd, FnOk P w K mg base CX k (He.ma K C m) fd ps sp ∧ Binds K fd ps []
section
variable {X : Cx} {CX : CXT} {k : Nat} {x m : Str} {C : Addr} {ps : List Str} {sp : Sp} {E : XK} {t : TA} {ta : TE} {e o : Expr} {es : List Expr} {p pos apos : Pos}
theorem pe_d (D : Dfn X.prog X.w X.K X.mg X.base CX k x ps sp) (hr : Room k X.A) (hg : Gl X x) (hx : Passes CX X E) (ha : PA X (e :: es) t) (hdb : (x == ("__debug__" : Str)) = false := by decide)
    (he : starEach (e :: es) X.env = (false, eval e X.env) :: starEach es X.env := by rfl) (hpl : (backTo pos (starEach es X.env)).any (·.1) = false := by rfl) :
    PE X (.Call (.Name x p) (e :: es) [] pos) (tCall sp [] E t) := by
  obtain ⟨fd, F, b⟩ := D.ok
  exact pe_call F hr hg D.at_ D.kp b .nil hx ha hdb he hpl
theorem pe_m {pl : Sem Bool} (he : PE X o ta) (D : Mfn X.prog X.w X.K X.mg X.base CX k C m ps sp) (hr : Room k X.A) (hx : Passes CX X E) (ha : PA X (e :: es) t)
    (hst : starEach (e :: es) X.env = (false, eval e X.env) :: starEach es X.env := by rfl) (hpl : (backTo pos (starEach es X.env)).any (·.1) = false := by rfl)
    (ht : eval (.Call (.Attribute o m apos) (e :: es) [] pos) X.env = (do
      let ov ← eval o X.env
      standAt apos.atName
      let (f, first) ← holding [ov] (getMethod ov m pl)
      callWith pos f first (backTo pos (starEach (e :: es) X.env)) (backToKw pos (keywordEach [] X.env))) := by rfl) :
    PE X (.Call (.Attribute o m apos) (e :: es) [] pos) (tMeth C m sp [] E ta t) := by
  obtain ⟨fd, F, b⟩ := D.ok
  exact pe_meth he D.cl D.mt F hr b .nil hx ha hst hpl ht
theorem pe_m0 {pl : Sem Bool} (he : PE X o ta) (D : Mfn X.prog X.w X.K X.mg X.base CX k C m ps sp) (hr : Room k X.A) (hx : Passes CX X E)
    (ht : eval (.Call (.Attribute o m apos) [] [] pos) X.env = (do
      let ov ← eval o X.env
      standAt apos.atName
      let (f, first) ← holding [ov] (getMethod ov m pl)
      callWith pos f first [] (backToKw pos (keywordEach [] X.env))) := by rfl) :
    PE X (.Call (.Attribute o m apos) [] [] pos) (tMeth C m sp [] E ta tNil) := by
  obtain ⟨fd, F, b⟩ := D.ok
  exact pe_meth0 he D.cl D.mt F hr b .nil hx ht
end
/-- an exception of a callee that this def lets out -/
theorem lets {P : Program} {w : World} {X : Cx} {E : XK} {W : WX} (tk : Takes X W) (h : ∀ cls d σ H, E cls d H → W cls d σ H) (eP : X.prog = P) (ew : X.w = w) : Passes (L2.CX P w) X E := by
  subst eP
  subst ew
  exact passes_call tk h
end Dfs
set_option Elab.async false
set_option linter.all false
set_option maxRecDepth 100000
set_option maxHeartbeats 2000000
/-! super().__init__(..) of an own class, in a def that closes over its class. -/
namespace Sup
open PySem PySem.Spec PyProof.Rows L2 Pre NdefX StX
/-- f's def closes over its class D by the cell cc; its code object stands at c -/
structure FunS (P : Program) (K : PySem.W.Frag) (x qual : Str) (params : Arguments) (body : List Stmt) (scope : Scope) (D cc c f : Addr) (fd : FuncData) : Prop where
  ex : ∃ (oc : Value) (od : Option Addr) (kV doc pm : Value) (an : Option Addr) (ct : Value) (osl : Array (Option Value)),
    fd = PySem.W.fnX x qual params body scope [("__class__", cc)] .none kV doc pm an (.ref c) ct ∧ K.lookup f = some ⟨oc, od, .func fd, osl⟩
  cod : PySem.W.codeIn K (.ref c) qual = true
  file : ∃ (ccl : Value) (cdd : Option Addr) (vs : Array Value) (ccs : Array (Option Value)) (file : Str) (tf : Tok), K.lookup c = some ⟨ccl, cdd, .fields vs, ccs⟩ ∧ vs[2]? = some (.str file tf) ∧ ((P.main.file : Str) == file) = true
  cell : ∃ (cl : Value) (cld : Option Addr) (csl : Array (Option Value)), K.lookup cc = some ⟨cl, cld, .cell (some (.ref D)), csl⟩
  cls : ∃ cd, PySem.W.clsIn K D = some cd
  sub : PySem.W.mroIn K D (.ref D) = some true
  sup : PySem.W.nsIn K mainGlobals "super" = some none
  top : (P.main.scope.names.lookup ("super" : Str)).isSome = false
/-- no class of another party is known in the heap -/
def Opq (h : Heap) : Prop := ∃ o, h.get? cStatics = some o ∧ PySem.W.nsIn [(cStatics, o)] cStatics "thirdparty.any" = some none
theorem Opq.looks {h h' : Heap} {M : Model} {C : Addr} (q : Opq h) (k : ∀ b o, h.get? b = some o → h'.get? b = some o) : PySem.W.Looks M h' (opaqueClassAbove (.ref C)) none := by
  obtain ⟨o, e1, e2⟩ := q
  refine PySem.W.looks_opaque (K := [(cStatics, o)]) (fun a u z => ?_) e2
  have z2 : (match a == cStatics with | true => some o | false => none) = some u := z
  cases hh : (a == cStatics) with
  | true =>
    rw [hh] at z2
    rw [beq_iff_eq.mp hh, ← Option.some.inj z2]
    exact k _ _ e1
  | false =>
    rw [hh] at z2
    cases z2
/-- statements that run as the def's own activation -/
structure PSa (X : Cx) (c : Code) (st : List Stmt) (t : TS) : Prop where
  run : ∀ (pins : List (Addr × Obj)) (s : Shared) (σ : L2.St) (H : Hp) (D : Ends), Inv X pins σ H s → t D σ H → _root_.PySem.wpAt (model X.prog X.w) X.A c (execs st X.env) (SP X pins D) X.xe s
section
variable {X : Cx} {c : Code} {st : Stmt} {sts : List Stmt} {t u : TS}
theorem psa_of (h : PSs X sts t) : PSa X c sts t := ⟨fun pins s σ H D I q => wpAt_of_wpAny (h.run pins s σ H D I q)⟩
theorem psa_cons (h : PS X st t) (r : PSa X c sts u) : PSa X c (st :: sts) (tSeq t u) := ⟨fun pins s σ H D I q => by
  refine ks_wpAt_execs_cons (wpAt_of_wpAny (thn (h.run pins s σ H { D with nx := u D } I q) fun fl s1 z => ?_))
  cases fl with
  | next =>
    obtain ⟨σ1, H1, I1, z1⟩ := z
    exact r.run pins s1 σ1 H1 D I1 z1
  | ret v => exact z
  | brk => exact z
  | cont => exact z⟩
end
/-- super().__init__(..): self stands in the first slot -/
def tSup (C : Addr) (sp : Sp) (E : XK) (t : TA) (u : TS) : TS := fun D σ H => ∃ a dx fs, σ[0]? = some (some (.ref a)) ∧ H a = some (.ins C dx fs) ∧
  t σ H fun vs H1 => H1 a = some (.ins C dx fs) ∧ sp (.ref a :: vs) H1 (fun _ H2 => u D σ H2) E
section
variable {CX CX' : CXT} {P : Program} {w : World} {K : PySem.W.Frag} {mg : Str → Option Value} {base : Heap} {N : List Str} {x qual : Str} {params : Arguments} {body : List Stmt} {scope : Scope} {D cc c f g : Addr} {fd gd : FuncData} {A : Around} {outer : List Env} {s0 : Shared} {H0 : Hp} {E0 E : XK}
  {k : Nat} {ps : List Str} {sp : Sp} {t : TA} {u : TS} {sts : List Stmt} {e : Expr} {p0 p1 p2 p3 p4 : Pos} {ar : Arg} {pl : Sem Bool}
abbrev nfS (x qual : Str) (params : Arguments) (body : List Stmt) (scope : Scope) (cc c : Addr) : NF := ⟨x, qual, params, body, scope, [("__class__", cc)], c⟩
theorem psa_super (S : FunS P K x qual params body scope D cc c f fd) (hopq : Opq base) (hp : (params.posonlyargs ++ params.args).head? = some ar) (hN : N[0]? = some ar.arg)
    (hks : scope.names.lookup ("super" : Str) = some .globalImplicit) (hkc : scope.names.lookup ("__class__" : Str) = some .free) (hka : scope.names.lookup ar.arg = some .local)
    (hm : PySem.W.ks_superIn K D D "__init__" = some (some (.ref g))) (ht : PySem.W.typeIn K (.ref g) = some (.type "function")) (hf : PySem.W.fnIn K g = true)
    (F : FnOk P w K mg base CX' k g gd ps sp) (hr : Room k (A.deeper (envF (nfS x qual params body scope cc c) f s0.heap.objs.size))) (hb : Binds K gd ps [])
    (hx : Passes CX' (ncx CX P w K mg base N (nfS x qual params body scope cc c) f A outer s0 H0 E0) E)
    (ha : PA (ncx CX P w K mg base N (nfS x qual params body scope cc c) f A outer s0 H0 E0) [e] t)
    (r : PSa (ncx CX P w K mg base N (nfS x qual params body scope cc c) f A outer s0 H0 E0) (.func body (envF (nfS x qual params body scope cc c) f s0.heap.objs.size)) sts u)
    (hst : starEach [e] (envF (nfS x qual params body scope cc c) f s0.heap.objs.size) = (false, eval e (envF (nfS x qual params body scope cc c) f s0.heap.objs.size)) :: starEach [] (envF (nfS x qual params body scope cc c) f s0.heap.objs.size) := by rfl)
    (hi : interactive (envF (nfS x qual params body scope cc c) f s0.heap.objs.size) = false := by rfl)
    (hs : swapsWith (.Call (.Attribute (.Call (.Name "super" p0) [] [] p1) "__init__" p2) [e] [] p3) none p4.line (envF (nfS x qual params body scope cc c) f s0.heap.objs.size) = pure false := by rfl)
    (he : eval (.Call (.Attribute (.Call (.Name "super" p0) [] [] p1) "__init__" p2) [e] [] p3) (envF (nfS x qual params body scope cc c) f s0.heap.objs.size) = (do
      let ov ← attributeBase (.Call (.Name "super" p0) [] [] p1) "__init__" (envF (nfS x qual params body scope cc c) f s0.heap.objs.size) (eval (.Call (.Name "super" p0) [] [] p1) (envF (nfS x qual params body scope cc c) f s0.heap.objs.size))
      standAt p2.atName
      let (h, first) ← holding [ov] (getMethod ov "__init__" pl)
      callWith p3 h first (backTo p3 (starEach [e] (envF (nfS x qual params body scope cc c) f s0.heap.objs.size))) []) := by rfl) :
    PSa (ncx CX P w K mg base N (nfS x qual params body scope cc c) f A outer s0 H0 E0) (.func body (envF (nfS x qual params body scope cc c) f s0.heap.objs.size))
      (.Expr (.Call (.Attribute (.Call (.Name "super" p0) [] [] p1) "__init__" p2) [e] [] p3) p4 :: sts) (tSup D sp E t u) := ⟨fun pins s σ H En I q => by
  obtain ⟨a, dx, fs, ea, hins, q⟩ := q
  have KX : K.In s.heap := I.kIn
  obtain ⟨oc, od, kV, doc, pm, an, ct, osl, rfl, lk⟩ := S.ex
  obtain ⟨ccl, cdd, vs, ccs, file, tf, lc, hvs, hfile⟩ := S.file
  obtain ⟨cl, cld, csl, lcc⟩ := S.cell
  obtain ⟨cd, hcd⟩ := S.cls
  obtain ⟨mA, O, _, _, _, _⟩ := ins_get I.hok hins
  have hox := O.obj
  obtain ⟨oD, lD, hD2⟩ : ∃ oD, K.lookup D = some oD ∧ oD.data = .cls cd := by
    unfold PySem.W.clsIn at hcd
    split at hcd
    · rename_i c0 d0 cd' sl ho
      cases hcd
      exact ⟨_, ho, rfl⟩
    · cases hcd
  have hD1 := KX _ _ lD
  have aD : a ≠ D := by
    rintro rfl
    rw [(I.bs _ _ (I.mod.kin _ _ lD)).2] at hins
    cases hins
  obtain ⟨og, lg, hgc⟩ : ∃ og, K.lookup g = some og ∧ og.cls = .type "function" := by
    have ht' : (K.lookup g).map (·.cls) = some (.type "function") := ht
    cases z : K.lookup g with
    | none =>
      rw [z] at ht'
      cases ht'
    | some og =>
      rw [z] at ht'
      exact ⟨og, rfl, Option.some.inj ht'⟩
  have hm2 : PySem.W.alongIn K "__init__" ((cd.mro.dropWhile (· != .ref D)).drop 1) = some (some (.ref g)) := by
    unfold PySem.W.ks_superIn at hm
    rw [hcd] at hm
    exact hm
  obtain ⟨m, hns, hσ⟩ := I.loc
  obtain ⟨ua, rua, la⟩ := hσ 0 ar.arg (.ref a) hN ea (.inl hka)
  obtain rfl : ua = .ref a := rua
  have hself : m ar.arg = some (.ref a) := by
    rcases la with ⟨_, e1⟩ | ⟨e1, _⟩
    · exact e1
    · rw [show (ncx CX P w K mg base N (nfS x qual params body scope cc c) f A outer s0 H0 E0).env.kindOf ar.arg = some .local from hka] at e1
      rcases e1 with e1 | e1 <;> cases e1
  obtain ⟨mb, b1, b2⟩ := I.mod.blt
  have hsup : mg "super" = none := PySem.W.mg_none_of I.mod.kin I.mod.glob S.sup
  have hboot : bootBuiltins "super" = some (.type "super") := by kernel_rfl
  obtain ⟨hh, gs, d, tk, os⟩ := s
  refine ks_wpAt_execs_cons (ks_wpAt_Expr_any (ks_wpAt_MethodCall (ks_wpAt_super_base (env := envF (nfS x qual params body scope cc c) f s0.heap.objs.size) hks hkc (by decide) rfl (KX _ _ lk) rfl hp rfl (KX _ _ lc) rfl hvs hfile S.top ?_) he) hi hs)
  refine PySem.W.ks_loadName_global I.ok.kind hks (Calls.loadGlobal_builtin (env := envF (nfS x qual params body scope cc c) f s0.heap.objs.size) (I.mod.glob.keeps I.bk) hsup (b1.keeps I.bk) ((b2 _ (by decide)).trans hboot) ⟨rfl, ?_⟩)
  refine wpAny_loadName_free I.ok.kind hkc rfl ⟨_, KX _ _ lcc, rfl⟩ ?_
  refine wpAny_loadName_local I.ok.kind hka hns hself ?_
  refine ks_wpAny_isType_cls hD1 hD2 ⟨rfl, ?_⟩
  refine ks_wpAny_call_super hD1 hD2 hox rfl (fun c e => by cases e) (PySem.W.looks_mroIn KX S.sub) (fun h' e1 k1 => ?_)
  have I1 : Inv _ ((hh.objs.size, PySem.W.ks_superObj D a D) :: pins) σ H ⟨h', gs, d, tk, os⟩ := ClX.pin_new (t' := tk) I k1 (Nat.le_refl _) e1 (fun v z => by cases z)
  have KX1 : K.In h' := I1.kIn
  refine ks_wpAny_getMethod_super e1 (hopq.looks I1.bk) (l₀ := cd.mro) (fun A Q E s k q => wpAny_bind ((PySem.W.looks_clsIn KX1 hcd) A _ E s k (wpAny_pure q))) rfl KX1 hm2 (KX1 _ _ lg) hgc aD (by decide) ?_
  have I2 : Inv _ ((h'.objs.size, PySem.W.methodObj (.ref g) (.ref a)) :: (hh.objs.size, PySem.W.ks_superObj D a D) :: pins) σ H ⟨h'.push (PySem.W.methodObj (.ref g) (.ref a)), gs, d, tk + 1, os⟩ :=
    ClX.pin_new (t' := tk + 1) I1 (fun b o z => Heap.get?_push_of_some _ z) (Nat.le_refl _) (Heap.get?_push_at rfl rfl) (fun v z => by cases z)
  show wpAny _ _ (callWith p3 (.ref h'.objs.size) [] (backTo p3 (starEach [e] (envF (nfS x qual params body scope cc c) f s0.heap.objs.size))) []) _ _ _
  have ev := ha.run p3 _ _ σ H _ I2 q
  have ev2 : wpAny (model P w) (A.deeper (envF (nfS x qual params body scope cc c) f s0.heap.objs.size)) (spliced (backTo p3 (starEach [e] (envF (nfS x qual params body scope cc c) f s0.heap.objs.size)))) _ _ _ := ev
  rw [hst] at ev2 ⊢
  refine PySem.W.callWith_of (P := PySem.W.MethP K h'.objs.size g (.ref a)) rfl (PySem.W.keeps_M hf) (Calls.evalArgs_plain (thn ev2 ?_))
  rintro us s1 ⟨vs1, H1, I3, rv, eh, q1⟩
  refine ⟨⟨ClX.pin_at I3, I3.kIn⟩, ?_⟩
  have r2 : Vals (V.ref a :: vs1) (Value.ref a :: us) := .cons rfl rv
  have hl : (Value.ref a :: us).length = ps.length := by
    rw [← r2.length]
    exact F.len _ _ _ _ q1
  have hb2 := hb s1 (Value.ref a :: us) I3.kIn (by rw [List.append_nil]; exact hl)
  rw [List.append_nil] at hb2
  refine wpAny_call (PySem.W.method_call (ClX.pin_at I3) (codeAny_mono (F.run _ _ s1 H1 ⟨Value.ref a :: us, []⟩ (Value.ref a :: us) (V.ref a :: vs1) _ E hr I3.env0 hb2 r2 q1) ?_))
  intro out s2 hq
  cases out with
  | error z => exact hx _ σ H1 s1 z s2 I3 hq
  | ok fl =>
    cases fl with
    | ret v =>
      obtain ⟨y, H2, I4, _, q2⟩ := I3.after hq
      exact r.run pins s2 σ H2 En (ClX.unpin (ClX.unpin I4)) q2
    | next => exact hq.elim
    | brk => exact hq.elim
    | cont => exact hq.elim⟩
theorem fnS_of (S : FunS P K x qual params body scope D cc c f fd) (NS : NScope N ps ["__class__"] scope) (len : ∀ vs H Q E, sp vs H Q E → vs.length = ps.length)
    (walk : ∀ (A : Around) (outer : List Env) (s : Shared) (H : Hp) (vs : List V) (Q : VK) (E : XK), Room k (A.deeper (envF (nfS x qual params body scope cc c) f s.heap.objs.size)) → sp vs H Q E →
      ∃ t, PSa (ncx CX P w K mg base N (nfS x qual params body scope cc c) f A outer s H E) (.func body (envF (nfS x qual params body scope cc c) f s.heap.objs.size)) body t ∧ t { nx := fun _ H' => Q .non H', rt := Q } (startF N vs [none]) H) :
    FnOk P w K mg base CX (k + 1) f fd ps sp := by
  refine ⟨len, fun A outer s H args us vs Q E hr e0 hbind rv hsp => ?_⟩
  have KX : K.In s.heap := e0.mod.kin.keeps fun b o e => (e0.bs b o e).1
  have hl := len _ _ _ _ hsp
  have lim : s.heap.NoLimit := e0.mod.nolimit.keeps fun b o e => (e0.bs b o e).1
  obtain ⟨oc, od, kV, doc, pm, an, ct, osl, rfl, lk⟩ := S.ex
  obtain ⟨cl, cld, csl, lcc⟩ := S.cell
  have one : ∀ (y : Str) (q : Addr), ([("__class__", cc)] : List (Str × Addr)).lookup y = some q → y = "__class__" ∧ q = cc := fun y q z => by
    simp only [List.lookup] at z
    split at z
    · rename_i h1
      exact ⟨beq_iff_eq.mp h1, (Option.some.inj z).symm⟩
    · cases z
  have C : CellsAt [("__class__", cc)] ["__class__"] [none] s.heap H := by
    refine ⟨rfl, fun y q z => ?_, fun y z q e1 e2 => (one _ _ e1).1.trans (one _ _ e2).1.symm, fun i y hy => ?_⟩
    · obtain ⟨rfl, rfl⟩ := one _ _ z
      exact ⟨(e0.bs _ _ (e0.mod.kin _ _ lcc)).2, _, _, KX _ _ lcc, rfl⟩
    · cases i with
      | zero =>
        obtain rfl : "__class__" = y := Option.some.inj hy
        exact ⟨cc, rfl, fun v z => by cases z⟩
      | succ n => cases hy
  refine ks_codeAny_call_defAt (body := body) (binds := ps.zip us) hr.depth (KX _ _ lk) rfl lim (PySem.W.codeRec_of KX S.cod) rfl hbind NS.nocell (fun ⟨n, _⟩ hy => NS.par n (List.of_mem_zip hy).1) (fun h₁ hns kp => ?_) NS.co NS.gen NS.kind
  obtain ⟨t, ht, hq⟩ := walk A outer s H vs Q E (hr.deeper _) hsp
  have I : Inv (ncx CX P w K mg base N (nfS x qual params body scope cc c) f A outer s H E) [] (startF N vs [none]) H { s with heap := h₁, toks := s.toks + (ps.zip us).length } := inv_startN NS hr.hd e0 hl rv C hns kp
  refine ks_wpAt_mono (ht.run [] _ (startF N vs [none]) H _ I hq) (fun fl s' hs => ?_) fun e s' hs => hs
  have fin : ∀ {σ' : L2.St} {H' : Hp} {v : V} {y : Value}, Inv (ncx CX P w K mg base N (nfS x qual params body scope cc c) f A outer s H E) [] σ' H' s' → L2.RelV v y → Q v H' → CE outer P w H s Q y s' :=
    fun {σ' H' v y} J r q => ⟨v, H', J.os, J.bare, J.base, J.hok, r, q⟩
  cases fl with
  | ret y =>
    obtain ⟨v, σ', H', J, r, q⟩ := hs
    exact fin J r q
  | next =>
    obtain ⟨σ', H', J, q⟩ := hs
    exact fin (v := V.non) (y := Value.none) J rfl q
  | brk =>
    obtain ⟨_, _, _, q⟩ := hs
    exact q.elim
  | cont =>
    obtain ⟨_, _, _, q⟩ := hs
    exact q.elim
/-- .. whose last parameter takes what is left over -/
theorem fnS_star {pv : Str} (S : FunS P K x qual params body scope D cc c f fd) (NS : NScope N (ps ++ [pv]) ["__class__"] scope) (hCX : CXUp CX)
    (hbd : ∀ (kV doc pm ct : Value) (an : Option Addr) (us rest : List Value), us.length = ps.length → bindArgs (PySem.W.fnX x qual params body scope [("__class__", cc)] .none kV doc pm an (.ref c) ct) ⟨us ++ rest, []⟩ = (newTuple rest >>= fun t => pure (ps.zip us ++ [(pv, t)])))
    (walk : ∀ (A : Around) (outer : List Env) (s : Shared) (H : Hp) (vs : List V) (Q : VK) (E : XK), Room k (A.deeper (envF (nfS x qual params body scope cc c) f s.heap.objs.size)) → sp vs H Q E →
      ∃ t, PSa (ncx CX P w K mg base N (nfS x qual params body scope cc c) f A outer s H E) (.func body (envF (nfS x qual params body scope cc c) f s.heap.objs.size)) body t ∧ t { nx := fun _ H' => Q .non H', rt := Q } (startF N vs [none]) H) :
    FnR P w K mg base CX (k + 1) f (fun vs H Q E => ∃ ws rest, vs = ws ++ rest ∧ ws.length = ps.length ∧ rest.length ≤ sizeLine ∧ ∀ p, H p = none → sp (ws ++ [V.ref p]) (upd H p (.tup rest)) Q E) := by
  intro A outer s H us vs Q E hr e0 r hsp
  obtain ⟨ws, rest, rfl, hl, hz, hq⟩ := hsp
  obtain ⟨u1, u2, rfl, r1, r2⟩ := vals_split r
  have KX : K.In s.heap := e0.mod.kin.keeps fun b o e => (e0.bs b o e).1
  have hn : H s.heap.objs.size = none := e0.hok.fresh (Nat.le_refl _)
  have hl1 : u1.length = ps.length := by
    rw [← r1.length]
    exact hl
  have hl2 : u2.length ≤ sizeLine := by
    rw [← r2.length]
    exact hz
  obtain ⟨oc, od, kV, doc, pm, an, ct, osl, rfl, lk⟩ := S.ex
  obtain ⟨cl, cld, csl, lcc⟩ := S.cell
  refine codeAny_call_function hr.depth (KX _ _ lk) rfl NS.co NS.gen rfl (PySem.W.codeRec_of KX S.cod) ?_
  rw [hbd kV doc pm ct an u1 u2 hl1]
  refine wpAny_bind (wpAny_newTuple (wpAny_pure ?_) hl2)
  have made : ObjOk P w (upd H s.heap.objs.size (.tup rest)) (s.heap.push ({ cls := .type "tuple", data := .seq u2.toArray } : Obj)) s.heap.objs.size (.tup rest) := ⟨hz, u2, r2, ⟨_, Heap.get?_push_size _ rfl, rfl, _, rfl⟩⟩
  have e2 := env0_laid e0 made
  have un := un_laid (fs := frs outer) (s := s) (o := ({ cls := .type "tuple", data := .seq u2.toArray } : Obj)) (u := .tup rest) hn
  have lim2 : (s.heap.push ({ cls := .type "tuple", data := .seq u2.toArray } : Obj)).NoLimit := e0.mod.nolimit.keeps fun b o e => (e2.bs b o e).1
  have one : ∀ (y : Str) (q : Addr), ([("__class__", cc)] : List (Str × Addr)).lookup y = some q → y = "__class__" ∧ q = cc := fun y q z => by
    simp only [List.lookup] at z
    split at z
    · rename_i h1
      exact ⟨beq_iff_eq.mp h1, (Option.some.inj z).symm⟩
    · cases z
  have CA : CellsAt [("__class__", cc)] ["__class__"] [none] (s.heap.push ({ cls := .type "tuple", data := .seq u2.toArray } : Obj)) (upd H s.heap.objs.size (.tup rest)) := by
    refine ⟨rfl, fun y q z => ?_, fun y z q e1 e2 => (one _ _ e1).1.trans (one _ _ e2).1.symm, fun i y hy => ?_⟩
    · obtain ⟨rfl, rfl⟩ := one _ _ z
      have z2 := e2.bs _ _ (e0.mod.kin _ _ lcc)
      exact ⟨z2.2, _, _, z2.1, rfl⟩
    · cases i with
      | zero =>
        obtain rfl : "__class__" = y := Option.some.inj hy
        exact ⟨cc, rfl, fun v z => by cases z⟩
      | succ n => cases hy
  have rv : Vals (ws ++ [V.ref s.heap.objs.size]) (u1 ++ [Value.ref s.heap.objs.size]) := r1.append (.cons rfl .nil)
  have hlen : (ws ++ [V.ref s.heap.objs.size]).length = (ps ++ [pv]).length := by
    rw [List.length_append, List.length_append, hl]
    rfl
  have hz2 : ps.zip u1 ++ [(pv, Value.ref s.heap.objs.size)] = (ps ++ [pv]).zip (u1 ++ [Value.ref s.heap.objs.size]) := by
    rw [List.zip_append hl1.symm]
    rfl
  rw [hz2]
  refine wpAny_newFunctionEnv (s := { s with heap := s.heap.push ({ cls := .type "tuple", data := .seq u2.toArray } : Obj) }) NS.nocell (fun ⟨n, _⟩ hy => NS.par n (List.of_mem_zip hy).1) (fun h₁ hns hsb => ⟨lim2.fresh _ hsb, ks_codeAny_funcAt ?_⟩) NS.kind
  have kp : ∀ b o, (s.heap.push ({ cls := .type "tuple", data := .seq u2.toArray } : Obj)).get? b = some o → h₁.get? b = some o := fun b o e => hsb.extBut b o (Nat.ne_of_lt (Heap.lt_size e)) (Heap.get?_push_of_some _ e)
  obtain ⟨t, ht, hq2⟩ := walk A outer { s with heap := s.heap.push ({ cls := .type "tuple", data := .seq u2.toArray } : Obj) } (upd H s.heap.objs.size (.tup rest)) (ws ++ [V.ref s.heap.objs.size]) Q E (hr.deeper _) (hq _ hn)
  have I := inv_startN (CX := CX) (P := P) (w := w) (F := nfS x qual params body scope cc c) (f := f) (E := E) (tk := s.toks + ((ps ++ [pv]).zip (u1 ++ [Value.ref s.heap.objs.size])).length) NS hr.hd e2 hlen rv CA hns kp
  refine ks_wpAt_mono (ht.run [] _ _ _ _ I hq2) (fun fl s' hs => ?_) fun e s' hs => ?_
  · have fin : ∀ {σ' : L2.St} {H' : Hp} {v : V} {y : Value}, Inv (ncx CX P w K mg base N (nfS x qual params body scope cc c) f A outer { s with heap := s.heap.push ({ cls := .type "tuple", data := .seq u2.toArray } : Obj) } (upd H s.heap.objs.size (.tup rest)) E) [] σ' H' s' → L2.RelV v y → Q v H' → CE outer P w H s Q y s' :=
      fun {σ' H' v y} J r q => ⟨v, H', J.os, J.bare, un.trans J.base, J.hok, r, q⟩
    cases fl with
    | ret y =>
      obtain ⟨v, σ', H', J, r, q⟩ := hs
      exact fin J r q
    | next =>
      obtain ⟨σ', H', J, q⟩ := hs
      exact fin (v := V.non) (y := Value.none) J rfl q
    | brk =>
      obtain ⟨_, _, _, q⟩ := hs
      exact q.elim
    | cont =>
      obtain ⟨_, _, _, q⟩ := hs
      exact q.elim
  · have up := hCX outer s H { s with heap := s.heap.push ({ cls := .type "tuple", data := .seq u2.toArray } : Obj) } (upd H s.heap.objs.size (.tup rest)) E
    exact wpAny_mono hs (fun _ s'' z => up _ s'' un (fun b o q => Heap.get?_push_of_some _ q) rfl z) fun e' s'' z => up e' s'' un (fun b o q => Heap.get?_push_of_some _ q) rfl z
end
end Sup
set_option Elab.async false
set_option linter.all false
set_option maxRecDepth 100000
set_option maxHeartbeats 2000000
/-! A Hook that tells, besides, the defs that no name of the module reaches at once: a classmethod's, one that closes over its class; and what is known of other parties' classes. -/
namespace Hkc
open PySem PySem.Spec PyProof.Rows L2 He
abbrev Fv : Type := Option (Str × Str × Arguments × FuncBody × Scope × Addr × List Str × Addr)
def fv (K : PySem.W.Frag) (a : Addr) : Fv := (K.lookup a).bind fun o => match o.data with
  | .func z => some (z.name, z.qualname, z.params, z.body, z.scope, z.globals, z.closure.map Prod.fst, z.builtins)
  | _ => none
structure Md where
  how : PySem.W.Frag → Addr
  name : Str
  qual : Str
  params : Arguments
  body : List Stmt
  scope : Scope
  cl : List Str
def Md.fv (m : Md) : Fv := some (m.name, m.qual, m.params, .stmts m.body, m.scope, mainGlobals, m.cl, builtinsNs)
/-- the code objects of the functions there -/
def codA (g : Addr → Option Obj) (a : Addr) : List Addr := match g a with
  | some ⟨_, _, .func z, _⟩ => refV z.code
  | _ => []
def asC (g : Addr → Option Obj) (n : Nat) : List Addr := cStatics :: asD g n ++ (asD g n).flatMap (codA g)
def opB (g : Addr → Option Obj) : Bool := match g cStatics with
  | some o => decide (PySem.W.nsIn [(cStatics, o)] cStatics "thirdparty.any" = some none)
  | none => false
abbrev AlC : Type := (AlX × List Fv) × Bool
/-- no class of another party is known in the written part -/
def opqB (K : PySem.W.Frag) : Bool := match K.lookup cStatics with
  | some o => decide (PySem.W.nsIn [(cStatics, o)] cStatics "thirdparty.any" = some none)
  | none => false
theorem opqB_ok {K : PySem.W.Frag} {h : Heap} (e : opqB K = true) (k : K.In h) : Sup.Opq h := by
  unfold opqB at e
  cases q : K.lookup cStatics with
  | none =>
    rw [q] at e
    cases e
  | some o =>
    rw [q] at e
    exact ⟨o, k _ _ q, of_decide_eq_true e⟩
def obsC (n : Nat) (fa : List Fa) (fn : List DefD) (tf : List Defn) (ex : PySem.W.Frag → Bool) (ms : List Md) (g : Addr → Option Obj) : AlC :=
  (((obsT fa fn [] (frT g (asC g n)), ex (frT g (asC g n)) && tabsB g tf (frT g (asC g n))), ms.map fun m => Hkc.fv (frT g (asC g n)) (m.how (frT g (asC g n)))), opB g)
def valC (fn : List DefD) (ms : List Md) (w : World) : AlC := ((valX fn [] w, ms.map Md.fv), true)
structure SaysC (fa : List Fa) (fn : List DefD) (tf : List Defn) (ex : PySem.W.Frag → Bool) (ms : List Md) (w : World) (h : Heap) (K : PySem.W.Frag) : Prop where
  x : SaysX fa fn [] tf ex w h K
  m : (ms.map fun m => Hkc.fv K (m.how K)) = ms.map Md.fv
  opq : Sup.Opq h
theorem saysC_of {fa : List Fa} {fn : List DefD} {tf : List Defn} {ex : PySem.W.Frag → Bool} {ms : List Md} {w : World} {h : Heap} {as : List Addr}
    (e : ((((obsT fa fn [] (frT h.get? as), ex (frT h.get? as) && tabsB h.get? tf (frT h.get? as)), ms.map fun m => Hkc.fv (frT h.get? as) (m.how (frT h.get? as))), opB h.get?) : AlC) = valC fn ms w) : SaysC fa fn tf ex ms w h (frT h.get? as) := by
  obtain ⟨e9, eo⟩ := Prod.mk.inj e
  obtain ⟨e0, em⟩ := Prod.mk.inj e9
  obtain ⟨et, eb⟩ := Prod.mk.inj e0
  obtain ⟨hx, hb⟩ := Bool.and_eq_true_iff.mp eb
  generalize hK : frT h.get? as = K at *
  have each : ∀ p ∈ tf, PySem.W.codeHdIn K (cT K p).1 (cT K p).2 = true ∧ ∃ o, h.get? (cT K p).2 = some o ∧ emptyTab o = true := by
    intro p hp
    obtain ⟨a1, a2⟩ := Bool.and_eq_true_iff.mp (List.all_eq_true.mp hb p hp)
    cases q : h.get? (cT K p).2 with
    | none =>
      simp only [q] at a2
      exact Bool.noConfusion a2
    | some o =>
      simp only [q] at a2
      exact ⟨a1, o, rfl, a2⟩
  refine ⟨⟨et, hx, fun p hp => (each p hp).1, fun p hp => ?_, fun p hp => ?_⟩, em, ?_⟩
  · obtain ⟨_, o, q, z⟩ := each p hp
    subst hK
    exact frT_none q z
  · obtain ⟨_, o, q, z⟩ := each p hp
    rw [q, emptyTab_eq z]
  · unfold opB at eo
    cases q : h.get? cStatics with
    | none =>
      rw [q] at eo
      cases eo
    | some o =>
      rw [q] at eo
      exact ⟨o, q, of_decide_eq_true eo⟩
def hookC (n : Nat) (fa : List Fa) (fn : List DefD) (tf : List Defn) (ex : PySem.W.Frag → Bool) (ms : List Md) : PySem.W.Hook where
  α := AlC
  obs := fun s => obsC n fa fn tf ex ms s.heap.get?
  val := fun w => valC fn ms w
  says := fun w h => ∃ K : PySem.W.Frag, K.In h ∧ SaysC fa fn tf ex ms w h K
  of := fun _ _ e => ⟨_, frT_in, saysC_of e⟩
  keeps := fun _ _ _ ⟨K, hK, c⟩ k => ⟨K, PySem.W.Frag.In.keeps hK k, ⟨⟨c.x.t, c.x.more, c.x.hd, c.x.out, fun p hp => k _ _ (c.x.empty p hp)⟩, c.m, let ⟨o, e1, e2⟩ := c.opq
    ⟨o, k _ _ e1, e2⟩⟩⟩
theorem obsC_eq {n : Nat} {fa : List Fa} {fn : List DefD} {tf : List Defn} {ex : PySem.W.Frag → Bool} {ms : List Md} {g : Addr → Option Obj} {s : Shared} (h : ∀ a, g a = s.heap.get? a) : obsC n fa fn tf ex ms g = (hookC n fa fn tf ex ms).obs s := by
  obtain rfl : g = s.heap.get? := funext h
  rfl
section
variable {K : PySem.W.Frag} {ms : List Md}
theorem md_at (e : (ms.map fun m => Hkc.fv K (m.how K)) = ms.map Md.fv) (i : Nat) {m : Md} (h : ms[i]? = some m) : Hkc.fv K (m.how K) = m.fv := by
  have e2 := congrArg (fun l : List Fv => l[i]?) e
  simp only [List.getElem?_map, h, Option.map_some] at e2
  exact Option.some.inj e2
/-- the function at a, its closure's names those of m -/
theorem fv_ok {a : Addr} {m : Md} (e : Hkc.fv K a = m.fv) : ∃ (oc : Value) (od : Option Addr) (cl : List (Str × Addr)) (dV kV doc pm : Value) (an : Option Addr) (cdv ct : Value) (osl : Array (Option Value)),
    cl.map Prod.fst = m.cl ∧ K.lookup a = some ⟨oc, od, .func (PySem.W.fnX m.name m.qual m.params m.body m.scope cl dV kV doc pm an cdv ct), osl⟩ := by
  unfold Hkc.fv at e
  cases q : K.lookup a with
  | none =>
    rw [q] at e
    cases e
  | some o =>
    obtain ⟨oc, od, dt, osl⟩ := o
    rw [q] at e
    cases dt with
    | func z =>
      obtain ⟨n1, n2, n3, n4, n5, n6, n7, n8, n9, n10, n11, n12, n13, n14, n15⟩ := z
      have e2 : (some (n1, n2, n3, n4, n5, n6, n7.map Prod.fst, n15) : Fv) = some (m.name, m.qual, m.params, .stmts m.body, m.scope, mainGlobals, m.cl, builtinsNs) := e
      simp only [Option.some.injEq, Prod.mk.injEq] at e2
      obtain ⟨rfl, rfl, rfl, rfl, rfl, rfl, h7, rfl⟩ := e2
      exact ⟨oc, od, n7, n8, n9, n10, n11, n12, n13, n14, osl, h7, rfl⟩
    | _ => cases e
/-! super -/
/-- what of the text is asked of a def of the class x that says super() -/
def supB (file qual x : Str) (K : PySem.W.Frag) : Bool := match K.lookup (ma K (ga K x) "__init__") with
  | some ⟨_, _, .func z, _⟩ => (match z.closure, z.code, z.defaults with
    | [(_, cc)], .ref c, .none => PySem.W.codeIn K (.ref c) qual && ((match K.lookup c with
        | some ⟨_, _, .fields vs, _⟩ => (match (vs[2]? : Option Value) with
          | some (.str y _) => decide (y = file)
          | _ => false)
        | _ => false) && (match K.lookup cc with
        | some ⟨_, _, .cell (some (.ref D)), _⟩ => decide (D = ga K x)
        | _ => false))
    | _, _, _ => false) && ((PySem.W.clsIn K (ga K x)).isSome && (decide (PySem.W.mroIn K (ga K x) (.ref (ga K x)) = some true) && decide (PySem.W.nsIn K mainGlobals "super" = some none)))
  | _ => false
theorem supB_ok {P : Program} {file x : Str} {m : Md} (h : supB file m.qual x K = true) (hm : m.cl = [("__class__" : Str)]) (e : Hkc.fv K (ma K (ga K x) "__init__") = m.fv) (hf : ((P.main.file : Str) == file) = true) (ht : (P.main.scope.names.lookup ("super" : Str)).isSome = false) :
    ∃ cc c fd, Sup.FunS P K m.name m.qual m.params m.body m.scope (ga K x) cc c (ma K (ga K x) "__init__") fd := by
  obtain ⟨oc, od, cl, dV, kV, doc, pm, an, cdv, ct, osl, hcl, lk⟩ := fv_ok e
  unfold supB at h
  rw [lk] at h
  rw [hm] at hcl
  cases cl with
  | nil => cases hcl
  | cons q r =>
    obtain ⟨qn, cc⟩ := q
    cases r with
    | cons q2 r2 => cases hcl
    | nil =>
      obtain rfl : qn = "__class__" := (List.cons.inj hcl).1
      cases cdv with
      | ref c =>
        cases dV with
        | none => ?_
        | _ => simp at h
        simp only [Bool.and_eq_true, decide_eq_true_eq] at h
        obtain ⟨⟨h1, h2, h3⟩, h4, h5, h6⟩ := h
        refine ⟨cc, c, _, ⟨⟨oc, od, kV, doc, pm, an, ct, osl, rfl, lk⟩, h1, ?_, ?_, Option.isSome_iff_exists.mp h4, h5, h6, ht⟩⟩
        · cases q1 : K.lookup c with
          | none =>
            rw [q1] at h2
            cases h2
          | some o =>
            obtain ⟨o1, o2, o3, o4⟩ := o
            rw [q1] at h2
            cases o3 with
            | fields vs =>
              dsimp only at h2
              cases q2 : vs[2]? with
              | none =>
                rw [q2] at h2
                cases h2
              | some v =>
                rw [q2] at h2
                cases v with
                | str y t =>
                  obtain rfl : y = file := of_decide_eq_true h2
                  exact ⟨o1, o2, vs, o4, y, t, rfl, q2, hf⟩
                | _ => cases h2
            | _ => cases h2
        · cases q1 : K.lookup cc with
          | none =>
            rw [q1] at h3
            cases h3
          | some o =>
            obtain ⟨o1, o2, o3, o4⟩ := o
            rw [q1] at h3
            cases o3 with
            | cell v =>
              cases v with
              | none => cases h3
              | some v =>
                cases v with
                | ref D =>
                  obtain rfl : D = ga K x := of_decide_eq_true h3
                  exact ⟨o1, o2, o4, rfl⟩
                | _ => cases h3
            | _ => cases h3
      | _ => simp at h
/-! classmethods -/
def gm (K : PySem.W.Frag) (C : Addr) (m : Str) : Addr := match PySem.W.recIn K (ma K C m) "classmethod" with
  | some (.ref g :: _) => g
  | _ => 0
/-- the function at g: no defaults, its code's name -/
def mdB (K : PySem.W.Frag) (g : Addr) (qual : Str) : Bool := match K.lookup g with
  | some ⟨_, _, .func z, _⟩ => PySem.W.codeIn K z.code qual && (match z.defaults with
    | .none => true
    | _ => false)
  | _ => false
theorem fn_md {g : Addr} {m : Md} (e : Hkc.fv K g = m.fv) (hm : m.cl = []) (h : mdB K g m.qual = true) : ∃ (oc : Value) (od : Option Addr) (kV doc pm : Value) (an : Option Addr) (cdv ct : Value) (osl : Array (Option Value)),
    K.lookup g = some ⟨oc, od, .func (PySem.W.fnOf m.name m.qual m.params m.body m.scope .none kV doc pm an cdv ct), osl⟩ ∧ PySem.W.codeIn K cdv m.qual = true := by
  obtain ⟨oc, od, cl, dV, kV, doc, pm, an, cdv, ct, osl, hcl, lk⟩ := fv_ok e
  rw [hm] at hcl
  obtain rfl : cl = [] := List.map_eq_nil_iff.mp hcl
  unfold mdB at h
  rw [lk] at h
  obtain ⟨h1, h2⟩ := Bool.and_eq_true_iff.mp h
  cases dV with
  | none => exact ⟨oc, od, kV, doc, pm, an, cdv, ct, osl, lk, h1⟩
  | _ => cases h2
def cmB (x m qual : Str) (K : PySem.W.Frag) : Bool := (match PySem.W.recIn K (ma K (ga K x) m) "classmethod" with
  | some (.ref _ :: _) => true
  | _ => false) && (PySem.W.fnIn K (gm K (ga K x) m) && (PySem.W.readsIn K (ga K x) (.type "type") && (decide (PySem.W.specialIn K (.ref (ga K x)) "__getattribute__" = some (some (.builtin "type.__getattribute__"))) &&
    ((match PySem.W.findCls K (.ref (ga K x)) (.type "type") m with
    | some (.get (.builtin n) (.ref p) .none (.ref C)) => decide (n = "classmethod.__get__") && (decide (p = ma K (ga K x) m) && decide (C = ga K x))
    | _ => false) && mdB K (gm K (ga K x) m) qual))))
theorem cmB_ok {x m qual : Str} (h : cmB x m qual K = true) : ClX.CRead K (ga K x) (.type "type") ∧ ClX.CMet K (ga K x) (.type "type") m (ma K (ga K x) m) (gm K (ga K x) m) ∧ mdB K (gm K (ga K x) m) qual = true := by
  unfold cmB at h
  simp only [Bool.and_eq_true, decide_eq_true_eq] at h
  obtain ⟨h1, h2, h3, h4, h5, h6⟩ := h
  refine ⟨⟨h3, h4⟩, ⟨?_, ?_, h2⟩, h6⟩
  · cases q : PySem.W.findCls K (.ref (ga K x)) (.type "type") m with
    | none =>
      rw [q] at h5
      cases h5
    | some u =>
      rw [q] at h5
      split at h5
      · rename_i n p C e
        cases e
        simp only [Bool.and_eq_true, decide_eq_true_eq] at h5
        obtain ⟨rfl, rfl, rfl⟩ := h5
        rfl
      · cases h5
  · unfold gm
    cases q : PySem.W.recIn K (ma K (ga K x) m) "classmethod" with
    | none =>
      rw [q] at h1
      cases h1
    | some l =>
      rw [q] at h1
      split at h1
      · rename_i g r e
        cases e
        exact ⟨r, rfl⟩
      · cases h1
end
end Hkc
set_option Elab.async false
set_option linter.all false
set_option maxRecDepth 100000
set_option maxHeartbeats 2000000
/-! Values of plain kinds, and what the programs ask of them: an int that is no bool, one within bounds. -/
namespace Vls
open PySem PySem.Spec PyProof.Rows L2 Pre
/-- a plain value -/
inductive Dat (H : Hp) : V → Prop where
  | non : Dat H .non
  | bl (b : Bool) : Dat H (.bl b)
  | int (i : Int) : Dat H (.int i)
  | str (x : Str) : Dat H (.str x)
  | lst {a : Addr} {xs : List V} (e : H a = some (.lst xs)) : Dat H (.ref a)
  | tup {a : Addr} {xs : List V} (e : H a = some (.tup xs)) : Dat H (.ref a)
  | dct {a : Addr} {kvs : List (Key × V)} (e : H a = some (.dK kvs)) : Dat H (.ref a)
theorem Dat.but {H H' : Hp} {x : V} (d : Dat H x) (s : Same H H') : Dat H' x := by
  cases d with
  | non => exact .non
  | bl b => exact .bl b
  | int i => exact .int i
  | str z => exact .str z
  | lst e => exact .lst (s _ _ e)
  | tup e => exact .tup (s _ _ e)
  | dct e => exact .dct (s _ _ e)
/-- the name of its type -/
def tyN (H : Hp) : V → String
  | .non => "NoneType"
  | .bl _ => "bool"
  | .int _ => "int"
  | .str _ => "str"
  | .ref a => (match H a with
    | some (.lst _) => "list"
    | some (.tup _) => "tuple"
    | _ => "dict")
  | _ => ""
theorem Dat.ty {K : PySem.W.Frag} {H : Hp} {x : V} (d : Dat H x) : TyX K H x (.type (tyN H x)) := by
  cases d with
  | non => exact .base .non
  | bl b => exact .base (.bl b)
  | int i => exact .base (.int i)
  | str z => exact .base (.str z)
  | lst e =>
    simp only [tyN, e]
    exact .base (.lst e)
  | tup e =>
    simp only [tyN, e]
    exact .base (.tup e)
  | dct e =>
    simp only [tyN, e]
    exact .base (.dK e)
def isT (H : Hp) (x : V) : Bool := match x with
  | .ref a => (match H a with
    | some (.tup _) => true
    | _ => false)
  | _ => false
def isL (H : Hp) (x : V) : Bool := match x with
  | .ref a => (match H a with
    | some (.lst _) => true
    | _ => false)
  | _ => false
def isB : V → Bool
  | .bl _ => true
  | _ => false
def isS : V → Bool
  | .str _ => true
  | _ => false
/-- an int, no bool -/
def isW : V → Bool
  | .int _ => true
  | _ => false
def isI : V → Bool
  | .int _ => true
  | .bl _ => true
  | _ => false
/-- .. within bounds -/
def inR (lo hi : Int) : V → Bool
  | .int i => decide (lo ≤ i) && decide (i ≤ hi)
  | _ => false
/-- .. and not below 0 -/
def isC : V → Bool
  | .int i => decide (0 ≤ i)
  | _ => false
theorem kit_of_ty {K : PySem.W.Frag} {T S : String} {b : Bool} (h : kitB T S = some b) : PySem.W.kitOne K (.type T) (.type S) = some b := h
theorem Dat.kInt {K : PySem.W.Frag} {H : Hp} {x : V} (d : Dat H x) : PySem.W.kitOne K (.type (tyN H x)) (.type "int") = some (isI x) := by
  cases d with
  | lst e =>
    simp only [tyN, e]
    exact kit_of_ty (by kernel_rfl)
  | tup e =>
    simp only [tyN, e]
    exact kit_of_ty (by kernel_rfl)
  | dct e =>
    simp only [tyN, e]
    exact kit_of_ty (by kernel_rfl)
  | _ => exact kit_of_ty (by kernel_rfl)
theorem Dat.kBool {K : PySem.W.Frag} {H : Hp} {x : V} (d : Dat H x) : PySem.W.kitOne K (.type (tyN H x)) (.type "bool") = some (isB x) := by
  cases d with
  | lst e =>
    simp only [tyN, e]
    exact kit_of_ty (by kernel_rfl)
  | tup e =>
    simp only [tyN, e]
    exact kit_of_ty (by kernel_rfl)
  | dct e =>
    simp only [tyN, e]
    exact kit_of_ty (by kernel_rfl)
  | _ => exact kit_of_ty (by kernel_rfl)
theorem Dat.kStr {K : PySem.W.Frag} {H : Hp} {x : V} (d : Dat H x) : PySem.W.kitOne K (.type (tyN H x)) (.type "str") = some (isS x) := by
  cases d with
  | lst e =>
    simp only [tyN, e]
    exact kit_of_ty (by kernel_rfl)
  | tup e =>
    simp only [tyN, e]
    exact kit_of_ty (by kernel_rfl)
  | dct e =>
    simp only [tyN, e]
    exact kit_of_ty (by kernel_rfl)
  | _ => exact kit_of_ty (by kernel_rfl)
theorem Dat.kTup {K : PySem.W.Frag} {H : Hp} {x : V} (d : Dat H x) : PySem.W.kitOne K (.type (tyN H x)) (.type "tuple") = some (isT H x) := by
  cases d with
  | lst e =>
    simp only [tyN, isT, e]
    exact kit_of_ty (by kernel_rfl)
  | tup e =>
    simp only [tyN, isT, e]
    exact kit_of_ty (by kernel_rfl)
  | dct e =>
    simp only [tyN, isT, e]
    exact kit_of_ty (by kernel_rfl)
  | _ => exact kit_of_ty (by kernel_rfl)
theorem Dat.kLst {K : PySem.W.Frag} {H : Hp} {x : V} (d : Dat H x) : PySem.W.kitOne K (.type (tyN H x)) (.type "list") = some (isL H x) := by
  cases d with
  | lst e =>
    simp only [tyN, isL, e]
    exact kit_of_ty (by kernel_rfl)
  | tup e =>
    simp only [tyN, isL, e]
    exact kit_of_ty (by kernel_rfl)
  | dct e =>
    simp only [tyN, isL, e]
    exact kit_of_ty (by kernel_rfl)
  | _ => exact kit_of_ty (by kernel_rfl)
/-- isinstance(x, (list, tuple)) -/
theorem Dat.kSeq {K : PySem.W.Frag} {H : Hp} {x : V} (d : Dat H x) : PySem.W.kitAny K (.type (tyN H x)) [.type "list", .type "tuple"] = some (isL H x || isT H x) := by
  refine kitAny_cons d.kLst (fun h => ?_) fun h => by rw [h]; rfl
  rw [h, Bool.false_or]
  refine kitAny_cons d.kTup (fun h2 => ?_) fun h2 => h2
  rw [h2]
  exact kitAny_nil
/-- what isinstance asks of an instance's class -/
structure Ins (K : PySem.W.Frag) (C : Addr) : Prop where
  a : PySem.W.findIn K (.ref C) "__class__" = some (some (.builtin "object.__class__"))
  g : PySem.W.specialIn K (.builtin "object.__class__") "__get__" = some (some (.builtin "getset_descriptor.__get__"))
  t : PySem.W.takesIn K (.builtin "object.__class__") = some true
  o : PySem.W.mroIn K C (.type "object") = some true
def insB (K : PySem.W.Frag) (C : Addr) : Bool := decide (PySem.W.findIn K (.ref C) "__class__" = some (some (.builtin "object.__class__"))) && (decide (PySem.W.specialIn K (.builtin "object.__class__") "__get__" = some (some (.builtin "getset_descriptor.__get__"))) &&
  (decide (PySem.W.takesIn K (.builtin "object.__class__") = some true) && decide (PySem.W.mroIn K C (.type "object") = some true)))
theorem insB_ok {K : PySem.W.Frag} {C : Addr} (h : insB K C = true) : Ins K C := by
  unfold insB at h
  simp only [Bool.and_eq_true, decide_eq_true_eq] at h
  exact ⟨h.1, h.2.1, h.2.2.1, h.2.2.2⟩
theorem Ins.ty {K : PySem.W.Frag} {H : Hp} {a C dx : Addr} {fs : List (Str × V)} (i : Ins K C) (c : Cls K C) (e : H a = some (.ins C dx fs)) : TyX K H (.ref a) (.ref C) := .base (.ins e c i.a i.g i.t i.o)
/-- a comprehension's own names -/
def blkB (N : List Str) (sc scope : Scope) (own : List (Str × Nat)) : Bool := decide (scope.kind = .function) && (scope.names.all (fun y => decide (scope.names.lookup y.1 = some y.2)) && (own.all (fun p => decide (N[p.2]? = some p.1)) &&
  (scope.names.all (fun y => !decide (y.2 = .free) || (decide (sc.names.lookup y.1 = some .cell) || decide (sc.names.lookup y.1 = some .free))) && scope.names.all (fun y => !(decide (y.2 = .local) || decide (y.2 = .cell)) || (decide (y.1 ∈ own.map (·.1)) || !decide (y.1 ∈ N))))))
theorem blk_by {N : List Str} {sc scope : Scope} {own : List (Str × Nat)} (h : blkB N sc scope own = true) : BlkOk N sc scope own := by
  unfold blkB at h
  simp only [Bool.and_eq_true, decide_eq_true_eq, List.all_eq_true, Bool.or_eq_true, Bool.not_eq_true', decide_eq_false_iff_not, Bool.or_eq_false_iff] at h
  obtain ⟨h1, h2, h3, h4, h5⟩ := h
  refine ⟨h1, h2, h3, fun y hy e => (h4 y hy).elim (fun z => absurd e z) id, fun y hy e => ?_⟩
  rcases h5 y hy with z | z
  · exact e.elim (fun q => absurd q z.1) fun q => absurd q z.2
  · exact z
/-- what a call's arguments bind, def by def -/
theorem bind1 {B : List Value → Sem (List (Str × Value))} {p1 : Str} (h : ∀ a, B [a] = pure [(p1, a)]) : ∀ us : List Value, us.length = [p1].length → B us = pure ([p1].zip us)
  | [a], _ => h a
theorem bind2 {B : List Value → Sem (List (Str × Value))} {p1 p2 : Str} (h : ∀ a b, B [a, b] = pure [(p1, a), (p2, b)]) : ∀ us : List Value, us.length = [p1, p2].length → B us = pure ([p1, p2].zip us)
  | [a, b], _ => h a b
theorem bind3 {B : List Value → Sem (List (Str × Value))} {p1 p2 p3 : Str} (h : ∀ a b c, B [a, b, c] = pure [(p1, a), (p2, b), (p3, c)]) : ∀ us : List Value, us.length = [p1, p2, p3].length → B us = pure ([p1, p2, p3].zip us)
  | [a, b, c], _ => h a b c
section
variable {P : Program} {w : World} {K : PySem.W.Frag} {mg : Str → Option Value} {base : Heap} {CX : CXT} {k : Nat} {x qual : Str} {params : Arguments} {body : List Stmt} {scope : Scope} {N ps : List Str} {sp : Sp}
/-- a def of the module without defaults -/
theorem dfn (q : ∃ fd, FunD K x qual params body scope [] [] (He.ga K x) fd) (g : mg x = some (.ref (He.ga K x))) (S : FnScope N ps scope) (len : ∀ vs H Q E, sp vs H Q E → vs.length = ps.length)
    (hb : ∀ (kV doc pm : Value) (an : Option Addr) (cdv ct : Value) (us : List Value), us.length = ps.length → bindArgs (PySem.W.fnOf x qual params body scope .none kV doc pm an cdv ct) ⟨us, []⟩ = pure (ps.zip us))
    (walk : ∀ (cdv : Value) (A : Around) (outer : List Env) (s : Shared) (H : Hp) (vs : List V) (Q : VK) (E : XK), Room k (A.deeper (envOfC qual scope s.heap.objs.size (He.ga K x) cdv)) → sp vs H Q E →
      ∃ t, PSs (cxOf CX P w K mg base N qual scope (He.ga K x) cdv A outer s H E) body t ∧ t { nx := fun _ H' => Q .non H', rt := Q } (start N vs) H) : Dfs.Dfn P w K mg base CX (k + 1) x ps sp := by
  obtain ⟨fd, F⟩ := q
  exact ⟨g, F.kp, fd, F.ok S len walk, F.bindsN hb⟩
/-- a method of a class of the module without defaults -/
theorem mfn {C : Addr} (q : ∃ fd, FunD K x qual params body scope [] [] (He.ma K C x) fd) (c : Cls K C) (m : Meth K C x (He.ma K C x)) (S : FnScope N ps scope) (len : ∀ vs H Q E, sp vs H Q E → vs.length = ps.length)
    (hb : ∀ (kV doc pm : Value) (an : Option Addr) (cdv ct : Value) (us : List Value), us.length = ps.length → bindArgs (PySem.W.fnOf x qual params body scope .none kV doc pm an cdv ct) ⟨us, []⟩ = pure (ps.zip us))
    (walk : ∀ (cdv : Value) (A : Around) (outer : List Env) (s : Shared) (H : Hp) (vs : List V) (Q : VK) (E : XK), Room k (A.deeper (envOfC qual scope s.heap.objs.size (He.ma K C x) cdv)) → sp vs H Q E →
      ∃ t, PSs (cxOf CX P w K mg base N qual scope (He.ma K C x) cdv A outer s H E) body t ∧ t { nx := fun _ H' => Q .non H', rt := Q } (start N vs) H) : Dfs.Mfn P w K mg base CX (k + 1) C x ps sp := by
  obtain ⟨fd, F⟩ := q
  exact ⟨c, m, fd, F.ok S len walk, F.bindsN hb⟩
end
end Vls
set_option Elab.async false
set_option linter.all false
set_option maxRecDepth 100000
set_option maxHeartbeats 4000000
namespace K23
open PySem PySem.Spec PyProof.Rows L2
def top (i : Nat) : Stmt := PySem.Challenge.pw_gaugeroad_k23_registers_and_their_readin.main.body.getD i (.Pass ⟨0, 0, 0, 0⟩)
abbrev s_BadNumber_init : Stmt := inClass (top 4) 0
def d_BadNumber_init : He.DefD := ⟨("BadNumber", some "__init__"), "__init__", "BadNumber.__init__", defArgs s_BadNumber_init, defBody s_BadNumber_init, defScope s_BadNumber_init, [], []⟩
abbrev s_BadRegister_init : Stmt := inClass (top 5) 0
def d_BadRegister_init : He.DefD := ⟨("BadRegister", some "__init__"), "__init__", "BadRegister.__init__", defArgs s_BadRegister_init, defBody s_BadRegister_init, defScope s_BadRegister_init, [], []⟩
abbrev s_BadReading_init : Stmt := inClass (top 6) 0
def d_BadReading_init : He.DefD := ⟨("BadReading", some "__init__"), "__init__", "BadReading.__init__", defArgs s_BadReading_init, defBody s_BadReading_init, defScope s_BadReading_init, [], []⟩
abbrev s_BadText_init : Stmt := inClass (top 7) 0
def d_BadText_init : He.DefD := ⟨("BadText", some "__init__"), "__init__", "BadText.__init__", defArgs s_BadText_init, defBody s_BadText_init, defScope s_BadText_init, [], []⟩
abbrev s_is_whole : Stmt := top 9
def d_is_whole : He.DefD := ⟨("is_whole", none), "is_whole", "is_whole", defArgs s_is_whole, defBody s_is_whole, defScope s_is_whole, [], []⟩
abbrev s_is_within : Stmt := top 10
def d_is_within : He.DefD := ⟨("is_within", none), "is_within", "is_within", defArgs s_is_within, defBody s_is_within, defScope s_is_within, [], []⟩
abbrev s_check_number : Stmt := top 11
def d_check_number : He.DefD := ⟨("check_number", none), "check_number", "check_number", defArgs s_check_number, defBody s_check_number, defScope s_check_number, [], []⟩
abbrev s_is_number_word : Stmt := top 14
def d_is_number_word : He.DefD := ⟨("is_number_word", none), "is_number_word", "is_number_word", defArgs s_is_number_word, defBody s_is_number_word, defScope s_is_number_word, [], []⟩
abbrev s_Words_init : Stmt := inClass (top 15) 0
def d_Words_init : He.DefD := ⟨("Words", some "__init__"), "__init__", "Words.__init__", defArgs s_Words_init, defBody s_Words_init, defScope s_Words_init, [.int 0], []⟩
abbrev s_Words_is_done : Stmt := inClass (top 15) 1
def d_Words_is_done : He.DefD := ⟨("Words", some "is_done"), "is_done", "Words.is_done", defArgs s_Words_is_done, defBody s_Words_is_done, defScope s_Words_is_done, [], []⟩
abbrev s_Words_ahead : Stmt := inClass (top 15) 3
def d_Words_ahead : He.DefD := ⟨("Words", some "ahead"), "ahead", "Words.ahead", defArgs s_Words_ahead, defBody s_Words_ahead, defScope s_Words_ahead, [], []⟩
abbrev s_Words_refuse : Stmt := inClass (top 15) 5
def d_Words_refuse : He.DefD := ⟨("Words", some "refuse"), "refuse", "Words.refuse", defArgs s_Words_refuse, defBody s_Words_refuse, defScope s_Words_refuse, [], []⟩
abbrev s_Words_take : Stmt := inClass (top 15) 6
def d_Words_take : He.DefD := ⟨("Words", some "take"), "take", "Words.take", defArgs s_Words_take, defBody s_Words_take, defScope s_Words_take, [], []⟩
abbrev s_Words_take_integer : Stmt := inClass (top 15) 7
def d_Words_take_integer : He.DefD := ⟨("Words", some "take_integer"), "take_integer", "Words.take_integer", defArgs s_Words_take_integer, defBody s_Words_take_integer, defScope s_Words_take_integer, [], []⟩
abbrev s_Words_has_number : Stmt := inClass (top 15) 8
def d_Words_has_number : He.DefD := ⟨("Words", some "has_number"), "has_number", "Words.has_number", defArgs s_Words_has_number, defBody s_Words_has_number, defScope s_Words_has_number, [], []⟩
abbrev s_Words_take_number : Stmt := inClass (top 15) 9
def d_Words_take_number : He.DefD := ⟨("Words", some "take_number"), "take_number", "Words.take_number", defArgs s_Words_take_number, defBody s_Words_take_number, defScope s_Words_take_number, [], []⟩
abbrev s_Words_finish : Stmt := inClass (top 15) 13
def d_Words_finish : He.DefD := ⟨("Words", some "finish"), "finish", "Words.finish", defArgs s_Words_finish, defBody s_Words_finish, defScope s_Words_finish, [], []⟩
abbrev s_Register_read : Stmt := inClass (top 21) 0
abbrev s_Register_shows : Stmt := inClass (top 21) 1
def d_Register_shows : He.DefD := ⟨("Register", some "shows"), "shows", "Register.shows", defArgs s_Register_shows, defBody s_Register_shows, defScope s_Register_shows, [.int 0], []⟩
abbrev s_Register_is_reading : Stmt := inClass (top 21) 2
def d_Register_is_reading : He.DefD := ⟨("Register", some "is_reading"), "is_reading", "Register.is_reading", defArgs s_Register_is_reading, defBody s_Register_is_reading, defScope s_Register_is_reading, [], []⟩
abbrev s_Register_total_of : Stmt := inClass (top 21) 3
def d_Register_total_of : He.DefD := ⟨("Register", some "total_of"), "total_of", "Register.total_of", defArgs s_Register_total_of, defBody s_Register_total_of, defScope s_Register_total_of, [], []⟩
abbrev s_Register_between : Stmt := inClass (top 21) 4
def d_Register_between : He.DefD := ⟨("Register", some "between"), "between", "Register.between", defArgs s_Register_between, defBody s_Register_between, defScope s_Register_between, [], []⟩
abbrev s_Plain_init : Stmt := inClass (top 22) 0
def d_Plain_init : He.DefD := ⟨("Plain", some "__init__"), "__init__", "Plain.__init__", defArgs s_Plain_init, defBody s_Plain_init, defScope s_Plain_init, [], []⟩
abbrev s_Plain_shows : Stmt := inClass (top 22) 1
def d_Plain_shows : He.DefD := ⟨("Plain", some "shows"), "shows", "Plain.shows", defArgs s_Plain_shows, defBody s_Plain_shows, defScope s_Plain_shows, [.int 0], []⟩
abbrev s_Plain_is_reading : Stmt := inClass (top 22) 2
def d_Plain_is_reading : He.DefD := ⟨("Plain", some "is_reading"), "is_reading", "Plain.is_reading", defArgs s_Plain_is_reading, defBody s_Plain_is_reading, defScope s_Plain_is_reading, [], []⟩
abbrev s_Plain_total_of : Stmt := inClass (top 22) 3
def d_Plain_total_of : He.DefD := ⟨("Plain", some "total_of"), "total_of", "Plain.total_of", defArgs s_Plain_total_of, defBody s_Plain_total_of, defScope s_Plain_total_of, [], []⟩
abbrev s_Plain_between : Stmt := inClass (top 22) 4
def d_Plain_between : He.DefD := ⟨("Plain", some "between"), "between", "Plain.between", defArgs s_Plain_between, defBody s_Plain_between, defScope s_Plain_between, [], []⟩
abbrev s_Plain_eq : Stmt := inClass (top 22) 5
def d_Plain_eq : He.DefD := ⟨("Plain", some "__eq__"), "__eq__", "Plain.__eq__", defArgs s_Plain_eq, defBody s_Plain_eq, defScope s_Plain_eq, [], []⟩
abbrev s_Plain_str : Stmt := inClass (top 22) 6
def d_Plain_str : He.DefD := ⟨("Plain", some "__str__"), "__str__", "Plain.__str__", defArgs s_Plain_str, defBody s_Plain_str, defScope s_Plain_str, [], []⟩
abbrev s_Wrapping_init : Stmt := inClass (top 23) 0
def d_Wrapping_init : He.DefD := ⟨("Wrapping", some "__init__"), "__init__", "Wrapping.__init__", defArgs s_Wrapping_init, defBody s_Wrapping_init, defScope s_Wrapping_init, [], []⟩
abbrev s_Wrapping_shows : Stmt := inClass (top 23) 1
def d_Wrapping_shows : He.DefD := ⟨("Wrapping", some "shows"), "shows", "Wrapping.shows", defArgs s_Wrapping_shows, defBody s_Wrapping_shows, defScope s_Wrapping_shows, [.int 0], []⟩
abbrev s_Wrapping_is_reading : Stmt := inClass (top 23) 2
def d_Wrapping_is_reading : He.DefD := ⟨("Wrapping", some "is_reading"), "is_reading", "Wrapping.is_reading", defArgs s_Wrapping_is_reading, defBody s_Wrapping_is_reading, defScope s_Wrapping_is_reading, [], []⟩
abbrev s_Wrapping_total_of : Stmt := inClass (top 23) 3
def d_Wrapping_total_of : He.DefD := ⟨("Wrapping", some "total_of"), "total_of", "Wrapping.total_of", defArgs s_Wrapping_total_of, defBody s_Wrapping_total_of, defScope s_Wrapping_total_of, [], []⟩
abbrev s_Wrapping_between : Stmt := inClass (top 23) 4
def d_Wrapping_between : He.DefD := ⟨("Wrapping", some "between"), "between", "Wrapping.between", defArgs s_Wrapping_between, defBody s_Wrapping_between, defScope s_Wrapping_between, [], []⟩
abbrev s_Wrapping_eq : Stmt := inClass (top 23) 5
def d_Wrapping_eq : He.DefD := ⟨("Wrapping", some "__eq__"), "__eq__", "Wrapping.__eq__", defArgs s_Wrapping_eq, defBody s_Wrapping_eq, defScope s_Wrapping_eq, [], []⟩
abbrev s_Wrapping_str : Stmt := inClass (top 23) 6
def d_Wrapping_str : He.DefD := ⟨("Wrapping", some "__str__"), "__str__", "Wrapping.__str__", defArgs s_Wrapping_str, defBody s_Wrapping_str, defScope s_Wrapping_str, [], []⟩
abbrev s_Dials_init : Stmt := inClass (top 24) 0
abbrev s_Dials_shows : Stmt := inClass (top 24) 1
def d_Dials_shows : He.DefD := ⟨("Dials", some "shows"), "shows", "Dials.shows", defArgs s_Dials_shows, defBody s_Dials_shows, defScope s_Dials_shows, [.int 0], []⟩
abbrev s_Dials_is_reading : Stmt := inClass (top 24) 2
def d_Dials_is_reading : He.DefD := ⟨("Dials", some "is_reading"), "is_reading", "Dials.is_reading", defArgs s_Dials_is_reading, defBody s_Dials_is_reading, defScope s_Dials_is_reading, [], []⟩
abbrev s_Dials_total_of : Stmt := inClass (top 24) 3
def d_Dials_total_of : He.DefD := ⟨("Dials", some "total_of"), "total_of", "Dials.total_of", defArgs s_Dials_total_of, defBody s_Dials_total_of, defScope s_Dials_total_of, [], []⟩
abbrev s_Dials_between : Stmt := inClass (top 24) 4
def d_Dials_between : He.DefD := ⟨("Dials", some "between"), "between", "Dials.between", defArgs s_Dials_between, defBody s_Dials_between, defScope s_Dials_between, [], []⟩
abbrev s_Dials_eq : Stmt := inClass (top 24) 5
def d_Dials_eq : He.DefD := ⟨("Dials", some "__eq__"), "__eq__", "Dials.__eq__", defArgs s_Dials_eq, defBody s_Dials_eq, defScope s_Dials_eq, [], []⟩
abbrev s_Dials_str : Stmt := inClass (top 24) 6
def d_Dials_str : He.DefD := ⟨("Dials", some "__str__"), "__str__", "Dials.__str__", defArgs s_Dials_str, defBody s_Dials_str, defScope s_Dials_str, [], []⟩
abbrev s_Restarting_init : Stmt := inClass (top 25) 0
def d_Restarting_init : He.DefD := ⟨("Restarting", some "__init__"), "__init__", "Restarting.__init__", defArgs s_Restarting_init, defBody s_Restarting_init, defScope s_Restarting_init, [], []⟩
abbrev s_Restarting_shows : Stmt := inClass (top 25) 1
def d_Restarting_shows : He.DefD := ⟨("Restarting", some "shows"), "shows", "Restarting.shows", defArgs s_Restarting_shows, defBody s_Restarting_shows, defScope s_Restarting_shows, [.int 0], []⟩
abbrev s_Restarting_is_reading : Stmt := inClass (top 25) 2
def d_Restarting_is_reading : He.DefD := ⟨("Restarting", some "is_reading"), "is_reading", "Restarting.is_reading", defArgs s_Restarting_is_reading, defBody s_Restarting_is_reading, defScope s_Restarting_is_reading, [], []⟩
abbrev s_Restarting_total_of : Stmt := inClass (top 25) 3
def d_Restarting_total_of : He.DefD := ⟨("Restarting", some "total_of"), "total_of", "Restarting.total_of", defArgs s_Restarting_total_of, defBody s_Restarting_total_of, defScope s_Restarting_total_of, [], []⟩
abbrev s_Restarting_between : Stmt := inClass (top 25) 4
def d_Restarting_between : He.DefD := ⟨("Restarting", some "between"), "between", "Restarting.between", defArgs s_Restarting_between, defBody s_Restarting_between, defScope s_Restarting_between, [], []⟩
abbrev s_Restarting_eq : Stmt := inClass (top 25) 5
def d_Restarting_eq : He.DefD := ⟨("Restarting", some "__eq__"), "__eq__", "Restarting.__eq__", defArgs s_Restarting_eq, defBody s_Restarting_eq, defScope s_Restarting_eq, [], []⟩
abbrev s_Restarting_str : Stmt := inClass (top 25) 6
def d_Restarting_str : He.DefD := ⟨("Restarting", some "__str__"), "__str__", "Restarting.__str__", defArgs s_Restarting_str, defBody s_Restarting_str, defScope s_Restarting_str, [], []⟩
abbrev s_check_shown : Stmt := top 26
def d_check_shown : He.DefD := ⟨("check_shown", none), "check_shown", "check_shown", defArgs s_check_shown, defBody s_check_shown, defScope s_check_shown, [], []⟩
abbrev s_check_reading : Stmt := top 27
def d_check_reading : He.DefD := ⟨("check_reading", none), "check_reading", "check_reading", defArgs s_check_reading, defBody s_check_reading, defScope s_check_reading, [], []⟩
abbrev s_check_readings : Stmt := top 28
def d_check_readings : He.DefD := ⟨("check_readings", none), "check_readings", "check_readings", defArgs s_check_readings, defBody s_check_readings, defScope s_check_readings, [], []⟩
abbrev s_is_count : Stmt := top 29
def d_is_count : He.DefD := ⟨("is_count", none), "is_count", "is_count", defArgs s_is_count, defBody s_is_count, defScope s_is_count, [], []⟩
abbrev s_least_total : Stmt := top 30
def d_least_total : He.DefD := ⟨("least_total", none), "least_total", "least_total", defArgs s_least_total, defBody s_least_total, defScope s_least_total, [], []⟩
abbrev s_take_display : Stmt := top 31
def d_take_display : He.DefD := ⟨("take_display", none), "take_display", "take_display", defArgs s_take_display, defBody s_take_display, defScope s_take_display, [], []⟩
abbrev s_display_of : Stmt := top 32
def d_display_of : He.DefD := ⟨("display_of", none), "display_of", "display_of", defArgs s_display_of, defBody s_display_of, defScope s_display_of, [], []⟩
abbrev s_take_numbers : Stmt := top 33
def d_take_numbers : He.DefD := ⟨("take_numbers", none), "take_numbers", "take_numbers", defArgs s_take_numbers, defBody s_take_numbers, defScope s_take_numbers, [], []⟩
abbrev s_law_pen : Stmt := top 35
def d_law_pen : He.DefD := ⟨("_law_pen", none), "_law_pen", "_law_pen", defArgs s_law_pen, defBody s_law_pen, defScope s_law_pen, [], []⟩
abbrev s_law_draw : Stmt := top 36
def d_law_draw : He.DefD := ⟨("_law_draw", none), "_law_draw", "_law_draw", defArgs s_law_draw, defBody s_law_draw, defScope s_law_draw, [], []⟩
abbrev s_law_pick : Stmt := top 37
def d_law_pick : He.DefD := ⟨("_law_pick", none), "_law_pick", "_law_pick", defArgs s_law_pick, defBody s_law_pick, defScope s_law_pick, [], []⟩
abbrev s_law_register : Stmt := top 38
def d_law_register : He.DefD := ⟨("_law_register", none), "_law_register", "_law_register", defArgs s_law_register, defBody s_law_register, defScope s_law_register, [], []⟩
abbrev s_law_made : Stmt := top 39
def d_law_made : He.DefD := ⟨("_law_made", none), "_law_made", "_law_made", defArgs s_law_made, defBody s_law_made, defScope s_law_made, [], []⟩
abbrev s_law_modulus : Stmt := top 40
def d_law_modulus : He.DefD := ⟨("_law_modulus", none), "_law_modulus", "_law_modulus", defArgs s_law_modulus, defBody s_law_modulus, defScope s_law_modulus, [], []⟩
abbrev s_law_shown : Stmt := top 41
def d_law_shown : He.DefD := ⟨("_law_shown", none), "_law_shown", "_law_shown", defArgs s_law_shown, defBody s_law_shown, defScope s_law_shown, [], []⟩
abbrev s_law_total : Stmt := top 42
def d_law_total : He.DefD := ⟨("_law_total", none), "_law_total", "_law_total", defArgs s_law_total, defBody s_law_total, defScope s_law_total, [], []⟩
abbrev s_law_right : Stmt := top 43
def d_law_right : He.DefD := ⟨("_law_right", none), "_law_right", "_law_right", defArgs s_law_right, defBody s_law_right, defScope s_law_right, [], []⟩
abbrev s_law_is_unlike : Stmt := top 44
def d_law_is_unlike : He.DefD := ⟨("_law_is_unlike", none), "_law_is_unlike", "_law_is_unlike", defArgs s_law_is_unlike, defBody s_law_is_unlike, defScope s_law_is_unlike, [], []⟩
abbrev s_law_strange_right : Stmt := top 45
def d_law_strange_right : He.DefD := ⟨("_law_strange_right", none), "_law_strange_right", "_law_strange_right", defArgs s_law_strange_right, defBody s_law_strange_right, defScope s_law_strange_right, [], []⟩
abbrev s_law : Stmt := top 46
def d_law : He.DefD := ⟨("law", none), "law", "law", defArgs s_law, defBody s_law, defScope s_law, [], []⟩
def fn0 : List He.DefD := [d_BadNumber_init, d_BadRegister_init, d_BadReading_init, d_BadText_init, d_is_whole, d_is_within, d_check_number, d_is_number_word, d_Words_init, d_Words_is_done, d_Words_ahead, d_Words_refuse, d_Words_take, d_Words_take_integer, d_Words_has_number, d_Words_take_number, d_Words_finish, d_Register_shows, d_Register_is_reading, d_Register_total_of, d_Register_between, d_Plain_init, d_Plain_shows, d_Plain_is_reading]
def fn1 : List He.DefD := [d_Plain_total_of, d_Plain_between, d_Plain_eq, d_Plain_str, d_Wrapping_init, d_Wrapping_shows, d_Wrapping_is_reading, d_Wrapping_total_of, d_Wrapping_between, d_Wrapping_eq, d_Wrapping_str, d_Dials_shows, d_Dials_is_reading, d_Dials_total_of, d_Dials_between, d_Dials_eq, d_Dials_str, d_Restarting_init, d_Restarting_shows, d_Restarting_is_reading, d_Restarting_total_of, d_Restarting_between, d_Restarting_eq, d_Restarting_str]
def fn2 : List He.DefD := [d_check_shown, d_check_reading, d_check_readings, d_is_count, d_least_total, d_take_display, d_display_of, d_take_numbers, d_law_pen, d_law_draw, d_law_pick, d_law_register, d_law_made, d_law_modulus, d_law_shown, d_law_total, d_law_right, d_law_is_unlike, d_law_strange_right, d_law]
def fn : List He.DefD := fn0 ++ fn1 ++ fn2
def fa0 : List He.Fa := [.free "isinstance", .free "int", .free "bool", .free "str", .free "len", .free "list", .free "tuple", .free "all", .free "enumerate", .free "zip", .free "abs", .free "range", .free "super", .free "repr", .free "min", .glo "is_whole", .glo "is_within", .glo "check_number", .glo "is_number_word", .glo "check_shown", .glo "check_reading", .glo "check_readings", .glo "is_count", .glo "least_total"]
def fa1 : List He.Fa := [.glo "take_display", .glo "display_of", .glo "take_numbers", .glo "_law_pen", .glo "_law_draw", .glo "_law_pick", .glo "_law_register", .glo "_law_made", .glo "_law_modulus", .glo "_law_shown", .glo "_law_total", .glo "_law_right", .glo "_law_is_unlike", .glo "_law_strange_right", .glo "law", .glo "RoadError", .glo "BadNumber", .glo "BadRegister", .glo "BadReading", .glo "BadText", .glo "Words", .glo "Register", .glo "Plain", .glo "Wrapping"]
def fa2 : List He.Fa := [.glo "Dials", .glo "Restarting", .int "DIGITS" (40), .int "FAR" (10 ^ 40), .int "MOST_MODULUS" (10 ^ 18), .int "MOST_PERIODS" (6), .int "MOST_PERIOD" (1000), .cls "Words", .noat "Words" "line", .noat "Words" "words", .noat "Words" "place", .meth "Words" "is_done", .meth "Words" "ahead", .meth "Words" "refuse", .meth "Words" "take", .meth "Words" "take_integer", .meth "Words" "has_number", .meth "Words" "take_number", .meth "Words" "finish", .mkr "Words", .cls "Plain", .noat "Plain" "modulus", .meth "Plain" "shows", .meth "Plain" "is_reading"]
def fa3 : List He.Fa := [.meth "Plain" "total_of", .meth "Plain" "between", .meth "Plain" "__eq__", .meth "Plain" "__str__", .mkr "Plain", .cls "Wrapping", .noat "Wrapping" "modulus", .meth "Wrapping" "shows", .meth "Wrapping" "is_reading", .meth "Wrapping" "total_of", .meth "Wrapping" "between", .meth "Wrapping" "__eq__", .meth "Wrapping" "__str__", .mkr "Wrapping", .cls "Dials", .noat "Dials" "modulus", .noat "Dials" "periods", .meth "Dials" "shows", .meth "Dials" "is_reading", .meth "Dials" "total_of", .meth "Dials" "between", .meth "Dials" "__eq__", .meth "Dials" "__str__", .mkr "Dials"]
def fa4 : List He.Fa := [.cls "Restarting", .noat "Restarting" "modulus", .meth "Restarting" "shows", .meth "Restarting" "is_reading", .meth "Restarting" "total_of", .meth "Restarting" "between", .meth "Restarting" "__eq__", .meth "Restarting" "__str__", .mkr "Restarting", .noat "BadNumber" "value", .meth "BadNumber" "__init__", .noat "BadRegister" "part", .meth "BadRegister" "__init__", .noat "BadReading" "at", .meth "BadReading" "__init__", .noat "BadText" "line", .noat "BadText" "word", .meth "BadText" "__init__"]
def fa : List He.Fa := fa0 ++ fa1 ++ fa2 ++ fa3 ++ fa4
def m_Register_read : Hkc.Md := ⟨fun K => Hkc.gm K (He.ga K "Register") "read", "read", "Register.read", defArgs s_Register_read, defBody s_Register_read, defScope s_Register_read, []⟩
def m_Dials_init : Hkc.Md := ⟨fun K => He.ma K (He.ga K "Dials") "__init__", "__init__", "Dials.__init__", defArgs s_Dials_init, defBody s_Dials_init, defScope s_Dials_init, ["__class__"]⟩
def ms : List Hkc.Md := [m_Register_read, m_Dials_init]
def ex0 (K : PySem.W.Frag) : Bool := Vls.insB K (He.ga K "Plain")
def ex1 (K : PySem.W.Frag) : Bool := Vls.insB K (He.ga K "Wrapping")
def ex2 (K : PySem.W.Frag) : Bool := Vls.insB K (He.ga K "Dials")
def ex3 (K : PySem.W.Frag) : Bool := Vls.insB K (He.ga K "Restarting")
def ex4 (K : PySem.W.Frag) : Bool := decide (PySem.W.kitOne K (.ref (He.ga K "Plain")) (.ref (He.ga K "Register")) = some true)
def ex5 (K : PySem.W.Frag) : Bool := decide (PySem.W.kitOne K (.ref (He.ga K "Plain")) (.ref (He.ga K "Plain")) = some true)
def ex6 (K : PySem.W.Frag) : Bool := decide (PySem.W.kitOne K (.ref (He.ga K "Plain")) (.ref (He.ga K "Wrapping")) = some false)
def ex7 (K : PySem.W.Frag) : Bool := decide (PySem.W.kitOne K (.ref (He.ga K "Plain")) (.ref (He.ga K "Dials")) = some false)
def ex8 (K : PySem.W.Frag) : Bool := decide (PySem.W.kitOne K (.ref (He.ga K "Plain")) (.ref (He.ga K "Restarting")) = some false)
def ex9 (K : PySem.W.Frag) : Bool := decide (PySem.W.kitOne K (.ref (He.ga K "Wrapping")) (.ref (He.ga K "Register")) = some true)
def ex10 (K : PySem.W.Frag) : Bool := decide (PySem.W.kitOne K (.ref (He.ga K "Wrapping")) (.ref (He.ga K "Plain")) = some false)
def ex11 (K : PySem.W.Frag) : Bool := decide (PySem.W.kitOne K (.ref (He.ga K "Wrapping")) (.ref (He.ga K "Wrapping")) = some true)
def ex12 (K : PySem.W.Frag) : Bool := decide (PySem.W.kitOne K (.ref (He.ga K "Wrapping")) (.ref (He.ga K "Dials")) = some false)
def ex13 (K : PySem.W.Frag) : Bool := decide (PySem.W.kitOne K (.ref (He.ga K "Wrapping")) (.ref (He.ga K "Restarting")) = some false)
def ex14 (K : PySem.W.Frag) : Bool := decide (PySem.W.kitOne K (.ref (He.ga K "Dials")) (.ref (He.ga K "Register")) = some true)
def ex15 (K : PySem.W.Frag) : Bool := decide (PySem.W.kitOne K (.ref (He.ga K "Dials")) (.ref (He.ga K "Plain")) = some false)
def ex16 (K : PySem.W.Frag) : Bool := decide (PySem.W.kitOne K (.ref (He.ga K "Dials")) (.ref (He.ga K "Wrapping")) = some true)
def ex17 (K : PySem.W.Frag) : Bool := decide (PySem.W.kitOne K (.ref (He.ga K "Dials")) (.ref (He.ga K "Dials")) = some true)
def ex18 (K : PySem.W.Frag) : Bool := decide (PySem.W.kitOne K (.ref (He.ga K "Dials")) (.ref (He.ga K "Restarting")) = some false)
def ex19 (K : PySem.W.Frag) : Bool := decide (PySem.W.kitOne K (.ref (He.ga K "Restarting")) (.ref (He.ga K "Register")) = some true)
def ex20 (K : PySem.W.Frag) : Bool := decide (PySem.W.kitOne K (.ref (He.ga K "Restarting")) (.ref (He.ga K "Plain")) = some false)
def ex21 (K : PySem.W.Frag) : Bool := decide (PySem.W.kitOne K (.ref (He.ga K "Restarting")) (.ref (He.ga K "Wrapping")) = some false)
def ex22 (K : PySem.W.Frag) : Bool := decide (PySem.W.kitOne K (.ref (He.ga K "Restarting")) (.ref (He.ga K "Dials")) = some false)
def ex23 (K : PySem.W.Frag) : Bool := decide (PySem.W.kitOne K (.ref (He.ga K "Restarting")) (.ref (He.ga K "Restarting")) = some true)
def ex24 (K : PySem.W.Frag) : Bool := decide (PySem.W.kitOne K (.ref (He.ga K "Plain")) (.type "int") = some false)
def ex25 (K : PySem.W.Frag) : Bool := decide (PySem.W.kitOne K (.ref (He.ga K "Plain")) (.type "tuple") = some false)
def ex26 (K : PySem.W.Frag) : Bool := decide (PySem.W.kitOne K (.ref (He.ga K "Wrapping")) (.type "int") = some false)
def ex27 (K : PySem.W.Frag) : Bool := decide (PySem.W.kitOne K (.ref (He.ga K "Wrapping")) (.type "tuple") = some false)
def ex28 (K : PySem.W.Frag) : Bool := decide (PySem.W.kitOne K (.ref (He.ga K "Dials")) (.type "int") = some false)
def ex29 (K : PySem.W.Frag) : Bool := decide (PySem.W.kitOne K (.ref (He.ga K "Dials")) (.type "tuple") = some false)
def ex30 (K : PySem.W.Frag) : Bool := decide (PySem.W.kitOne K (.ref (He.ga K "Restarting")) (.type "int") = some false)
def ex31 (K : PySem.W.Frag) : Bool := decide (PySem.W.kitOne K (.ref (He.ga K "Restarting")) (.type "tuple") = some false)
def ex32 (K : PySem.W.Frag) : Bool := decide (PySem.W.kitOne K (.type "str") (.ref (He.ga K "Plain")) = some false)
def ex33 (K : PySem.W.Frag) : Bool := decide (PySem.W.kitOne K (.type "str") (.ref (He.ga K "Wrapping")) = some false)
def ex34 (K : PySem.W.Frag) : Bool := decide (PySem.W.kitOne K (.type "str") (.ref (He.ga K "Dials")) = some false)
def ex35 (K : PySem.W.Frag) : Bool := decide (PySem.W.kitOne K (.type "str") (.ref (He.ga K "Restarting")) = some false)
def ex36 (K : PySem.W.Frag) : Bool := decide (PySem.W.findIn K (.ref (He.ga K "Plain")) "__ne__" = some (some (.builtin "object.__ne__")))
def ex37 (K : PySem.W.Frag) : Bool := decide (PySem.W.findIn K (.ref (He.ga K "Wrapping")) "__ne__" = some (some (.builtin "object.__ne__")))
def ex38 (K : PySem.W.Frag) : Bool := decide (PySem.W.findIn K (.ref (He.ga K "Dials")) "__ne__" = some (some (.builtin "object.__ne__")))
def ex39 (K : PySem.W.Frag) : Bool := decide (PySem.W.findIn K (.ref (He.ga K "Restarting")) "__ne__" = some (some (.builtin "object.__ne__")))
def ex40 (K : PySem.W.Frag) : Bool := PySem.W.notFirst K (He.ga K "Plain") (.ref (He.ga K "Plain"))
def ex41 (K : PySem.W.Frag) : Bool := PySem.W.notFirst K (He.ga K "Plain") (.ref (He.ga K "Wrapping"))
def ex42 (K : PySem.W.Frag) : Bool := PySem.W.notFirst K (He.ga K "Plain") (.ref (He.ga K "Dials"))
def ex43 (K : PySem.W.Frag) : Bool := PySem.W.notFirst K (He.ga K "Plain") (.ref (He.ga K "Restarting"))
def ex44 (K : PySem.W.Frag) : Bool := PySem.W.notFirst K (He.ga K "Wrapping") (.ref (He.ga K "Plain"))
def ex45 (K : PySem.W.Frag) : Bool := PySem.W.notFirst K (He.ga K "Wrapping") (.ref (He.ga K "Wrapping"))
def ex46 (K : PySem.W.Frag) : Bool := PySem.W.notFirst K (He.ga K "Wrapping") (.ref (He.ga K "Restarting"))
def ex47 (K : PySem.W.Frag) : Bool := PySem.W.notFirst K (He.ga K "Dials") (.ref (He.ga K "Plain"))
def ex48 (K : PySem.W.Frag) : Bool := PySem.W.notFirst K (He.ga K "Dials") (.ref (He.ga K "Wrapping"))
def ex49 (K : PySem.W.Frag) : Bool := PySem.W.notFirst K (He.ga K "Dials") (.ref (He.ga K "Dials"))
def ex50 (K : PySem.W.Frag) : Bool := PySem.W.notFirst K (He.ga K "Dials") (.ref (He.ga K "Restarting"))
def ex51 (K : PySem.W.Frag) : Bool := PySem.W.notFirst K (He.ga K "Restarting") (.ref (He.ga K "Plain"))
def ex52 (K : PySem.W.Frag) : Bool := PySem.W.notFirst K (He.ga K "Restarting") (.ref (He.ga K "Wrapping"))
def ex53 (K : PySem.W.Frag) : Bool := PySem.W.notFirst K (He.ga K "Restarting") (.ref (He.ga K "Dials"))
def ex54 (K : PySem.W.Frag) : Bool := PySem.W.notFirst K (He.ga K "Restarting") (.ref (He.ga K "Restarting"))
def ex55 (K : PySem.W.Frag) : Bool := PySem.W.notFirst K (He.ga K "Plain") (.type "str")
def ex56 (K : PySem.W.Frag) : Bool := PySem.W.notFirst K (He.ga K "Wrapping") (.type "str")
def ex57 (K : PySem.W.Frag) : Bool := PySem.W.notFirst K (He.ga K "Dials") (.type "str")
def ex58 (K : PySem.W.Frag) : Bool := PySem.W.notFirst K (He.ga K "Restarting") (.type "str")
def ex59 (K : PySem.W.Frag) : Bool := decide (PySem.W.subIn K (.ref (He.ga K "Dials")) (.ref (He.ga K "Wrapping")) = some true)
def ex60 (K : PySem.W.Frag) : Bool := Value.ref (He.ga K "Wrapping") != Value.ref (He.ga K "Dials")
def ex61 (K : PySem.W.Frag) : Bool := decide (PySem.W.nsIn K mainGlobals "lcm" = some (some (.builtin "math.lcm")))
def ex62 (K : PySem.W.Frag) : Bool := Hkc.opqB K
def ex63 (K : PySem.W.Frag) : Bool := Ers.oexB K (He.ga K "BadNumber")
def ex64 (K : PySem.W.Frag) : Bool := Kept.errB K (He.ga K "BadNumber")
def ex65 (K : PySem.W.Frag) : Bool := decide (PySem.W.typeIn K (.ref (He.ma K (He.ga K "BadNumber") "__init__")) = some (.type "function"))
def ex66 (K : PySem.W.Frag) : Bool := Ers.oexB K (He.ga K "BadRegister")
def ex67 (K : PySem.W.Frag) : Bool := Kept.errB K (He.ga K "BadRegister")
def ex68 (K : PySem.W.Frag) : Bool := decide (PySem.W.typeIn K (.ref (He.ma K (He.ga K "BadRegister") "__init__")) = some (.type "function"))
def ex69 (K : PySem.W.Frag) : Bool := Ers.oexB K (He.ga K "BadReading")
def ex70 (K : PySem.W.Frag) : Bool := Kept.errB K (He.ga K "BadReading")
def ex71 (K : PySem.W.Frag) : Bool := decide (PySem.W.typeIn K (.ref (He.ma K (He.ga K "BadReading") "__init__")) = some (.type "function"))
def ex72 (K : PySem.W.Frag) : Bool := Ers.oexB K (He.ga K "BadText")
def ex73 (K : PySem.W.Frag) : Bool := Kept.errB K (He.ga K "BadText")
def ex74 (K : PySem.W.Frag) : Bool := decide (PySem.W.typeIn K (.ref (He.ma K (He.ga K "BadText") "__init__")) = some (.type "function"))
def ex75 (K : PySem.W.Frag) : Bool := Hkc.cmB "Register" "read" "Register.read" K
def ex76 (K : PySem.W.Frag) : Bool := Hkc.supB PySem.Challenge.pw_gaugeroad_k23_registers_and_their_readin.main.file "Dials.__init__" "Dials" K
def ex77 (K : PySem.W.Frag) : Bool := decide (PySem.W.ks_superIn K (He.ga K "Dials") (He.ga K "Dials") "__init__" = some (some (.ref (He.ma K (He.ga K "Wrapping") "__init__"))))
def ex78 (K : PySem.W.Frag) : Bool := decide (PySem.W.typeIn K (.ref (He.ma K (He.ga K "Wrapping") "__init__")) = some (.type "function"))
def ex79 (K : PySem.W.Frag) : Bool := PySem.W.fnIn K (He.ma K (He.ga K "Wrapping") "__init__")
def exs0 : List (PySem.W.Frag → Bool) := [ex0, ex1, ex2, ex3, ex4, ex5, ex6, ex7, ex8, ex9, ex10, ex11, ex12, ex13, ex14, ex15, ex16, ex17, ex18, ex19, ex20, ex21, ex22, ex23]
def exs1 : List (PySem.W.Frag → Bool) := [ex24, ex25, ex26, ex27, ex28, ex29, ex30, ex31, ex32, ex33, ex34, ex35, ex36, ex37, ex38, ex39, ex40, ex41, ex42, ex43, ex44, ex45, ex46, ex47]
def exs2 : List (PySem.W.Frag → Bool) := [ex48, ex49, ex50, ex51, ex52, ex53, ex54, ex55, ex56, ex57, ex58, ex59, ex60, ex61, ex62, ex63, ex64, ex65, ex66, ex67, ex68, ex69, ex70, ex71]
def exs3 : List (PySem.W.Frag → Bool) := [ex72, ex73, ex74, ex75, ex76, ex77, ex78, ex79]
def exs : List (PySem.W.Frag → Bool) := exs0 ++ exs1 ++ exs2 ++ exs3
def ex (K : PySem.W.Frag) : Bool := exs.all fun f => f K
structure Tx (K : PySem.W.Frag) (mg : Str → Option Value) : Prop where
  says : He.SaysD fa fn K
  more : ex K = true
  md : (ms.map fun m => Hkc.fv K (m.how K)) = ms.map Hkc.Md.fv
  at_ : ∃ h : Heap, K.In h ∧ h.Ns mainGlobals mg
section
variable {K : PySem.W.Frag} {mg : Str → Option Value}
theorem Tx.ex_at (T : Tx K mg) (i : Nat) {f : PySem.W.Frag → Bool} (h : exs[i]? = some f) : f K = true := List.all_eq_true.mp T.more f (List.mem_of_getElem? h)
theorem Tx.q_BadNumber_init (T : Tx K mg) : ∃ fd, FunD K "__init__" "BadNumber.__init__" (defArgs s_BadNumber_init) (defBody s_BadNumber_init) (defScope s_BadNumber_init) [] [] (He.ma K (He.ga K "BadNumber") "__init__") fd := T.says.def_ 0 (d := d_BadNumber_init) rfl
theorem Tx.q_BadRegister_init (T : Tx K mg) : ∃ fd, FunD K "__init__" "BadRegister.__init__" (defArgs s_BadRegister_init) (defBody s_BadRegister_init) (defScope s_BadRegister_init) [] [] (He.ma K (He.ga K "BadRegister") "__init__") fd := T.says.def_ 1 (d := d_BadRegister_init) rfl
theorem Tx.q_BadReading_init (T : Tx K mg) : ∃ fd, FunD K "__init__" "BadReading.__init__" (defArgs s_BadReading_init) (defBody s_BadReading_init) (defScope s_BadReading_init) [] [] (He.ma K (He.ga K "BadReading") "__init__") fd := T.says.def_ 2 (d := d_BadReading_init) rfl
theorem Tx.q_BadText_init (T : Tx K mg) : ∃ fd, FunD K "__init__" "BadText.__init__" (defArgs s_BadText_init) (defBody s_BadText_init) (defScope s_BadText_init) [] [] (He.ma K (He.ga K "BadText") "__init__") fd := T.says.def_ 3 (d := d_BadText_init) rfl
theorem Tx.q_is_whole (T : Tx K mg) : ∃ fd, FunD K "is_whole" "is_whole" (defArgs s_is_whole) (defBody s_is_whole) (defScope s_is_whole) [] [] (He.ga K "is_whole") fd := T.says.def_ 4 (d := d_is_whole) rfl
theorem Tx.q_is_within (T : Tx K mg) : ∃ fd, FunD K "is_within" "is_within" (defArgs s_is_within) (defBody s_is_within) (defScope s_is_within) [] [] (He.ga K "is_within") fd := T.says.def_ 5 (d := d_is_within) rfl
theorem Tx.q_check_number (T : Tx K mg) : ∃ fd, FunD K "check_number" "check_number" (defArgs s_check_number) (defBody s_check_number) (defScope s_check_number) [] [] (He.ga K "check_number") fd := T.says.def_ 6 (d := d_check_number) rfl
theorem Tx.q_is_number_word (T : Tx K mg) : ∃ fd, FunD K "is_number_word" "is_number_word" (defArgs s_is_number_word) (defBody s_is_number_word) (defScope s_is_number_word) [] [] (He.ga K "is_number_word") fd := T.says.def_ 7 (d := d_is_number_word) rfl
theorem Tx.q_Words_init (T : Tx K mg) : ∃ fd, FunD K "__init__" "Words.__init__" (defArgs s_Words_init) (defBody s_Words_init) (defScope s_Words_init) [.int 0] [] (He.ma K (He.ga K "Words") "__init__") fd := T.says.def_ 8 (d := d_Words_init) rfl
theorem Tx.q_Words_is_done (T : Tx K mg) : ∃ fd, FunD K "is_done" "Words.is_done" (defArgs s_Words_is_done) (defBody s_Words_is_done) (defScope s_Words_is_done) [] [] (He.ma K (He.ga K "Words") "is_done") fd := T.says.def_ 9 (d := d_Words_is_done) rfl
theorem Tx.q_Words_ahead (T : Tx K mg) : ∃ fd, FunD K "ahead" "Words.ahead" (defArgs s_Words_ahead) (defBody s_Words_ahead) (defScope s_Words_ahead) [] [] (He.ma K (He.ga K "Words") "ahead") fd := T.says.def_ 10 (d := d_Words_ahead) rfl
theorem Tx.q_Words_refuse (T : Tx K mg) : ∃ fd, FunD K "refuse" "Words.refuse" (defArgs s_Words_refuse) (defBody s_Words_refuse) (defScope s_Words_refuse) [] [] (He.ma K (He.ga K "Words") "refuse") fd := T.says.def_ 11 (d := d_Words_refuse) rfl
theorem Tx.q_Words_take (T : Tx K mg) : ∃ fd, FunD K "take" "Words.take" (defArgs s_Words_take) (defBody s_Words_take) (defScope s_Words_take) [] [] (He.ma K (He.ga K "Words") "take") fd := T.says.def_ 12 (d := d_Words_take) rfl
theorem Tx.q_Words_take_integer (T : Tx K mg) : ∃ fd, FunD K "take_integer" "Words.take_integer" (defArgs s_Words_take_integer) (defBody s_Words_take_integer) (defScope s_Words_take_integer) [] [] (He.ma K (He.ga K "Words") "take_integer") fd := T.says.def_ 13 (d := d_Words_take_integer) rfl
theorem Tx.q_Words_has_number (T : Tx K mg) : ∃ fd, FunD K "has_number" "Words.has_number" (defArgs s_Words_has_number) (defBody s_Words_has_number) (defScope s_Words_has_number) [] [] (He.ma K (He.ga K "Words") "has_number") fd := T.says.def_ 14 (d := d_Words_has_number) rfl
theorem Tx.q_Words_take_number (T : Tx K mg) : ∃ fd, FunD K "take_number" "Words.take_number" (defArgs s_Words_take_number) (defBody s_Words_take_number) (defScope s_Words_take_number) [] [] (He.ma K (He.ga K "Words") "take_number") fd := T.says.def_ 15 (d := d_Words_take_number) rfl
theorem Tx.q_Words_finish (T : Tx K mg) : ∃ fd, FunD K "finish" "Words.finish" (defArgs s_Words_finish) (defBody s_Words_finish) (defScope s_Words_finish) [] [] (He.ma K (He.ga K "Words") "finish") fd := T.says.def_ 16 (d := d_Words_finish) rfl
theorem Tx.q_Register_shows (T : Tx K mg) : ∃ fd, FunD K "shows" "Register.shows" (defArgs s_Register_shows) (defBody s_Register_shows) (defScope s_Register_shows) [.int 0] [] (He.ma K (He.ga K "Register") "shows") fd := T.says.def_ 17 (d := d_Register_shows) rfl
theorem Tx.q_Register_is_reading (T : Tx K mg) : ∃ fd, FunD K "is_reading" "Register.is_reading" (defArgs s_Register_is_reading) (defBody s_Register_is_reading) (defScope s_Register_is_reading) [] [] (He.ma K (He.ga K "Register") "is_reading") fd := T.says.def_ 18 (d := d_Register_is_reading) rfl
theorem Tx.q_Register_total_of (T : Tx K mg) : ∃ fd, FunD K "total_of" "Register.total_of" (defArgs s_Register_total_of) (defBody s_Register_total_of) (defScope s_Register_total_of) [] [] (He.ma K (He.ga K "Register") "total_of") fd := T.says.def_ 19 (d := d_Register_total_of) rfl
theorem Tx.q_Register_between (T : Tx K mg) : ∃ fd, FunD K "between" "Register.between" (defArgs s_Register_between) (defBody s_Register_between) (defScope s_Register_between) [] [] (He.ma K (He.ga K "Register") "between") fd := T.says.def_ 20 (d := d_Register_between) rfl
theorem Tx.q_Plain_init (T : Tx K mg) : ∃ fd, FunD K "__init__" "Plain.__init__" (defArgs s_Plain_init) (defBody s_Plain_init) (defScope s_Plain_init) [] [] (He.ma K (He.ga K "Plain") "__init__") fd := T.says.def_ 21 (d := d_Plain_init) rfl
theorem Tx.q_Plain_shows (T : Tx K mg) : ∃ fd, FunD K "shows" "Plain.shows" (defArgs s_Plain_shows) (defBody s_Plain_shows) (defScope s_Plain_shows) [.int 0] [] (He.ma K (He.ga K "Plain") "shows") fd := T.says.def_ 22 (d := d_Plain_shows) rfl
theorem Tx.q_Plain_is_reading (T : Tx K mg) : ∃ fd, FunD K "is_reading" "Plain.is_reading" (defArgs s_Plain_is_reading) (defBody s_Plain_is_reading) (defScope s_Plain_is_reading) [] [] (He.ma K (He.ga K "Plain") "is_reading") fd := T.says.def_ 23 (d := d_Plain_is_reading) rfl
theorem Tx.q_Plain_total_of (T : Tx K mg) : ∃ fd, FunD K "total_of" "Plain.total_of" (defArgs s_Plain_total_of) (defBody s_Plain_total_of) (defScope s_Plain_total_of) [] [] (He.ma K (He.ga K "Plain") "total_of") fd := T.says.def_ 24 (d := d_Plain_total_of) rfl
theorem Tx.q_Plain_between (T : Tx K mg) : ∃ fd, FunD K "between" "Plain.between" (defArgs s_Plain_between) (defBody s_Plain_between) (defScope s_Plain_between) [] [] (He.ma K (He.ga K "Plain") "between") fd := T.says.def_ 25 (d := d_Plain_between) rfl
theorem Tx.q_Plain_eq (T : Tx K mg) : ∃ fd, FunD K "__eq__" "Plain.__eq__" (defArgs s_Plain_eq) (defBody s_Plain_eq) (defScope s_Plain_eq) [] [] (He.ma K (He.ga K "Plain") "__eq__") fd := T.says.def_ 26 (d := d_Plain_eq) rfl
theorem Tx.q_Plain_str (T : Tx K mg) : ∃ fd, FunD K "__str__" "Plain.__str__" (defArgs s_Plain_str) (defBody s_Plain_str) (defScope s_Plain_str) [] [] (He.ma K (He.ga K "Plain") "__str__") fd := T.says.def_ 27 (d := d_Plain_str) rfl
theorem Tx.q_Wrapping_init (T : Tx K mg) : ∃ fd, FunD K "__init__" "Wrapping.__init__" (defArgs s_Wrapping_init) (defBody s_Wrapping_init) (defScope s_Wrapping_init) [] [] (He.ma K (He.ga K "Wrapping") "__init__") fd := T.says.def_ 28 (d := d_Wrapping_init) rfl
theorem Tx.q_Wrapping_shows (T : Tx K mg) : ∃ fd, FunD K "shows" "Wrapping.shows" (defArgs s_Wrapping_shows) (defBody s_Wrapping_shows) (defScope s_Wrapping_shows) [.int 0] [] (He.ma K (He.ga K "Wrapping") "shows") fd := T.says.def_ 29 (d := d_Wrapping_shows) rfl
theorem Tx.q_Wrapping_is_reading (T : Tx K mg) : ∃ fd, FunD K "is_reading" "Wrapping.is_reading" (defArgs s_Wrapping_is_reading) (defBody s_Wrapping_is_reading) (defScope s_Wrapping_is_reading) [] [] (He.ma K (He.ga K "Wrapping") "is_reading") fd := T.says.def_ 30 (d := d_Wrapping_is_reading) rfl
theorem Tx.q_Wrapping_total_of (T : Tx K mg) : ∃ fd, FunD K "total_of" "Wrapping.total_of" (defArgs s_Wrapping_total_of) (defBody s_Wrapping_total_of) (defScope s_Wrapping_total_of) [] [] (He.ma K (He.ga K "Wrapping") "total_of") fd := T.says.def_ 31 (d := d_Wrapping_total_of) rfl
theorem Tx.q_Wrapping_between (T : Tx K mg) : ∃ fd, FunD K "between" "Wrapping.between" (defArgs s_Wrapping_between) (defBody s_Wrapping_between) (defScope s_Wrapping_between) [] [] (He.ma K (He.ga K "Wrapping") "between") fd := T.says.def_ 32 (d := d_Wrapping_between) rfl
theorem Tx.q_Wrapping_eq (T : Tx K mg) : ∃ fd, FunD K "__eq__" "Wrapping.__eq__" (defArgs s_Wrapping_eq) (defBody s_Wrapping_eq) (defScope s_Wrapping_eq) [] [] (He.ma K (He.ga K "Wrapping") "__eq__") fd := T.says.def_ 33 (d := d_Wrapping_eq) rfl
theorem Tx.q_Wrapping_str (T : Tx K mg) : ∃ fd, FunD K "__str__" "Wrapping.__str__" (defArgs s_Wrapping_str) (defBody s_Wrapping_str) (defScope s_Wrapping_str) [] [] (He.ma K (He.ga K "Wrapping") "__str__") fd := T.says.def_ 34 (d := d_Wrapping_str) rfl
theorem Tx.q_Dials_shows (T : Tx K mg) : ∃ fd, FunD K "shows" "Dials.shows" (defArgs s_Dials_shows) (defBody s_Dials_shows) (defScope s_Dials_shows) [.int 0] [] (He.ma K (He.ga K "Dials") "shows") fd := T.says.def_ 35 (d := d_Dials_shows) rfl
theorem Tx.q_Dials_is_reading (T : Tx K mg) : ∃ fd, FunD K "is_reading" "Dials.is_reading" (defArgs s_Dials_is_reading) (defBody s_Dials_is_reading) (defScope s_Dials_is_reading) [] [] (He.ma K (He.ga K "Dials") "is_reading") fd := T.says.def_ 36 (d := d_Dials_is_reading) rfl
theorem Tx.q_Dials_total_of (T : Tx K mg) : ∃ fd, FunD K "total_of" "Dials.total_of" (defArgs s_Dials_total_of) (defBody s_Dials_total_of) (defScope s_Dials_total_of) [] [] (He.ma K (He.ga K "Dials") "total_of") fd := T.says.def_ 37 (d := d_Dials_total_of) rfl
theorem Tx.q_Dials_between (T : Tx K mg) : ∃ fd, FunD K "between" "Dials.between" (defArgs s_Dials_between) (defBody s_Dials_between) (defScope s_Dials_between) [] [] (He.ma K (He.ga K "Dials") "between") fd := T.says.def_ 38 (d := d_Dials_between) rfl
theorem Tx.q_Dials_eq (T : Tx K mg) : ∃ fd, FunD K "__eq__" "Dials.__eq__" (defArgs s_Dials_eq) (defBody s_Dials_eq) (defScope s_Dials_eq) [] [] (He.ma K (He.ga K "Dials") "__eq__") fd := T.says.def_ 39 (d := d_Dials_eq) rfl
theorem Tx.q_Dials_str (T : Tx K mg) : ∃ fd, FunD K "__str__" "Dials.__str__" (defArgs s_Dials_str) (defBody s_Dials_str) (defScope s_Dials_str) [] [] (He.ma K (He.ga K "Dials") "__str__") fd := T.says.def_ 40 (d := d_Dials_str) rfl
theorem Tx.q_Restarting_init (T : Tx K mg) : ∃ fd, FunD K "__init__" "Restarting.__init__" (defArgs s_Restarting_init) (defBody s_Restarting_init) (defScope s_Restarting_init) [] [] (He.ma K (He.ga K "Restarting") "__init__") fd := T.says.def_ 41 (d := d_Restarting_init) rfl
theorem Tx.q_Restarting_shows (T : Tx K mg) : ∃ fd, FunD K "shows" "Restarting.shows" (defArgs s_Restarting_shows) (defBody s_Restarting_shows) (defScope s_Restarting_shows) [.int 0] [] (He.ma K (He.ga K "Restarting") "shows") fd := T.says.def_ 42 (d := d_Restarting_shows) rfl
theorem Tx.q_Restarting_is_reading (T : Tx K mg) : ∃ fd, FunD K "is_reading" "Restarting.is_reading" (defArgs s_Restarting_is_reading) (defBody s_Restarting_is_reading) (defScope s_Restarting_is_reading) [] [] (He.ma K (He.ga K "Restarting") "is_reading") fd := T.says.def_ 43 (d := d_Restarting_is_reading) rfl
theorem Tx.q_Restarting_total_of (T : Tx K mg) : ∃ fd, FunD K "total_of" "Restarting.total_of" (defArgs s_Restarting_total_of) (defBody s_Restarting_total_of) (defScope s_Restarting_total_of) [] [] (He.ma K (He.ga K "Restarting") "total_of") fd := T.says.def_ 44 (d := d_Restarting_total_of) rfl
theorem Tx.q_Restarting_between (T : Tx K mg) : ∃ fd, FunD K "between" "Restarting.between" (defArgs s_Restarting_between) (defBody s_Restarting_between) (defScope s_Restarting_between) [] [] (He.ma K (He.ga K "Restarting") "between") fd := T.says.def_ 45 (d := d_Restarting_between) rfl
theorem Tx.q_Restarting_eq (T : Tx K mg) : ∃ fd, FunD K "__eq__" "Restarting.__eq__" (defArgs s_Restarting_eq) (defBody s_Restarting_eq) (defScope s_Restarting_eq) [] [] (He.ma K (He.ga K "Restarting") "__eq__") fd := T.says.def_ 46 (d := d_Restarting_eq) rfl
theorem Tx.q_Restarting_str (T : Tx K mg) : ∃ fd, FunD K "__str__" "Restarting.__str__" (defArgs s_Restarting_str) (defBody s_Restarting_str) (defScope s_Restarting_str) [] [] (He.ma K (He.ga K "Restarting") "__str__") fd := T.says.def_ 47 (d := d_Restarting_str) rfl
theorem Tx.q_check_shown (T : Tx K mg) : ∃ fd, FunD K "check_shown" "check_shown" (defArgs s_check_shown) (defBody s_check_shown) (defScope s_check_shown) [] [] (He.ga K "check_shown") fd := T.says.def_ 48 (d := d_check_shown) rfl
theorem Tx.q_check_reading (T : Tx K mg) : ∃ fd, FunD K "check_reading" "check_reading" (defArgs s_check_reading) (defBody s_check_reading) (defScope s_check_reading) [] [] (He.ga K "check_reading") fd := T.says.def_ 49 (d := d_check_reading) rfl
theorem Tx.q_check_readings (T : Tx K mg) : ∃ fd, FunD K "check_readings" "check_readings" (defArgs s_check_readings) (defBody s_check_readings) (defScope s_check_readings) [] [] (He.ga K "check_readings") fd := T.says.def_ 50 (d := d_check_readings) rfl
theorem Tx.q_is_count (T : Tx K mg) : ∃ fd, FunD K "is_count" "is_count" (defArgs s_is_count) (defBody s_is_count) (defScope s_is_count) [] [] (He.ga K "is_count") fd := T.says.def_ 51 (d := d_is_count) rfl
theorem Tx.q_least_total (T : Tx K mg) : ∃ fd, FunD K "least_total" "least_total" (defArgs s_least_total) (defBody s_least_total) (defScope s_least_total) [] [] (He.ga K "least_total") fd := T.says.def_ 52 (d := d_least_total) rfl
theorem Tx.q_take_display (T : Tx K mg) : ∃ fd, FunD K "take_display" "take_display" (defArgs s_take_display) (defBody s_take_display) (defScope s_take_display) [] [] (He.ga K "take_display") fd := T.says.def_ 53 (d := d_take_display) rfl
theorem Tx.q_display_of (T : Tx K mg) : ∃ fd, FunD K "display_of" "display_of" (defArgs s_display_of) (defBody s_display_of) (defScope s_display_of) [] [] (He.ga K "display_of") fd := T.says.def_ 54 (d := d_display_of) rfl
theorem Tx.q_take_numbers (T : Tx K mg) : ∃ fd, FunD K "take_numbers" "take_numbers" (defArgs s_take_numbers) (defBody s_take_numbers) (defScope s_take_numbers) [] [] (He.ga K "take_numbers") fd := T.says.def_ 55 (d := d_take_numbers) rfl
theorem Tx.q_law_pen (T : Tx K mg) : ∃ fd, FunD K "_law_pen" "_law_pen" (defArgs s_law_pen) (defBody s_law_pen) (defScope s_law_pen) [] [] (He.ga K "_law_pen") fd := T.says.def_ 56 (d := d_law_pen) rfl
theorem Tx.q_law_draw (T : Tx K mg) : ∃ fd, FunD K "_law_draw" "_law_draw" (defArgs s_law_draw) (defBody s_law_draw) (defScope s_law_draw) [] [] (He.ga K "_law_draw") fd := T.says.def_ 57 (d := d_law_draw) rfl
theorem Tx.q_law_pick (T : Tx K mg) : ∃ fd, FunD K "_law_pick" "_law_pick" (defArgs s_law_pick) (defBody s_law_pick) (defScope s_law_pick) [] [] (He.ga K "_law_pick") fd := T.says.def_ 58 (d := d_law_pick) rfl
theorem Tx.q_law_register (T : Tx K mg) : ∃ fd, FunD K "_law_register" "_law_register" (defArgs s_law_register) (defBody s_law_register) (defScope s_law_register) [] [] (He.ga K "_law_register") fd := T.says.def_ 59 (d := d_law_register) rfl
theorem Tx.q_law_made (T : Tx K mg) : ∃ fd, FunD K "_law_made" "_law_made" (defArgs s_law_made) (defBody s_law_made) (defScope s_law_made) [] [] (He.ga K "_law_made") fd := T.says.def_ 60 (d := d_law_made) rfl
theorem Tx.q_law_modulus (T : Tx K mg) : ∃ fd, FunD K "_law_modulus" "_law_modulus" (defArgs s_law_modulus) (defBody s_law_modulus) (defScope s_law_modulus) [] [] (He.ga K "_law_modulus") fd := T.says.def_ 61 (d := d_law_modulus) rfl
theorem Tx.q_law_shown (T : Tx K mg) : ∃ fd, FunD K "_law_shown" "_law_shown" (defArgs s_law_shown) (defBody s_law_shown) (defScope s_law_shown) [] [] (He.ga K "_law_shown") fd := T.says.def_ 62 (d := d_law_shown) rfl
theorem Tx.q_law_total (T : Tx K mg) : ∃ fd, FunD K "_law_total" "_law_total" (defArgs s_law_total) (defBody s_law_total) (defScope s_law_total) [] [] (He.ga K "_law_total") fd := T.says.def_ 63 (d := d_law_total) rfl
theorem Tx.q_law_right (T : Tx K mg) : ∃ fd, FunD K "_law_right" "_law_right" (defArgs s_law_right) (defBody s_law_right) (defScope s_law_right) [] [] (He.ga K "_law_right") fd := T.says.def_ 64 (d := d_law_right) rfl
theorem Tx.q_law_is_unlike (T : Tx K mg) : ∃ fd, FunD K "_law_is_unlike" "_law_is_unlike" (defArgs s_law_is_unlike) (defBody s_law_is_unlike) (defScope s_law_is_unlike) [] [] (He.ga K "_law_is_unlike") fd := T.says.def_ 65 (d := d_law_is_unlike) rfl
theorem Tx.q_law_strange_right (T : Tx K mg) : ∃ fd, FunD K "_law_strange_right" "_law_strange_right" (defArgs s_law_strange_right) (defBody s_law_strange_right) (defScope s_law_strange_right) [] [] (He.ga K "_law_strange_right") fd := T.says.def_ 66 (d := d_law_strange_right) rfl
theorem Tx.q_law (T : Tx K mg) : ∃ fd, FunD K "law" "law" (defArgs s_law) (defBody s_law) (defScope s_law) [] [] (He.ga K "law") fd := T.says.def_ 67 (d := d_law) rfl
theorem Tx.f_isinstance (T : Tx K mg) : mg "isinstance" = none := by
  obtain ⟨h, X, G⟩ := T.at_
  exact He.free_ok X G (T.says.fact 0 (f := .free "isinstance") rfl)
theorem Tx.f_int (T : Tx K mg) : mg "int" = none := by
  obtain ⟨h, X, G⟩ := T.at_
  exact He.free_ok X G (T.says.fact 1 (f := .free "int") rfl)
theorem Tx.f_bool (T : Tx K mg) : mg "bool" = none := by
  obtain ⟨h, X, G⟩ := T.at_
  exact He.free_ok X G (T.says.fact 2 (f := .free "bool") rfl)
theorem Tx.f_str (T : Tx K mg) : mg "str" = none := by
  obtain ⟨h, X, G⟩ := T.at_
  exact He.free_ok X G (T.says.fact 3 (f := .free "str") rfl)
theorem Tx.f_len (T : Tx K mg) : mg "len" = none := by
  obtain ⟨h, X, G⟩ := T.at_
  exact He.free_ok X G (T.says.fact 4 (f := .free "len") rfl)
theorem Tx.f_list (T : Tx K mg) : mg "list" = none := by
  obtain ⟨h, X, G⟩ := T.at_
  exact He.free_ok X G (T.says.fact 5 (f := .free "list") rfl)
theorem Tx.f_tuple (T : Tx K mg) : mg "tuple" = none := by
  obtain ⟨h, X, G⟩ := T.at_
  exact He.free_ok X G (T.says.fact 6 (f := .free "tuple") rfl)
theorem Tx.f_all (T : Tx K mg) : mg "all" = none := by
  obtain ⟨h, X, G⟩ := T.at_
  exact He.free_ok X G (T.says.fact 7 (f := .free "all") rfl)
theorem Tx.f_enumerate (T : Tx K mg) : mg "enumerate" = none := by
  obtain ⟨h, X, G⟩ := T.at_
  exact He.free_ok X G (T.says.fact 8 (f := .free "enumerate") rfl)
theorem Tx.f_zip (T : Tx K mg) : mg "zip" = none := by
  obtain ⟨h, X, G⟩ := T.at_
  exact He.free_ok X G (T.says.fact 9 (f := .free "zip") rfl)
theorem Tx.f_abs (T : Tx K mg) : mg "abs" = none := by
  obtain ⟨h, X, G⟩ := T.at_
  exact He.free_ok X G (T.says.fact 10 (f := .free "abs") rfl)
theorem Tx.f_range (T : Tx K mg) : mg "range" = none := by
  obtain ⟨h, X, G⟩ := T.at_
  exact He.free_ok X G (T.says.fact 11 (f := .free "range") rfl)
theorem Tx.f_super (T : Tx K mg) : mg "super" = none := by
  obtain ⟨h, X, G⟩ := T.at_
  exact He.free_ok X G (T.says.fact 12 (f := .free "super") rfl)
theorem Tx.f_repr (T : Tx K mg) : mg "repr" = none := by
  obtain ⟨h, X, G⟩ := T.at_
  exact He.free_ok X G (T.says.fact 13 (f := .free "repr") rfl)
theorem Tx.f_min (T : Tx K mg) : mg "min" = none := by
  obtain ⟨h, X, G⟩ := T.at_
  exact He.free_ok X G (T.says.fact 14 (f := .free "min") rfl)
theorem Tx.g_is_whole (T : Tx K mg) : mg "is_whole" = some (.ref (He.ga K "is_whole")) := by
  obtain ⟨h, X, G⟩ := T.at_
  exact He.glo_ok X G (T.says.fact 15 (f := .glo "is_whole") rfl)
theorem Tx.g_is_within (T : Tx K mg) : mg "is_within" = some (.ref (He.ga K "is_within")) := by
  obtain ⟨h, X, G⟩ := T.at_
  exact He.glo_ok X G (T.says.fact 16 (f := .glo "is_within") rfl)
theorem Tx.g_check_number (T : Tx K mg) : mg "check_number" = some (.ref (He.ga K "check_number")) := by
  obtain ⟨h, X, G⟩ := T.at_
  exact He.glo_ok X G (T.says.fact 17 (f := .glo "check_number") rfl)
theorem Tx.g_is_number_word (T : Tx K mg) : mg "is_number_word" = some (.ref (He.ga K "is_number_word")) := by
  obtain ⟨h, X, G⟩ := T.at_
  exact He.glo_ok X G (T.says.fact 18 (f := .glo "is_number_word") rfl)
theorem Tx.g_check_shown (T : Tx K mg) : mg "check_shown" = some (.ref (He.ga K "check_shown")) := by
  obtain ⟨h, X, G⟩ := T.at_
  exact He.glo_ok X G (T.says.fact 19 (f := .glo "check_shown") rfl)
theorem Tx.g_check_reading (T : Tx K mg) : mg "check_reading" = some (.ref (He.ga K "check_reading")) := by
  obtain ⟨h, X, G⟩ := T.at_
  exact He.glo_ok X G (T.says.fact 20 (f := .glo "check_reading") rfl)
theorem Tx.g_check_readings (T : Tx K mg) : mg "check_readings" = some (.ref (He.ga K "check_readings")) := by
  obtain ⟨h, X, G⟩ := T.at_
  exact He.glo_ok X G (T.says.fact 21 (f := .glo "check_readings") rfl)
theorem Tx.g_is_count (T : Tx K mg) : mg "is_count" = some (.ref (He.ga K "is_count")) := by
  obtain ⟨h, X, G⟩ := T.at_
  exact He.glo_ok X G (T.says.fact 22 (f := .glo "is_count") rfl)
theorem Tx.g_least_total (T : Tx K mg) : mg "least_total" = some (.ref (He.ga K "least_total")) := by
  obtain ⟨h, X, G⟩ := T.at_
  exact He.glo_ok X G (T.says.fact 23 (f := .glo "least_total") rfl)
theorem Tx.g_take_display (T : Tx K mg) : mg "take_display" = some (.ref (He.ga K "take_display")) := by
  obtain ⟨h, X, G⟩ := T.at_
  exact He.glo_ok X G (T.says.fact 24 (f := .glo "take_display") rfl)
theorem Tx.g_display_of (T : Tx K mg) : mg "display_of" = some (.ref (He.ga K "display_of")) := by
  obtain ⟨h, X, G⟩ := T.at_
  exact He.glo_ok X G (T.says.fact 25 (f := .glo "display_of") rfl)
theorem Tx.g_take_numbers (T : Tx K mg) : mg "take_numbers" = some (.ref (He.ga K "take_numbers")) := by
  obtain ⟨h, X, G⟩ := T.at_
  exact He.glo_ok X G (T.says.fact 26 (f := .glo "take_numbers") rfl)
theorem Tx.g_law_pen (T : Tx K mg) : mg "_law_pen" = some (.ref (He.ga K "_law_pen")) := by
  obtain ⟨h, X, G⟩ := T.at_
  exact He.glo_ok X G (T.says.fact 27 (f := .glo "_law_pen") rfl)
theorem Tx.g_law_draw (T : Tx K mg) : mg "_law_draw" = some (.ref (He.ga K "_law_draw")) := by
  obtain ⟨h, X, G⟩ := T.at_
  exact He.glo_ok X G (T.says.fact 28 (f := .glo "_law_draw") rfl)
theorem Tx.g_law_pick (T : Tx K mg) : mg "_law_pick" = some (.ref (He.ga K "_law_pick")) := by
  obtain ⟨h, X, G⟩ := T.at_
  exact He.glo_ok X G (T.says.fact 29 (f := .glo "_law_pick") rfl)
theorem Tx.g_law_register (T : Tx K mg) : mg "_law_register" = some (.ref (He.ga K "_law_register")) := by
  obtain ⟨h, X, G⟩ := T.at_
  exact He.glo_ok X G (T.says.fact 30 (f := .glo "_law_register") rfl)
theorem Tx.g_law_made (T : Tx K mg) : mg "_law_made" = some (.ref (He.ga K "_law_made")) := by
  obtain ⟨h, X, G⟩ := T.at_
  exact He.glo_ok X G (T.says.fact 31 (f := .glo "_law_made") rfl)
theorem Tx.g_law_modulus (T : Tx K mg) : mg "_law_modulus" = some (.ref (He.ga K "_law_modulus")) := by
  obtain ⟨h, X, G⟩ := T.at_
  exact He.glo_ok X G (T.says.fact 32 (f := .glo "_law_modulus") rfl)
theorem Tx.g_law_shown (T : Tx K mg) : mg "_law_shown" = some (.ref (He.ga K "_law_shown")) := by
  obtain ⟨h, X, G⟩ := T.at_
  exact He.glo_ok X G (T.says.fact 33 (f := .glo "_law_shown") rfl)
theorem Tx.g_law_total (T : Tx K mg) : mg "_law_total" = some (.ref (He.ga K "_law_total")) := by
  obtain ⟨h, X, G⟩ := T.at_
  exact He.glo_ok X G (T.says.fact 34 (f := .glo "_law_total") rfl)
theorem Tx.g_law_right (T : Tx K mg) : mg "_law_right" = some (.ref (He.ga K "_law_right")) := by
  obtain ⟨h, X, G⟩ := T.at_
  exact He.glo_ok X G (T.says.fact 35 (f := .glo "_law_right") rfl)
theorem Tx.g_law_is_unlike (T : Tx K mg) : mg "_law_is_unlike" = some (.ref (He.ga K "_law_is_unlike")) := by
  obtain ⟨h, X, G⟩ := T.at_
  exact He.glo_ok X G (T.says.fact 36 (f := .glo "_law_is_unlike") rfl)
theorem Tx.g_law_strange_right (T : Tx K mg) : mg "_law_strange_right" = some (.ref (He.ga K "_law_strange_right")) := by
  obtain ⟨h, X, G⟩ := T.at_
  exact He.glo_ok X G (T.says.fact 37 (f := .glo "_law_strange_right") rfl)
theorem Tx.g_law (T : Tx K mg) : mg "law" = some (.ref (He.ga K "law")) := by
  obtain ⟨h, X, G⟩ := T.at_
  exact He.glo_ok X G (T.says.fact 38 (f := .glo "law") rfl)
theorem Tx.g_RoadError (T : Tx K mg) : mg "RoadError" = some (.ref (He.ga K "RoadError")) := by
  obtain ⟨h, X, G⟩ := T.at_
  exact He.glo_ok X G (T.says.fact 39 (f := .glo "RoadError") rfl)
theorem Tx.g_BadNumber (T : Tx K mg) : mg "BadNumber" = some (.ref (He.ga K "BadNumber")) := by
  obtain ⟨h, X, G⟩ := T.at_
  exact He.glo_ok X G (T.says.fact 40 (f := .glo "BadNumber") rfl)
theorem Tx.g_BadRegister (T : Tx K mg) : mg "BadRegister" = some (.ref (He.ga K "BadRegister")) := by
  obtain ⟨h, X, G⟩ := T.at_
  exact He.glo_ok X G (T.says.fact 41 (f := .glo "BadRegister") rfl)
theorem Tx.g_BadReading (T : Tx K mg) : mg "BadReading" = some (.ref (He.ga K "BadReading")) := by
  obtain ⟨h, X, G⟩ := T.at_
  exact He.glo_ok X G (T.says.fact 42 (f := .glo "BadReading") rfl)
theorem Tx.g_BadText (T : Tx K mg) : mg "BadText" = some (.ref (He.ga K "BadText")) := by
  obtain ⟨h, X, G⟩ := T.at_
  exact He.glo_ok X G (T.says.fact 43 (f := .glo "BadText") rfl)
theorem Tx.g_Words (T : Tx K mg) : mg "Words" = some (.ref (He.ga K "Words")) := by
  obtain ⟨h, X, G⟩ := T.at_
  exact He.glo_ok X G (T.says.fact 44 (f := .glo "Words") rfl)
theorem Tx.g_Register (T : Tx K mg) : mg "Register" = some (.ref (He.ga K "Register")) := by
  obtain ⟨h, X, G⟩ := T.at_
  exact He.glo_ok X G (T.says.fact 45 (f := .glo "Register") rfl)
theorem Tx.g_Plain (T : Tx K mg) : mg "Plain" = some (.ref (He.ga K "Plain")) := by
  obtain ⟨h, X, G⟩ := T.at_
  exact He.glo_ok X G (T.says.fact 46 (f := .glo "Plain") rfl)
theorem Tx.g_Wrapping (T : Tx K mg) : mg "Wrapping" = some (.ref (He.ga K "Wrapping")) := by
  obtain ⟨h, X, G⟩ := T.at_
  exact He.glo_ok X G (T.says.fact 47 (f := .glo "Wrapping") rfl)
theorem Tx.g_Dials (T : Tx K mg) : mg "Dials" = some (.ref (He.ga K "Dials")) := by
  obtain ⟨h, X, G⟩ := T.at_
  exact He.glo_ok X G (T.says.fact 48 (f := .glo "Dials") rfl)
theorem Tx.g_Restarting (T : Tx K mg) : mg "Restarting" = some (.ref (He.ga K "Restarting")) := by
  obtain ⟨h, X, G⟩ := T.at_
  exact He.glo_ok X G (T.says.fact 49 (f := .glo "Restarting") rfl)
theorem Tx.i_DIGITS (T : Tx K mg) : ∃ t, mg "DIGITS" = some (.int (40) t) := by
  obtain ⟨h, X, G⟩ := T.at_
  exact He.int_ok X G (T.says.fact 50 (f := .int "DIGITS" (40)) rfl)
theorem Tx.i_FAR (T : Tx K mg) : ∃ t, mg "FAR" = some (.int (10 ^ 40) t) := by
  obtain ⟨h, X, G⟩ := T.at_
  exact He.int_ok X G (T.says.fact 51 (f := .int "FAR" (10 ^ 40)) rfl)
theorem Tx.i_MOST_MODULUS (T : Tx K mg) : ∃ t, mg "MOST_MODULUS" = some (.int (10 ^ 18) t) := by
  obtain ⟨h, X, G⟩ := T.at_
  exact He.int_ok X G (T.says.fact 52 (f := .int "MOST_MODULUS" (10 ^ 18)) rfl)
theorem Tx.i_MOST_PERIODS (T : Tx K mg) : ∃ t, mg "MOST_PERIODS" = some (.int (6) t) := by
  obtain ⟨h, X, G⟩ := T.at_
  exact He.int_ok X G (T.says.fact 53 (f := .int "MOST_PERIODS" (6)) rfl)
theorem Tx.i_MOST_PERIOD (T : Tx K mg) : ∃ t, mg "MOST_PERIOD" = some (.int (1000) t) := by
  obtain ⟨h, X, G⟩ := T.at_
  exact He.int_ok X G (T.says.fact 54 (f := .int "MOST_PERIOD" (1000)) rfl)
theorem Tx.c_Words (T : Tx K mg) : Cls K (He.ga K "Words") := He.cls_ok (T.says.fact 55 (f := .cls "Words") rfl)
theorem Tx.n_Words_line (T : Tx K mg) : NoAttr K (He.ga K "Words") "line" := He.noat_ok (T.says.fact 56 (f := .noat "Words" "line") rfl)
theorem Tx.n_Words_words (T : Tx K mg) : NoAttr K (He.ga K "Words") "words" := He.noat_ok (T.says.fact 57 (f := .noat "Words" "words") rfl)
theorem Tx.n_Words_place (T : Tx K mg) : NoAttr K (He.ga K "Words") "place" := He.noat_ok (T.says.fact 58 (f := .noat "Words" "place") rfl)
theorem Tx.m_Words_is_done (T : Tx K mg) : Meth K (He.ga K "Words") "is_done" (He.ma K (He.ga K "Words") "is_done") := He.meth_ok (T.says.fact 59 (f := .meth "Words" "is_done") rfl)
theorem Tx.m_Words_ahead (T : Tx K mg) : Meth K (He.ga K "Words") "ahead" (He.ma K (He.ga K "Words") "ahead") := He.meth_ok (T.says.fact 60 (f := .meth "Words" "ahead") rfl)
theorem Tx.m_Words_refuse (T : Tx K mg) : Meth K (He.ga K "Words") "refuse" (He.ma K (He.ga K "Words") "refuse") := He.meth_ok (T.says.fact 61 (f := .meth "Words" "refuse") rfl)
theorem Tx.m_Words_take (T : Tx K mg) : Meth K (He.ga K "Words") "take" (He.ma K (He.ga K "Words") "take") := He.meth_ok (T.says.fact 62 (f := .meth "Words" "take") rfl)
theorem Tx.m_Words_take_integer (T : Tx K mg) : Meth K (He.ga K "Words") "take_integer" (He.ma K (He.ga K "Words") "take_integer") := He.meth_ok (T.says.fact 63 (f := .meth "Words" "take_integer") rfl)
theorem Tx.m_Words_has_number (T : Tx K mg) : Meth K (He.ga K "Words") "has_number" (He.ma K (He.ga K "Words") "has_number") := He.meth_ok (T.says.fact 64 (f := .meth "Words" "has_number") rfl)
theorem Tx.m_Words_take_number (T : Tx K mg) : Meth K (He.ga K "Words") "take_number" (He.ma K (He.ga K "Words") "take_number") := He.meth_ok (T.says.fact 65 (f := .meth "Words" "take_number") rfl)
theorem Tx.m_Words_finish (T : Tx K mg) : Meth K (He.ga K "Words") "finish" (He.ma K (He.ga K "Words") "finish") := He.meth_ok (T.says.fact 66 (f := .meth "Words" "finish") rfl)
theorem Tx.k_Words (T : Tx K mg) : Mk K (He.ga K "Words") (He.ma K (He.ga K "Words") "__init__") := He.mkr_ok (T.says.fact 67 (f := .mkr "Words") rfl)
theorem Tx.c_Plain (T : Tx K mg) : Cls K (He.ga K "Plain") := He.cls_ok (T.says.fact 68 (f := .cls "Plain") rfl)
theorem Tx.n_Plain_modulus (T : Tx K mg) : NoAttr K (He.ga K "Plain") "modulus" := He.noat_ok (T.says.fact 69 (f := .noat "Plain" "modulus") rfl)
theorem Tx.m_Plain_shows (T : Tx K mg) : Meth K (He.ga K "Plain") "shows" (He.ma K (He.ga K "Plain") "shows") := He.meth_ok (T.says.fact 70 (f := .meth "Plain" "shows") rfl)
theorem Tx.m_Plain_is_reading (T : Tx K mg) : Meth K (He.ga K "Plain") "is_reading" (He.ma K (He.ga K "Plain") "is_reading") := He.meth_ok (T.says.fact 71 (f := .meth "Plain" "is_reading") rfl)
theorem Tx.m_Plain_total_of (T : Tx K mg) : Meth K (He.ga K "Plain") "total_of" (He.ma K (He.ga K "Plain") "total_of") := He.meth_ok (T.says.fact 72 (f := .meth "Plain" "total_of") rfl)
theorem Tx.m_Plain_between (T : Tx K mg) : Meth K (He.ga K "Plain") "between" (He.ma K (He.ga K "Plain") "between") := He.meth_ok (T.says.fact 73 (f := .meth "Plain" "between") rfl)
theorem Tx.m_Plain_eq (T : Tx K mg) : Meth K (He.ga K "Plain") "__eq__" (He.ma K (He.ga K "Plain") "__eq__") := He.meth_ok (T.says.fact 74 (f := .meth "Plain" "__eq__") rfl)
theorem Tx.m_Plain_str (T : Tx K mg) : Meth K (He.ga K "Plain") "__str__" (He.ma K (He.ga K "Plain") "__str__") := He.meth_ok (T.says.fact 75 (f := .meth "Plain" "__str__") rfl)
theorem Tx.k_Plain (T : Tx K mg) : Mk K (He.ga K "Plain") (He.ma K (He.ga K "Plain") "__init__") := He.mkr_ok (T.says.fact 76 (f := .mkr "Plain") rfl)
theorem Tx.c_Wrapping (T : Tx K mg) : Cls K (He.ga K "Wrapping") := He.cls_ok (T.says.fact 77 (f := .cls "Wrapping") rfl)
theorem Tx.n_Wrapping_modulus (T : Tx K mg) : NoAttr K (He.ga K "Wrapping") "modulus" := He.noat_ok (T.says.fact 78 (f := .noat "Wrapping" "modulus") rfl)
theorem Tx.m_Wrapping_shows (T : Tx K mg) : Meth K (He.ga K "Wrapping") "shows" (He.ma K (He.ga K "Wrapping") "shows") := He.meth_ok (T.says.fact 79 (f := .meth "Wrapping" "shows") rfl)
theorem Tx.m_Wrapping_is_reading (T : Tx K mg) : Meth K (He.ga K "Wrapping") "is_reading" (He.ma K (He.ga K "Wrapping") "is_reading") := He.meth_ok (T.says.fact 80 (f := .meth "Wrapping" "is_reading") rfl)
theorem Tx.m_Wrapping_total_of (T : Tx K mg) : Meth K (He.ga K "Wrapping") "total_of" (He.ma K (He.ga K "Wrapping") "total_of") := He.meth_ok (T.says.fact 81 (f := .meth "Wrapping" "total_of") rfl)
theorem Tx.m_Wrapping_between (T : Tx K mg) : Meth K (He.ga K "Wrapping") "between" (He.ma K (He.ga K "Wrapping") "between") := He.meth_ok (T.says.fact 82 (f := .meth "Wrapping" "between") rfl)
theorem Tx.m_Wrapping_eq (T : Tx K mg) : Meth K (He.ga K "Wrapping") "__eq__" (He.ma K (He.ga K "Wrapping") "__eq__") := He.meth_ok (T.says.fact 83 (f := .meth "Wrapping" "__eq__") rfl)
theorem Tx.m_Wrapping_str (T : Tx K mg) : Meth K (He.ga K "Wrapping") "__str__" (He.ma K (He.ga K "Wrapping") "__str__") := He.meth_ok (T.says.fact 84 (f := .meth "Wrapping" "__str__") rfl)
theorem Tx.k_Wrapping (T : Tx K mg) : Mk K (He.ga K "Wrapping") (He.ma K (He.ga K "Wrapping") "__init__") := He.mkr_ok (T.says.fact 85 (f := .mkr "Wrapping") rfl)
theorem Tx.c_Dials (T : Tx K mg) : Cls K (He.ga K "Dials") := He.cls_ok (T.says.fact 86 (f := .cls "Dials") rfl)
theorem Tx.n_Dials_modulus (T : Tx K mg) : NoAttr K (He.ga K "Dials") "modulus" := He.noat_ok (T.says.fact 87 (f := .noat "Dials" "modulus") rfl)
theorem Tx.n_Dials_periods (T : Tx K mg) : NoAttr K (He.ga K "Dials") "periods" := He.noat_ok (T.says.fact 88 (f := .noat "Dials" "periods") rfl)
theorem Tx.m_Dials_shows (T : Tx K mg) : Meth K (He.ga K "Dials") "shows" (He.ma K (He.ga K "Dials") "shows") := He.meth_ok (T.says.fact 89 (f := .meth "Dials" "shows") rfl)
theorem Tx.m_Dials_is_reading (T : Tx K mg) : Meth K (He.ga K "Dials") "is_reading" (He.ma K (He.ga K "Dials") "is_reading") := He.meth_ok (T.says.fact 90 (f := .meth "Dials" "is_reading") rfl)
theorem Tx.m_Dials_total_of (T : Tx K mg) : Meth K (He.ga K "Dials") "total_of" (He.ma K (He.ga K "Dials") "total_of") := He.meth_ok (T.says.fact 91 (f := .meth "Dials" "total_of") rfl)
theorem Tx.m_Dials_between (T : Tx K mg) : Meth K (He.ga K "Dials") "between" (He.ma K (He.ga K "Dials") "between") := He.meth_ok (T.says.fact 92 (f := .meth "Dials" "between") rfl)
theorem Tx.m_Dials_eq (T : Tx K mg) : Meth K (He.ga K "Dials") "__eq__" (He.ma K (He.ga K "Dials") "__eq__") := He.meth_ok (T.says.fact 93 (f := .meth "Dials" "__eq__") rfl)
theorem Tx.m_Dials_str (T : Tx K mg) : Meth K (He.ga K "Dials") "__str__" (He.ma K (He.ga K "Dials") "__str__") := He.meth_ok (T.says.fact 94 (f := .meth "Dials" "__str__") rfl)
theorem Tx.k_Dials (T : Tx K mg) : Mk K (He.ga K "Dials") (He.ma K (He.ga K "Dials") "__init__") := He.mkr_ok (T.says.fact 95 (f := .mkr "Dials") rfl)
theorem Tx.c_Restarting (T : Tx K mg) : Cls K (He.ga K "Restarting") := He.cls_ok (T.says.fact 96 (f := .cls "Restarting") rfl)
theorem Tx.n_Restarting_modulus (T : Tx K mg) : NoAttr K (He.ga K "Restarting") "modulus" := He.noat_ok (T.says.fact 97 (f := .noat "Restarting" "modulus") rfl)
theorem Tx.m_Restarting_shows (T : Tx K mg) : Meth K (He.ga K "Restarting") "shows" (He.ma K (He.ga K "Restarting") "shows") := He.meth_ok (T.says.fact 98 (f := .meth "Restarting" "shows") rfl)
theorem Tx.m_Restarting_is_reading (T : Tx K mg) : Meth K (He.ga K "Restarting") "is_reading" (He.ma K (He.ga K "Restarting") "is_reading") := He.meth_ok (T.says.fact 99 (f := .meth "Restarting" "is_reading") rfl)
theorem Tx.m_Restarting_total_of (T : Tx K mg) : Meth K (He.ga K "Restarting") "total_of" (He.ma K (He.ga K "Restarting") "total_of") := He.meth_ok (T.says.fact 100 (f := .meth "Restarting" "total_of") rfl)
theorem Tx.m_Restarting_between (T : Tx K mg) : Meth K (He.ga K "Restarting") "between" (He.ma K (He.ga K "Restarting") "between") := He.meth_ok (T.says.fact 101 (f := .meth "Restarting" "between") rfl)
theorem Tx.m_Restarting_eq (T : Tx K mg) : Meth K (He.ga K "Restarting") "__eq__" (He.ma K (He.ga K "Restarting") "__eq__") := He.meth_ok (T.says.fact 102 (f := .meth "Restarting" "__eq__") rfl)
theorem Tx.m_Restarting_str (T : Tx K mg) : Meth K (He.ga K "Restarting") "__str__" (He.ma K (He.ga K "Restarting") "__str__") := He.meth_ok (T.says.fact 103 (f := .meth "Restarting" "__str__") rfl)
theorem Tx.k_Restarting (T : Tx K mg) : Mk K (He.ga K "Restarting") (He.ma K (He.ga K "Restarting") "__init__") := He.mkr_ok (T.says.fact 104 (f := .mkr "Restarting") rfl)
theorem Tx.n_BadNumber_value (T : Tx K mg) : NoAttr K (He.ga K "BadNumber") "value" := He.noat_ok (T.says.fact 105 (f := .noat "BadNumber" "value") rfl)
theorem Tx.m_BadNumber_init (T : Tx K mg) : Meth K (He.ga K "BadNumber") "__init__" (He.ma K (He.ga K "BadNumber") "__init__") := He.meth_ok (T.says.fact 106 (f := .meth "BadNumber" "__init__") rfl)
theorem Tx.n_BadRegister_part (T : Tx K mg) : NoAttr K (He.ga K "BadRegister") "part" := He.noat_ok (T.says.fact 107 (f := .noat "BadRegister" "part") rfl)
theorem Tx.m_BadRegister_init (T : Tx K mg) : Meth K (He.ga K "BadRegister") "__init__" (He.ma K (He.ga K "BadRegister") "__init__") := He.meth_ok (T.says.fact 108 (f := .meth "BadRegister" "__init__") rfl)
theorem Tx.n_BadReading_at (T : Tx K mg) : NoAttr K (He.ga K "BadReading") "at" := He.noat_ok (T.says.fact 109 (f := .noat "BadReading" "at") rfl)
theorem Tx.m_BadReading_init (T : Tx K mg) : Meth K (He.ga K "BadReading") "__init__" (He.ma K (He.ga K "BadReading") "__init__") := He.meth_ok (T.says.fact 110 (f := .meth "BadReading" "__init__") rfl)
theorem Tx.n_BadText_line (T : Tx K mg) : NoAttr K (He.ga K "BadText") "line" := He.noat_ok (T.says.fact 111 (f := .noat "BadText" "line") rfl)
theorem Tx.n_BadText_word (T : Tx K mg) : NoAttr K (He.ga K "BadText") "word" := He.noat_ok (T.says.fact 112 (f := .noat "BadText" "word") rfl)
theorem Tx.m_BadText_init (T : Tx K mg) : Meth K (He.ga K "BadText") "__init__" (He.ma K (He.ga K "BadText") "__init__") := He.meth_ok (T.says.fact 113 (f := .meth "BadText" "__init__") rfl)
theorem Tx.v_Register_read (T : Tx K mg) : Hkc.fv K (Hkc.gm K (He.ga K "Register") "read") = m_Register_read.fv := Hkc.md_at T.md 0 (m := m_Register_read) rfl
theorem Tx.v_Dials_init (T : Tx K mg) : Hkc.fv K (He.ma K (He.ga K "Dials") "__init__") = m_Dials_init.fv := Hkc.md_at T.md 1 (m := m_Dials_init) rfl
theorem Tx.is_Plain (T : Tx K mg) : Vls.Ins K (He.ga K "Plain") := Vls.insB_ok (T.ex_at 0 (f := ex0) rfl)
theorem Tx.is_Wrapping (T : Tx K mg) : Vls.Ins K (He.ga K "Wrapping") := Vls.insB_ok (T.ex_at 1 (f := ex1) rfl)
theorem Tx.is_Dials (T : Tx K mg) : Vls.Ins K (He.ga K "Dials") := Vls.insB_ok (T.ex_at 2 (f := ex2) rfl)
theorem Tx.is_Restarting (T : Tx K mg) : Vls.Ins K (He.ga K "Restarting") := Vls.insB_ok (T.ex_at 3 (f := ex3) rfl)
theorem Tx.k_Plain_Register (T : Tx K mg) : PySem.W.kitOne K (.ref (He.ga K "Plain")) (.ref (He.ga K "Register")) = some true := of_decide_eq_true (T.ex_at 4 (f := ex4) rfl)
theorem Tx.k_Plain_Plain (T : Tx K mg) : PySem.W.kitOne K (.ref (He.ga K "Plain")) (.ref (He.ga K "Plain")) = some true := of_decide_eq_true (T.ex_at 5 (f := ex5) rfl)
theorem Tx.k_Plain_Wrapping (T : Tx K mg) : PySem.W.kitOne K (.ref (He.ga K "Plain")) (.ref (He.ga K "Wrapping")) = some false := of_decide_eq_true (T.ex_at 6 (f := ex6) rfl)
theorem Tx.k_Plain_Dials (T : Tx K mg) : PySem.W.kitOne K (.ref (He.ga K "Plain")) (.ref (He.ga K "Dials")) = some false := of_decide_eq_true (T.ex_at 7 (f := ex7) rfl)
theorem Tx.k_Plain_Restarting (T : Tx K mg) : PySem.W.kitOne K (.ref (He.ga K "Plain")) (.ref (He.ga K "Restarting")) = some false := of_decide_eq_true (T.ex_at 8 (f := ex8) rfl)
theorem Tx.k_Wrapping_Register (T : Tx K mg) : PySem.W.kitOne K (.ref (He.ga K "Wrapping")) (.ref (He.ga K "Register")) = some true := of_decide_eq_true (T.ex_at 9 (f := ex9) rfl)
theorem Tx.k_Wrapping_Plain (T : Tx K mg) : PySem.W.kitOne K (.ref (He.ga K "Wrapping")) (.ref (He.ga K "Plain")) = some false := of_decide_eq_true (T.ex_at 10 (f := ex10) rfl)
theorem Tx.k_Wrapping_Wrapping (T : Tx K mg) : PySem.W.kitOne K (.ref (He.ga K "Wrapping")) (.ref (He.ga K "Wrapping")) = some true := of_decide_eq_true (T.ex_at 11 (f := ex11) rfl)
theorem Tx.k_Wrapping_Dials (T : Tx K mg) : PySem.W.kitOne K (.ref (He.ga K "Wrapping")) (.ref (He.ga K "Dials")) = some false := of_decide_eq_true (T.ex_at 12 (f := ex12) rfl)
theorem Tx.k_Wrapping_Restarting (T : Tx K mg) : PySem.W.kitOne K (.ref (He.ga K "Wrapping")) (.ref (He.ga K "Restarting")) = some false := of_decide_eq_true (T.ex_at 13 (f := ex13) rfl)
theorem Tx.k_Dials_Register (T : Tx K mg) : PySem.W.kitOne K (.ref (He.ga K "Dials")) (.ref (He.ga K "Register")) = some true := of_decide_eq_true (T.ex_at 14 (f := ex14) rfl)
theorem Tx.k_Dials_Plain (T : Tx K mg) : PySem.W.kitOne K (.ref (He.ga K "Dials")) (.ref (He.ga K "Plain")) = some false := of_decide_eq_true (T.ex_at 15 (f := ex15) rfl)
theorem Tx.k_Dials_Wrapping (T : Tx K mg) : PySem.W.kitOne K (.ref (He.ga K "Dials")) (.ref (He.ga K "Wrapping")) = some true := of_decide_eq_true (T.ex_at 16 (f := ex16) rfl)
theorem Tx.k_Dials_Dials (T : Tx K mg) : PySem.W.kitOne K (.ref (He.ga K "Dials")) (.ref (He.ga K "Dials")) = some true := of_decide_eq_true (T.ex_at 17 (f := ex17) rfl)
theorem Tx.k_Dials_Restarting (T : Tx K mg) : PySem.W.kitOne K (.ref (He.ga K "Dials")) (.ref (He.ga K "Restarting")) = some false := of_decide_eq_true (T.ex_at 18 (f := ex18) rfl)
theorem Tx.k_Restarting_Register (T : Tx K mg) : PySem.W.kitOne K (.ref (He.ga K "Restarting")) (.ref (He.ga K "Register")) = some true := of_decide_eq_true (T.ex_at 19 (f := ex19) rfl)
theorem Tx.k_Restarting_Plain (T : Tx K mg) : PySem.W.kitOne K (.ref (He.ga K "Restarting")) (.ref (He.ga K "Plain")) = some false := of_decide_eq_true (T.ex_at 20 (f := ex20) rfl)
theorem Tx.k_Restarting_Wrapping (T : Tx K mg) : PySem.W.kitOne K (.ref (He.ga K "Restarting")) (.ref (He.ga K "Wrapping")) = some false := of_decide_eq_true (T.ex_at 21 (f := ex21) rfl)
theorem Tx.k_Restarting_Dials (T : Tx K mg) : PySem.W.kitOne K (.ref (He.ga K "Restarting")) (.ref (He.ga K "Dials")) = some false := of_decide_eq_true (T.ex_at 22 (f := ex22) rfl)
theorem Tx.k_Restarting_Restarting (T : Tx K mg) : PySem.W.kitOne K (.ref (He.ga K "Restarting")) (.ref (He.ga K "Restarting")) = some true := of_decide_eq_true (T.ex_at 23 (f := ex23) rfl)
theorem Tx.kt_Plain_int (T : Tx K mg) : PySem.W.kitOne K (.ref (He.ga K "Plain")) (.type "int") = some false := of_decide_eq_true (T.ex_at 24 (f := ex24) rfl)
theorem Tx.kt_Plain_tuple (T : Tx K mg) : PySem.W.kitOne K (.ref (He.ga K "Plain")) (.type "tuple") = some false := of_decide_eq_true (T.ex_at 25 (f := ex25) rfl)
theorem Tx.kt_Wrapping_int (T : Tx K mg) : PySem.W.kitOne K (.ref (He.ga K "Wrapping")) (.type "int") = some false := of_decide_eq_true (T.ex_at 26 (f := ex26) rfl)
theorem Tx.kt_Wrapping_tuple (T : Tx K mg) : PySem.W.kitOne K (.ref (He.ga K "Wrapping")) (.type "tuple") = some false := of_decide_eq_true (T.ex_at 27 (f := ex27) rfl)
theorem Tx.kt_Dials_int (T : Tx K mg) : PySem.W.kitOne K (.ref (He.ga K "Dials")) (.type "int") = some false := of_decide_eq_true (T.ex_at 28 (f := ex28) rfl)
theorem Tx.kt_Dials_tuple (T : Tx K mg) : PySem.W.kitOne K (.ref (He.ga K "Dials")) (.type "tuple") = some false := of_decide_eq_true (T.ex_at 29 (f := ex29) rfl)
theorem Tx.kt_Restarting_int (T : Tx K mg) : PySem.W.kitOne K (.ref (He.ga K "Restarting")) (.type "int") = some false := of_decide_eq_true (T.ex_at 30 (f := ex30) rfl)
theorem Tx.kt_Restarting_tuple (T : Tx K mg) : PySem.W.kitOne K (.ref (He.ga K "Restarting")) (.type "tuple") = some false := of_decide_eq_true (T.ex_at 31 (f := ex31) rfl)
theorem Tx.ks_Plain (T : Tx K mg) : PySem.W.kitOne K (.type "str") (.ref (He.ga K "Plain")) = some false := of_decide_eq_true (T.ex_at 32 (f := ex32) rfl)
theorem Tx.ks_Wrapping (T : Tx K mg) : PySem.W.kitOne K (.type "str") (.ref (He.ga K "Wrapping")) = some false := of_decide_eq_true (T.ex_at 33 (f := ex33) rfl)
theorem Tx.ks_Dials (T : Tx K mg) : PySem.W.kitOne K (.type "str") (.ref (He.ga K "Dials")) = some false := of_decide_eq_true (T.ex_at 34 (f := ex34) rfl)
theorem Tx.ks_Restarting (T : Tx K mg) : PySem.W.kitOne K (.type "str") (.ref (He.ga K "Restarting")) = some false := of_decide_eq_true (T.ex_at 35 (f := ex35) rfl)
theorem Tx.ne_Plain (T : Tx K mg) : PySem.W.findIn K (.ref (He.ga K "Plain")) "__ne__" = some (some (.builtin "object.__ne__")) := of_decide_eq_true (T.ex_at 36 (f := ex36) rfl)
theorem Tx.ne_Wrapping (T : Tx K mg) : PySem.W.findIn K (.ref (He.ga K "Wrapping")) "__ne__" = some (some (.builtin "object.__ne__")) := of_decide_eq_true (T.ex_at 37 (f := ex37) rfl)
theorem Tx.ne_Dials (T : Tx K mg) : PySem.W.findIn K (.ref (He.ga K "Dials")) "__ne__" = some (some (.builtin "object.__ne__")) := of_decide_eq_true (T.ex_at 38 (f := ex38) rfl)
theorem Tx.ne_Restarting (T : Tx K mg) : PySem.W.findIn K (.ref (He.ga K "Restarting")) "__ne__" = some (some (.builtin "object.__ne__")) := of_decide_eq_true (T.ex_at 39 (f := ex39) rfl)
theorem Tx.nf_Plain_Plain (T : Tx K mg) : PySem.W.notFirst K (He.ga K "Plain") (.ref (He.ga K "Plain")) = true := id (T.ex_at 40 (f := ex40) rfl)
theorem Tx.nf_Plain_Wrapping (T : Tx K mg) : PySem.W.notFirst K (He.ga K "Plain") (.ref (He.ga K "Wrapping")) = true := id (T.ex_at 41 (f := ex41) rfl)
theorem Tx.nf_Plain_Dials (T : Tx K mg) : PySem.W.notFirst K (He.ga K "Plain") (.ref (He.ga K "Dials")) = true := id (T.ex_at 42 (f := ex42) rfl)
theorem Tx.nf_Plain_Restarting (T : Tx K mg) : PySem.W.notFirst K (He.ga K "Plain") (.ref (He.ga K "Restarting")) = true := id (T.ex_at 43 (f := ex43) rfl)
theorem Tx.nf_Wrapping_Plain (T : Tx K mg) : PySem.W.notFirst K (He.ga K "Wrapping") (.ref (He.ga K "Plain")) = true := id (T.ex_at 44 (f := ex44) rfl)
theorem Tx.nf_Wrapping_Wrapping (T : Tx K mg) : PySem.W.notFirst K (He.ga K "Wrapping") (.ref (He.ga K "Wrapping")) = true := id (T.ex_at 45 (f := ex45) rfl)
theorem Tx.nf_Wrapping_Restarting (T : Tx K mg) : PySem.W.notFirst K (He.ga K "Wrapping") (.ref (He.ga K "Restarting")) = true := id (T.ex_at 46 (f := ex46) rfl)
theorem Tx.nf_Dials_Plain (T : Tx K mg) : PySem.W.notFirst K (He.ga K "Dials") (.ref (He.ga K "Plain")) = true := id (T.ex_at 47 (f := ex47) rfl)
theorem Tx.nf_Dials_Wrapping (T : Tx K mg) : PySem.W.notFirst K (He.ga K "Dials") (.ref (He.ga K "Wrapping")) = true := id (T.ex_at 48 (f := ex48) rfl)
theorem Tx.nf_Dials_Dials (T : Tx K mg) : PySem.W.notFirst K (He.ga K "Dials") (.ref (He.ga K "Dials")) = true := id (T.ex_at 49 (f := ex49) rfl)
theorem Tx.nf_Dials_Restarting (T : Tx K mg) : PySem.W.notFirst K (He.ga K "Dials") (.ref (He.ga K "Restarting")) = true := id (T.ex_at 50 (f := ex50) rfl)
theorem Tx.nf_Restarting_Plain (T : Tx K mg) : PySem.W.notFirst K (He.ga K "Restarting") (.ref (He.ga K "Plain")) = true := id (T.ex_at 51 (f := ex51) rfl)
theorem Tx.nf_Restarting_Wrapping (T : Tx K mg) : PySem.W.notFirst K (He.ga K "Restarting") (.ref (He.ga K "Wrapping")) = true := id (T.ex_at 52 (f := ex52) rfl)
theorem Tx.nf_Restarting_Dials (T : Tx K mg) : PySem.W.notFirst K (He.ga K "Restarting") (.ref (He.ga K "Dials")) = true := id (T.ex_at 53 (f := ex53) rfl)
theorem Tx.nf_Restarting_Restarting (T : Tx K mg) : PySem.W.notFirst K (He.ga K "Restarting") (.ref (He.ga K "Restarting")) = true := id (T.ex_at 54 (f := ex54) rfl)
theorem Tx.nfs_Plain (T : Tx K mg) : PySem.W.notFirst K (He.ga K "Plain") (.type "str") = true := id (T.ex_at 55 (f := ex55) rfl)
theorem Tx.nfs_Wrapping (T : Tx K mg) : PySem.W.notFirst K (He.ga K "Wrapping") (.type "str") = true := id (T.ex_at 56 (f := ex56) rfl)
theorem Tx.nfs_Dials (T : Tx K mg) : PySem.W.notFirst K (He.ga K "Dials") (.type "str") = true := id (T.ex_at 57 (f := ex57) rfl)
theorem Tx.nfs_Restarting (T : Tx K mg) : PySem.W.notFirst K (He.ga K "Restarting") (.type "str") = true := id (T.ex_at 58 (f := ex58) rfl)
theorem Tx.sub_DW (T : Tx K mg) : PySem.W.subIn K (.ref (He.ga K "Dials")) (.ref (He.ga K "Wrapping")) = some true := of_decide_eq_true (T.ex_at 59 (f := ex59) rfl)
theorem Tx.un_WD (T : Tx K mg) : (Value.ref (He.ga K "Wrapping") != Value.ref (He.ga K "Dials")) = true := id (T.ex_at 60 (f := ex60) rfl)
theorem Tx.lcm (T : Tx K mg) : PySem.W.nsIn K mainGlobals "lcm" = some (some (.builtin "math.lcm")) := of_decide_eq_true (T.ex_at 61 (f := ex61) rfl)
theorem Tx.opq (T : Tx K mg) : Hkc.opqB K = true := id (T.ex_at 62 (f := ex62) rfl)
theorem Tx.o_BadNumber (T : Tx K mg) : OexC K (He.ga K "BadNumber") := Ers.oexB_ok (T.ex_at 63 (f := ex63) rfl)
theorem Tx.e_BadNumber (T : Tx K mg) : Kept.ErrC K (He.ga K "BadNumber") := Kept.errB_ok (T.ex_at 64 (f := ex64) rfl)
theorem Tx.t_BadNumber (T : Tx K mg) : PySem.W.typeIn K (.ref (He.ma K (He.ga K "BadNumber") "__init__")) = some (.type "function") := of_decide_eq_true (T.ex_at 65 (f := ex65) rfl)
theorem Tx.o_BadRegister (T : Tx K mg) : OexC K (He.ga K "BadRegister") := Ers.oexB_ok (T.ex_at 66 (f := ex66) rfl)
theorem Tx.e_BadRegister (T : Tx K mg) : Kept.ErrC K (He.ga K "BadRegister") := Kept.errB_ok (T.ex_at 67 (f := ex67) rfl)
theorem Tx.t_BadRegister (T : Tx K mg) : PySem.W.typeIn K (.ref (He.ma K (He.ga K "BadRegister") "__init__")) = some (.type "function") := of_decide_eq_true (T.ex_at 68 (f := ex68) rfl)
theorem Tx.o_BadReading (T : Tx K mg) : OexC K (He.ga K "BadReading") := Ers.oexB_ok (T.ex_at 69 (f := ex69) rfl)
theorem Tx.e_BadReading (T : Tx K mg) : Kept.ErrC K (He.ga K "BadReading") := Kept.errB_ok (T.ex_at 70 (f := ex70) rfl)
theorem Tx.t_BadReading (T : Tx K mg) : PySem.W.typeIn K (.ref (He.ma K (He.ga K "BadReading") "__init__")) = some (.type "function") := of_decide_eq_true (T.ex_at 71 (f := ex71) rfl)
theorem Tx.o_BadText (T : Tx K mg) : OexC K (He.ga K "BadText") := Ers.oexB_ok (T.ex_at 72 (f := ex72) rfl)
theorem Tx.e_BadText (T : Tx K mg) : Kept.ErrC K (He.ga K "BadText") := Kept.errB_ok (T.ex_at 73 (f := ex73) rfl)
theorem Tx.t_BadText (T : Tx K mg) : PySem.W.typeIn K (.ref (He.ma K (He.ga K "BadText") "__init__")) = some (.type "function") := of_decide_eq_true (T.ex_at 74 (f := ex74) rfl)
theorem Tx.cm_Register_read (T : Tx K mg) : ClX.CRead K (He.ga K "Register") (.type "type") ∧ ClX.CMet K (He.ga K "Register") (.type "type") "read" (He.ma K (He.ga K "Register") "read") (Hkc.gm K (He.ga K "Register") "read") ∧ Hkc.mdB K (Hkc.gm K (He.ga K "Register") "read") "Register.read" = true := Hkc.cmB_ok (T.ex_at 75 (f := ex75) rfl)
theorem Tx.su_Dials (T : Tx K mg) : Hkc.supB PySem.Challenge.pw_gaugeroad_k23_registers_and_their_readin.main.file "Dials.__init__" "Dials" K = true := id (T.ex_at 76 (f := ex76) rfl)
theorem Tx.su1_Dials (T : Tx K mg) : PySem.W.ks_superIn K (He.ga K "Dials") (He.ga K "Dials") "__init__" = some (some (.ref (He.ma K (He.ga K "Wrapping") "__init__"))) := of_decide_eq_true (T.ex_at 77 (f := ex77) rfl)
theorem Tx.su2_Dials (T : Tx K mg) : PySem.W.typeIn K (.ref (He.ma K (He.ga K "Wrapping") "__init__")) = some (.type "function") := of_decide_eq_true (T.ex_at 78 (f := ex78) rfl)
theorem Tx.su3_Dials (T : Tx K mg) : PySem.W.fnIn K (He.ma K (He.ga K "Wrapping") "__init__") = true := id (T.ex_at 79 (f := ex79) rfl)
end
def tf : List He.Defn := []
end K23
set_option Elab.async false
set_option linter.all false
set_option maxRecDepth 100000
set_option maxHeartbeats 0
namespace K23
open PySem PySem.Spec PyProof.Rows L2
abbrev R : PySem.W.OpenRow := PySem.W.OpenLaw.row PySem.Challenge.rw_gaugeroad_k23_registers_and_their_readin
abbrev hk : PySem.W.Hook := Hkc.hookC 5 fa fn tf ex ms
def ob (s : PySem.W.SharedT) : Hkc.AlC := Hkc.obsC 5 fa fn tf ex ms (HandSHeadRun.getT s)
theorem ob_eq (s : PySem.W.SharedT) : ob s = hk.obs s.abs := Hkc.obsC_eq (HandSHeadRun.getT_eq s)
def names0 : List PySem.Str := ["_wall", "RoadError", "BadNumber", "BadRegister", "BadReading", "BadText", "is_whole", "is_within", "check_number", "DIGITS", "is_number_word", "Words", "FAR", "MOST_MODULUS", "MOST_PERIODS", "MOST_PERIOD", "Register", "Plain", "Wrapping", "Dials", "Restarting", "check_shown", "check_reading", "check_readings"]
def names1 : List PySem.Str := ["is_count", "least_total", "take_display", "display_of", "take_numbers", "_law_pen", "_law_draw", "_law_pick", "_law_register", "_law_made", "_law_modulus", "_law_shown", "_law_total", "_law_right", "_law_is_unlike", "_law_strange_right"]
def names : List PySem.Str := names0 ++ names1
theorem run (w : World) : HandSHeadRun.RunEqI R (PySem.W.view R.prog [0, 46]) hk ob 8000 names w := by
  unfold HandSHeadRun.RunEqI
  kernel_rfl
end K23
set_option Elab.async false
set_option linter.all false
set_option maxRecDepth 100000
set_option maxHeartbeats 4000000
namespace K23
open PySem PySem.Spec PyProof.Rows L2 Pre Dfs Vls
section
variable {P : Program} {w : World} {K : PySem.W.Frag} {mg : Str → Option Value} {base : Heap}
theorem p0 {X : Cx} {E : XK} : Passes CX0 X E := fun _ _ _ _ _ _ _ z => z.elim
/-! errors -/
/-! is_whole, is_within, check_number, is_count -/
def spWhole : Sp := fun vs H Q _ => ∃ x, vs = [x] ∧ Dat H x ∧ Q (.bl (isW x)) H
def spWithin : Sp := fun vs H Q _ => ∃ x lo hi, vs = [x, .int lo, .int hi] ∧ Dat H x ∧ Q (.bl (inR lo hi x)) H
def spCheck (K : PySem.W.Frag) : Sp := fun vs H Q E => ∃ x lo hi, vs = [x, .int lo, .int hi] ∧ Dat H x ∧ (inR lo hi x = true → Q .non H) ∧
  (inR lo hi x = false → ∀ d, H d = none → E (.ref (He.ga K "BadNumber")) (some d) (upd H d (.xd [("value", x)])))
def spCount : Sp := fun vs H Q _ => ∃ x, vs = [x] ∧ Dat H x ∧ Q (.bl (isC x)) H
theorem d_whole (T : Tx K mg) : Dfn P w K mg base CX0 1 "is_whole" ["value"] spWhole := by
  refine dfn T.q_is_whole T.g_is_whole (N := ["value"]) ⟨rfl, rfl, rfl, by decide +kernel, rfl, by decide +kernel, by decide +kernel⟩ (fun vs H Q E h => ?_) (fun kV doc pm an cdv ct => bind1 fun a => rfl) (fun cdv A outer s H vs Q E hr h => ?_)
  · obtain ⟨_, rfl, _⟩ := h
    rfl
  · obtain ⟨x, rfl, d, q⟩ := h
    refine ⟨_, pss_one (ps_ret (pe_and (pe_callB call_isi (by rfl) T.f_isinstance (by decide +kernel) (pa_cons (pv 0) (pa_cons (pe_bltn (v := .ty "int") (by rfl) T.f_int (by kernel_rfl) rfl) pa_nil)))
      (pe_one (pe_not (pe_callB call_isi (by rfl) T.f_isinstance (by decide +kernel) (pa_cons (pv 0) (pa_cons (pe_bltn (v := .ty "bool") (by rfl) T.f_bool (by kernel_rfl) rfl) pa_nil))))))), ?_⟩
    refine ⟨_, rfl, _, _, _, _, _, rfl, .ty _, d.ty, d.kInt, _, rfl, ?_⟩
    refine ite2 (fun h1 => ?_) (fun h1 => ?_)
    · refine ⟨_, rfl, _, _, _, _, _, rfl, .ty _, d.ty, d.kBool, _, rfl, ?_⟩
      have e : (!isB x) = isW x := by cases d <;> first | rfl | cases h1
      show Q (.bl (!isB x)) H
      rw [e]
      exact q
    · have e : isW x = false := by cases d <;> first | rfl | exact absurd rfl h1
      rw [e] at q
      exact q
theorem d_within (T : Tx K mg) : Dfn P w K mg base CX0 2 "is_within" ["value", "low", "high"] spWithin := by
  refine dfn T.q_is_within T.g_is_within (N := ["value", "low", "high"]) ⟨rfl, rfl, rfl, by decide +kernel, rfl, by decide +kernel, by decide +kernel⟩ (fun vs H Q E h => ?_) (fun kV doc pm an cdv ct => bind3 fun a b c => rfl) (fun cdv A outer s H vs Q E hr h => ?_)
  · obtain ⟨_, _, _, rfl, _⟩ := h
    rfl
  · obtain ⟨x, lo, hi, rfl, d, q⟩ := h
    refine ⟨_, pss_one (ps_ret (pe_and (pe_d (d_whole T) hr (by rfl) (E := E) p0 (pa_cons (pv 0) pa_nil)) (pe_one (pe_chain op_le op_le (pv 1) (pv 0) (pv 2))))), ?_⟩
    refine ⟨_, rfl, x, rfl, d, _, rfl, ?_⟩
    refine ite2 (fun h1 => ?_) (fun h1 => ?_)
    · cases d with
      | int i =>
        have q2 : Q (.bl (decide (lo ≤ i) && decide (i ≤ hi))) H := q
        refine ⟨_, rfl, _, rfl, _, _, rfl, rfl, _, rfl, ?_⟩
        refine ite2 (fun h2 => ⟨_, rfl, _, _, rfl, rfl, ?_⟩) (fun h2 => ?_)
        · rw [h2] at q2
          exact q2
        · rw [Bool.not_eq_true] at h2
          rw [h2] at q2
          exact q2
      | _ => cases h1
    · have e : inR lo hi x = false := by cases d <;> first | rfl | exact absurd rfl h1
      rw [e] at q
      exact q
theorem d_count (T : Tx K mg) : Dfn P w K mg base CX0 2 "is_count" ["value"] spCount := by
  refine dfn T.q_is_count T.g_is_count (N := ["value"]) ⟨rfl, rfl, rfl, by decide +kernel, rfl, by decide +kernel, by decide +kernel⟩ (fun vs H Q E h => ?_) (fun kV doc pm an cdv ct => bind1 fun a => rfl) (fun cdv A outer s H vs Q E hr h => ?_)
  · obtain ⟨_, rfl, _⟩ := h
    rfl
  · obtain ⟨x, rfl, d, q⟩ := h
    refine ⟨_, pss_one (ps_ret (pe_and (pe_d (d_whole T) hr (by rfl) (E := E) p0 (pa_cons (pv 0) pa_nil)) (pe_one (pe_cmpR op_ge (pv 0) pe_int (nomark _))))), ?_⟩
    refine ⟨_, rfl, x, rfl, d, _, rfl, ?_⟩
    refine ite2 (fun h1 => ?_) (fun h1 => ?_)
    · cases d with
      | int i => exact ⟨_, rfl, _, _, rfl, rfl, q⟩
      | _ => cases h1
    · have e : isC x = false := by cases d <;> first | rfl | exact absurd rfl h1
      rw [e] at q
      exact q
/-! the errors' __init__ -/
theorem i_BadNumber (T : Tx K mg) : ∃ fd, FnOk P w K mg base CX0 1 (He.ma K (He.ga K "BadNumber") "__init__") fd ["self", "value"] (Ers.spIni1 (He.ga K "BadNumber") "value") ∧ Binds K fd ["self", "value"] [] := by
  obtain ⟨fd, F⟩ := T.q_BadNumber_init
  exact ⟨fd, Ers.ok_ini1 F ⟨rfl, rfl, rfl, by decide +kernel, rfl, by decide +kernel, by decide +kernel⟩ T.o_BadNumber T.n_BadNumber_value (by decide +kernel) (by decide +kernel) (by decide) (by decide) (fun _ => rfl), F.bindsN fun kV doc pm an cdv ct => bind2 fun a b => rfl⟩
theorem i_BadRegister (T : Tx K mg) : ∃ fd, FnOk P w K mg base CX0 1 (He.ma K (He.ga K "BadRegister") "__init__") fd ["self", "part"] (Ers.spIni1 (He.ga K "BadRegister") "part") ∧ Binds K fd ["self", "part"] [] := by
  obtain ⟨fd, F⟩ := T.q_BadRegister_init
  exact ⟨fd, Ers.ok_ini1 F ⟨rfl, rfl, rfl, by decide +kernel, rfl, by decide +kernel, by decide +kernel⟩ T.o_BadRegister T.n_BadRegister_part (by decide +kernel) (by decide +kernel) (by decide) (by decide) (fun _ => rfl), F.bindsN fun kV doc pm an cdv ct => bind2 fun a b => rfl⟩
theorem i_BadReading (T : Tx K mg) : ∃ fd, FnOk P w K mg base CX0 1 (He.ma K (He.ga K "BadReading") "__init__") fd ["self", "at"] (Ers.spIni1 (He.ga K "BadReading") "at") ∧ Binds K fd ["self", "at"] [] := by
  obtain ⟨fd, F⟩ := T.q_BadReading_init
  exact ⟨fd, Ers.ok_ini1 F ⟨rfl, rfl, rfl, by decide +kernel, rfl, by decide +kernel, by decide +kernel⟩ T.o_BadReading T.n_BadReading_at (by decide +kernel) (by decide +kernel) (by decide) (by decide) (fun _ => rfl), F.bindsN fun kV doc pm an cdv ct => bind2 fun a b => rfl⟩
theorem tk {N : List Str} {qual : Str} {scope : Scope} {f : Addr} {cdv : Value} {A : Around} {outer : List Env} {s : Shared} {H : Hp} {E : XK} : Takes (cxOf (L2.CX P w) P w K mg base N qual scope f cdv A outer s H E) (fun cls d _ H => E cls d H) := takes_of rfl rfl rfl rfl
theorem pc {N : List Str} {qual : Str} {scope : Scope} {f : Addr} {cdv : Value} {A : Around} {outer : List Env} {s : Shared} {H : Hp} {E : XK} : Passes (L2.CX P w) (cxOf (L2.CX P w) P w K mg base N qual scope f cdv A outer s H E) E := passes_call tk fun _ _ _ _ h => h
theorem ite3 {b : Bool} {p q : Prop} (h1 : b = true → p) (h2 : b = false → q) : if b = true then p else q := by
  cases b with
  | true => exact h1 rfl
  | false => exact h2 rfl
theorem d_check (T : Tx K mg) : Dfn P w K mg base (L2.CX P w) 3 "check_number" ["value", "low", "high"] (spCheck K) := by
  refine dfn T.q_check_number T.g_check_number (N := ["value", "low", "high"]) ⟨rfl, rfl, rfl, by decide +kernel, rfl, by decide +kernel, by decide +kernel⟩ (fun vs H Q E h => ?_) (fun kV doc pm an cdv ct => bind3 fun a b c => rfl) (fun cdv A outer s H vs Q E hr h => ?_)
  · obtain ⟨_, _, _, rfl, _⟩ := h
    rfl
  · obtain ⟨x, lo, hi, rfl, d, q1, q2⟩ := h
    obtain ⟨fi, Fi, Bi⟩ := i_BadNumber (P := P) (w := w) (base := base) T
    refine ⟨_, pss_one (ps_if (pt_not (pt_val (pe_d (d_within T) hr (by rfl) (E := E) p0 (pa_cons (pv 0) (pa_cons (pv 1) (pa_cons (pv 2) pa_nil))))))
      (pss_one (Ers.ps_raise1 T.o_BadNumber T.m_BadNumber_init.at_ T.t_BadNumber Fi (hr.mono (by decide)) Bi (by rfl) T.g_BadNumber rfl tk (pv 0))) pss_nil), ?_⟩
    refine ⟨_, rfl, _, rfl, _, rfl, x, lo, hi, rfl, d, _, rfl, ?_⟩
    refine ite3 (fun h1 => ?_) (fun h1 => ?_)
    · exact ⟨_, rfl, q2 (by simpa using h1)⟩
    · exact q1 (by simpa using h1)
end
end K23
set_option Elab.async false
set_option linter.all false
set_option maxRecDepth 100000
set_option maxHeartbeats 4000000
namespace K23
open PySem PySem.Spec PyProof.Rows L2 Pre Dfs Vls
theorem fld {X : Cx} {e : Expr} {f : Str} {pos : Pos} {ta : TE} (he : PE X e ta) (hb : attributeBase e f X.env (eval e X.env) = eval e X.env := by rfl) : PE X (.Attribute e f pos) (tFld X.K ta f) := pe_fld he hb
/-- a value that is never reached -/
theorem pe_never {X : Cx} {e : Expr} : PE X e (fun _ _ _ => False) := ⟨fun _ _ _ _ _ _ h => h.elim⟩
/-- the number's text -/
def num (n : Nat) : Str := Str.ofString (toString ((n : Nat) : Int))
theorem num_tl (n : Nat) : (num n).cps.toList = TL.numL n := TL.tl_num n
theorem num_len {n : Nat} (h : n < 10 ^ 40) : 1 ≤ (num n).length ∧ (num n).length ≤ 40 := by
  have e : (num n).length = (TL.numL n).length := by
    rw [← num_tl]
    rfl
  rw [e]
  refine ⟨?_, TL.numL_len (by decide) h⟩
  cases q : TL.numL n with
  | nil => exact absurd q (TL.numL_ne n)
  | cons a r => simp
theorem num_digit {n i c : Nat} (h : (num n).cps[i]? = some c) : 48 ≤ c ∧ c ≤ 57 := by
  have h2 : c ∈ (num n).cps.toList := by
    rw [← Array.getElem?_toList] at h
    exact List.mem_of_getElem? h
  rw [num_tl] at h2
  exact TL.numL_digits n c h2
theorem num_neg (n : Nat) : Txt.startswith (num n) "-" = false := by
  cases q : Txt.startswith (num n) "-" with
  | false => rfl
  | true =>
    unfold Txt.startswith at q
    obtain ⟨_, h2⟩ := Bool.and_eq_true_iff.mp q
    unfold Builtin.Str.subAt at h2
    have h3 := congrArg (fun a : Array Nat => a[0]?) (beq_iff_eq.mp h2)
    have h4 : (("-" : Str)).cps[0]? = some 45 := by decide
    simp only [h4, Array.getElem?_extract] at h3
    split at h3
    · have h5 : (num n).cps[0]? = some 45 := h3
      have := num_digit h5
      omega
    · cases h3
theorem num_int {n : Nat} (h : n < 10 ^ 40) : intText? (num n) = some (n : Int) := TL.int_num (Nat.le_trans (TL.numL_len (by decide) h) (by decide))
section
variable {P : Program} {w : World} {K : PySem.W.Frag} {mg : Str → Option Value} {base : Heap}
def spNum : Sp := fun vs H Q _ => ∃ n : Nat, vs = [.str (num n)] ∧ n < 10 ^ 40 ∧ ∀ H', Same H H' → Q (.bl true) H'
theorem log40 {n : Nat} (h : n < 10 ^ 40) : (n : Int).natAbs.log2 < 1920 := by
  have e : (n : Int).natAbs = n := Int.natAbs_natCast n
  rw [e]
  by_cases z : n = 0
  · subst z
    decide
  · exact (Nat.log2_lt z).mpr (Nat.lt_of_lt_of_le h (by decide))
theorem d_num (T : Tx K mg) : Dfn P w K mg base CX0 2 "is_number_word" ["word"] spNum := by
  have nd : (["word", "digits", "sign"] : List Str).Nodup := by decide +kernel
  refine dfn T.q_is_number_word T.g_is_number_word (N := ["word", "digits", "sign"]) ⟨rfl, rfl, rfl, by decide +kernel, rfl, by decide +kernel, by decide +kernel⟩ (fun vs H Q E h => ?_) (fun kV doc pm an cdv ct => bind1 fun a => rfl) (fun cdv A outer s H vs Q E hr h => ?_)
  · obtain ⟨_, rfl, _⟩ := h
    rfl
  · obtain ⟨n, rfl, hn, q⟩ := h
    obtain ⟨td, hd⟩ := T.i_DIGITS
    refine ⟨_, pss_cons (ps_set (i := 1) nd rfl (Or.inl rfl) (pe_ifExp (pt_val (L2.pe_m1 F.slot_str_startswith F.type_str_startswith mt_startswith (pv 0) pe_str)) pe_never (pv 0)))
      (pss_cons (ps_if (pt_not (pt_chain op_le op_le pe_int (pe_callB call_len_str (by rfl) T.f_len PySem.boot_len (pa_cons (pv 1) pa_nil)) (pe_glob (v := .int 40) (by rfl) hd ⟨td, rfl⟩))) (pss_one ps_never) pss_nil)
      (pss_cons (ps_if (pt_truth (pe_lc rfl nd (pi_str (pv 1)) (own := [("sign", 2)]) (blk_by (by kernel_rfl))
          (fun _ _ _ _ _ => pg_name (i := 2) nd rfl (Or.inl rfl)) (fun _ _ _ _ _ => pts_one (pt_cmpR op_notIn_sign (pe_var (i := 2) rfl (Or.inl rfl)) pe_str (by with_unfolding_all rfl))) (fun _ _ _ _ _ => pe_var (i := 2) rfl (Or.inl rfl))) (fun _ => rfl)) (pss_one ps_never) pss_nil)
      (pss_one (ps_ret (pe_cmpR op_eq (pe_callTy call_str_int (by rfl) T.f_str (by kernel_rfl) (pa_cons (pe_callTy call_int_str (by rfl) T.f_int (by decide +kernel) (pa_cons (pv 0) pa_nil)) pa_nil)) (pv 0) (nomark _)))))), ?_⟩
    obtain ⟨l1, l2⟩ := num_len hn
    refine ⟨_, rfl, ⟨_, rfl⟩, _, _, rfl, rfl, _, rfl, ?_⟩
    refine ite3 (fun h => by rw [num_neg] at h; cases h) (fun _ => ?_)
    refine ⟨_, rfl, ?_⟩
    refine ⟨_, rfl, _, rfl, by rw [sizeLine_eq]; omega, ?_⟩
    refine ⟨_, _, rfl, rfl, _, rfl, ite3 (fun _ => ?_) (fun h => absurd (of_decide_eq_false h) (by omega))⟩
    refine ⟨_, _, rfl, rfl, _, rfl, ite3 (fun h => ?_) (fun _ => ?_)⟩
    · rw [decide_eq_true (show (((num n).length : Nat) : Int) ≤ 40 by omega)] at h
      cases h
    refine ⟨_, rfl, _, rfl, fun D hD => ?_⟩
    refine ⟨fun i m H1 => H1 = upd H D (.lst []) ∧ i + m = (num n).cps.size, ⟨_, rfl, Nat.zero_add _⟩, ?_⟩
    rintro i m H1 ⟨rfl, hm⟩
    by_cases hi : i < (num n).cps.size
    · refine .inr ⟨hi, fun H2 => H2 = upd H D (.lst []), fun H2 e => ⟨m - 1, by omega, e, by omega⟩, ?_⟩
      rintro x H2 ⟨rfl, c, hc, rfl⟩
      refine ⟨rfl, _, rfl, c, _, rfl, rfl, _, rfl, ?_⟩
      refine ite3 (fun h => ?_) (fun _ => rfl)
      obtain ⟨c1, c2⟩ := num_digit hc
      have hm : c ∈ (("0123456789" : Str)).cps.toList := by
        have : c = 48 ∨ c = 49 ∨ c = 50 ∨ c = 51 ∨ c = 52 ∨ c = 53 ∨ c = 54 ∨ c = 55 ∨ c = 56 ∨ c = 57 := by omega
        rcases this with rfl | rfl | rfl | rfl | rfl | rfl | rfl | rfl | rfl | rfl <;> decide
      rw [decide_eq_true hm] at h
      cases h
    · refine .inl ⟨by show (num n).cps.size ≤ i; omega, ?_⟩
      refine ⟨false, .inl ⟨[], SqL.of upd_same, rfl⟩, ?_⟩
      refine ite3 (fun h => by cases h) (fun _ => ?_)
      refine ⟨_, rfl, _, _, rfl, num_int hn, by omega, _, rfl, log40 hn, _, rfl, rfl, ?_⟩
      show Q (.bl (decide (V.str (num n) = V.str (num n)))) _
      rw [decide_eq_true rfl]
      exact q _ (Same.upd hD)
/-! a row of words that is gone through -/
abbrev CW (K : PySem.W.Frag) : Addr := He.ga K "Words"
structure Wds (K : PySem.W.Frag) (H : Hp) (a dx l : Addr) (ws : List Str) (n : Nat) : Prop where
  at_ : H a = some (.ins (CW K) dx [("line", .int 0), ("words", .ref l), ("place", .int n)])
  at_l : H l = some (.lst (ws.map V.str))
  few : ws.length ≤ 1000
theorem Wds.ne {H : Hp} {a dx l : Addr} {ws : List Str} {n : Nat} (W : Wds K H a dx l ws n) : l ≠ a := by
  rintro rfl
  have e := W.at_
  rw [W.at_l] at e
  cases e
theorem Wds.same {H H' : Hp} {a dx l : Addr} {ws : List Str} {n : Nat} (W : Wds K H a dx l ws n) (s : Same H H') : Wds K H' a dx l ws n := ⟨s _ _ W.at_, s _ _ W.at_l, W.few⟩
theorem Wds.next {H H' : Hp} {a dx l : Addr} {ws : List Str} {n m : Nat} (W : Wds K H a dx l ws n) (b : But a H H') (e : H' a = some (.ins (CW K) dx [("line", .int 0), ("words", .ref l), ("place", .int m)])) : Wds K H' a dx l ws m :=
  ⟨e, b _ _ W.ne W.at_l, W.few⟩
def spWIni (K : PySem.W.Frag) : Sp := fun vs H Q _ => ∃ (a dx : Addr) (ws : List Str), vs = [.ref a, .str (Txt.join " " ws), .int 0] ∧ H a = some (.ins (CW K) dx []) ∧ ws ≠ [] ∧ ws.length ≤ 1000 ∧ (∀ p ∈ ws, 32 ∉ p.cps.toList) ∧ (Txt.join " " ws).length ≤ 100000 ∧
  ∀ (H' : Hp) (l : Addr), But a H H' → Wds K H' a dx l ws 0 → Q .non H'
def spWDone (K : PySem.W.Frag) : Sp := fun vs H Q _ => ∃ (a dx l : Addr) (ws : List Str) (n : Nat), vs = [.ref a] ∧ Wds K H a dx l ws n ∧ Q (.bl (decide (n = ws.length))) H
def spWAhead (K : PySem.W.Frag) : Sp := fun vs H Q _ => ∃ (a dx l : Addr) (ws : List Str) (n : Nat) (z : Str), vs = [.ref a] ∧ Wds K H a dx l ws n ∧ ws[n]? = some z ∧ Q (.str z) H
def spWInt (K : PySem.W.Frag) : Sp := fun vs H Q _ => ∃ (a dx l : Addr) (ws : List Str) (n m : Nat), vs = [.ref a] ∧ Wds K H a dx l ws n ∧ ws[n]? = some (num m) ∧ m < 10 ^ 40 ∧ ∀ H', But a H H' → Wds K H' a dx l ws (n + 1) → Q (.int m) H'
def spWNum (K : PySem.W.Frag) : Sp := fun vs H Q _ => ∃ (a dx l : Addr) (ws : List Str) (n m : Nat) (lo hi : Int), vs = [.ref a, .int lo, .int hi] ∧ Wds K H a dx l ws n ∧ ws[n]? = some (num m) ∧ m < 10 ^ 40 ∧ lo ≤ m ∧ (m : Int) ≤ hi ∧ ∀ H', But a H H' → Wds K H' a dx l ws (n + 1) → Q (.int m) H'
def spWFin (K : PySem.W.Frag) : Sp := fun vs H Q _ => ∃ (a dx l : Addr) (ws : List Str), vs = [.ref a] ∧ Wds K H a dx l ws ws.length ∧ Q .non H
theorem m_done (T : Tx K mg) : Mfn P w K mg base CX0 1 (CW K) "is_done" ["self"] (spWDone K) := by
  refine mfn T.q_Words_is_done T.c_Words T.m_Words_is_done (N := ["self"]) ⟨rfl, rfl, rfl, by decide +kernel, rfl, by decide +kernel, by decide +kernel⟩ (fun vs H Q E h => ?_) (fun kV doc pm an cdv ct => bind1 fun a => rfl) (fun cdv A outer s H vs Q E hr h => ?_)
  · obtain ⟨_, _, _, _, _, rfl, _⟩ := h
    rfl
  · obtain ⟨a, dx, l, ws, n, rfl, W, q⟩ := h
    refine ⟨_, pss_one (ps_ret (pe_cmpR op_eq (fld (pv 0)) (pe_callB call_len_seq (by rfl) T.f_len PySem.boot_len (pa_cons (fld (pv 0)) pa_nil)) (nomark _))), ?_⟩
    refine ⟨_, rfl, a, _, _, _, _, rfl, W.at_, T.c_Words, T.n_Words_place, rfl, _, rfl, a, _, _, _, _, rfl, W.at_, T.c_Words, T.n_Words_words, rfl, l, _, rfl, .inl (SqL.of W.at_l), rfl, ?_⟩
    have e : decide (V.int (n : Int) = V.int (((ws.map V.str).length : Nat) : Int)) = decide (n = ws.length) := by
      rw [List.length_map]
      by_cases h : n = ws.length
      · rw [h, decide_eq_true rfl, decide_eq_true rfl]
      · rw [decide_eq_false h, decide_eq_false fun z => h (by injection z; omega)]
    show Q (.bl (decide (V.int (n : Int) = V.int (((ws.map V.str).length : Nat) : Int)))) H
    rw [e]
    exact q
theorem m_ahead (T : Tx K mg) : Mfn P w K mg base CX0 2 (CW K) "ahead" ["self"] (spWAhead K) := by
  refine mfn T.q_Words_ahead T.c_Words T.m_Words_ahead (N := ["self"]) ⟨rfl, rfl, rfl, by decide +kernel, rfl, by decide +kernel, by decide +kernel⟩ (fun vs H Q E h => ?_) (fun kV doc pm an cdv ct => bind1 fun a => rfl) (fun cdv A outer s H vs Q E hr h => ?_)
  · obtain ⟨_, _, _, _, _, _, rfl, _⟩ := h
    rfl
  · obtain ⟨a, dx, l, ws, n, z, rfl, W, hz, q⟩ := h
    refine ⟨_, pss_one (ps_ret (pe_ifExp (pt_val (Dfs.pe_m0 (pv 0) (m_done T) hr (E := E) p0)) pe_never (pe_ix ix_list (fld (pv 0)) (fld (pv 0)) (fun _ _ => rfl)))), ?_⟩
    have hn : n < ws.length := (List.getElem?_eq_some_iff.mp hz).1
    refine ⟨_, rfl, a, _, _, rfl, W.at_, rfl, a, dx, l, ws, n, rfl, W, _, rfl, ?_⟩
    refine ite3 (fun h => absurd (of_decide_eq_true h) (by omega)) (fun _ => ?_)
    refine ⟨_, rfl, a, _, _, _, _, rfl, W.at_, T.c_Words, T.n_Words_words, rfl, _, rfl, a, _, _, _, _, rfl, W.at_, T.c_Words, T.n_Words_place, rfl, l, _, _, _, rfl, rfl, SqL.of W.at_l, atI_nat (v := .str z) ?_, q⟩
    rw [List.getElem?_map, hz]
    rfl
theorem m_int (T : Tx K mg) : Mfn P w K mg base CX0 3 (CW K) "take_integer" ["self"] (spWInt K) := by
  have nd : (["self", "word"] : List Str).Nodup := by decide +kernel
  refine mfn T.q_Words_take_integer T.c_Words T.m_Words_take_integer (N := ["self", "word"]) ⟨rfl, rfl, rfl, by decide +kernel, rfl, by decide +kernel, by decide +kernel⟩ (fun vs H Q E h => ?_) (fun kV doc pm an cdv ct => bind1 fun a => rfl) (fun cdv A outer s H vs Q E hr h => ?_)
  · obtain ⟨_, _, _, _, _, _, rfl, _⟩ := h
    rfl
  · obtain ⟨a, dx, l, ws, n, m, rfl, W, hz, hm, q⟩ := h
    refine ⟨_, pss_cons (ps_set (i := 1) nd rfl (Or.inl rfl) (Dfs.pe_m0 (pv 0) (m_ahead T) hr (E := E) p0))
      (pss_cons (ps_if (pt_not (pt_val (pe_d (d_num T) hr (by rfl) (E := E) p0 (pa_cons (pv 1) pa_nil)))) (pss_one ps_never) pss_nil)
      (pss_cons (ps_fldaug (pv 0) pe_int in_add)
      (pss_one (ps_ret (pe_callTy call_int_str (by rfl) T.f_int (by decide +kernel) (pa_cons (pv 1) pa_nil)))))), ?_⟩
    refine ⟨_, rfl, a, _, _, rfl, W.at_, rfl, a, dx, l, ws, n, _, rfl, W, hz, ?_⟩
    refine ⟨_, rfl, m, rfl, hm, fun H1 s1 => ⟨_, rfl, ite3 (fun h => by cases h) (fun _ => ?_)⟩⟩
    have W1 := W.same s1
    have W2 : Wds K (upd H1 a (.ins (CW K) dx [("line", .int 0), ("words", .ref l), ("place", .int ((n + 1 : Nat) : Int))])) a dx l ws (n + 1) := W1.next But.at_ upd_same
    refine ⟨_, rfl, a, _, _, _, _, rfl, W1.at_, T.c_Words, T.n_Words_place, rfl, _, _, rfl, rfl, dx, _, W1.at_, (by show (3 : Nat) < 1000; decide), ?_⟩
    exact ⟨_, rfl, _, _, rfl, num_int hm, Nat.le_trans (num_len hm).2 (by decide), q _ ((But.of s1).trans But.at_) W2⟩
def spWHas (K : PySem.W.Frag) : Sp := fun vs H Q _ => ∃ (a dx l : Addr) (ws : List Str) (n m : Nat) (lo hi : Int), vs = [.ref a, .int lo, .int hi] ∧ Wds K H a dx l ws n ∧ ws[n]? = some (num m) ∧ m < 10 ^ 40 ∧ lo ≤ m ∧ (m : Int) ≤ hi ∧ ∀ H', Same H H' → Q (.bl true) H'
theorem m_has (T : Tx K mg) : Mfn P w K mg base CX0 3 (CW K) "has_number" ["self", "low", "high"] (spWHas K) := by
  have nd : (["self", "low", "high", "word"] : List Str).Nodup := by decide +kernel
  refine mfn T.q_Words_has_number T.c_Words T.m_Words_has_number (N := ["self", "low", "high", "word"]) ⟨rfl, rfl, rfl, by decide +kernel, rfl, by decide +kernel, by decide +kernel⟩ (fun vs H Q E h => ?_) (fun kV doc pm an cdv ct => bind3 fun a b c => rfl) (fun cdv A outer s H vs Q E hr h => ?_)
  · obtain ⟨_, _, _, _, _, _, _, _, rfl, _⟩ := h
    rfl
  · obtain ⟨a, dx, l, ws, n, m, lo, hi, rfl, W, hz, hm, h1, h2, q⟩ := h
    refine ⟨_, pss_cons (ps_set (i := 3) nd rfl (Or.inl rfl) (Dfs.pe_m0 (pv 0) (m_ahead T) hr (E := E) p0))
      (pss_one (ps_ret (pe_and (pe_d (d_num T) hr (by rfl) (E := E) p0 (pa_cons (pv 3) pa_nil))
          (pe_one (pe_chain op_le op_le (pv 1) (pe_callTy call_int_str (by rfl) T.f_int (by decide +kernel) (pa_cons (pv 3) pa_nil)) (pv 2)))))), ?_⟩
    refine ⟨_, rfl, a, _, _, rfl, W.at_, rfl, a, dx, l, ws, n, _, rfl, W, hz, ?_⟩
    refine ⟨_, rfl, m, rfl, hm, fun H1 s1 => ⟨_, rfl, ite2 (fun _ => ?_) (fun h => absurd rfl h)⟩⟩
    refine ⟨_, rfl, _, rfl, _, _, rfl, num_int hm, Nat.le_trans (num_len hm).2 (by decide), _, _, rfl, rfl, _, rfl, ite2 (fun _ => ?_) (fun h => absurd (decide_eq_true h1) h)⟩
    refine ⟨_, rfl, _, _, rfl, rfl, ?_⟩
    show Q (.bl (decide ((m : Int) ≤ hi))) H1
    rw [decide_eq_true h2]
    exact q _ s1
theorem m_num (T : Tx K mg) : Mfn P w K mg base CX0 4 (CW K) "take_number" ["self", "low", "high"] (spWNum K) := by
  have nd : (["self", "low", "high"] : List Str).Nodup := by decide +kernel
  refine mfn T.q_Words_take_number T.c_Words T.m_Words_take_number (N := ["self", "low", "high"]) ⟨rfl, rfl, rfl, by decide +kernel, rfl, by decide +kernel, by decide +kernel⟩ (fun vs H Q E h => ?_) (fun kV doc pm an cdv ct => bind3 fun a b c => rfl) (fun cdv A outer s H vs Q E hr h => ?_)
  · obtain ⟨_, _, _, _, _, _, _, _, rfl, _⟩ := h
    rfl
  · obtain ⟨a, dx, l, ws, n, m, lo, hi, rfl, W, hz, hm, h1, h2, q⟩ := h
    refine ⟨_, pss_cons (ps_if (pt_not (pt_val (Dfs.pe_m (pv 0) (m_has T) hr (E := E) p0 (pa_cons (pv 1) (pa_cons (pv 2) pa_nil))))) (pss_one ps_never) pss_nil)
      (pss_one (ps_ret (Dfs.pe_m0 (pv 0) (m_int T) hr (E := E) p0))), ?_⟩
    refine ⟨_, rfl, a, _, _, rfl, W.at_, rfl, _, rfl, _, rfl, a, dx, l, ws, n, m, lo, hi, rfl, W, hz, hm, h1, h2, fun H1 s1 => ⟨_, rfl, ite3 (fun h => by cases h) (fun _ => ?_)⟩⟩
    have W1 := W.same s1
    exact ⟨_, rfl, a, _, _, rfl, W1.at_, rfl, a, dx, l, ws, n, m, rfl, W1, hz, hm, fun H2 b W2 => q H2 ((But.of s1).trans b) W2⟩
theorem m_fin (T : Tx K mg) : Mfn P w K mg base CX0 2 (CW K) "finish" ["self"] (spWFin K) := by
  refine mfn T.q_Words_finish T.c_Words T.m_Words_finish (N := ["self"]) ⟨rfl, rfl, rfl, by decide +kernel, rfl, by decide +kernel, by decide +kernel⟩ (fun vs H Q E h => ?_) (fun kV doc pm an cdv ct => bind1 fun a => rfl) (fun cdv A outer s H vs Q E hr h => ?_)
  · obtain ⟨_, _, _, _, rfl, _⟩ := h
    rfl
  · obtain ⟨a, dx, l, ws, rfl, W, q⟩ := h
    refine ⟨_, pss_one (ps_if (pt_not (pt_val (Dfs.pe_m0 (pv 0) (m_done T) hr (E := E) p0))) (pss_one ps_never) pss_nil), ?_⟩
    refine ⟨_, rfl, a, _, _, rfl, W.at_, rfl, a, dx, l, ws, _, rfl, W, _, rfl, ite3 (fun h => ?_) (fun _ => q)⟩
    rw [decide_eq_true rfl] at h
    cases h
theorem inV_str {z : Str} {opts : List Str} (h : z ∈ opts) : inV (.str z) (opts.map V.str) = true := by
  unfold inV
  rw [List.any_eq_true]
  refine ⟨.str z, List.mem_map_of_mem h, ?_⟩
  simp [eqV]
theorem flat_strs (opts : List Str) : (opts.map V.str).all flatV = true := by
  rw [List.all_eq_true]
  intro x hx
  obtain ⟨y, _, rfl⟩ := List.mem_map.mp hx
  rfl
def spWTake0 (K : PySem.W.Frag) : Sp := fun vs H Q _ => ∃ (a t dx l : Addr) (ws opts : List Str) (n : Nat) (z : Str), vs = [.ref a, .ref t] ∧ H t = some (.tup (opts.map V.str)) ∧ Wds K H a dx l ws n ∧ ws[n]? = some z ∧ z ∈ opts ∧
  ∀ H', But a H H' → Wds K H' a dx l ws (n + 1) → Q (.str z) H'
def spWTake (K : PySem.W.Frag) : Sp := fun vs H Q _ => ∃ (a dx l : Addr) (ws opts : List Str) (n : Nat) (z : Str), vs = .ref a :: opts.map V.str ∧ opts.length ≤ 100 ∧ Wds K H a dx l ws n ∧ ws[n]? = some z ∧ z ∈ opts ∧
  ∀ H', But a H H' → Wds K H' a dx l ws (n + 1) → Q (.str z) H'
theorem r_take (T : Tx K mg) : FnR P w K mg base CX0 3 (He.ma K (CW K) "take") (spWTake K) := by
  have nd : (["self", "options", "word"] : List Str).Nodup := by decide +kernel
  obtain ⟨fd, F⟩ := T.q_Words_take
  obtain ⟨oc, od, dV, kV, doc, pm, an, cdv, ct, osl, rfl, lk, hcd, hD, _⟩ := F.ex
  obtain ⟨_, rfl⟩ | ⟨z, _⟩ := hD
  case inr => exact absurd rfl z
  have R := StX.fn_star (P := P) (w := w) (mg := mg) (base := base) (CX := CX0) (k := 2) (ps := ["self"]) (pv := "options") (N := ["self", "options", "word"]) (sp := spWTake0 K) lk hcd
    ⟨rfl, rfl, rfl, by decide +kernel, rfl, by decide +kernel, by decide +kernel⟩ StX.cxUp_none (StX.bind_star1 (B := fun vs => bindArgs (PySem.W.fnOf "take" "Words.take" (defArgs s_Words_take) (defBody s_Words_take) (defScope s_Words_take) .none kV doc pm an cdv ct) ⟨vs, []⟩) (fun a => rfl) (fun a r rs => rfl)) (fun A outer s H vs Q E hr h => ?_)
  · refine R.imp fun vs H Q E h => ?_
    obtain ⟨a, dx, l, ws, opts, n, z, rfl, ho, W, hz, hin, q⟩ := h
    refine ⟨[.ref a], opts.map V.str, rfl, rfl, by rw [List.length_map, sizeLine_eq]; omega, fun p hp => ?_⟩
    have s1 : Same H (upd H p (.tup (opts.map V.str))) := Same.upd hp
    exact ⟨a, p, dx, l, ws, opts, n, z, rfl, upd_same, W.same s1, hz, hin, fun H' b W2 => q H' ((But.of s1).trans b) W2⟩
  · obtain ⟨a, t, dx, l, ws, opts, n, z, rfl, ht, W, hz, hin, q⟩ := h
    refine ⟨_, pss_cons (ps_set (i := 2) nd rfl (Or.inl rfl) (Dfs.pe_m0 (pv 0) (m_ahead T) hr (E := E) p0))
      (pss_cons (ps_if (PW.pt (pw_or (pt_val (Dfs.pe_m0 (pv 0) (m_done T) (hr.mono (by decide)) (E := E) p0)) (pw_or1 (pt_cmpR op_notIn_seq (pv 2) (pv 1) (by with_unfolding_all rfl))))) (pss_one ps_never) pss_nil)
      (pss_cons (ps_fldaug (pv 0) pe_int in_add)
      (pss_one (ps_ret (pv 2))))), ?_⟩
    have hn : n < ws.length := (List.getElem?_eq_some_iff.mp hz).1
    refine ⟨_, rfl, a, _, _, rfl, W.at_, rfl, a, dx, l, ws, n, _, rfl, W, hz, ?_⟩
    refine ⟨_, rfl, a, _, _, rfl, W.at_, rfl, a, dx, l, ws, n, rfl, W, _, rfl, ite3 (fun h => absurd (of_decide_eq_true h) (by omega)) (fun _ => ?_)⟩
    refine ⟨_, rfl, _, rfl, t, _, rfl, .inr (SqT.of ht), rfl, flat_strs opts, _, rfl, ite3 (fun h => ?_) (fun _ => ?_)⟩
    · rw [if_pos rfl, inV_str hin] at h
      cases h
    have W2 : Wds K (upd H a (.ins (CW K) dx [("line", .int 0), ("words", .ref l), ("place", .int ((n + 1 : Nat) : Int))])) a dx l ws (n + 1) := W.next But.at_ upd_same
    exact ⟨_, rfl, a, _, _, _, _, rfl, W.at_, T.c_Words, T.n_Words_place, rfl, _, _, rfl, rfl, dx, _, W.at_, (by show (3 : Nat) < 1000; decide), _, rfl, q _ But.at_ W2⟩
theorem f_wini (T : Tx K mg) : ∃ fd us, FnOk P w K mg base CX0 1 (He.ma K (CW K) "__init__") fd ["self", "text", "line"] (spWIni K) ∧ Binds K fd ["self", "text", "line"] us ∧ Vals [V.int 0] us := by
  obtain ⟨fd, F⟩ := T.q_Words_init
  obtain ⟨us, hd, hb⟩ := F.binds1 (ps := ["self", "text", "line"]) 2 0 (by simp) rfl (fun T kV doc pm an cdv ct us its h1 h2 => by
    match us, its, h1, h2 with
    | [a, b], [d], _, _ => exact ⟨_, rfl, rfl⟩)
  refine ⟨fd, us, F.ok (N := ["self", "text", "line"]) ⟨rfl, rfl, rfl, by decide +kernel, rfl, by decide +kernel, by decide +kernel⟩ (fun vs H Q E h => ?_) (fun cdv A outer s H vs Q E hr h => ?_), hb, hd⟩
  · obtain ⟨_, _, _, rfl, _⟩ := h
    rfl
  · obtain ⟨a, dx, ws, rfl, ea, ne, few, sp, sz, q⟩ := h
    refine ⟨_, pss_cons (ps_if (pt_not (pt_val (pe_callB call_isi (by rfl) T.f_isinstance (by decide +kernel) (pa_cons (pv 1) (pa_cons (pe_bltn (v := .ty "str") (by rfl) T.f_str (by kernel_rfl) rfl) pa_nil))))) (pss_one ps_never) pss_nil)
      (pss_cons (ps_fld (pv 0) (pv 2) rfl) (pss_cons (ps_fld (pv 0) (L2.pe_m1 PySem.F.slot_str_split PySem.F.type_str_split mt_split (pv 1) pe_str) rfl)
      (pss_one (ps_fld (pv 0) pe_int rfl)))), ?_⟩
    refine ⟨_, rfl, _, _, _, _, _, rfl, .ty _, (Dat.str _).ty, (Dat.str (H := H) _).kStr, _, rfl, ite3 (fun h => by cases h) (fun _ => ?_)⟩
    refine ⟨_, rfl, _, rfl, a, _, dx, _, rfl, ea, T.c_Words, T.n_Words_line, (by show (0 : Nat) < 1000; decide), ?_⟩
    refine ⟨_, rfl, ⟨_, rfl⟩, _, _, rfl, rfl, by decide, by rw [sizeLine_eq]; omega, fun l hl => ?_⟩
    have na : a ≠ l := ne_of_none upd_same hl
    have e1 : Txt.split (Txt.join " " ws) " " = ws := TL.split_join (s := 32) (S := []) (by decide +kernel) (by decide +kernel) ne sp
    have u1 : upd (upd H a (.ins (CW K) dx [("line", .int 0)])) l (.lst ((Txt.split (Txt.join " " ws) " ").map V.str)) a = some (.ins (CW K) dx [("line", .int 0)]) := by
      rw [upd_ne na]
      exact upd_same
    refine ⟨_, rfl, a, _, dx, _, rfl, u1, T.c_Words, T.n_Words_words, (by show (1 : Nat) < 1000; decide), ?_⟩
    refine ⟨_, rfl, a, _, dx, _, rfl, upd_same, T.c_Words, T.n_Words_place, (by show (2 : Nat) < 1000; decide), ?_⟩
    refine q _ l ((((((But.of (Same.refl H)).set).new hl).set).set)) ⟨upd_same, ?_, few⟩
    rw [upd_ne na.symm, upd_ne na.symm, upd_same, e1]
end
end K23
set_option Elab.async false
set_option linter.all false
set_option maxRecDepth 100000
set_option maxHeartbeats 4000000
namespace K23
open PySem PySem.Spec PyProof.Rows L2 Pre Dfs Vls
/-! the kinds of registers -/
inductive Kd where
  | pl | rs | md (m : Nat) | dl (ps : List Nat)
def lcms (ps : List Nat) : Nat := ps.foldl Nat.lcm 1
def Kd.nm : Kd → Str
  | .pl => "Plain"
  | .rs => "Restarting"
  | .md _ => "Wrapping"
  | .dl _ => "Dials"
abbrev CK (K : PySem.W.Frag) (k : Kd) : Addr := He.ga K k.nm
def ivs (ps : List Nat) : List V := ps.map fun (p : Nat) => V.int ((p : Nat) : Int)
def rests (T : Int) (ps : List Nat) : List V := ps.map fun (p : Nat) => V.int (T % ((p : Nat) : Int))
theorem Same.put {H H1 : Hp} {D : Addr} {o : HO} (s : Same H H1) (n : H D = none) : Same H (upd H1 D o) := fun b u h => by
  rw [upd_ne (ne_of_none h n)]
  exact s b u h
theorem ivs_at {ps : List Nat} {i : Nat} {x : V} (h : (ivs ps)[i]? = some x) : ∃ p : Nat, ps[i]? = some p ∧ x = .int p := by
  unfold ivs at h
  rw [List.getElem?_map] at h
  cases q : ps[i]? with
  | none =>
    rw [q] at h
    cases h
  | some p =>
    rw [q] at h
    exact ⟨p, rfl, (Option.some.inj h).symm⟩
theorem ivs_len (ps : List Nat) : (ivs ps).length = ps.length := List.length_map ..
theorem rests_len (T : Int) (ps : List Nat) : (rests T ps).length = ps.length := List.length_map ..
theorem rests_next {T : Int} {ps : List Nat} {i p : Nat} (h : ps[i]? = some p) : rests T (ps.take i) ++ [.int (T % (p : Int))] = rests T (ps.take (i + 1)) := by
  unfold rests
  rw [List.take_succ, h, List.map_append]
  rfl
/-- the register of the kind k at a -/
inductive Reg (K : PySem.W.Frag) (H : Hp) (a : Addr) : Kd → Prop where
  | pl {dx : Addr} (e : H a = some (.ins (CK K .pl) dx [("modulus", .non)])) : Reg K H a .pl
  | rs {dx : Addr} (e : H a = some (.ins (CK K .rs) dx [("modulus", .non)])) : Reg K H a .rs
  | md {dx : Addr} {m : Nat} (e : H a = some (.ins (CK K (.md m)) dx [("modulus", .int m)])) (h2 : 2 ≤ m) (h3 : m ≤ 10 ^ 18) : Reg K H a (.md m)
  | dl {dx t : Addr} {ps : List Nat} (e : H a = some (.ins (CK K (.dl ps)) dx [("modulus", .int (lcms ps)), ("periods", .ref t)])) (ht : H t = some (.tup (ivs ps)))
      (h1 : 1 ≤ ps.length) (h2 : ps.length ≤ 6) (h3 : ∀ p ∈ ps, 2 ≤ p ∧ p ≤ 1000) : Reg K H a (.dl ps)
theorem Reg.same {K : PySem.W.Frag} {H H' : Hp} {a : Addr} {k : Kd} (r : Reg K H a k) (s : Same H H') : Reg K H' a k := by
  cases r with
  | pl e => exact .pl (s _ _ e)
  | rs e => exact .rs (s _ _ e)
  | md e h2 h3 => exact .md (s _ _ e) h2 h3
  | dl e ht h1 h2 h3 => exact .dl (s _ _ e) (s _ _ ht) h1 h2 h3
theorem Reg.ins {K : PySem.W.Frag} {H : Hp} {a : Addr} {k : Kd} (r : Reg K H a k) : ∃ dx fs, H a = some (.ins (CK K k) dx fs) ∧ fs.lookup ("shows" : Str) = none ∧ fs.lookup ("is_reading" : Str) = none ∧ fs.lookup ("between" : Str) = none := by
  cases r with
  | pl e => exact ⟨_, _, e, rfl, rfl, rfl⟩
  | rs e => exact ⟨_, _, e, rfl, rfl, rfl⟩
  | md e h2 h3 => exact ⟨_, _, e, rfl, rfl, rfl⟩
  | dl e ht h1 h2 h3 => exact ⟨_, _, e, rfl, rfl, rfl⟩
/-- what it shows of the total T in the life l -/
inductive Rd (H : Hp) : Kd → Int → Int → V → Prop where
  | pl {T l : Int} : Rd H .pl T l (.int T)
  | md {m : Nat} {T l : Int} : Rd H (.md m) T l (.int (T % m))
  | rs {T l : Int} {t : Addr} (e : H t = some (.tup [.int l, .int T])) : Rd H .rs T l (.ref t)
  | dl {ps : List Nat} {T l : Int} {t : Addr} (e : H t = some (.tup (rests T ps))) : Rd H (.dl ps) T l (.ref t)
theorem Rd.same {H H' : Hp} {k : Kd} {T l : Int} {v : V} (r : Rd H k T l v) (s : Same H H') : Rd H' k T l v := by
  cases r with
  | pl => exact .pl
  | md => exact .md
  | rs e => exact .rs (s _ _ e)
  | dl e => exact .dl (s _ _ e)
section
variable {P : Program} {w : World} {K : PySem.W.Frag} {mg : Str → Option Value} {base : Heap}
def spShown : Sp := fun vs H Q _ => ∃ T l : Int, vs = [.int T, .int l] ∧ 0 ≤ T ∧ T ≤ 10 ^ 40 ∧ 0 ≤ l ∧ l ≤ 10 ^ 40 ∧ Q .non H
theorem inR_of {i lo hi : Int} (h1 : lo ≤ i) (h2 : i ≤ hi) : inR lo hi (.int i) = true := by
  show (decide (lo ≤ i) && decide (i ≤ hi)) = true
  rw [decide_eq_true h1, decide_eq_true h2]
  rfl
theorem d_shown (T : Tx K mg) : Dfn P w K mg base (L2.CX P w) 4 "check_shown" ["total", "life"] spShown := by
  refine dfn T.q_check_shown T.g_check_shown (N := ["total", "life"]) ⟨rfl, rfl, rfl, by decide +kernel, rfl, by decide +kernel, by decide +kernel⟩ (fun vs H Q E h => ?_) (fun kV doc pm an cdv ct => bind2 fun a b => rfl) (fun cdv A outer s H vs Q E hr h => ?_)
  · obtain ⟨_, _, rfl, _⟩ := h
    rfl
  · obtain ⟨t, l, rfl, h1, h2, h3, h4, q⟩ := h
    obtain ⟨tf, hf⟩ := T.i_FAR
    refine ⟨_, pss_cons (ps_expr (pe_d (d_check T) hr (by rfl) (E := E) pc (pa_cons (pv 0) (pa_cons pe_int (pa_cons (pe_glob (v := .int (10 ^ 40)) (by rfl) hf ⟨tf, rfl⟩) pa_nil)))))
      (pss_one (ps_expr (pe_d (d_check T) hr (by rfl) (E := E) pc (pa_cons (pv 1) (pa_cons pe_int (pa_cons (pe_glob (v := .int (10 ^ 40)) (by rfl) hf ⟨tf, rfl⟩) pa_nil)))))), ?_⟩
    refine ⟨_, rfl, _, _, _, rfl, .int _, fun _ => ?_, fun h => by rw [inR_of h1 h2] at h; cases h⟩
    exact ⟨_, rfl, _, _, _, rfl, .int _, fun _ => q, fun h => by rw [inR_of h3 h4] at h; cases h⟩
def spShows (K : PySem.W.Frag) (k : Kd) : Sp := fun vs H Q _ => ∃ (a : Addr) (T l : Int), vs = [.ref a, .int T, .int l] ∧ Reg K H a k ∧ 0 ≤ T ∧ T ≤ 10 ^ 40 ∧ 0 ≤ l ∧ l ≤ 10 ^ 40 ∧ ∀ (v : V) (H' : Hp), Same H H' → Rd H' k T l v → Q v H'
theorem bindS {q : Str} {params : Arguments} {body : List Stmt} {scope : Scope} {f : Addr} {fd : FuncData} (F : FunD K "shows" q params body scope [.int 0] [] f fd)
    (h : ∀ (T : Addr) (kV doc pm : Value) (an : Option Addr) (cdv ct : Value) (a b c d : Value), ∃ k, bindArgs (PySem.W.fnOf "shows" q params body scope (.ref T) kV doc pm an cdv ct) ⟨[a, b, c], []⟩ = seqItems? (.ref T) >>= k ∧ k (some [d].toArray) = pure [(("self" : Str), a), (("total" : Str), b), (("life" : Str), c)]) :
    Binds K fd ["self", "total", "life"] [] := by
  obtain ⟨ds, hd, hb⟩ := F.binds1 (ps := ["self", "total", "life"]) 3 1 (by simp) rfl (fun T kV doc pm an cdv ct us its h1 h2 => by
    match us, its, h1, h2 with
    | [a, b, c], [d], _, _ => exact h T kV doc pm an cdv ct a b c d)
  cases hd
  exact hb
/-- how shows is called: with all three, without the life, by keywords -/
structure ShB (K : PySem.W.Frag) (fd : FuncData) : Prop where
  all : Binds K fd ["self", "total", "life"] []
  one : ∃ ds, Vals [V.int 0] ds ∧ Binds K fd ["self", "total", "life"] ds
  kw : ∃ its : List Value, KBn K fd ["self", "total", "life"] 1 ["life", "total"] (fun us ws => us ++ ws.reverse) (fun vs zs => vs ++ zs.reverse)
theorem rev_vals {zs : List V} {ws : List Value} (r : Vals zs ws) : Vals zs.reverse ws.reverse := by
  induction r with
  | nil => exact .nil
  | cons a b ih =>
    rw [List.reverse_cons, List.reverse_cons]
    exact ih.append (.cons a .nil)
theorem shB {q : Str} {params : Arguments} {body : List Stmt} {scope : Scope} {f : Addr} {fd : FuncData} (F : FunD K "shows" q params body scope [.int 0] [] f fd)
    (h : ∀ (T : Addr) (kV doc pm : Value) (an : Option Addr) (cdv ct : Value) (a b c d : Value), ∃ k, bindArgs (PySem.W.fnOf "shows" q params body scope (.ref T) kV doc pm an cdv ct) ⟨[a, b, c], []⟩ = seqItems? (.ref T) >>= k ∧ k (some [d].toArray) = pure [(("self" : Str), a), (("total" : Str), b), (("life" : Str), c)])
    (h1 : ∀ (T : Addr) (kV doc pm : Value) (an : Option Addr) (cdv ct : Value) (a b d : Value), ∃ k, bindArgs (PySem.W.fnOf "shows" q params body scope (.ref T) kV doc pm an cdv ct) ⟨[a, b], []⟩ = seqItems? (.ref T) >>= k ∧ k (some [d].toArray) = pure [(("self" : Str), a), (("total" : Str), b), (("life" : Str), d)])
    (hk : ∀ (T : Addr) (kV doc pm : Value) (an : Option Addr) (cdv ct : Value) (a b c d : Value), ∃ k, bindArgs (PySem.W.fnOf "shows" q params body scope (.ref T) kV doc pm an cdv ct) ⟨[a], [(("life" : Str), c), (("total" : Str), b)]⟩ = seqItems? (.ref T) >>= k ∧ k (some [d].toArray) = pure [(("self" : Str), a), (("total" : Str), b), (("life" : Str), c)]) : ShB K fd := by
  refine ⟨bindS F h, ?_, ?_⟩
  · obtain ⟨ds, hd, hb⟩ := F.binds1 (ps := ["self", "total", "life"]) 2 0 (by simp) rfl (fun T kV doc pm an cdv ct us its l1 l2 => by
      match us, its, l1, l2 with
      | [a, b], [d], _, _ => exact h1 T kV doc pm an cdv ct a b d)
    exact ⟨ds, hd, hb⟩
  · obtain ⟨its, kb⟩ := F.kbindsD (ps := ["self", "total", "life"]) 1 ["life", "total"] (fun us its ws => us ++ ws.reverse) (by simp) (fun r1 _ r3 => r1.append (rev_vals r3)) (fun T kV doc pm an cdv ct us its ws l1 l2 l3 => by
      match us, its, ws, l1, l2, l3 with
      | [a], [d], [c, b], _, _, _ => exact hk T kV doc pm an cdv ct a b c d)
    exact ⟨its, kb⟩
theorem m_showsX (T : Tx K mg) (k : Kd) : ∃ fd, FnOk P w K mg base (L2.CX P w) 5 (He.ma K (CK K k) "shows") fd ["self", "total", "life"] (spShows K k) ∧ ShB K fd := by
  have len : ∀ vs H Q E, spShows K k vs H Q E → vs.length = ["self", "total", "life"].length := fun vs H Q E h => by
    obtain ⟨_, _, _, rfl, _⟩ := h
    rfl
  cases k with
  | pl =>
    obtain ⟨fd, F⟩ := T.q_Plain_shows
    refine ⟨fd, F.ok (N := ["self", "total", "life"]) ⟨rfl, rfl, rfl, by decide +kernel, rfl, by decide +kernel, by decide +kernel⟩ len (fun cdv A outer s H vs Q E hr h => ?_), shB F (fun T kV doc pm an cdv ct a b c d => ⟨_, rfl, rfl⟩) (fun T kV doc pm an cdv ct a b d => ⟨_, rfl, rfl⟩) (fun T kV doc pm an cdv ct a b c d => ⟨_, rfl, rfl⟩)⟩
    obtain ⟨a, t, l, rfl, r, h1, h2, h3, h4, q⟩ := h
    refine ⟨_, pss_cons (ps_expr (pe_d (d_shown T) hr (by rfl) (E := E) pc (pa_cons (pv 1) (pa_cons (pv 2) pa_nil)))) (pss_one (ps_ret (pv 1))), ?_⟩
    exact ⟨_, rfl, _, rfl, t, l, rfl, h1, h2, h3, h4, _, rfl, q _ _ (Same.refl H) .pl⟩
  | rs =>
    obtain ⟨fd, F⟩ := T.q_Restarting_shows
    refine ⟨fd, F.ok (N := ["self", "total", "life"]) ⟨rfl, rfl, rfl, by decide +kernel, rfl, by decide +kernel, by decide +kernel⟩ len (fun cdv A outer s H vs Q E hr h => ?_), shB F (fun T kV doc pm an cdv ct a b c d => ⟨_, rfl, rfl⟩) (fun T kV doc pm an cdv ct a b d => ⟨_, rfl, rfl⟩) (fun T kV doc pm an cdv ct a b c d => ⟨_, rfl, rfl⟩)⟩
    obtain ⟨a, t, l, rfl, r, h1, h2, h3, h4, q⟩ := h
    refine ⟨_, pss_cons (ps_expr (pe_d (d_shown T) hr (by rfl) (E := E) pc (pa_cons (pv 1) (pa_cons (pv 2) pa_nil)))) (pss_one (ps_ret (pe_tup (pa_cons (pv 2) (pa_cons (pv 1) pa_nil))))), ?_⟩
    exact ⟨_, rfl, _, rfl, t, l, rfl, h1, h2, h3, h4, _, rfl, _, rfl, (by show (2 : Nat) ≤ sizeLine; rw [sizeLine_eq]; decide), fun p hp => q _ _ (Same.upd hp) (.rs upd_same)⟩
  | md m =>
    obtain ⟨fd, F⟩ := T.q_Wrapping_shows
    refine ⟨fd, F.ok (N := ["self", "total", "life"]) ⟨rfl, rfl, rfl, by decide +kernel, rfl, by decide +kernel, by decide +kernel⟩ len (fun cdv A outer s H vs Q E hr h => ?_), shB F (fun T kV doc pm an cdv ct a b c d => ⟨_, rfl, rfl⟩) (fun T kV doc pm an cdv ct a b d => ⟨_, rfl, rfl⟩) (fun T kV doc pm an cdv ct a b c d => ⟨_, rfl, rfl⟩)⟩
    obtain ⟨a, t, l, rfl, r, h1, h2, h3, h4, q⟩ := h
    cases r with
    | md e g2 g3 =>
      refine ⟨_, pss_cons (ps_expr (pe_d (d_shown T) hr (by rfl) (E := E) pc (pa_cons (pv 1) (pa_cons (pv 2) pa_nil)))) (pss_one (ps_ret (pe_op op_mod (pv 1) (fld (pv 0))))), ?_⟩
      exact ⟨_, rfl, _, rfl, t, l, rfl, h1, h2, h3, h4, _, rfl, _, rfl, a, _, _, _, _, rfl, e, T.c_Wrapping, T.n_Wrapping_modulus, rfl, _, _, rfl, rfl, (by show (0 : Int) < m; omega), q _ _ (Same.refl H) .md⟩
  | dl ps =>
    have nd : (["self", "total", "life", "period"] : List Str).Nodup := by decide +kernel
    obtain ⟨fd, F⟩ := T.q_Dials_shows
    refine ⟨fd, F.ok (N := ["self", "total", "life", "period"]) ⟨rfl, rfl, rfl, by decide +kernel, rfl, by decide +kernel, by decide +kernel⟩ len (fun cdv A outer s H vs Q E hr h => ?_), shB F (fun T kV doc pm an cdv ct a b c d => ⟨_, rfl, rfl⟩) (fun T kV doc pm an cdv ct a b d => ⟨_, rfl, rfl⟩) (fun T kV doc pm an cdv ct a b c d => ⟨_, rfl, rfl⟩)⟩
    obtain ⟨a, t, l, rfl, r, h1, h2, h3, h4, q⟩ := h
    cases r with
    | dl e ht g1 g2 g3 =>
      rename_i dx tp
      refine ⟨_, pss_cons (ps_expr (pe_d (d_shown T) hr (by rfl) (E := E) pc (pa_cons (pv 1) (pa_cons (pv 2) pa_nil))))
        (pss_one (ps_ret (pe_callTy call_tuple_of (by rfl) T.f_tuple (by kernel_rfl) (pa_cons (pe_lc rfl nd (pi_tup (fld (pv 0))) (own := [("period", 3)]) (blk_by (by kernel_rfl)) (fun _ _ _ _ _ => pg_name (i := 3) nd rfl (Or.inl rfl)) (fun _ _ _ _ _ => pts_nil)
          (fun _ _ _ _ _ => pe_op op_mod (pv 1) (pe_var (i := 3) rfl (Or.inl rfl)))) pa_nil)))), ?_⟩
      refine ⟨_, rfl, _, rfl, t, l, rfl, h1, h2, h3, h4, ?_⟩
      refine ⟨_, rfl, a, _, _, _, _, rfl, e, T.c_Dials, T.n_Dials_periods, rfl, tp, rfl, ⟨_, SqT.of ht⟩, fun D hD => ?_⟩
      refine lc_it (walk_tup (xs := ivs ps)) (fun i H1 => Same H H1 ∧ D ≠ tp ∧ H1 D = some (.lst (rests t (ps.take i)))) ⟨Same.upd hD, (ne_of_none ht hD).symm, upd_same⟩
        (fun i H1 _ z => SqT.of (z.1 _ _ ht)) (fun i x H1 H2 hi z y => ?_) (fun H1 z => ?_)
      · obtain ⟨rfl, hx⟩ := y
        obtain ⟨p, hp, rfl⟩ := ivs_at hx
        have hlt : i < ps.length := (List.getElem?_eq_some_iff.mp hp).1
        have p2 := (g3 p (List.mem_of_getElem? hp)).1
        refine ⟨rfl, ?_⟩
        unfold tYes
        refine ite3 (fun _ => ?_) (fun h => by cases h)
        refine ⟨_, rfl, _, rfl, _, _, rfl, rfl, (by show (0 : Int) < p; omega), _, z.2.2, ?_, Same.put z.1 hD, z.2.1, ?_⟩
        · rw [rests_len, List.length_take, sizeLine_eq]
          omega
        · rw [upd_same, rests_next hp]
      · refine ⟨D, _, rfl, .inl ⟨SqL.of z.2.2, fun l' hl => q _ _ (Same.new z.1 hl) (.dl ?_)⟩⟩
        rw [upd_same, ivs_len, List.take_length]
theorem m_shows (T : Tx K mg) (k : Kd) : Mfn P w K mg base (L2.CX P w) 5 (CK K k) "shows" ["self", "total", "life"] (spShows K k) := by
  obtain ⟨fd, F, B⟩ := m_showsX (P := P) (w := w) (base := base) T k
  cases k with
  | pl => exact ⟨T.c_Plain, T.m_Plain_shows, fd, F, B.all⟩
  | rs => exact ⟨T.c_Restarting, T.m_Restarting_shows, fd, F, B.all⟩
  | md m => exact ⟨T.c_Wrapping, T.m_Wrapping_shows, fd, F, B.all⟩
  | dl ps => exact ⟨T.c_Dials, T.m_Dials_shows, fd, F, B.all⟩
end
end K23
set_option Elab.async false
set_option linter.all false
set_option maxRecDepth 100000
/-! math.lcm; the least number with the given rests. -/
namespace Crt
open PySem PySem.Spec PyProof.Rows L2
theorem crt_at {L p n : Nat} (hL : 0 < L) (hp : 0 < p) : n % L + (n % Nat.lcm L p) / L * L = n % Nat.lcm L p := by
  have h := Nat.mod_add_div (n % Nat.lcm L p) L
  rw [Nat.mod_mod_of_dvd n (Nat.dvd_lcm_left L p), Nat.mul_comm] at h
  exact h
theorem crt_lt {L p n : Nat} (hL : 0 < L) (hp : 0 < p) : (n % Nat.lcm L p) / L < p := by
  have hM : 0 < Nat.lcm L p := Nat.lcm_pos hL hp
  refine Nat.div_lt_of_lt_mul (Nat.lt_of_lt_of_le (Nat.mod_lt _ hM) ?_)
  exact Nat.le_of_dvd (Nat.mul_pos hL hp) (Nat.lcm_dvd_mul L p)
theorem crt_ok {L p n : Nat} (hL : 0 < L) (hp : 0 < p) : (n % L + (n % Nat.lcm L p) / L * L) % p = n % p := by
  rw [crt_at hL hp, Nat.mod_mod_of_dvd n (Nat.dvd_lcm_right L p)]
theorem crt {L p n k : Nat} (hL : 0 < L) (hp : 0 < p) (h0 : (n % L + k * L) % p = n % p) (hmin : ∀ j, j < k → (n % L + j * L) % p ≠ n % p) : n % L + k * L = n % Nat.lcm L p := by
  have hM : 0 < Nat.lcm L p := Nat.lcm_pos hL hp
  have hk : k ≤ (n % Nat.lcm L p) / L := Nat.le_of_not_lt fun z => hmin _ z (crt_ok hL hp)
  have hle : n % L + k * L ≤ n % Nat.lcm L p := by
    rw [← crt_at (n := n) hL hp]
    exact Nat.add_le_add_left (Nat.mul_le_mul_right L hk) _
  have e1 : (n % Nat.lcm L p) % L = (n % L + k * L) % L := by
    rw [Nat.mod_mod_of_dvd n (Nat.dvd_lcm_left L p), Nat.add_mul_mod_self_right, Nat.mod_mod]
  have e2 : (n % Nat.lcm L p) % p = (n % L + k * L) % p := by
    rw [Nat.mod_mod_of_dvd n (Nat.dvd_lcm_right L p), h0]
  have d1 : L ∣ n % Nat.lcm L p - (n % L + k * L) := Nat.dvd_of_mod_eq_zero (Nat.sub_mod_eq_zero_of_mod_eq e1)
  have d2 : p ∣ n % Nat.lcm L p - (n % L + k * L) := Nat.dvd_of_mod_eq_zero (Nat.sub_mod_eq_zero_of_mod_eq e2)
  have d3 := Nat.lcm_dvd d1 d2
  have lt : n % Nat.lcm L p - (n % L + k * L) < Nat.lcm L p := Nat.lt_of_le_of_lt (Nat.sub_le _ _) (Nat.mod_lt _ hM)
  have z := Nat.eq_zero_of_dvd_of_lt d3 lt
  omega
/-- the first of the numbers below p that fits -/
theorem first {p : Nat} {f : Nat → Bool} {j : Nat} (hj : j < p) (h : f j = true) : ∃ k r, (List.range p).filter f = k :: r ∧ f k = true ∧ k < p ∧ ∀ i, i < k → f i = false := by
  have ne : (List.range p).filter f ≠ [] := fun e => by
    have z : j ∈ (List.range p).filter f := List.mem_filter.mpr ⟨List.mem_range.mpr hj, h⟩
    rw [e] at z
    cases z
  cases q : (List.range p).filter f with
  | nil => exact absurd q ne
  | cons k r =>
    have hh : ((List.range p).filter f).head? = some k := by
      rw [q]
      rfl
    rw [List.head?_filter] at hh
    obtain ⟨h1, h2, h3⟩ := List.find?_range_eq_some.mp hh
    exact ⟨k, r, rfl, h1, List.mem_range.mp h2, fun i hi => by simpa using h3 i hi⟩
def rLcm : List V → Hp → VK → Prop := fun vs H Q => ∃ a b : Nat, vs = [.int (a : Int), .int (b : Int)] ∧ a < 2 ^ 64 ∧ b < 2 ^ 10 ∧ 0 < a ∧ 0 < b ∧ Q (.int ((Nat.lcm a b : Nat) : Int)) H
theorem cr_lcm {X : Cx} : CallR X (.builtin "math.lcm") rLcm := by
  intro pins s σ H vs us Q I r h
  obtain ⟨a, b, rfl, ha, hb, pa, pb, q⟩ := h
  obtain ⟨t, u, rfl⟩ := Vals.int2 r
  have e : (((Nat.lcm 1 (a : Int).natAbs).lcm (b : Int).natAbs : Nat) : Int) = ((Nat.lcm a b : Nat) : Int) := by
    rw [Int.natAbs_natCast, Int.natAbs_natCast, Nat.lcm_one_left]
  refine PySem.W.mg_lcm_v (by rw [Int.natAbs_natCast]; exact ha) (by rw [Int.natAbs_natCast]; omega) e ?_ ⟨.int _, H, I.tok _, ⟨_, rfl⟩, q⟩
  rw [Int.natAbs_natCast]
  have le : Nat.lcm a b ≤ a * b := Nat.le_of_dvd (Nat.mul_pos pa pb) (Nat.lcm_dvd_mul a b)
  have lt : Nat.lcm a b < 2 ^ 74 := by
    have : a * b < 2 ^ 64 * 2 ^ 10 := Nat.mul_lt_mul'' ha hb
    have e2 : (2 : Nat) ^ 64 * 2 ^ 10 = 2 ^ 74 := by decide
    omega
  have hz : Nat.lcm a b ≠ 0 := Nat.pos_iff_ne_zero.mp (Nat.lcm_pos pa pb)
  have l2 : (Nat.lcm a b).log2 < 74 := (Nat.log2_lt hz).mpr lt
  exact Nat.lt_of_lt_of_le l2 (by rw [bitsLine_eq]; decide)
end Crt
set_option Elab.async false
set_option linter.all false
set_option maxRecDepth 100000
set_option maxHeartbeats 4000000
namespace K23
open PySem PySem.Spec PyProof.Rows L2 Pre Dfs Vls
theorem walk_zipT {K : PySem.W.Frag} {a b : Addr} {xs ys : List V} (hl : xs.length = ys.length) :
    Walk (RZ.ItzT K a b) xs.length (fun H => SqT K H a xs ∧ SqT K H b ys) (YPair (fun i => xs[i]?) (fun i => ys[i]?)) := by
  refine ⟨fun i H hi q => ?_, fun H q => ⟨xs, ys, q.1, q.2, .inl (Nat.le_refl _)⟩, fun i H v H' hi q y => ?_⟩
  · have h2 : i < ys.length := by omega
    exact ⟨xs, ys, xs[i], ys[i], q.1, q.2, by simp [hi], by simp [h2]⟩
  · obtain ⟨T, x, z, h1, h2, h3, h4, h5⟩ := y
    exact ⟨T, x, z, h1, h2, h3, h4 xs q.1, h5 ys q.2⟩
theorem Tx.g_lcm {K : PySem.W.Frag} {mg : Str → Option Value} (T : Tx K mg) : mg "lcm" = some (.builtin "math.lcm") := by
  obtain ⟨h, X, G⟩ := T.at_
  exact PySem.W.mg_of X G T.lcm
theorem lcms_next {ps : List Nat} {i p : Nat} (h : ps[i]? = some p) : lcms (ps.take (i + 1)) = Nat.lcm (lcms (ps.take i)) p := by
  unfold lcms
  rw [List.take_succ, h, List.foldl_append]
  rfl
theorem lcms_bd {ps : List Nat} (h : ∀ p ∈ ps, 2 ≤ p ∧ p ≤ 1000) : ∀ i, 0 < lcms (ps.take i) ∧ lcms (ps.take i) ≤ 1000 ^ i
  | 0 => by
    rw [List.take_zero]
    exact ⟨Nat.one_pos, Nat.le_refl _⟩
  | i + 1 => by
    obtain ⟨a, b⟩ := lcms_bd h i
    cases q : ps[i]? with
    | none =>
      have e : ps.take (i + 1) = ps.take i := by
        rw [List.take_succ, q]
        exact List.append_nil _
      rw [e]
      exact ⟨a, Nat.le_trans b (Nat.pow_le_pow_right (by decide) (by omega))⟩
    | some p =>
      obtain ⟨h1, h2⟩ := h p (List.mem_of_getElem? q)
      rw [lcms_next q]
      refine ⟨Nat.lcm_pos a (by omega), ?_⟩
      refine Nat.le_trans (Nat.le_of_dvd (Nat.mul_pos a (by omega)) (Nat.lcm_dvd_mul _ _)) ?_
      rw [Nat.pow_succ]
      exact Nat.mul_le_mul b h2
def fitF (a L p n : Nat) (k : Nat) : Bool := decide ((a + k * L) % p = n % p)
def fitV (a L p n j : Nat) : List V := ((List.range j).filter (fitF a L p n)).map fun (k : Nat) => V.int ((a + k * L : Nat) : Int)
theorem fit_yes {a L p n j : Nat} (h : fitF a L p n j = true) : fitV a L p n (j + 1) = fitV a L p n j ++ [V.int ((a + j * L : Nat) : Int)] := by
  unfold fitV
  rw [List.range_succ, List.filter_append, List.map_append, List.filter_cons_of_pos h]
  rfl
theorem fit_no {a L p n j : Nat} (h : fitF a L p n j = false) : fitV a L p n (j + 1) = fitV a L p n j := by
  unfold fitV
  rw [List.range_succ, List.filter_append, List.filter_cons_of_neg (by rw [h]; decide), List.filter_nil, List.append_nil]
theorem fit_len (a L p n j : Nat) : (fitV a L p n j).length ≤ j := by
  unfold fitV
  rw [List.length_map]
  exact Nat.le_trans (List.length_filter_le _ _) (by rw [List.length_range]; exact Nat.le_refl j)
theorem fit_eq (a L p n j : Nat) : decide (V.int ((((a : Nat) : Int) + (0 + ((j : Nat) : Int)) * ((L : Nat) : Int)) % ((p : Nat) : Int)) = V.int (((n : Nat) : Int) % ((p : Nat) : Int))) = fitF a L p n j := by
  have e1 : (((a : Nat) : Int) + (0 + ((j : Nat) : Int)) * ((L : Nat) : Int)) % ((p : Nat) : Int) = (((a + j * L) % p : Nat) : Int) := by
    rw [Int.zero_add, Int.natCast_emod, Int.natCast_add, Int.natCast_mul]
  have e2 : ((n : Nat) : Int) % ((p : Nat) : Int) = ((n % p : Nat) : Int) := (Int.natCast_emod n p).symm
  rw [e1, e2]
  unfold fitF
  by_cases h : (a + j * L) % p = n % p
  · rw [h, decide_eq_true rfl, decide_eq_true rfl]
  · rw [decide_eq_false h, decide_eq_false fun z => h (by injection z with z; exact Int.ofNat.inj z)]
section
variable {P : Program} {w : World} {K : PySem.W.Frag} {mg : Str → Option Value} {base : Heap}
def spLeast : Sp := fun vs H Q _ => ∃ (tp tr : Addr) (ps : List Nat) (n : Nat), vs = [.ref tp, .ref tr] ∧ H tp = some (.tup (ivs ps)) ∧ H tr = some (.tup (rests (n : Int) ps)) ∧ ps.length ≤ 6 ∧ (∀ p ∈ ps, 2 ≤ p ∧ p ≤ 1000) ∧
  ∀ H', Same H H' → Q (.int ((n % lcms ps : Nat) : Int)) H'
theorem d_least (T : Tx K mg) : Dfn P w K mg base CX0 1 "least_total" ["periods", "rests"] spLeast := by
  have nd : (["periods", "rests", "total", "step", "period", "rest", "fits", "k"] : List Str).Nodup := by decide +kernel
  refine dfn T.q_least_total T.g_least_total (N := ["periods", "rests", "total", "step", "period", "rest", "fits", "k"]) ⟨rfl, rfl, rfl, by decide +kernel, rfl, by decide +kernel, by decide +kernel⟩ (fun vs H Q E h => ?_) (fun kV doc pm an cdv ct => bind2 fun a b => rfl) (fun cdv A outer s H vs Q E hr h => ?_)
  · obtain ⟨_, _, _, _, rfl, _⟩ := h
    rfl
  · obtain ⟨tp, tr, ps, n, rfl, e1, e2, few, bd, q⟩ := h
    refine ⟨_, pss_cons (ps_asg (pe_tup (pa_cons pe_int (pa_cons pe_int pa_nil))) (pg_tup rfl (pgs_cons (pg_name (i := 2) nd rfl (Or.inr rfl)) (pgs_cons (pg_name (i := 3) nd rfl (Or.inr rfl)) pgs_nil))))
      (pss_cons (ps_for (passes_of rfl) rfl (RZ.pi_zipA (by rfl) T.f_zip (pa_cons (pv 0) (pa_cons (pv 1) pa_nil))) (pg_tup rfl (pgs_cons (pg_name (i := 4) nd rfl (Or.inr rfl)) (pgs_cons (pg_name (i := 5) nd rfl (Or.inr rfl)) pgs_nil)))
        (pss_cons (ps_setLc (i := 6) rfl nd rfl rfl (by rfl) (pi_range1 (by rfl) T.f_range (pa_cons (pv 4) pa_nil)) (own := [("k", 7)]) (blk_by (by kernel_rfl)) (fun _ _ _ _ _ => pg_name (i := 7) nd rfl (Or.inl rfl))
            (fun _ _ _ _ _ => pts_one (pt_cmpR op_eq (pe_op op_mod (pe_op op_add (pv 2) (pe_op op_mul (pe_var (i := 7) rfl (Or.inl rfl)) (pv 3))) (pv 4)) (pv 5) (nomark _)))
            (fun _ _ _ _ _ => pe_op op_add (pv 2) (pe_op op_mul (pe_var (i := 7) rfl (Or.inl rfl)) (pv 3))))
        (pss_cons (ps_if (pt_not (pt_truth (pv 6) (fun _ => rfl))) (pss_one ps_never) pss_nil)
        (pss_cons (ps_set (i := 2) nd rfl (Or.inr rfl) (pe_ix ix_list (pv 6) pe_int (fun _ _ => rfl)))
        (pss_one (ps_set (i := 3) nd rfl (Or.inr rfl) (pe_callBfun Crt.cr_lcm (by rfl) T.g_lcm (pa_cons (pv 3) (pa_cons (pv 4) pa_nil)))))))))
      (pss_one (ps_ret (pv 2)))), ?_⟩
    refine ⟨(by show (2 : Nat) ≤ sizeLine; rw [sizeLine_eq]; decide), fun p0 hp0 => ⟨p0, _, rfl, SqT.of upd_same, rfl, _, _, rfl, _, _, rfl, rfl, ?_⟩⟩
    have s0 : Same H (upd H p0 (.tup [.int 0, .int 1])) := Same.upd hp0
    refine ⟨_, rfl, _, rfl, tp, tr, ivs ps, rests n ps, rfl, .inr ⟨SqT.of (s0 _ _ e1), SqT.of (s0 _ _ e2), ?_⟩⟩
    refine for_it (walk_zipT (by rw [ivs_len, rests_len])) (fun i σ H1 => Same H H1 ∧ ∃ x4 x5 x6, σ = [some (.ref tp), some (.ref tr), some (.int ((n % lcms (ps.take i) : Nat) : Int)), some (.int ((lcms (ps.take i) : Nat) : Int)), x4, x5, x6, none])
      ⟨s0, none, none, none, ?_⟩ (fun i σ H1 _ z => ⟨SqT.of (z.1 _ _ e1), SqT.of (z.1 _ _ e2)⟩) (fun i v σ H1 H2 hi z y => ?_) (fun σ H1 z => ?_)
    · rw [List.take_zero, show lcms [] = 1 from rfl, Nat.mod_one]
      rfl
    · obtain ⟨s1, x4, x5, x6, rfl⟩ := z
      obtain ⟨Tp, x, y, rfl, hTp, rfl, hx, hy⟩ := y
      obtain ⟨p, hp, rfl⟩ := ivs_at hx
      have hy2 : y = .int ((n : Int) % (p : Int)) := by
        have hy3 : (rests (n : Int) ps)[i]? = some y := hy
        unfold rests at hy3
        rw [List.getElem?_map, hp] at hy3
        exact (Option.some.inj hy3).symm
      subst hy2
      obtain ⟨p2, p3⟩ := bd p (List.mem_of_getElem? hp)
      have hi2 : i < ps.length := (List.getElem?_eq_some_iff.mp hp).1
      obtain ⟨Lp, Lb⟩ := lcms_bd bd i
      have nx := lcms_next hp
      generalize lcms (ps.take i) = L at Lp Lb nx ⊢
      have Lb2 : L ≤ 1000 ^ 5 := Nat.le_trans Lb (Nat.pow_le_pow_right (by decide) (by omega))
      have Lb3 : L < 2 ^ 63 := Nat.lt_of_le_of_lt Lb2 (by decide)
      have s2 : Same H (upd H1 Tp (.tup [.int p, .int ((n : Int) % (p : Int))])) := Same.new s1 hTp
      refine ⟨Tp, _, rfl, SqT.of upd_same, rfl, _, _, rfl, _, _, rfl, rfl, ?_⟩
      refine ⟨_, rfl, (p : Int), rfl, by omega, by omega, fun D hD => ?_⟩
      have hDn : H D = none := by
        cases q9 : H D with
        | none => rfl
        | some o =>
          rw [s2 _ _ q9] at hD
          cases hD
      obtain ⟨k0, r0, f1, f2, f3, f4⟩ := Crt.first (f := fitF (n % L) L p n) (Crt.crt_lt (n := n) Lp (by omega : 0 < p)) (decide_eq_true (Crt.crt_ok (n := n) Lp (by omega)))
      refine lc_it (walk_range (lo := 0) (n := p)) (fun j H2 => Same H H2 ∧ H2 D = some (.lst (fitV (n % L) L p n j))) ⟨Same.put s2 hDn, upd_same⟩ (fun _ _ _ _ => True.intro) (fun j x H2 H3 hj z y => ?_) (fun H2 z => ?_)
      · obtain ⟨rfl, rfl⟩ := y
        have cm : CMul (0 + ((j : Nat) : Int)) ((L : Nat) : Int) := .inl ⟨by omega, by omega⟩
        have e3 : ((n % L : Nat) : Int) + (0 + ((j : Nat) : Int)) * ((L : Nat) : Int) = ((n % L + j * L : Nat) : Int) := by
          rw [Int.zero_add, Int.natCast_add, Int.natCast_mul]
        refine ⟨rfl, ?_⟩
        refine ⟨_, rfl, _, rfl, _, rfl, _, _, rfl, rfl, cm, _, _, rfl, rfl, _, rfl, _, _, rfl, rfl, (by show (0 : Int) < p; omega), _, rfl, rfl, _, rfl, ?_⟩
        rw [fit_eq]
        refine ite3 (fun h => ?_) (fun h => ?_)
        · refine ⟨_, rfl, _, rfl, _, rfl, _, _, rfl, rfl, cm, _, _, rfl, rfl, _, z.2, ?_, Same.put z.1 hDn, ?_⟩
          · have := fit_len (n % L) L p n j
            rw [sizeLine_eq]
            omega
          · rw [upd_same, fit_yes h]
            exact congrArg (fun v => some (HO.lst (fitV (n % L) L p n j ++ [v]))) (congrArg V.int e3)
        · refine ⟨z.1, ?_⟩
          rw [fit_no h]
          exact z.2
      · have hv : fitV (n % L) L p n p = .int ((n % L + k0 * L : Nat) : Int) :: r0.map fun (k : Nat) => V.int ((n % L + k * L : Nat) : Int) := by
          unfold fitV
          rw [f1]
          rfl
        have z2 := z.2
        rw [hv] at z2
        refine ⟨_, rfl, true, .inl ⟨_, SqL.of z2, rfl⟩, ite3 (fun h => by cases h) (fun _ => ?_)⟩
        refine ⟨_, rfl, D, _, _, _, rfl, rfl, SqL.of z2, atI_nat (j := 0) (v := V.int ((n % L + k0 * L : Nat) : Int)) rfl, ?_⟩
        refine ⟨_, rfl, _, rfl, L, p, rfl, by omega, by omega, Lp, by omega, ?_⟩
        refine ⟨z.1, some (.int p), some (.int ((n : Int) % (p : Int))), some (.ref D), ?_⟩
        have fin := Crt.crt (n := n) (k := k0) Lp (by omega : 0 < p) (of_decide_eq_true f2) (fun j hj => of_decide_eq_false (f4 j hj))
        rw [fin, ← nx]
        rfl
    · obtain ⟨s1, x4, x5, x6, rfl⟩ := z
      refine ⟨_, rfl, ?_⟩
      rw [ivs_len, List.take_length]
      exact q H1 s1
end
end K23
set_option Elab.async false
set_option linter.all false
set_option maxRecDepth 100000
set_option maxHeartbeats 2000000
/-! o.m(k = v, ..): a method by keywords alone. -/
namespace Mk0
open PySem PySem.Spec PyProof.Rows L2 Pre
def tMethK (C : Addr) (m : Str) (n : Nat) (sp : Sp) (gV : List V → List V → List V) (E : XK) (ta : TE) (tk : TA) : TE := fun σ H Q => ta σ H fun x H1 => ∃ a dx fs, x = .ref a ∧ H1 a = some (.ins C dx fs) ∧ fs.lookup m = none ∧ tk σ H1 fun zs H2 => zs.length = n ∧ sp (gV [x] zs) H2 Q E
theorem pe_methK {X : Cx} {CX : CXT} {k : Nat} {f C : Addr} {fd : FuncData} {ps ks : List Str} {sp : Sp} {E : XK} {m : Str} {pos apos : Pos} {o : Expr} {kws : List Keyword} {ta : TE} {tk : TA} {g : List Value → List Value → List Value} {gV : List V → List V → List V} {pl : Sem Bool}
    (he : PE X o ta) (c : Cls X.K C) (hm : Meth X.K C m f) (F : FnOk X.prog X.w X.K X.mg X.base CX k f fd ps sp) (hr : Room k X.A) (hb : KBn X.K fd ps 1 ks g gV) (hx : Passes CX X E) (hkw : PK X kws tk)
    (hall : (backToKw pos (keywordEach kws X.env)).all (·.1.isSome) = true := by rfl) (hks : (backToKw pos (keywordEach kws X.env)).filterMap (·.1) = ks := by rfl)
    (hpl : ((backTo pos (starEach [] X.env)).any (·.1) || (backToKw pos (keywordEach kws X.env)).any (·.1.isNone)) = false := by rfl)
    (ht : eval (.Call (.Attribute o m apos) [] kws pos) X.env = (do
      let ov ← eval o X.env
      standAt apos.atName
      let (f, first) ← holding [ov] (getMethod ov m pl)
      callWith pos f first (backTo pos (starEach [] X.env)) (backToKw pos (keywordEach kws X.env))) := by rfl) :
    PE X (.Call (.Attribute o m apos) [] kws pos) (tMethK C m ks.length sp gV E ta tk) := by
  refine ⟨fun pins s σ H Q I h => ?_⟩
  refine PySem.W.methodCall_KW (pl := pl) (thn (he.run pins s σ H _ I h) ?_) ht
  rintro u s1 ⟨x, H1, I1, rx, a, dx, fs, rfl, ea, l, q⟩
  cases (show u = Value.ref a from rx)
  refine getmeth_ok I1 ea c hm l ?_
  refine PySem.W.callWith_KW0 (first := [.ref a]) (h₀ := X.base) I.ok.mod.kin hm.kp hall (thn (hkw.run pos pins s1 σ H1 _ I1 q) ?_) hpl
  rintro ws s2 ⟨zs, H2, I2, rz, l2, q2⟩
  refine ⟨I2.kIn, ?_⟩
  rw [hks]
  exact run_fnN (us := [.ref a]) (vs := [.ref a]) F hr hb hx I2 (.cons rfl .nil) rz rfl l2 q2
/-- two positional names, the keywords in this order or the other -/
theorem kb1 {K : PySem.W.Frag} {fd : FuncData} {p0 p1 : Str} (h : ∀ (s : Shared) (a b : Value), K.In s.heap → BindsTo s fd ⟨[a], [p1].zip [b]⟩ ([p0, p1].zip [a, b])) : KBn K fd [p0, p1] 1 [p1] (fun us ws => us ++ ws) (fun vs zs => vs ++ zs) := by
  refine ⟨fun s us ws X l1 l2 => ?_, fun r1 r2 => r1.append r2⟩
  match us, ws, l1, l2 with
  | [a], [b], _, _ => exact h s a b X
theorem kb2 {K : PySem.W.Frag} {fd : FuncData} {p0 p1 p2 : Str} (h : ∀ (s : Shared) (a b c : Value), K.In s.heap → BindsTo s fd ⟨[a], [p2, p1].zip [c, b]⟩ ([p0, p1, p2].zip [a, b, c])) : KBn K fd [p0, p1, p2] 1 [p2, p1] (fun us ws => us ++ ws.reverse) (fun vs zs => vs ++ zs.reverse) := by
  refine ⟨fun s us ws X l1 l2 => ?_, fun {vs us zs ws} r1 r2 => r1.append ?_⟩
  · match us, ws, l1, l2 with
    | [a], [c, b], _, _ => exact h s a b c X
  · induction r2 with
    | nil => exact .nil
    | cons a b ih =>
      rw [List.reverse_cons, List.reverse_cons]
      exact ih.append (.cons a .nil)
section
variable {P : Program} {w : World} {K : PySem.W.Frag} {mg : Str → Option Value} {base : Heap} {CX : CXT} {k : Nat} {x qual : Str} {params : Arguments} {body : List Stmt} {scope : Scope} {N : List Str} {sp : Sp} {C : Addr} {p0 p1 p2 : Str}
/-- a method of two parameters, also by its keyword -/
structure Mk1 (P : Program) (w : World) (K : PySem.W.Frag) (mg : Str → Option Value) (base : Heap) (CX : CXT) (k : Nat) (C : Addr) (m p0 p1 : Str) (sp : Sp) : Prop where
  cl : Cls K C
  mt : Meth K C m (He.ma K C m)
  ok : ∃ fd, FnOk P w K mg base CX k (He.ma K C m) fd [p0, p1] sp ∧ Binds K fd [p0, p1] [] ∧ KBn K fd [p0, p1] 1 [p1] (fun us ws => us ++ ws) (fun vs zs => vs ++ zs)
/-- a method of three, also by the two keywords, the last one first -/
structure Mk2 (P : Program) (w : World) (K : PySem.W.Frag) (mg : Str → Option Value) (base : Heap) (CX : CXT) (k : Nat) (C : Addr) (m p0 p1 p2 : Str) (sp : Sp) : Prop where
  cl : Cls K C
  mt : Meth K C m (He.ma K C m)
  ok : ∃ fd, FnOk P w K mg base CX k (He.ma K C m) fd [p0, p1, p2] sp ∧ Binds K fd [p0, p1, p2] [] ∧ KBn K fd [p0, p1, p2] 1 [p2, p1] (fun us ws => us ++ ws.reverse) (fun vs zs => vs ++ zs.reverse)
theorem Mk1.mfn {m : Str} (h : Mk1 P w K mg base CX k C m p0 p1 sp) : Dfs.Mfn P w K mg base CX k C m [p0, p1] sp := by
  obtain ⟨fd, a, b, _⟩ := h.ok
  exact ⟨h.cl, h.mt, fd, a, b⟩
theorem Mk2.mfn {m : Str} (h : Mk2 P w K mg base CX k C m p0 p1 p2 sp) : Dfs.Mfn P w K mg base CX k C m [p0, p1, p2] sp := by
  obtain ⟨fd, a, b, _⟩ := h.ok
  exact ⟨h.cl, h.mt, fd, a, b⟩
theorem mfk1 (q : ∃ fd, FunD K x qual params body scope [] [] (He.ma K C x) fd) (c : Cls K C) (m : Meth K C x (He.ma K C x)) (S : FnScope N [p0, p1] scope) (len : ∀ vs H Q E, sp vs H Q E → vs.length = [p0, p1].length)
    (hb : ∀ (kV doc pm : Value) (an : Option Addr) (cdv ct : Value) (a b : Value), bindArgs (PySem.W.fnOf x qual params body scope .none kV doc pm an cdv ct) ⟨[a, b], []⟩ = pure [(p0, a), (p1, b)])
    (hk : ∀ (kV doc pm : Value) (an : Option Addr) (cdv ct : Value) (a b : Value), bindArgs (PySem.W.fnOf x qual params body scope .none kV doc pm an cdv ct) ⟨[a], [(p1, b)]⟩ = pure [(p0, a), (p1, b)])
    (walk : ∀ (cdv : Value) (A : Around) (outer : List Env) (s : Shared) (H : Hp) (vs : List V) (Q : VK) (E : XK), Room k (A.deeper (envOfC qual scope s.heap.objs.size (He.ma K C x) cdv)) → sp vs H Q E →
      ∃ t, PSs (cxOf CX P w K mg base N qual scope (He.ma K C x) cdv A outer s H E) body t ∧ t { nx := fun _ H' => Q .non H', rt := Q } (start N vs) H) : Mk1 P w K mg base CX (k + 1) C x p0 p1 sp := by
  obtain ⟨fd, F⟩ := q
  refine ⟨c, m, fd, F.ok S len walk, F.bindsN fun kV doc pm an cdv ct => Vls.bind2 fun a b => hb kV doc pm an cdv ct a b, kb1 fun s a b _ => ?_⟩
  obtain ⟨oc, od, dV, kV, doc, pm, an, cdv, ct, osl, rfl, lk, hcd, hD, hK⟩ := F.ex
  rcases hD with ⟨_, rfl⟩ | ⟨e, _⟩
  · exact .of_eq (hk _ _ _ _ _ _ a b)
  · exact absurd rfl e
theorem mfk2 (q : ∃ fd, FunD K x qual params body scope [] [] (He.ma K C x) fd) (c : Cls K C) (m : Meth K C x (He.ma K C x)) (S : FnScope N [p0, p1, p2] scope) (len : ∀ vs H Q E, sp vs H Q E → vs.length = [p0, p1, p2].length)
    (hb : ∀ (kV doc pm : Value) (an : Option Addr) (cdv ct : Value) (a b c : Value), bindArgs (PySem.W.fnOf x qual params body scope .none kV doc pm an cdv ct) ⟨[a, b, c], []⟩ = pure [(p0, a), (p1, b), (p2, c)])
    (hk : ∀ (kV doc pm : Value) (an : Option Addr) (cdv ct : Value) (a b c : Value), bindArgs (PySem.W.fnOf x qual params body scope .none kV doc pm an cdv ct) ⟨[a], [(p2, c), (p1, b)]⟩ = pure [(p0, a), (p1, b), (p2, c)])
    (walk : ∀ (cdv : Value) (A : Around) (outer : List Env) (s : Shared) (H : Hp) (vs : List V) (Q : VK) (E : XK), Room k (A.deeper (envOfC qual scope s.heap.objs.size (He.ma K C x) cdv)) → sp vs H Q E →
      ∃ t, PSs (cxOf CX P w K mg base N qual scope (He.ma K C x) cdv A outer s H E) body t ∧ t { nx := fun _ H' => Q .non H', rt := Q } (start N vs) H) : Mk2 P w K mg base CX (k + 1) C x p0 p1 p2 sp := by
  obtain ⟨fd, F⟩ := q
  refine ⟨c, m, fd, F.ok S len walk, F.bindsN fun kV doc pm an cdv ct => Vls.bind3 fun a b c => hb kV doc pm an cdv ct a b c, kb2 fun s a b c _ => ?_⟩
  obtain ⟨oc, od, dV, kV, doc, pm, an, cdv, ct, osl, rfl, lk, hcd, hD, hK⟩ := F.ex
  rcases hD with ⟨_, rfl⟩ | ⟨e, _⟩
  · exact .of_eq (hk _ _ _ _ _ _ a b c)
  · exact absurd rfl e
end
end Mk0
set_option Elab.async false
set_option linter.all false
set_option maxRecDepth 100000
set_option maxHeartbeats 4000000
namespace K23
open PySem PySem.Spec PyProof.Rows L2 Pre Dfs Vls
/-- a value that no register shows -/
inductive Wr (H : Hp) : V → Prop where
  | non : Wr H .non
  | bl (b : Bool) : Wr H (.bl b)
  | neg {i : Int} (h : i < 0) : Wr H (.int i)
  | str (x : Str) : Wr H (.str x)
  | lst {a : Addr} {xs : List V} (e : H a = some (.lst xs)) : Wr H (.ref a)
  | dct {a : Addr} {kvs : List (Key × V)} (e : H a = some (.dK kvs)) : Wr H (.ref a)
  | pair {a : Addr} {x y : Int} (e : H a = some (.tup [.int x, .int y])) (h : x < 0 ∨ y < 0) : Wr H (.ref a)
theorem Wr.dat {H : Hp} {v : V} (h : Wr H v) : Dat H v := by
  cases h with
  | non => exact .non
  | bl b => exact .bl b
  | neg h => exact .int _
  | str x => exact .str x
  | lst e => exact .lst e
  | dct e => exact .dct e
  | pair e h => exact .tup e
theorem Wr.same {H H' : Hp} {v : V} (h : Wr H v) (s : Same H H') : Wr H' v := by
  cases h with
  | non => exact .non
  | bl b => exact .bl b
  | neg h => exact .neg h
  | str x => exact .str x
  | lst e => exact .lst (s _ _ e)
  | dct e => exact .dct (s _ _ e)
  | pair e h => exact .pair (s _ _ e) h
theorem Wr.range {H : Hp} {v : V} (h : Wr H v) (hi : Int) : inR 0 hi v = false := by
  cases h with
  | neg h =>
    show (decide (_ ≤ _) && _) = false
    rw [decide_eq_false (by omega)]
    rfl
  | _ => rfl
theorem Wr.count {H : Hp} {v : V} (h : Wr H v) : isC v = false := by
  cases h with
  | neg h => exact decide_eq_false (by omega)
  | _ => rfl
theorem isC_of {i : Int} (h : 0 ≤ i) : isC (.int i) = true := decide_eq_true h
theorem Wr.tup {H : Hp} {v : V} (h : Wr H v) : isT H v = false ∨ ∃ t x y, v = .ref t ∧ H t = some (.tup [.int x, .int y]) ∧ (x < 0 ∨ y < 0) := by
  cases h with
  | pair e h => exact .inr ⟨_, _, _, rfl, e, h⟩
  | lst e =>
    refine .inl ?_
    simp only [isT, e]
  | dct e =>
    refine .inl ?_
    simp only [isT, e]
  | _ => exact .inl rfl
/-- whether each is a rest by its period -/
def bsF (xs : List Int) (ps : List Nat) : List Bool := (List.zip xs ps).map fun q => decide (0 ≤ q.1) && decide (q.1 ≤ ((q.2 : Nat) : Int) - 1)
theorem bsF_at {xs : List Int} {ps : List Nat} {i : Nat} {x : Int} {p : Nat} (hx : xs[i]? = some x) (hp : ps[i]? = some p) : (bsF xs ps)[i]? = some (decide (0 ≤ x) && decide (x ≤ ((p : Nat) : Int) - 1)) := by
  unfold bsF
  rw [List.getElem?_map, (List.getElem?_zip_eq_some (z := (x, p))).mpr ⟨hx, hp⟩]
  rfl
theorem bsF_next {xs : List Int} {ps : List Nat} {i : Nat} {b : Bool} (h : (bsF xs ps)[i]? = some b) : ((bsF xs ps).take i).map V.bl ++ [V.bl b] = ((bsF xs ps).take (i + 1)).map V.bl := by
  rw [List.take_succ, h, List.map_append]
  rfl
theorem bsF_good (n : Nat) : ∀ {ps : List Nat}, (∀ p ∈ ps, 2 ≤ p ∧ p ≤ 1000) → (bsF (ps.map fun (p : Nat) => (n : Int) % ((p : Nat) : Int)) ps).all id = true
  | [], _ => rfl
  | p :: ps, h => by
    have h1 := (h p (List.mem_cons_self ..)).1
    have z := bsF_good n (ps := ps) fun q hq => h q (List.mem_cons_of_mem _ hq)
    have e1 := Int.emod_nonneg (n : Int) (show ((p : Nat) : Int) ≠ 0 by omega)
    have e2 := Int.emod_lt_of_pos (n : Int) (show (0 : Int) < p by omega)
    show ((decide (0 ≤ (n : Int) % (p : Int)) && decide ((n : Int) % (p : Int) ≤ (p : Int) - 1)) && (bsF (ps.map fun (p : Nat) => (n : Int) % ((p : Nat) : Int)) ps).all id) = true
    rw [z, decide_eq_true e1, decide_eq_true (by omega)]
    rfl
theorem bsF_bad {x y : Int} {p q : Nat} (h : x < 0 ∨ y < 0) : (bsF [x, y] [p, q]).all id = false := by
  show ((decide (0 ≤ x) && decide (x ≤ (p : Int) - 1)) && ((decide (0 ≤ y) && decide (y ≤ (q : Int) - 1)) && true)) = false
  rcases h with h | h
  · rw [decide_eq_false (by omega : ¬ 0 ≤ x)]
    rfl
  · rw [decide_eq_false (by omega : ¬ 0 ≤ y), Bool.false_and, Bool.false_and, Bool.and_false]
theorem isT_tup {H : Hp} {t : Addr} {xs : List V} (e : H t = some (.tup xs)) : isT H (.ref t) = true := by simp only [isT, e]
section
variable {P : Program} {w : World} {K : PySem.W.Frag} {mg : Str → Option Value} {base : Heap}
def spIsRd (K : PySem.W.Frag) (k : Kd) : Sp := fun vs H Q _ => ∃ (a : Addr) (v : V), vs = [.ref a, v] ∧ Reg K H a k ∧
  ((∃ (n : Nat) (l : Int), 0 ≤ l ∧ Rd H k n l v ∧ ∀ H', Same H H' → Q (.bl true) H') ∨ (Wr H v ∧ ∀ H', Same H H' → Q (.bl false) H'))
theorem m_isrdX (T : Tx K mg) (k : Kd) : Mk0.Mk1 P w K mg base CX0 4 (CK K k) "is_reading" "self" "value" (spIsRd K k) := by
  have len : ∀ vs H Q E, spIsRd K k vs H Q E → vs.length = ["self", "value"].length := fun vs H Q E h => by
    obtain ⟨_, _, rfl, _⟩ := h
    rfl
  cases k with
  | pl =>
    refine Mk0.mfk1 T.q_Plain_is_reading T.c_Plain T.m_Plain_is_reading (N := ["self", "value"]) ⟨rfl, rfl, rfl, by decide +kernel, rfl, by decide +kernel, by decide +kernel⟩ len (fun kV doc pm an cdv ct a b => rfl) (fun kV doc pm an cdv ct a b => rfl) (fun cdv A outer s H vs Q E hr h => ?_)
    obtain ⟨a, v, rfl, r, q⟩ := h
    refine ⟨_, pss_one (ps_ret (pe_d (d_count T) (hr.mono (by decide)) (by rfl) (E := E) p0 (pa_cons (pv 1) pa_nil))), ?_⟩
    rcases q with ⟨n, l, h0, rd, q⟩ | ⟨wr, q⟩
    · cases rd with
      | pl => exact ⟨_, rfl, _, rfl, .int _, by
          rw [isC_of (Int.natCast_nonneg n)]
          exact q _ (Same.refl H)⟩
    · exact ⟨_, rfl, _, rfl, wr.dat, by
        rw [wr.count]
        exact q _ (Same.refl H)⟩
  | md m =>
    refine Mk0.mfk1 T.q_Wrapping_is_reading T.c_Wrapping T.m_Wrapping_is_reading (N := ["self", "value"]) ⟨rfl, rfl, rfl, by decide +kernel, rfl, by decide +kernel, by decide +kernel⟩ len (fun kV doc pm an cdv ct a b => rfl) (fun kV doc pm an cdv ct a b => rfl) (fun cdv A outer s H vs Q E hr h => ?_)
    obtain ⟨a, v, rfl, r, q⟩ := h
    cases r with
    | md e g2 g3 =>
      refine ⟨_, pss_one (ps_ret (pe_d (d_within T) (hr.mono (by decide)) (by rfl) (E := E) p0 (pa_cons (pv 1) (pa_cons pe_int (pa_cons (pe_op op_sub (fld (pv 0)) pe_int) pa_nil))))), ?_⟩
      refine ⟨_, rfl, _, rfl, a, _, _, _, _, rfl, e, T.c_Wrapping, T.n_Wrapping_modulus, rfl, _, _, rfl, rfl, _, _, _, rfl, ?_⟩
      rcases q with ⟨n, l, h0, rd, q⟩ | ⟨wr, q⟩
      · cases rd with
        | md => exact ⟨.int _, by
            rw [inR_of (Int.emod_nonneg _ (by omega)) (by have := Int.emod_lt_of_pos (n : Int) (show (0 : Int) < m by omega); omega)]
            exact q _ (Same.refl H)⟩
      · exact ⟨wr.dat, by
          rw [wr.range]
          exact q _ (Same.refl H)⟩
  | rs =>
    refine Mk0.mfk1 T.q_Restarting_is_reading T.c_Restarting T.m_Restarting_is_reading (N := ["self", "value"]) ⟨rfl, rfl, rfl, by decide +kernel, rfl, by decide +kernel, by decide +kernel⟩ len (fun kV doc pm an cdv ct a b => rfl) (fun kV doc pm an cdv ct a b => rfl) (fun cdv A outer s H vs Q E hr h => ?_)
    obtain ⟨a, v, rfl, r, q⟩ := h
    refine ⟨_, pss_cons (ps_if (PW.pt (pw_or (pt_not (pt_val (pe_callB call_isi (by rfl) T.f_isinstance (by decide +kernel) (pa_cons (pv 1) (pa_cons (pe_bltn (v := .ty "tuple") (by rfl) T.f_tuple (by kernel_rfl) rfl) pa_nil)))))
        (pw_or1 (pt_cmpR op_ne (pe_callB call_len_seq (by rfl) T.f_len PySem.boot_len (pa_cons (pv 1) pa_nil)) pe_int (nomark _))))) (pss_one (ps_ret pe_bl)) pss_nil)
      (pss_one (ps_ret (pe_and (pe_d (d_count T) (hr.mono (by decide)) (by rfl) (E := E) p0 (pa_cons (pe_ix ix_tup (pv 1) pe_int (fun _ _ => rfl)) pa_nil))
        (pe_one (pe_d (d_count T) (hr.mono (by decide)) (by rfl) (E := E) p0 (pa_cons (pe_ix ix_tup (pv 1) pe_int (fun _ _ => rfl)) pa_nil)))))), ?_⟩
    have dv : Dat H v := by
      rcases q with ⟨n, l, h0, rd, q⟩ | ⟨wr, q⟩
      · cases rd with
        | rs e => exact .tup e
      · exact wr.dat
    refine ⟨_, rfl, _, _, _, _, _, rfl, .ty _, dv.ty, dv.kTup, _, rfl, ?_⟩
    have q2 : (isT H v = false ∧ Q (.bl false) H) ∨ ∃ t x y, v = .ref t ∧ H t = some (.tup [.int x, .int y]) ∧ Q (.bl (decide (0 ≤ x) && decide (0 ≤ y))) H := by
      rcases q with ⟨n, l, h0, rd, q⟩ | ⟨wr, q⟩
      · cases rd with
        | rs e =>
          refine .inr ⟨_, _, _, rfl, e, ?_⟩
          rw [decide_eq_true h0, decide_eq_true (Int.natCast_nonneg n)]
          exact q _ (Same.refl H)
      · rcases wr.tup with z | ⟨t, x, y, rfl, e, h⟩
        · exact .inl ⟨z, q _ (Same.refl H)⟩
        · refine .inr ⟨t, x, y, rfl, e, ?_⟩
          have e2 : (decide (0 ≤ x) && decide (0 ≤ y)) = false := by
            rcases h with h | h
            · rw [decide_eq_false (by omega : ¬ 0 ≤ x)]
              rfl
            · rw [decide_eq_false (by omega : ¬ 0 ≤ y), Bool.and_false]
          rw [e2]
          exact q _ (Same.refl H)
    rcases q2 with ⟨z, q3⟩ | ⟨t, x, y, rfl, e, q3⟩
    · rw [z]
      exact q3
    · rw [isT_tup e]
      refine ite3 (fun h => by cases h) (fun _ => ?_)
      refine ⟨_, rfl, t, _, rfl, .inr (SqT.of e), rfl, _, rfl, ite3 (fun h => by cases h) (fun _ => ?_)⟩
      refine ⟨_, rfl, t, _, _, _, rfl, rfl, SqT.of e, atI_nat (j := 0) (v := .int x) rfl, _, rfl, .int _, _, rfl, ite3 (fun h => ?_) (fun h => ?_)⟩
      · refine ⟨_, rfl, t, _, _, _, rfl, rfl, SqT.of e, atI_nat (j := 1) (v := .int y) rfl, _, rfl, .int _, ?_⟩
        have h2 : decide (0 ≤ x) = true := h
        rw [h2] at q3
        exact q3
      · have h2 : decide (0 ≤ x) = false := h
        rw [h2] at q3
        exact q3
  | dl ps =>
    have nd : (["self", "value", "rest", "period"] : List Str).Nodup := by decide +kernel
    refine Mk0.mfk1 T.q_Dials_is_reading T.c_Dials T.m_Dials_is_reading (N := ["self", "value", "rest", "period"]) ⟨rfl, rfl, rfl, by decide +kernel, rfl, by decide +kernel, by decide +kernel⟩ len (fun kV doc pm an cdv ct a b => rfl) (fun kV doc pm an cdv ct a b => rfl) (fun cdv A outer s H vs Q E hr h => ?_)
    obtain ⟨a, v, rfl, r, q⟩ := h
    cases r with
    | dl e ht g1 g2 g3 =>
      rename_i dx tp
      refine ⟨_, pss_cons (ps_if (PW.pt (pw_or (pt_not (pt_val (pe_callB call_isi (by rfl) T.f_isinstance (by decide +kernel) (pa_cons (pv 1) (pa_cons (pe_bltn (v := .ty "tuple") (by rfl) T.f_tuple (by kernel_rfl) rfl) pa_nil)))))
          (pw_or1 (pt_cmpR op_ne (pe_callB call_len_seq (by rfl) T.f_len PySem.boot_len (pa_cons (pv 1) pa_nil)) (pe_callB call_len_seq (by rfl) T.f_len PySem.boot_len (pa_cons (fld (pv 0)) pa_nil)) (nomark _))))) (pss_one (ps_ret pe_bl)) pss_nil)
        (pss_cons (ps_if (pt_not (pt_val (pe_callB (cr_all rfl) (by rfl) T.f_all (by decide +kernel) (pa_cons (pe_lc (g := gTup K 2 (gCons (gName 2) (gCons (gName 3) gNil))) rfl nd (RZ.pi_zipA (by rfl) T.f_zip (pa_cons (pv 1) (pa_cons (fld (pv 0)) pa_nil))) (own := [("rest", 2), ("period", 3)]) (blk_by (by kernel_rfl))
            (fun _ _ _ _ _ => pg_tup (n := 2) rfl (pgs_cons (pg_name (i := 2) nd rfl (Or.inl rfl) (Or.inr rfl)) (pgs_cons (pg_name (i := 3) nd rfl (Or.inl rfl) (Or.inr rfl)) pgs_nil))) (fun _ _ _ _ _ => pts_nil)
            (fun _ _ _ _ _ => pe_d (d_within T) (hr.mono (by decide)) (by rfl) (E := E) p0 (pa_cons (pe_var (i := 2) rfl (Or.inl rfl)) (pa_cons pe_int (pa_cons (pe_op op_sub (pe_var (i := 3) rfl (Or.inl rfl)) pe_int) pa_nil))))) pa_nil)))) (pss_one (ps_ret pe_bl)) pss_nil)
        (pss_one (ps_ret (pe_cmpR op_notN (pe_d (d_least T) (hr.mono (by decide)) (by rfl) (E := E) p0 (pa_cons (fld (pv 0)) (pa_cons (pv 1) pa_nil))) pe_non (nomark _))))), ?_⟩
      have dv : Dat H v := by
        rcases q with ⟨n, l, h0, rd, q⟩ | ⟨wr, q⟩
        · cases rd with
          | dl e => exact .tup e
        · exact wr.dat
      refine ⟨_, rfl, _, _, _, _, _, rfl, .ty _, dv.ty, dv.kTup, _, rfl, ?_⟩
      have q2 : (isT H v = false ∧ Q (.bl false) H) ∨ ∃ (t : Addr) (xs : List Int), v = .ref t ∧ H t = some (.tup (xs.map V.int)) ∧
          ((xs.length ≠ ps.length ∧ Q (.bl false) H) ∨ (xs.length = ps.length ∧ (((bsF xs ps).all id = false ∧ ∀ H', Same H H' → Q (.bl false) H') ∨
            ∃ n : Nat, xs.map V.int = rests n ps ∧ (bsF xs ps).all id = true ∧ ∀ H', Same H H' → Q (.bl true) H'))) := by
        rcases q with ⟨n, l, h0, rd, q⟩ | ⟨wr, q⟩
        · cases rd with
          | dl e =>
            have er : rests (n : Int) ps = (ps.map fun (p : Nat) => (n : Int) % ((p : Nat) : Int)).map V.int := by
              unfold rests
              rw [List.map_map]
              rfl
            refine .inr ⟨_, ps.map fun (p : Nat) => (n : Int) % ((p : Nat) : Int), rfl, ?_, .inr ⟨List.length_map .., .inr ⟨n, er.symm, bsF_good n g3, q⟩⟩⟩
            rw [← er]
            exact e
        · rcases wr.tup with z | ⟨t, x, y, rfl, e, h⟩
          · exact .inl ⟨z, q _ (Same.refl H)⟩
          · refine .inr ⟨t, [x, y], rfl, e, ?_⟩
            by_cases hl : ps.length = 2
            · obtain ⟨p1, p2, rfl⟩ : ∃ p1 p2, ps = [p1, p2] := by
                match ps, hl with
                | [p1, p2], _ => exact ⟨p1, p2, rfl⟩
              exact .inr ⟨rfl, .inl ⟨bsF_bad h, q⟩⟩
            · exact .inl ⟨fun z => hl z.symm, q _ (Same.refl H)⟩
      rcases q2 with ⟨z, q3⟩ | ⟨t, xs, rfl, et, q3⟩
      · rw [z]
        exact q3
      rw [isT_tup et]
      refine ite3 (fun h => by cases h) (fun _ => ?_)
      refine ⟨_, rfl, t, _, rfl, .inr (SqT.of et), _, rfl, a, _, _, _, _, rfl, e, T.c_Dials, T.n_Dials_periods, rfl, tp, _, rfl, .inr (SqT.of ht), rfl, _, rfl, ?_⟩
      have le : (!decide (V.int (((xs.map V.int).length : Nat) : Int) = V.int (((ivs ps).length : Nat) : Int))) = !decide (xs.length = ps.length) := by
        rw [List.length_map, ivs_len]
        by_cases h : xs.length = ps.length
        · rw [h, decide_eq_true rfl, decide_eq_true rfl]
        · rw [decide_eq_false h, decide_eq_false fun z => h (by injection z with z; exact Int.ofNat.inj z)]
      rw [le]
      rcases q3 with ⟨hl, q3⟩ | ⟨hl, q3⟩
      · rw [decide_eq_false hl]
        exact q3
      rw [decide_eq_true hl]
      refine ite3 (fun h => by cases h) (fun _ => ?_)
      refine ⟨_, rfl, _, rfl, a, _, _, _, _, rfl, e, T.c_Dials, T.n_Dials_periods, rfl, t, tp, _, _, rfl, .inr ⟨SqT.of et, SqT.of ht, fun D hD => ?_⟩⟩
      refine lc_it (walk_zipT (by rw [List.length_map, ivs_len, hl])) (fun i H1 => Same H H1 ∧ H1 D = some (.lst (((bsF xs ps).take i).map V.bl))) ⟨Same.upd hD, upd_same⟩ (fun i H1 _ z => ⟨SqT.of (z.1 _ _ et), SqT.of (z.1 _ _ ht)⟩) (fun i x H1 H2 hi z y => ?_) (fun H1 z => ?_)
      · obtain ⟨Tp, u, vp, rfl, hT, rfl, hx, hy⟩ := y
        obtain ⟨p, hp, rfl⟩ := ivs_at hy
        obtain ⟨xi, hxi, rfl⟩ : ∃ xi, xs[i]? = some xi ∧ u = .int xi := by
          have hx2 : (xs.map V.int)[i]? = some u := hx
          rw [List.getElem?_map] at hx2
          cases q9 : xs[i]? with
          | none =>
            rw [q9] at hx2
            cases hx2
          | some xi =>
            rw [q9] at hx2
            exact ⟨xi, rfl, (Option.some.inj hx2).symm⟩
        have b := bsF_at hxi hp
        have nD : D ≠ Tp := ne_of_none z.2 hT
        have hi2 : i < xs.length := (List.getElem?_eq_some_iff.mp hxi).1
        refine ⟨Tp, _, rfl, SqT.of upd_same, rfl, _, _, rfl, _, _, rfl, rfl, rfl, ?_⟩
        unfold tYes
        refine ite3 (fun _ => ?_) (fun h => by cases h)
        refine ⟨_, rfl, _, rfl, _, _, rfl, rfl, _, _, _, rfl, .int _, _, (upd_ne nD).trans z.2, ?_, Same.put (Same.new z.1 hT) hD, ?_⟩
        · rw [List.length_map, List.length_take, sizeLine_eq]
          omega
        · rw [upd_same]
          exact congrArg (fun l => some (HO.lst l)) (bsF_next b)
      · have e3 : (bsF xs ps).take (xs.map V.int).length = bsF xs ps := List.take_of_length_le (by unfold bsF; rw [List.length_map, List.length_map, List.length_zip]; omega)
        have z2 := z.2
        rw [e3] at z2
        refine ⟨D, bsF xs ps, rfl, SqL.of z2, _, rfl, ?_⟩
        rcases q3 with ⟨ha, q4⟩ | ⟨n, er, ha, q4⟩
        · rw [ha]
          exact ite3 (fun _ => q4 _ z.1) (fun h => by cases h)
        · rw [ha]
          refine ite3 (fun h => by cases h) (fun _ => ?_)
          refine ⟨_, rfl, a, _, _, _, _, rfl, z.1 _ _ e, T.c_Dials, T.n_Dials_periods, rfl, _, rfl, tp, t, ps, n, rfl, z.1 _ _ ht, ?_, g2, g3, fun H' s' => ⟨rfl, ?_⟩⟩
          · rw [← er]
            exact z.1 _ _ et
          · show Q (.bl (!decide (V.int _ = V.non))) H'
            rw [decide_eq_false (by intro h; cases h)]
            exact q4 H' fun b o h => s' b o (z.1 b o h)
theorem m_isrd (T : Tx K mg) (k : Kd) : Mfn P w K mg base CX0 4 (CK K k) "is_reading" ["self", "value"] (spIsRd K k) := (m_isrdX T k).mfn
end
end K23
set_option Elab.async false
set_option linter.all false
set_option maxRecDepth 100000
set_option maxHeartbeats 4000000
namespace K23
open PySem PySem.Spec PyProof.Rows L2 Pre Dfs Vls
/-- a right reading -/
def Ok (H : Hp) (k : Kd) (v : V) : Prop := ∃ (n : Nat) (l : Int), 0 ≤ l ∧ Rd H k n l v
theorem Ok.same {H H' : Hp} {k : Kd} {v : V} (o : Ok H k v) (s : Same H H') : Ok H' k v := by
  obtain ⟨n, l, h, r⟩ := o
  exact ⟨n, l, h, r.same s⟩
/-- what lies between two readings -/
def btw : Kd → Nat → Int → Nat → Int → V
  | .pl, n1, _, n2, _ => if n1 ≤ n2 then .int ((n2 : Int) - n1) else .non
  | .md m, n1, _, n2, _ => .int (((n2 : Int) - n1) % (m : Int))
  | .rs, n1, l1, n2, l2 => if l1 = l2 ∧ n1 ≤ n2 then .int ((n2 : Int) - n1) else .non
  | .dl ps, n1, _, n2, _ => .int (((n2 : Int) - n1) % ((lcms ps : Nat) : Int))
section
variable {P : Program} {w : World} {K : PySem.W.Frag} {mg : Str → Option Value} {base : Heap}
def spChkR (K : PySem.W.Frag) (k : Kd) : Sp := fun vs H Q E => ∃ (a : Addr) (v at_ : V), vs = [.ref a, v, at_] ∧ Reg K H a k ∧
  ((Ok H k v ∧ ∀ H', Same H H' → Q .non H') ∨ (Wr H v ∧ ∀ H', Same H H' → ∀ d, H' d = none → E (.ref (He.ga K "BadReading")) (some d) (upd H' d (.xd [("at", at_)]))))
theorem d_chkR (T : Tx K mg) (k : Kd) : Dfn P w K mg base (L2.CX P w) 5 "check_reading" ["display", "reading", "at"] (spChkR K k) := by
  refine dfn T.q_check_reading T.g_check_reading (N := ["display", "reading", "at"]) ⟨rfl, rfl, rfl, by decide +kernel, rfl, by decide +kernel, by decide +kernel⟩ (fun vs H Q E h => ?_) (fun kV doc pm an cdv ct => bind3 fun a b c => rfl) (fun cdv A outer s H vs Q E hr h => ?_)
  · obtain ⟨_, _, _, rfl, _⟩ := h
    rfl
  · obtain ⟨a, v, at_, rfl, r, q⟩ := h
    obtain ⟨fi, Fi, Bi⟩ := i_BadReading (P := P) (w := w) (base := base) T
    obtain ⟨dx, fs, ei, _, hl, _⟩ := r.ins
    refine ⟨_, pss_one (ps_if (pt_not (pt_val (Dfs.pe_m (pv 0) (m_isrd T k) hr (E := E) p0 (pa_cons (pv 1) pa_nil))))
      (pss_one (Ers.ps_raise1 T.o_BadReading T.m_BadReading_init.at_ T.t_BadReading Fi (hr.mono (by decide)) Bi (by rfl) T.g_BadReading rfl tk (pv 2))) pss_nil), ?_⟩
    rcases q with ⟨o, q⟩ | ⟨wr, q⟩
    · exact ⟨_, rfl, a, dx, fs, rfl, ei, hl, _, rfl, a, v, rfl, r, .inl (let ⟨n, l, h, rd⟩ := o
        ⟨n, l, h, rd, fun H' s' => ⟨_, rfl, ite3 (fun h => by cases h) (fun _ => q H' s')⟩⟩)⟩
    · exact ⟨_, rfl, a, dx, fs, rfl, ei, hl, _, rfl, a, v, rfl, r, .inr ⟨wr, fun H' s' => ⟨_, rfl, ite3 (fun _ => ⟨_, rfl, q H' s'⟩) (fun h => by cases h)⟩⟩⟩
def spChk2 (K : PySem.W.Frag) (k : Kd) : Sp := fun vs H Q _ => ∃ (a : Addr) (v1 v2 : V), vs = [.ref a, v1, v2] ∧ Reg K H a k ∧ Ok H k v1 ∧ Ok H k v2 ∧ ∀ H', Same H H' → Q .non H'
theorem d_chk2 (T : Tx K mg) (k : Kd) : Dfn P w K mg base (L2.CX P w) 6 "check_readings" ["display", "earlier", "later"] (spChk2 K k) := by
  refine dfn T.q_check_readings T.g_check_readings (N := ["display", "earlier", "later"]) ⟨rfl, rfl, rfl, by decide +kernel, rfl, by decide +kernel, by decide +kernel⟩ (fun vs H Q E h => ?_) (fun kV doc pm an cdv ct => bind3 fun a b c => rfl) (fun cdv A outer s H vs Q E hr h => ?_)
  · obtain ⟨_, _, _, rfl, _⟩ := h
    rfl
  · obtain ⟨a, v1, v2, rfl, r, o1, o2, q⟩ := h
    refine ⟨_, pss_cons (ps_expr (pe_d (d_chkR T k) hr (by rfl) (E := E) pc (pa_cons (pv 0) (pa_cons (pv 1) (pa_cons pe_str pa_nil)))))
      (pss_one (ps_expr (pe_d (d_chkR T k) hr (by rfl) (E := E) pc (pa_cons (pv 0) (pa_cons (pv 2) (pa_cons pe_str pa_nil)))))), ?_⟩
    refine ⟨_, rfl, _, rfl, a, v1, _, rfl, r, .inl ⟨o1, fun H1 s1 => ?_⟩⟩
    exact ⟨_, rfl, _, rfl, a, v2, _, rfl, r.same s1, .inl ⟨o2.same s1, fun H2 s2 => q H2 fun b o h => s2 b o (s1 b o h)⟩⟩
def spBtw (K : PySem.W.Frag) (k : Kd) : Sp := fun vs H Q _ => ∃ (a : Addr) (v1 v2 : V) (n1 n2 : Nat) (l1 l2 : Int), vs = [.ref a, v1, v2] ∧ Reg K H a k ∧ Rd H k n1 l1 v1 ∧ Rd H k n2 l2 v2 ∧ 0 ≤ l1 ∧ 0 ≤ l2 ∧ ∀ H', Same H H' → Q (btw k n1 l1 n2 l2) H'
theorem m_btwX (T : Tx K mg) (k : Kd) : Mk0.Mk2 P w K mg base (L2.CX P w) 7 (CK K k) "between" "self" "earlier" "later" (spBtw K k) := by
  have len : ∀ vs H Q E, spBtw K k vs H Q E → vs.length = ["self", "earlier", "later"].length := fun vs H Q E h => by
    obtain ⟨_, _, _, _, _, _, _, rfl, _⟩ := h
    rfl
  cases k with
  | pl =>
    refine Mk0.mfk2 T.q_Plain_between T.c_Plain T.m_Plain_between (N := ["self", "earlier", "later"]) ⟨rfl, rfl, rfl, by decide +kernel, rfl, by decide +kernel, by decide +kernel⟩ len (fun kV doc pm an cdv ct a b c => rfl) (fun kV doc pm an cdv ct a b c => rfl) (fun cdv A outer s H vs Q E hr h => ?_)
    obtain ⟨a, v1, v2, n1, n2, l1, l2, rfl, r, r1, r2, h1, h2, q⟩ := h
    have o1 : Ok H .pl v1 := ⟨n1, l1, h1, r1⟩
    have o2 : Ok H .pl v2 := ⟨n2, l2, h2, r2⟩
    refine ⟨_, pss_cons (ps_expr (pe_d (d_chk2 T .pl) hr (by rfl) (E := E) pc (pa_cons (pv 0) (pa_cons (pv 1) (pa_cons (pv 2) pa_nil)))))
      (pss_one (ps_ret (pe_ifExp (pt_cmpR op_ge (pv 2) (pv 1) (nomark _)) (pe_op op_sub (pv 2) (pv 1)) pe_non))), ?_⟩
    refine ⟨_, rfl, _, rfl, _, rfl, a, v1, v2, rfl, r, o1, o2, fun H1 s1 => ?_⟩
    cases r1
    cases r2
    have q1 := q H1 s1
    dsimp only [btw] at q1
    refine ⟨_, rfl, _, rfl, _, _, rfl, rfl, _, rfl, ite3 (fun h => ?_) (fun h => ?_)⟩
    · have h3 : (n1 : Int) ≤ n2 := of_decide_eq_true h
      rw [if_pos (by omega)] at q1
      exact ⟨_, rfl, _, rfl, _, _, rfl, rfl, q1⟩
    · have h3 : ¬ (n1 : Int) ≤ n2 := of_decide_eq_false h
      rw [if_neg (by omega)] at q1
      exact q1
  | md m =>
    refine Mk0.mfk2 T.q_Wrapping_between T.c_Wrapping T.m_Wrapping_between (N := ["self", "earlier", "later"]) ⟨rfl, rfl, rfl, by decide +kernel, rfl, by decide +kernel, by decide +kernel⟩ len (fun kV doc pm an cdv ct a b c => rfl) (fun kV doc pm an cdv ct a b c => rfl) (fun cdv A outer s H vs Q E hr h => ?_)
    obtain ⟨a, v1, v2, n1, n2, l1, l2, rfl, r, r1, r2, h1, h2, q⟩ := h
    have o1 : Ok H (.md m) v1 := ⟨n1, l1, h1, r1⟩
    have o2 : Ok H (.md m) v2 := ⟨n2, l2, h2, r2⟩
    refine ⟨_, pss_cons (ps_expr (pe_d (d_chk2 T (.md m)) hr (by rfl) (E := E) pc (pa_cons (pv 0) (pa_cons (pv 1) (pa_cons (pv 2) pa_nil)))))
      (pss_one (ps_ret (pe_op op_mod (pe_op op_sub (pv 2) (pv 1)) (fld (pv 0))))), ?_⟩
    refine ⟨_, rfl, _, rfl, _, rfl, a, v1, v2, rfl, r, o1, o2, fun H1 s1 => ?_⟩
    cases r1
    cases r2
    have q1 := q H1 s1
    dsimp only [btw] at q1
    rw [Int.sub_emod] at q1
    cases r with
    | md e g2 g3 => exact ⟨_, rfl, _, rfl, _, _, rfl, rfl, _, rfl, a, _, _, _, _, rfl, s1 _ _ e, T.c_Wrapping, T.n_Wrapping_modulus, rfl, _, _, rfl, rfl, (by show (0 : Int) < m; omega), q1⟩
  | rs =>
    refine Mk0.mfk2 T.q_Restarting_between T.c_Restarting T.m_Restarting_between (N := ["self", "earlier", "later"]) ⟨rfl, rfl, rfl, by decide +kernel, rfl, by decide +kernel, by decide +kernel⟩ len (fun kV doc pm an cdv ct a b c => rfl) (fun kV doc pm an cdv ct a b c => rfl) (fun cdv A outer s H vs Q E hr h => ?_)
    obtain ⟨a, v1, v2, n1, n2, l1, l2, rfl, r, r1, r2, h1, h2, q⟩ := h
    have o1 : Ok H .rs v1 := ⟨n1, l1, h1, r1⟩
    have o2 : Ok H .rs v2 := ⟨n2, l2, h2, r2⟩
    refine ⟨_, pss_cons (ps_expr (pe_d (d_chk2 T .rs) hr (by rfl) (E := E) pc (pa_cons (pv 0) (pa_cons (pv 1) (pa_cons (pv 2) pa_nil)))))
      (pss_cons (ps_if (PW.pt (pw_or (pt_cmpR op_ne (pe_ix ix_tup (pv 1) pe_int (fun _ _ => rfl)) (pe_ix ix_tup (pv 2) pe_int (fun _ _ => rfl)) (nomark _))
          (pw_or1 (pt_cmpR op_gt (pe_ix ix_tup (pv 1) pe_int (fun _ _ => rfl)) (pe_ix ix_tup (pv 2) pe_int (fun _ _ => rfl)) (nomark _))))) (pss_one (ps_ret pe_non)) pss_nil)
      (pss_one (ps_ret (pe_op op_sub (pe_ix ix_tup (pv 2) pe_int (fun _ _ => rfl)) (pe_ix ix_tup (pv 1) pe_int (fun _ _ => rfl)))))), ?_⟩
    refine ⟨_, rfl, _, rfl, _, rfl, a, v1, v2, rfl, r, o1, o2, fun H1 s1 => ?_⟩
    cases r1 with
    | rs e1 =>
      cases r2 with
      | rs e2 =>
        rename_i t1 t2
        have q1 := q H1 s1
        have f1 := SqT.of (K := K) (s1 _ _ e1)
        have f2 := SqT.of (K := K) (s1 _ _ e2)
        dsimp only [btw] at q1
        refine ⟨_, rfl, t1, _, _, _, rfl, rfl, f1, atI_nat (j := 0) (v := .int l1) rfl, _, rfl, t2, _, _, _, rfl, rfl, f2, atI_nat (j := 0) (v := .int l2) rfl, rfl, _, rfl, ?_⟩
        have ee : (!decide (V.int l1 = V.int l2)) = !decide (l1 = l2) := by
          by_cases h : l1 = l2
          · rw [h, decide_eq_true rfl, decide_eq_true rfl]
          · rw [decide_eq_false h, decide_eq_false fun z => h (by injection z)]
        rw [ee]
        by_cases h : l1 = l2
        · rw [decide_eq_true h]
          refine ite3 (fun z => by cases z) (fun _ => ?_)
          refine ⟨_, rfl, t1, _, _, _, rfl, rfl, f1, atI_nat (j := 1) (v := .int n1) rfl, _, rfl, t2, _, _, _, rfl, rfl, f2, atI_nat (j := 1) (v := .int n2) rfl, _, _, rfl, rfl, _, rfl, ite3 (fun z => ?_) (fun z => ?_)⟩
          · have z2 : (n2 : Int) < n1 := of_decide_eq_true z
            rw [if_neg (by omega)] at q1
            exact q1
          · have z2 : ¬ (n2 : Int) < n1 := of_decide_eq_false z
            rw [if_pos ⟨h, by omega⟩] at q1
            exact ⟨_, rfl, t2, _, _, _, rfl, rfl, f2, atI_nat (j := 1) (v := .int n2) rfl, _, rfl, t1, _, _, _, rfl, rfl, f1, atI_nat (j := 1) (v := .int n1) rfl, _, _, rfl, rfl, q1⟩
        · rw [decide_eq_false h]
          rw [if_neg (fun z => h z.1)] at q1
          exact q1
  | dl ps =>
    refine Mk0.mfk2 T.q_Dials_between T.c_Dials T.m_Dials_between (N := ["self", "earlier", "later"]) ⟨rfl, rfl, rfl, by decide +kernel, rfl, by decide +kernel, by decide +kernel⟩ len (fun kV doc pm an cdv ct a b c => rfl) (fun kV doc pm an cdv ct a b c => rfl) (fun cdv A outer s H vs Q E hr h => ?_)
    obtain ⟨a, v1, v2, n1, n2, l1, l2, rfl, r, r1, r2, h1, h2, q⟩ := h
    have o1 : Ok H (.dl ps) v1 := ⟨n1, l1, h1, r1⟩
    have o2 : Ok H (.dl ps) v2 := ⟨n2, l2, h2, r2⟩
    refine ⟨_, pss_cons (ps_expr (pe_d (d_chk2 T (.dl ps)) hr (by rfl) (E := E) pc (pa_cons (pv 0) (pa_cons (pv 1) (pa_cons (pv 2) pa_nil)))))
      (pss_one (ps_ret (pe_op op_mod (pe_op op_sub (pe_d (d_least T) (hr.mono (by decide)) (by rfl) (E := E) p0 (pa_cons (fld (pv 0)) (pa_cons (pv 2) pa_nil))) (pe_d (d_least T) (hr.mono (by decide)) (by rfl) (E := E) p0 (pa_cons (fld (pv 0)) (pa_cons (pv 1) pa_nil)))) (fld (pv 0))))), ?_⟩
    refine ⟨_, rfl, _, rfl, _, rfl, a, v1, v2, rfl, r, o1, o2, fun H1 s1 => ?_⟩
    cases r with
    | dl e ht g1 g2 g3 =>
      rename_i dx tp
      cases r1 with
      | dl e1 =>
        cases r2 with
        | dl e2 =>
          rename_i t1 t2
          have lp : 0 < lcms ps := by
            have z := (lcms_bd g3 ps.length).1
            rw [List.take_length] at z
            exact z
          refine ⟨_, rfl, a, _, _, _, _, rfl, s1 _ _ e, T.c_Dials, T.n_Dials_periods, rfl, _, rfl, tp, t2, ps, n2, rfl, s1 _ _ ht, s1 _ _ e2, g2, g3, fun H2 s2 => ?_⟩
          have s12 : Same H H2 := fun b o h => s2 b o (s1 b o h)
          refine ⟨_, rfl, a, _, _, _, _, rfl, s12 _ _ e, T.c_Dials, T.n_Dials_periods, rfl, _, rfl, tp, t1, ps, n1, rfl, s12 _ _ ht, s12 _ _ e1, g2, g3, fun H3 s3 => ?_⟩
          have s13 : Same H H3 := fun b o h => s3 b o (s12 b o h)
          have q1 := q H3 s13
          dsimp only [btw] at q1
          rw [Int.sub_emod, ← Int.natCast_emod, ← Int.natCast_emod] at q1
          exact ⟨_, _, rfl, rfl, _, rfl, a, _, _, _, _, rfl, s13 _ _ e, T.c_Dials, T.n_Dials_modulus, rfl, _, _, rfl, rfl, (by show (0 : Int) < (lcms ps : Nat); omega), q1⟩
theorem m_btw (T : Tx K mg) (k : Kd) : Mfn P w K mg base (L2.CX P w) 7 (CK K k) "between" ["self", "earlier", "later"] (spBtw K k) := (m_btwX T k).mfn
end
end K23
set_option Elab.async false
set_option linter.all false
set_option maxRecDepth 100000
set_option maxHeartbeats 2000000
/-! enumerate(t), t a tuple. -/
namespace Enu
open PySem
open AutoSeq1 (wpAny_loadPart')
theorem newT (l : Addr) (items : Array Value) (n : Nat) (dct : Option Addr) (sl : Array (Option Value)) :
    Meets (Builtin.«enumerate.__new__» ⟨[.type "enumerate", .ref l], []⟩) (fun _ R s => s.heap.get? l = some ({ cls := .type "tuple", dict := dct, data := .seq items n, slots := sl } : Obj) ∧
      R (.ok (.ret (.ref (s.heap.push ({ cls := .type "tuple_iterator", data := .fields #[.ref l, .int 0 0] } : Obj)).objs.size)))
        { s with heap := (s.heap.push ({ cls := .type "tuple_iterator", data := .fields #[.ref l, .int 0 0] } : Obj)).push ({ cls := .type "enumerate", data := .fields #[.none, .bool false, .ref s.heap.objs.size, rawInt 0, .none, .none] } : Obj) }) :=
  .of_wp fun prog w A R s h => by
    obtain ⟨hp, g, d, tk, os⟩ := s
    obtain ⟨hl, h⟩ := h
    have hsub := sub_enumerate
    have hL : Heap.IsTuple (Shared.heap ⟨hp, g, d, tk, os⟩) l items := ⟨_, hl, rfl, n, rfl⟩
    wp_walk using wpAny_loadPart' hl
    refine (wpAny_stack_any fun st => (wpAny_pure ?_))
    split
    · rename_i c _ _ _ _ _
      cases (c == Value.type "enumerate")
      · wp_walk using wpAny_loadPart' hl, wpAny_pyIter_tuple hL
        exact ⟨_, rfl, h⟩
      · wp_walk using wpAny_loadPart' hl, wpAny_pyIter_tuple hL
        exact ⟨_, rfl, h⟩
    · wp_walk using wpAny_loadPart' hl, wpAny_pyIter_tuple hL
      exact ⟨_, rfl, h⟩
theorem call_enumT {prog : Program} {w : World} {A : Around} {E : Value → Shared → Prop} {s : Shared} {l : Addr} {items : Array Value} {Q : Value → Shared → Prop} (hL : s.heap.IsTuple l items)
    (h : ∀ h', IsEnum h' (s.heap.objs.size + 1) s.heap.objs.size 0 .none → h'.IsTupleIter s.heap.objs.size l 0 → (∀ b o, s.heap.get? b = some o → h'.get? b = some o) → Q (.ref (s.heap.objs.size + 1)) { s with heap := h' }) :
    wpAny (model prog w) A (call (.type "enumerate") [.ref l]) Q E s := by
  obtain ⟨⟨c, dct, dt, sl⟩, hl, hc, n, hd⟩ := hL
  obtain rfl : c = .type "tuple" := hc
  obtain rfl : dt = .seq items n := hd
  refine callType_new F.called_enumerate (by decide) (F.typeCall_enumerate_1 _) (F.newCall_enumerate_1 _) (fun obj => F.args_object_init_2 obj _) F.entry_enumerate_new (newT l items n dct sl) ⟨hl, ?_⟩
  have hz : (s.heap.push ({ cls := .type "tuple_iterator", data := .fields #[.ref l, .int 0 0] } : Obj)).objs.size = s.heap.objs.size + 1 := Heap.size_push ..
  show _ ∧ _
  rw [hz]
  have he : IsEnum ((s.heap.push ({ cls := .type "tuple_iterator", data := .fields #[.ref l, .int 0 0] } : Obj)).push
      ({ cls := .type "enumerate", data := .fields #[.none, .bool false, .ref s.heap.objs.size, rawInt 0, .none, .none] } : Obj)) (s.heap.objs.size + 1) s.heap.objs.size 0 .none := by
    have z := Heap.get?_push_size (s.heap.push ({ cls := .type "tuple_iterator", data := .fields #[.ref l, .int 0 0] } : Obj))
      (o := ({ cls := .type "enumerate", data := .fields #[.none, .bool false, .ref s.heap.objs.size, rawInt 0, .none, .none] } : Obj)) rfl
    rw [hz] at z
    exact z
  exact ⟨⟨_, he, rfl⟩, h _ he ⟨_, Heap.get?_push_of_some _ (Heap.get?_push_size _ rfl), rfl, rfl⟩ fun b o x => Heap.get?_push_of_some _ (Heap.get?_push_of_some _ x)⟩
end Enu
namespace Enu
open PySem PySem.Spec PyProof.Rows L2
/-- the tuple at a, each item in a new pair with its place -/
def IteT (K : PySem.W.Frag) (a : Addr) : It :=
  ⟨fun i H => ∃ (xs : List V) (x : V), SqT K H a xs ∧ xs[i]? = some x, fun i H v H' => ∃ T x, v = .ref T ∧ H T = none ∧ H' = upd H T (.tup [.int (i : Nat), x]) ∧ ∀ xs, SqT K H a xs → xs[i]? = some x, fun i H => ∃ xs : List V, SqT K H a xs ∧ xs.length = i⟩
theorem apart {h : Heap} {a it e : Addr} {items : Array Value} {i : Nat} {j : Int} {old : Value} (p : h.IsTuple a items) (hit : h.IsTupleIter it a i) (he : IsEnum h e it j old) : a ≠ it ∧ e ∉ [it, a] ∧ e ≠ it := by
  obtain ⟨o1, e1, c1, _⟩ := p
  obtain ⟨o2, e2, c2, _⟩ := hit
  have n1 : a ≠ it := by
    rintro rfl
    rw [e1] at e2
    cases e2
    rw [c1] at c2
    injection c2 with z
    exact absurd z (by decide)
  have n2 : e ≠ it := by
    rintro rfl
    rw [show h.get? e = _ from he] at e2
    cases e2
    injection c2 with z
    exact absurd z (by decide)
  have n3 : e ≠ a := by
    rintro rfl
    rw [show h.get? e = _ from he] at e1
    cases e1
    injection c1 with z
    exact absurd z (by decide)
  exact ⟨n1, by simp [n2, n3], n2⟩
theorem turn_enumT {P : Program} {w : World} {K : PySem.W.Frag} {elts : List Expr} {kk : Nat} {tpos : Pos} (a e it : Addr) :
    Turn P w K (.Tuple elts kk tpos) (IteT K a) [e, it] e (fun i h => (∃ old, IsEnum h e it ((i : Nat) : Int) old) ∧ h.IsTupleIter it a i ∧ e ≠ it) where
  mem := by simp
  obj := fun i h st b hb => by
    obtain ⟨⟨old, he⟩, ⟨o, ho, hc, hd⟩, _⟩ := st
    rcases (show b = e ∨ b = it by simpa using hb) with rfl | rfl
    · exact ⟨_, he, fun v q => nomatch q⟩
    · exact ⟨o, ho, fun v q => by rw [hd] at q; cases q⟩
  keep := fun i h h' st k => by
    obtain ⟨⟨old, he⟩, hi, hne⟩ := st
    exact ⟨⟨old, k e (by simp) _ he⟩, hi.at fun o q => k it (by simp) o q, hne⟩
  item := by
    intro X hP hw hK hc i pins s σ H E I hf st hg
    subst hP hw hK
    obtain ⟨⟨old, he⟩, hit, hne⟩ := st
    obtain ⟨xs, x, hq, hx⟩ := hg
    obtain ⟨its, rv, p, hz⟩ := I.tuple hq
    obtain ⟨u, hu, ru⟩ := rv.get hx
    obtain ⟨n1, n2, n3⟩ := apart p hit he
    have hel : e < s.heap.objs.size := Heap.lt_size he
    have hil : it < s.heap.objs.size := by
      obtain ⟨_, q, _⟩ := hit
      exact Heap.lt_size q
    have hlt : i < its.toArray.size := by
      have z := (List.getElem?_eq_some_iff.mp hu).1
      simpa using z
    refine wpAny_pyNext_enum_itemD (Draws.tuple (prog := X.prog) (w := X.w) (A := X.A.in1) (I.ok.hd hc) it a n1 its.toArray) he ⟨hit, p⟩ hlt n3 n2 fun y h' tk hP ho hst hT hsz hk => ?_
    obtain rfl : y = u := by
      have z : its.toArray[i]? = some y := hP
      rw [List.getElem?_toArray, hu] at z
      exact (Option.some.inj z).symm
    refine ⟨_, rfl, wpAny_letOwnedTupleGo_enum (s := { s with heap := h', toks := tk + 1 }) ho fun h'' he' sb => ?_⟩
    have hT2 : h''.get? s.heap.objs.size = some ({ cls := .type "tuple", data := .seq #[.int i tk, y] } : Obj) := (sb.2 _ (Nat.ne_of_gt hel)).trans hT
    have made : ObjOk X.prog X.w (upd H s.heap.objs.size (.tup [.int (i : Nat), x])) h'' s.heap.objs.size (.tup [.int (i : Nat), x]) :=
      ⟨by show 2 ≤ sizeLine; decide, [.int i tk, y], .cons ⟨_, rfl⟩ (.cons ru .nil), ⟨_, hT2, rfl, _, rfl⟩⟩
    have I1 : Inv X pins σ (upd H s.heap.objs.size (.tup [.int (i : Nat), x])) { s with heap := h'', toks := tk + 1 } :=
      I.turnedNew (ch := [e, it]) (fun b ob hb q => (sb.2 b (fun z => hb (by simp [z]))).trans (hk b ob (fun z => hb (by simp [z])) (fun z => hb (by simp [z])) q)) hf (Nat.le_refl _) made
    refine ⟨.ref s.heap.objs.size, _, I1, rfl, ⟨_, x, rfl, I.hok.fresh (Nat.le_refl _), rfl, fun ys hy => by rw [I.tuple_inj hy hq]; exact hx⟩, ⟨⟨y, ?_⟩, hst.1.at fun o q => (sb.2 it (Ne.symm hne)).trans q, hne⟩, fun b hb => ?_⟩
    · have e1 : ((i + 1 : Nat) : Int) = (i : Int) + 1 := by omega
      rw [e1]
      exact he'
    · have hb' : b < s.heap.objs.size := by
        rcases (show b = e ∨ b = it by simpa using hb) with rfl | rfl
        · exact hel
        · exact hil
      rw [upd_ne (Nat.ne_of_lt hb')]
      exact (hf b hb).1
  done := by
    intro X hP hw hK hc i pins s σ H E I hf st hg
    subst hP hw hK
    obtain ⟨⟨old, he⟩, hit, hne⟩ := st
    obtain ⟨xs, hq, hx⟩ := hg
    obtain ⟨its, rv, p, hz⟩ := I.tuple hq
    obtain ⟨f0, f1, f2, f3, f4, f5⟩ := hf it (by simp)
    obtain ⟨n1, n2, n3⟩ := apart p hit he
    have hl : i = its.toArray.size := by
      have z := rv.length
      rw [hx] at z
      simpa using z
    subst hl
    exact wpAny_pyNext_enum_endD (Draws.tuple (prog := X.prog) (w := X.w) (A := X.A.in1) (I.ok.hd hc) it a n1 its.toArray) he ⟨hit, p⟩ fun h' eb => ⟨rfl, I.turned (t' := s.toks) (fun b o hb q => eb b o hb q) f0 f1 f3 f4 f5⟩
  self := fun A i s Q E st h => by
    obtain ⟨⟨_, he⟩, _⟩ := st
    exact wpAny_pyIter_enum he h
/-- enumerate of a list or a tuple -/
def iEnumA (K : PySem.W.Frag) (ta : TA) : TI := fun σ H R => ta σ H fun vs H1 => ∃ a xs, vs = [.ref a] ∧ ((SqL K H1 a xs ∧ R (Ite K a) H1) ∨ (SqT K H1 a xs ∧ R (IteT K a) H1))
theorem pi_enumA {X : Cx} {e : Expr} {ta : TA} {p pos tpos : Pos} {elts : List Expr} {kk : Nat} (hg : Gl X "enumerate") (hm : X.mg "enumerate" = none) (ha : PA X [e] ta) (hs : starEach [e] X.env = [(false, eval e X.env)] := by rfl) :
    PI X (.Tuple elts kk tpos) (.Call (.Name "enumerate" p) [e] [] pos) (iEnumA X.K ta) := by
  refine ⟨fun pins s σ H R I h => ?_⟩
  refine (Call_ (ld_blt I hg hm boot_enumerate (PyProof.Rows.callWith_type1 (thn (ha.run pos pins s σ H _ I h) fun us s1 q0 => ?_) hs rfl)))
  obtain ⟨vs, H1, I1, r1, a, xs, rfl, q⟩ := q0
  cases r1 with
  | cons r rr =>
    cases rr
    cases r
    have new2 : ∀ b, b ∈ [s1.heap.objs.size + 1, s1.heap.objs.size] → FpOk X pins H1 b := fun b hb => by
      have hle : s1.heap.objs.size ≤ b := by
        rcases (show b = s1.heap.objs.size + 1 ∨ b = s1.heap.objs.size by simpa using hb) with rfl | rfl
        · exact Nat.le_add_right _ _
        · exact Nat.le_refl _
      exact I1.fpOk hle (I1.hok.fresh hle)
    rcases q with ⟨hq, q⟩ | ⟨hq, q⟩
    · obtain ⟨its, rv, p', hz⟩ := I1.list hq
      refine call_enumerate_list p'.isList fun h' he hit hsz hk => wpAny_pyIter_enum he ?_
      have I2 : Inv X pins σ H1 { s1 with heap := h' } := I1.kept (t' := s1.toks) hk
      exact ⟨_, _, _, _, H1, rfl, I2, turn_enum a (s1.heap.objs.size + 1) s1.heap.objs.size, ⟨⟨.none, he⟩, hit, Nat.succ_ne_self _⟩, new2, q⟩
    · obtain ⟨its, rv, p', hz⟩ := I1.tuple hq
      refine call_enumT p' fun h' he hit hk => wpAny_pyIter_enum he ?_
      have I2 : Inv X pins σ H1 { s1 with heap := h' } := I1.kept (t' := s1.toks) hk
      exact ⟨_, _, _, _, H1, rfl, I2, turn_enumT a (s1.heap.objs.size + 1) s1.heap.objs.size, ⟨⟨.none, he⟩, hit, Nat.succ_ne_self _⟩, new2, q⟩
theorem walk_enumT {K : PySem.W.Frag} {a : Addr} {xs : List V} : Walk (IteT K a) xs.length (fun H => SqT K H a xs) (YPair (fun i => some (.int (i : Nat))) (fun i => xs[i]?)) := by
  refine ⟨fun i H hi q => ⟨xs, xs[i], q, by simp [hi]⟩, fun H q => ⟨xs, q, rfl⟩, fun i H v H' hi q y => ?_⟩
  obtain ⟨T, x, h1, h2, h3, h4⟩ := y
  exact ⟨T, _, x, h1, h2, h3, rfl, h4 xs q⟩
end Enu
set_option Elab.async false
set_option linter.all false
set_option maxRecDepth 100000
set_option maxHeartbeats 4000000
namespace K23
open PySem PySem.Spec PyProof.Rows L2 Pre Dfs Vls NdefX
section
variable {P : Program} {w : World} {K : PySem.W.Frag} {mg : Str → Option Value} {base : Heap}
def spNone (C : Addr) : Sp := fun vs H Q _ => ∃ a dx : Addr, vs = [.ref a] ∧ H a = some (.ins C dx []) ∧ Q .non (upd H a (.ins C dx [("modulus", .non)]))
theorem f_plain (T : Tx K mg) : ∃ fd, FnOk P w K mg base CX0 1 (He.ma K (He.ga K "Plain") "__init__") fd ["self"] (spNone (He.ga K "Plain")) ∧ Binds K fd ["self"] [] := by
  obtain ⟨fd, F⟩ := T.q_Plain_init
  refine ⟨fd, F.ok (N := ["self"]) ⟨rfl, rfl, rfl, by decide +kernel, rfl, by decide +kernel, by decide +kernel⟩ (fun vs H Q E h => ?_) (fun cdv A outer s H vs Q E hr h => ?_), F.bindsN fun kV doc pm an cdv ct => bind1 fun a => rfl⟩
  · obtain ⟨_, _, rfl, _⟩ := h
    rfl
  · obtain ⟨a, dx, rfl, e, q⟩ := h
    refine ⟨_, pss_one (ps_fld (pv 0) pe_non rfl), ?_⟩
    exact ⟨_, rfl, a, _, dx, _, rfl, e, T.c_Plain, T.n_Plain_modulus, (by show (0 : Nat) < 1000; decide), q⟩
theorem f_rest (T : Tx K mg) : ∃ fd, FnOk P w K mg base CX0 1 (He.ma K (He.ga K "Restarting") "__init__") fd ["self"] (spNone (He.ga K "Restarting")) ∧ Binds K fd ["self"] [] := by
  obtain ⟨fd, F⟩ := T.q_Restarting_init
  refine ⟨fd, F.ok (N := ["self"]) ⟨rfl, rfl, rfl, by decide +kernel, rfl, by decide +kernel, by decide +kernel⟩ (fun vs H Q E h => ?_) (fun cdv A outer s H vs Q E hr h => ?_), F.bindsN fun kV doc pm an cdv ct => bind1 fun a => rfl⟩
  · obtain ⟨_, _, rfl, _⟩ := h
    rfl
  · obtain ⟨a, dx, rfl, e, q⟩ := h
    refine ⟨_, pss_one (ps_fld (pv 0) pe_non rfl), ?_⟩
    exact ⟨_, rfl, a, _, dx, _, rfl, e, T.c_Restarting, T.n_Restarting_modulus, (by show (0 : Nat) < 1000; decide), q⟩
def spMod (K : PySem.W.Frag) : Sp := fun vs H Q _ => ∃ (a C dx : Addr) (m : Nat), vs = [.ref a, .int m] ∧ H a = some (.ins C dx []) ∧ Cls K C ∧ NoAttr K C "modulus" ∧ 2 ≤ m ∧ m ≤ 10 ^ 18 ∧ Q .non (upd H a (.ins C dx [("modulus", .int m)]))
theorem f_wrap (T : Tx K mg) : ∃ fd, FnOk P w K mg base CX0 3 (He.ma K (He.ga K "Wrapping") "__init__") fd ["self", "modulus"] (spMod K) ∧ Binds K fd ["self", "modulus"] [] := by
  obtain ⟨fd, F⟩ := T.q_Wrapping_init
  refine ⟨fd, F.ok (N := ["self", "modulus"]) ⟨rfl, rfl, rfl, by decide +kernel, rfl, by decide +kernel, by decide +kernel⟩ (fun vs H Q E h => ?_) (fun cdv A outer s H vs Q E hr h => ?_), F.bindsN fun kV doc pm an cdv ct => bind2 fun a b => rfl⟩
  · obtain ⟨_, _, _, _, rfl, _⟩ := h
    rfl
  · obtain ⟨a, C, dx, m, rfl, e, c, n, h1, h2, q⟩ := h
    obtain ⟨tm, hm⟩ := T.i_MOST_MODULUS
    refine ⟨_, pss_cons (ps_if (pt_not (pt_val (pe_d (d_within T) hr (by rfl) (E := E) p0 (pa_cons (pv 1) (pa_cons pe_int (pa_cons (pe_glob (v := .int (10 ^ 18)) (by rfl) hm ⟨tm, rfl⟩) pa_nil)))))) (pss_one ps_never) pss_nil)
      (pss_one (ps_fld (pv 0) (pv 1) rfl)), ?_⟩
    refine ⟨_, rfl, _, _, _, rfl, .int _, _, rfl, ?_⟩
    rw [inR_of (by omega) (by omega)]
    refine ite3 (fun h => by cases h) (fun _ => ?_)
    exact ⟨_, rfl, _, rfl, a, _, dx, _, rfl, e, c, n, (by show (0 : Nat) < 1000; decide), q⟩
theorem lcms_ge {ps : List Nat} (h1 : 1 ≤ ps.length) (h : ∀ p ∈ ps, 2 ≤ p ∧ p ≤ 1000) : 2 ≤ lcms ps := by
  have hi : ps.length - 1 < ps.length := by omega
  have z := lcms_next (ps := ps) (i := ps.length - 1) (p := ps[ps.length - 1]) (by simp [hi])
  have e : ps.length - 1 + 1 = ps.length := by omega
  rw [e, List.take_length] at z
  have b := (lcms_bd h (ps.length - 1)).1
  have g := (h _ (List.getElem_mem hi)).1
  have d := Nat.le_of_dvd (Nat.lcm_pos b (by omega)) (Nat.dvd_lcm_right (lcms (ps.take (ps.length - 1))) ps[ps.length - 1])
  rw [z]
  omega
def spDials0 (K : PySem.W.Frag) : Sp := fun vs H Q _ => ∃ (a t dx : Addr) (ps : List Nat), vs = [.ref a, .ref t] ∧ H a = some (.ins (He.ga K "Dials") dx []) ∧ H t = some (.tup (ivs ps)) ∧ 1 ≤ ps.length ∧ ps.length ≤ 6 ∧ (∀ p ∈ ps, 2 ≤ p ∧ p ≤ 1000) ∧
  ∀ H', But a H H' → Reg K H' a (.dl ps) → Q .non H'
def spDials (K : PySem.W.Frag) : Sp := fun vs H Q _ => ∃ (a dx : Addr) (ps : List Nat), vs = .ref a :: ivs ps ∧ H a = some (.ins (He.ga K "Dials") dx []) ∧ 1 ≤ ps.length ∧ ps.length ≤ 6 ∧ (∀ p ∈ ps, 2 ≤ p ∧ p ≤ 1000) ∧
  ∀ H', But a H H' → Reg K H' a (.dl ps) → Q .non H'
theorem r_dials (T : Tx K mg) (hopq : Sup.Opq base) (hf : ((P.main.file : Str) == PySem.Challenge.pw_gaugeroad_k23_registers_and_their_readin.main.file) = true) (ht : (P.main.scope.names.lookup ("super" : Str)).isSome = false) :
    FnR P w K mg base CX0 4 (He.ma K (He.ga K "Dials") "__init__") (spDials K) := by
  have nd : (["self", "periods", "__class__", "at", "period", "together"] : List Str).Nodup := by decide +kernel
  obtain ⟨cc, c, fd, S⟩ := Hkc.supB_ok (P := P) (m := m_Dials_init) T.su_Dials rfl T.v_Dials_init hf ht
  obtain ⟨fw, Fw, Bw⟩ := f_wrap (P := P) (w := w) (base := base) T
  obtain ⟨tn, hn⟩ := T.i_MOST_PERIODS
  obtain ⟨tm, hm⟩ := T.i_MOST_PERIOD
  have R := Sup.fnS_star (w := w) (mg := mg) (base := base) (CX := CX0) (k := 3) (ps := ["self"]) (pv := "periods") (N := ["self", "periods", "__class__", "at", "period", "together"]) (sp := spDials0 K) S (nscope_by (by decide +kernel)) StX.cxUp_none
    (fun kV doc pm ct an => StX.bind_star1 (B := fun vs => bindArgs (PySem.W.fnX m_Dials_init.name m_Dials_init.qual m_Dials_init.params m_Dials_init.body m_Dials_init.scope [("__class__", cc)] .none kV doc pm an (.ref c) ct) ⟨vs, []⟩) (fun a => rfl) (fun a r rs => rfl)) (fun A outer s H vs Q E hr h => ?_)
  · refine R.imp fun vs H Q E h => ?_
    obtain ⟨a, dx, ps, rfl, ea, h1, h2, h3, q⟩ := h
    refine ⟨[.ref a], ivs ps, rfl, rfl, by rw [ivs_len, sizeLine_eq]; omega, fun p hp => ?_⟩
    have s1 : Same H (upd H p (.tup (ivs ps))) := Same.upd hp
    exact ⟨a, p, dx, ps, rfl, s1 _ _ ea, upd_same, h1, h2, h3, fun H' b r => q H' ((But.of s1).trans b) r⟩
  · obtain ⟨a, t, dx, ps, rfl, ea, et, h1, h2, h3, q⟩ := h
    refine ⟨_, Sup.psa_cons (ps_if (pt_not (pt_chain op_le op_le pe_int (pe_callB call_len_seq (by rfl) T.f_len PySem.boot_len (pa_cons (pv 1) pa_nil)) (pe_glob (v := .int 6) (by rfl) hn ⟨tn, rfl⟩))) (pss_one ps_never) pss_nil)
      (Sup.psa_cons (ps_for (passes_of rfl) rfl (Enu.pi_enumA (by rfl) T.f_enumerate (pa_cons (pv 1) pa_nil)) (pg_tup rfl (pgs_cons (pg_name (i := 3) nd rfl (Or.inl rfl)) (pgs_cons (pg_name (i := 4) nd rfl (Or.inl rfl)) pgs_nil)))
          (pss_one (ps_if (pt_not (pt_val (pe_d (d_within T) (hr.mono (by decide)) (by rfl) (E := E) p0 (pa_cons (pv 4) (pa_cons pe_int (pa_cons (pe_glob (v := .int 1000) (by rfl) hm ⟨tm, rfl⟩) pa_nil)))))) (pss_one ps_never) pss_nil)))
      (Sup.psa_cons (ps_set (i := 5) nd rfl (Or.inl rfl) pe_int)
      (Sup.psa_cons (ps_for (passes_of rfl) rfl (pi_tup (pv 1)) (pg_name (i := 4) nd rfl (Or.inl rfl)) (pss_one (ps_set (i := 5) nd rfl (Or.inl rfl) (pe_callBfun Crt.cr_lcm (by rfl) T.g_lcm (pa_cons (pv 5) (pa_cons (pv 4) pa_nil))))))
      (Sup.psa_super S hopq rfl rfl rfl rfl rfl T.su1_Dials T.su2_Dials T.su3_Dials Fw hr Bw (E := E) p0 (pa_cons (pv 5) pa_nil)
      (Sup.psa_of (pss_one (ps_fld (pv 0) (pv 1) rfl))))))), ?_⟩
    have nt : t ≠ a := by
      rintro rfl
      rw [ea] at et
      cases et
    refine ⟨_, rfl, t, _, rfl, .inr (SqT.of et), _, _, rfl, rfl, _, rfl, ite3 (fun _ => ?_) (fun h => ?_)⟩
    · refine ⟨_, _, rfl, rfl, _, rfl, ite3 (fun h => ?_) (fun _ => ?_)⟩
      · rw [decide_eq_true (show (((ivs ps).length : Nat) : Int) ≤ 6 by rw [ivs_len]; omega)] at h
        cases h
      refine ⟨_, rfl, t, _, rfl, .inr ⟨SqT.of et, ?_⟩⟩
      refine for_it Enu.walk_enumT (fun i σ H1 => Same H H1 ∧ ∃ x3 x4, σ = [some (.ref a), some (.ref t), none, x3, x4, none]) ⟨Same.refl H, none, none, rfl⟩ (fun i σ H1 _ z => SqT.of (z.1 _ _ et)) (fun i v σ H1 H2 hi z y => ?_) (fun σ H1 z => ?_)
      · obtain ⟨s1, x3, x4, rfl⟩ := z
        obtain ⟨Tp, x, y, rfl, hTp, rfl, hx, hy⟩ := y
        obtain rfl : V.int (i : Nat) = x := Option.some.inj hx
        obtain ⟨p, hp, rfl⟩ := ivs_at hy
        obtain ⟨p2, p3⟩ := h3 p (List.mem_of_getElem? hp)
        refine ⟨Tp, _, rfl, SqT.of upd_same, rfl, _, _, rfl, _, _, rfl, rfl, ?_⟩
        refine ⟨_, rfl, _, _, _, rfl, .int _, _, rfl, ?_⟩
        rw [inR_of (by omega) (by omega)]
        exact ite3 (fun h => by cases h) (fun _ => ⟨Same.new s1 hTp, _, _, rfl⟩)
      · obtain ⟨s1, x3, x4, rfl⟩ := z
        refine ⟨_, rfl, t, rfl, ⟨_, SqT.of (s1 _ _ et)⟩, ?_⟩
        refine for_it (walk_tup (xs := ivs ps)) (fun i σ H2 => Same H H2 ∧ ∃ x3 x4, σ = [some (.ref a), some (.ref t), none, x3, x4, some (.int ((lcms (ps.take i) : Nat) : Int))]) ⟨s1, x3, x4, rfl⟩ (fun i σ H2 _ z => SqT.of (z.1 _ _ et)) (fun i v σ H2 H3 hi z y => ?_) (fun σ H2 z => ?_)
        · obtain ⟨s2, y3, y4, rfl⟩ := z
          obtain ⟨rfl, hx⟩ := y
          obtain ⟨p, hp, rfl⟩ := ivs_at hx
          obtain ⟨p2, p3⟩ := h3 p (List.mem_of_getElem? hp)
          have hi2 : i < ps.length := (List.getElem?_eq_some_iff.mp hp).1
          obtain ⟨Lp, Lb⟩ := lcms_bd h3 i
          have Lb2 : lcms (ps.take i) ≤ 1000 ^ 5 := Nat.le_trans Lb (Nat.pow_le_pow_right (by decide) (by omega))
          have Lb3 : lcms (ps.take i) < 2 ^ 64 := Nat.lt_of_le_of_lt Lb2 (by decide)
          refine ⟨_, rfl, _, rfl, lcms (ps.take i), p, rfl, Lb3, by omega, Lp, by omega, s2, y3, some (.int p), ?_⟩
          rw [lcms_next hp]
          rfl
        · obtain ⟨s2, y3, y4, rfl⟩ := z
          have Lb : lcms ps ≤ 10 ^ 18 := by
            have z := (lcms_bd h3 ps.length).2
            rw [List.take_length] at z
            exact Nat.le_trans z (Nat.le_trans (Nat.pow_le_pow_right (by decide) h2) (by decide))
          rw [ivs_len, List.take_length]
          refine ⟨a, dx, _, rfl, s2 _ _ ea, _, rfl, s2 _ _ ea, a, _, dx, lcms ps, rfl, s2 _ _ ea, T.c_Dials, T.n_Dials_modulus, lcms_ge h1 h3, Lb, ?_⟩
          refine ⟨_, rfl, _, rfl, a, _, dx, _, rfl, upd_same, T.c_Dials, T.n_Dials_periods, (by show (1 : Nat) < 1000; decide), ?_⟩
          refine q _ (((But.of s2).set).set) (.dl upd_same ?_ h1 h2 h3)
          rw [upd_ne nt, upd_ne nt]
          exact s2 _ _ et
    · have h := of_decide_eq_false h
      rw [ivs_len] at h
      omega
end
end K23
set_option Elab.async false
set_option linter.all false
set_option maxRecDepth 100000
set_option maxHeartbeats 4000000
namespace K23
open PySem PySem.Spec PyProof.Rows L2 Pre Dfs Vls
/-- the word of a kind, its numbers -/
def Kd.word : Kd → Str
  | .pl => "plain"
  | .rs => "restarting"
  | .md _ => "modulo"
  | .dl _ => "dials"
def Kd.args : Kd → List Nat
  | .pl => []
  | .rs => []
  | .md m => [m]
  | .dl ps => ps
def Kd.Good : Kd → Prop
  | .pl => True
  | .rs => True
  | .md m => 2 ≤ m ∧ m ≤ 10 ^ 18
  | .dl ps => 1 ≤ ps.length ∧ ps.length ≤ 6 ∧ ∀ p ∈ ps, 2 ≤ p ∧ p ≤ 1000
def Kd.text (k : Kd) : List Str := k.word :: k.args.map num
theorem but_none {H H1 : Hp} {a L : Addr} (b : But a H H1) (ha : ∃ o, H1 a = some o) (hL : H1 L = none) : H L = none := by
  cases q : H L with
  | none => rfl
  | some o =>
    by_cases e : L = a
    · subst e
      obtain ⟨u, hu⟩ := ha
      rw [hu] at hL
      cases hL
    · rw [b L o e q] at hL
      cases hL
theorem but_put {H H1 : Hp} {a L : Addr} {o : HO} (b : But a H H1) (n : H L = none) : But a H (upd H1 L o) := fun c u z h => by
  rw [upd_ne (ne_of_none h n)]
  exact b c u z h
theorem ivs_next {ps : List Nat} {i p : Nat} (h : ps[i]? = some p) : ivs (ps.take i) ++ [.int (p : Int)] = ivs (ps.take (i + 1)) := by
  unfold ivs
  rw [List.take_succ, h, List.map_append]
  rfl
section
variable {P : Program} {w : World} {K : PySem.W.Frag} {mg : Str → Option Value} {base : Heap}
def spNums (K : PySem.W.Frag) : Sp := fun vs H Q _ => ∃ (a dx l : Addr) (k : Kd), vs = [.ref a, .str k.word] ∧ k.Good ∧ Wds K H a dx l k.text 1 ∧
  ∀ (H' : Hp) (L : Addr), But a H H' → H L = none → H' L = some (.lst (ivs k.args)) → Wds K H' a dx l k.text k.text.length → Q (.ref L) H'
theorem d_nums (T : Tx K mg) : Dfn P w K mg base CX0 5 "take_numbers" ["words", "kind"] (spNums K) := by
  have nd : (["words", "kind", "periods"] : List Str).Nodup := by decide +kernel
  refine dfn T.q_take_numbers T.g_take_numbers (N := ["words", "kind", "periods"]) ⟨rfl, rfl, rfl, by decide +kernel, rfl, by decide +kernel, by decide +kernel⟩ (fun vs H Q E h => ?_) (fun kV doc pm an cdv ct => bind2 fun a b => rfl) (fun cdv A outer s H vs Q E hr h => ?_)
  · obtain ⟨_, _, _, _, rfl, _⟩ := h
    rfl
  · obtain ⟨a, dx, l, k, rfl, hk, W, q⟩ := h
    obtain ⟨t1, h1⟩ := T.i_MOST_MODULUS
    obtain ⟨t2, h2⟩ := T.i_MOST_PERIOD
    obtain ⟨t3, h3⟩ := T.i_MOST_PERIODS
    refine ⟨_, pss_cons (ps_if (pt_cmpR op_eq (pv 1) pe_str (nomark _)) (pss_one (ps_ret (pe_lst (pa_cons (Dfs.pe_m (pv 0) (m_num T) hr (E := E) p0 (pa_cons pe_int (pa_cons (pe_glob (v := .int (10 ^ 18)) (by rfl) h1 ⟨t1, rfl⟩) pa_nil))) pa_nil)))) pss_nil)
      (pss_cons (ps_if (pt_cmpR op_ne (pv 1) pe_str (nomark _)) (pss_one (ps_ret (pe_lst pa_nil))) pss_nil)
      (pss_cons (ps_set (i := 2) nd rfl (Or.inl rfl) (pe_lst (pa_cons (Dfs.pe_m (pv 0) (m_num T) hr (E := E) p0 (pa_cons pe_int (pa_cons (pe_glob (v := .int 1000) (by rfl) h2 ⟨t2, rfl⟩) pa_nil))) pa_nil)))
      (pss_cons (ps_while (passes_of rfl) (PW.pt (pw_and (pt_cmpR op_lt (pe_callB call_len_seq (by rfl) T.f_len PySem.boot_len (pa_cons (pv 2) pa_nil)) (pe_glob (v := .int 6) (by rfl) h3 ⟨t3, rfl⟩) (nomark _))
          (pw_and1 (pt_not (pt_val (Dfs.pe_m0 (pv 0) (m_done T) (hr.mono (by decide)) (E := E) p0))))))
        (pss_one (ps_expr (pe_bm PySem.F.plainAttrs_list PySem.F.slot_list_append PySem.F.type_list_append mt_append (pv 2) (pa_cons (Dfs.pe_m (pv 0) (m_num T) hr (E := E) p0 (pa_cons pe_int (pa_cons (pe_glob (v := .int 1000) (by rfl) h2 ⟨t2, rfl⟩) pa_nil))) pa_nil)))))
      (pss_one (ps_ret (pv 2)))))), ?_⟩
    refine ⟨_, rfl, rfl, _, rfl, ?_⟩
    cases k with
    | pl =>
      refine ite3 (fun h => by cases h) (fun _ => ⟨_, rfl, rfl, _, rfl, ite3 (fun _ => ?_) (fun h => by cases h)⟩)
      exact ⟨Nat.zero_le _, fun L hL => q _ L ((But.refl a H).new hL) hL upd_same (W.same (Same.upd hL))⟩
    | rs =>
      refine ite3 (fun h => by cases h) (fun _ => ⟨_, rfl, rfl, _, rfl, ite3 (fun _ => ?_) (fun h => by cases h)⟩)
      exact ⟨Nat.zero_le _, fun L hL => q _ L ((But.refl a H).new hL) hL upd_same (W.same (Same.upd hL))⟩
    | md m =>
      obtain ⟨m1, m2⟩ := hk
      refine ite3 (fun _ => ?_) (fun h => by cases h)
      refine ⟨_, rfl, a, _, _, rfl, W.at_, rfl, a, dx, l, _, 1, m, 2, 10 ^ 18, rfl, W, rfl, by omega, by omega, by omega, fun H1 b W1 => ⟨(by show (1 : Nat) ≤ sizeLine; rw [sizeLine_eq]; decide), fun L hL => ?_⟩⟩
      exact q _ L (b.new hL) (but_none b ⟨_, W1.at_⟩ hL) upd_same (W1.same (Same.upd hL))
    | dl ps =>
      obtain ⟨g1, g2, g3⟩ := hk
      refine ite3 (fun h => by cases h) (fun _ => ⟨_, rfl, rfl, _, rfl, ite3 (fun h => by cases h) (fun _ => ?_)⟩)
      have tx : ∀ i p, ps[i]? = some p → (Kd.text (.dl ps))[i + 1]? = some (num p) := fun i p h => by
        show (ps.map num)[i]? = some (num p)
        rw [List.getElem?_map, h]
        rfl
      have tl : (Kd.text (.dl ps)).length = ps.length + 1 := by
        show (ps.map num).length + 1 = _
        rw [List.length_map]
      have hp0 : ps[0]? = some ps[0] := by simp [show 0 < ps.length by omega]
      obtain ⟨m1, m2⟩ := g3 _ (List.mem_of_getElem? hp0)
      refine ⟨_, rfl, a, _, _, rfl, W.at_, rfl, a, dx, l, _, 1, ps[0], 2, 1000, rfl, W, tx 0 _ hp0, by omega, by omega, by omega, fun H1 b1 W1 => ⟨(by show (1 : Nat) ≤ sizeLine; rw [sizeLine_eq]; decide), fun L hL => ?_⟩⟩
      have hLn : H L = none := but_none b1 ⟨_, W1.at_⟩ hL
      refine ⟨fun m σ H2 => ∃ i, i + m = ps.length ∧ 1 ≤ i ∧ σ = [some (.ref a), some (.str "dials"), some (.ref L)] ∧ Wds K H2 a dx l (Kd.text (.dl ps)) (i + 1) ∧ H2 L = some (.lst (ivs (ps.take i))) ∧ But a H H2,
        ⟨ps.length - 1, 1, by omega, Nat.le_refl _, rfl, W1.same (Same.upd hL), ?_, b1.new hL⟩, ?_⟩
      · rw [upd_same]
        match ps, g1 with
        | p :: r, _ => rfl
      rintro m σ H2 ⟨i, hm, hi, rfl, W2, hL2, b2⟩
      have fin : ∀ (h : i = ps.length), Q (.ref L) H2 := fun h => by
        subst h
        rw [List.take_length] at hL2
        rw [← tl] at W2
        exact q H2 L b2 hLn hL2 W2
      have ln : (ivs (ps.take i)).length = i := by
        rw [ivs_len, List.length_take]
        omega
      refine ⟨_, rfl, L, _, rfl, .inl (SqL.of hL2), _, _, rfl, rfl, _, rfl, ?_⟩
      rw [ln]
      refine ite3 (fun h6 => ?_) (fun h6 => ?_)
      · refine ⟨_, rfl, a, _, _, rfl, W2.at_, rfl, a, dx, l, _, i + 1, rfl, W2, _, rfl, ?_⟩
        rw [tl]
        by_cases hx : i = ps.length
        · rw [decide_eq_true (by omega)]
          exact ite3 (fun h => by cases h) (fun _ => ⟨_, rfl, fin hx⟩)
        · rw [decide_eq_false (by omega)]
          refine ite3 (fun _ => ?_) (fun h => by cases h)
          have hpi : ps[i]? = some ps[i] := by simp [show i < ps.length by omega]
          obtain ⟨k1, k2⟩ := g3 _ (List.mem_of_getElem? hpi)
          refine ⟨fun σ' H3 => σ' = [some (.ref a), some (.str "dials"), some (.ref L)] ∧ Wds K H3 a dx l (Kd.text (.dl ps)) (i + 1 + 1) ∧ H3 L = some (.lst (ivs (ps.take (i + 1)))) ∧ But a H H3,
            fun σ' H3 z => ⟨m - 1, by omega, i + 1, by omega, by omega, z⟩, ?_⟩
          have nL : L ≠ a := by
            rintro rfl
            rw [W1.at_] at hL
            cases hL
          have nl : l ≠ L := ne_of_none W1.at_l hL
          refine ⟨_, rfl, .inl ⟨rfl, _, SqL.of hL2⟩, _, rfl, a, _, _, rfl, W2.at_, rfl, a, dx, l, _, i + 1, ps[i], 2, 1000, rfl, W2, tx i _ hpi, by omega, by omega, by omega, fun H3 b3 W3 => ?_⟩
          refine ⟨L, _, _, rfl, rfl, b3 _ _ nL hL2, by rw [ln, sizeLine_eq]; omega, rfl, ⟨?_, ?_, W3.few⟩, ?_, but_put (b2.trans b3) hLn⟩
          · rw [upd_ne nL.symm]
            exact W3.at_
          · rw [upd_ne nl]
            exact W3.at_l
          · rw [upd_same, ivs_next hpi]
      · have h6 := of_decide_eq_false h6
        exact ite3 (fun h => by cases h) (fun _ => ⟨_, rfl, fin (by omega)⟩)
end
end K23
set_option Elab.async false
set_option linter.all false
set_option maxRecDepth 100000
set_option maxHeartbeats 2000000
/-! C(*y). -/
namespace Mks
open PySem PySem.Spec PyProof.Rows L2 StX
section
variable {X : Cx} {CX : CXT} {k : Nat} {f C : Addr} {sp : Sp} {E : XK} {x : Str} {e : Expr} {te : TE} {p sp_ pos : Pos}
def tMakeS (K : PySem.W.Frag) (C : Addr) (sp : Sp) (E : XK) (te : TE) : TE := fun σ H Q => te σ H fun y H1 => ∃ a xs, y = V.ref a ∧ (SqT K H1 a xs ∨ SqL K H1 a xs) ∧ ∀ x dx, H1 x = none → H1 dx = none → dx ≠ x →
  sp (V.ref x :: xs) (upd (upd H1 dx (.own x)) x (.ins C dx [])) (fun v H2 => v = .non ∧ Q (.ref x) H2) E
theorem pe_makeS (M : Mk X.K C f) (F : FnR X.prog X.w X.K X.mg X.base CX k f sp) (hr : Room (k + 1) X.A) (hg : Gl X x) (hm : X.mg x = some (.ref C)) (hx : Passes CX X E) (he : PE X e te) (hd : (x == ("__debug__" : Str)) = false := by decide)
    (hst : starEach [.Starred e sp_] X.env = [(true, eval e X.env)] := by rfl) : PE X (.Call (.Name x p) [.Starred e sp_] [] pos) (tMakeS X.K C sp E te) := by
  refine ⟨fun pins s σ H Q I h => ?_⟩
  refine (wpAny_Call_Name_kw (ld_glob I hg hm ?_ hd))
  refine PySem.W.callWith_S (h₀ := X.base) I.ok.mod.kin M.kp (thn (he.run pins s σ H _ I h) ?_) hst
  rintro v s1 ⟨y, H1, I1, ry, a, xs, rfl, hxs, q⟩
  obtain rfl : v = Value.ref a := ry
  exact star_any I1 hxs fun us s2 I2 rv => ⟨I2.kIn, run_makeR M F hr hx I2 rv q⟩
end
end Mks
set_option Elab.async false
set_option linter.all false
set_option maxRecDepth 100000
set_option maxHeartbeats 4000000
namespace K23
open PySem PySem.Spec PyProof.Rows L2 Pre Dfs Vls
theorem text_ne (k : Kd) : k.text ≠ [] := by
  unfold Kd.text
  simp
theorem text_few {k : Kd} (g : k.Good) : k.text.length ≤ 1000 := by
  unfold Kd.text
  rw [List.length_cons, List.length_map]
  cases k with
  | pl => show 0 + 1 ≤ 1000; omega
  | rs => show 0 + 1 ≤ 1000; omega
  | md m => show 1 + 1 ≤ 1000; omega
  | dl ps =>
    have h := g.2.1
    show ps.length + 1 ≤ 1000
    omega
theorem text_free {k : Kd} : ∀ p ∈ k.text, 32 ∉ p.cps.toList := by
  intro p hp
  rcases List.mem_cons.mp hp with rfl | hp
  · cases k with
    | pl => show 32 ∉ (("plain" : Str)).cps.toList; decide +kernel
    | rs => show 32 ∉ (("restarting" : Str)).cps.toList; decide +kernel
    | md m => show 32 ∉ (("modulo" : Str)).cps.toList; decide +kernel
    | dl ps => show 32 ∉ (("dials" : Str)).cps.toList; decide +kernel
  · obtain ⟨n, _, rfl⟩ := List.mem_map.mp hp
    rw [num_tl]
    exact TL.numL_free (.inl (by decide))
theorem same_of {H H1 : Hp} {a : Addr} (b : But a H H1) (n : H a = none) : Same H H1 := fun c u h => b c u (fun e => by subst e; rw [n] at h; cases h) h
theorem same_none {H H1 : Hp} {a : Addr} (s : Same H H1) (n : H1 a = none) : H a = none := by
  cases q : H a with
  | none => rfl
  | some o =>
    rw [s _ _ q] at n
    cases n
theorem same3 {H H1 : Hp} {a b : Addr} {o u v : HO} (s : Same H H1) (na : H1 a = none) (nb : H1 b = none) : Same H (upd (upd (upd H1 a o) b u) b v) :=
  Same.put (Same.put (Same.put s (same_none s na)) (same_none s nb)) (same_none s nb)
section
variable {P : Program} {w : World} {K : PySem.W.Frag} {mg : Str → Option Value} {base : Heap}
def spRead (K : PySem.W.Frag) : Sp := fun vs H Q _ => ∃ (c : V) (k : Kd), vs = [c, .str (Txt.join " " k.text)] ∧ k.Good ∧ (Txt.join " " k.text).length ≤ 100000 ∧ ∀ (H' : Hp) (r : Addr), Same H H' → Reg K H' r k → Q (.ref r) H'
/-- the word of a kind and its numbers -/
def spTd (K : PySem.W.Frag) : Sp := fun vs H Q _ => ∃ (a dx l : Addr) (k : Kd), vs = [.ref a] ∧ k.Good ∧ Wds K H a dx l k.text 0 ∧
  ∀ (H' : Hp) (L p : Addr), But a H H' → H L = none → H' L = some (.lst (ivs k.args)) → H' p = some (.tup [.str k.word, .ref L]) → Wds K H' a dx l k.text k.text.length → Q (.ref p) H'
theorem d_td (T : Tx K mg) : Dfn P w K mg base CX0 6 "take_display" ["words"] (spTd K) := by
  have nd : (["words", "kind"] : List Str).Nodup := by decide +kernel
  refine dfn T.q_take_display T.g_take_display (N := ["words", "kind"]) ⟨rfl, rfl, rfl, by decide +kernel, rfl, by decide +kernel, by decide +kernel⟩ (fun vs H Q E h => ?_) (fun kV doc pm an cdv ct => bind1 fun a => rfl) (fun cdv A outer s H vs Q E hr h => ?_)
  · obtain ⟨_, _, _, _, rfl, _⟩ := h
    rfl
  · obtain ⟨x, dx, l, k, rfl, g, W1, q⟩ := h
    refine ⟨_, pss_cons (ps_set (i := 1) nd rfl (Or.inl rfl) (pe_methR (pv 0) T.c_Words T.m_Words_take (r_take T) (hr.mono (by decide)) (E := E) p0 (pa_cons pe_str (pa_cons pe_str (pa_cons pe_str (pa_cons pe_str pa_nil))))))
      (pss_one (ps_ret (pe_tup (pa_cons (pv 1) (pa_cons (pe_d (d_nums T) hr (by rfl) (E := E) p0 (pa_cons (pv 0) (pa_cons (pv 1) pa_nil))) pa_nil))))), ?_⟩
    refine ⟨_, rfl, x, dx, _, rfl, W1.at_, rfl, x, dx, l, k.text, ["plain", "modulo", "restarting", "dials"], 0, k.word, rfl, by decide, W1, rfl, ?_, fun H2 b2 W2 => ?_⟩
    · cases k <;> simp [Kd.word]
    refine ⟨_, rfl, _, rfl, _, rfl, x, dx, l, k, rfl, g, W2, fun H3 L b3 hL hL3 W3 => ?_⟩
    refine ⟨by show (2 : Nat) ≤ sizeLine; rw [sizeLine_eq]; decide, fun p hp => ?_⟩
    have nx : x ≠ p := ne_of_none W3.at_ hp
    refine q _ L p ?_ ?_ ?_ upd_same ?_
    · exact (b2.trans b3).new hp
    · exact but_none b2 ⟨_, W2.at_⟩ hL
    · rw [upd_ne (ne_of_none hL3 hp)]
      exact hL3
    · exact W3.same (Same.upd hp)
/-- what shows totals as a kind's word and numbers tell -/
def spDo (K : PySem.W.Frag) : Sp := fun vs H Q _ => ∃ (L : Addr) (k : Kd), vs = [.str k.word, .ref L] ∧ k.Good ∧ H L = some (.lst (ivs k.args)) ∧ ∀ (H' : Hp) (r : Addr), Same H H' → Reg K H' r k → Q (.ref r) H'
theorem d_do (T : Tx K mg) (hopq : Sup.Opq base) (hf : ((P.main.file : Str) == PySem.Challenge.pw_gaugeroad_k23_registers_and_their_readin.main.file) = true) (ht : (P.main.scope.names.lookup ("super" : Str)).isSome = false) : Dfn P w K mg base CX0 6 "display_of" ["kind", "numbers"] (spDo K) := by
  have nd : (["kind", "numbers"] : List Str).Nodup := by decide +kernel
  obtain ⟨fp, Fp, Bp⟩ := f_plain (P := P) (w := w) (base := base) T
  obtain ⟨fr, Fr, Br⟩ := f_rest (P := P) (w := w) (base := base) T
  obtain ⟨fw, Fw, Bw⟩ := f_wrap (P := P) (w := w) (base := base) T
  have Rd := r_dials (w := w) (mg := mg) T hopq hf ht
  refine dfn T.q_display_of T.g_display_of (N := ["kind", "numbers"]) ⟨rfl, rfl, rfl, by decide +kernel, rfl, by decide +kernel, by decide +kernel⟩ (fun vs H Q E h => ?_) (fun kV doc pm an cdv ct => bind2 fun a b => rfl) (fun cdv A outer s H vs Q E hr h => ?_)
  · obtain ⟨_, _, rfl, _⟩ := h
    rfl
  · obtain ⟨L, k, rfl, g, hL3, q⟩ := h
    refine ⟨_, pss_cons (ps_if (pt_cmpR op_eq (pv 0) pe_str (nomark _)) (pss_one (ps_ret (pe_make0 T.k_Plain Fp (hr.mono (by decide)) (by rfl) T.g_Plain Bp .nil (E := E) p0))) pss_nil)
      (pss_cons (ps_if (pt_cmpR op_eq (pv 0) pe_str (nomark _)) (pss_one (ps_ret (pe_make0 T.k_Restarting Fr (hr.mono (by decide)) (by rfl) T.g_Restarting Br .nil (E := E) p0))) pss_nil)
      (pss_one (ps_ret (pe_ifExp (pt_cmpR op_eq (pv 0) pe_str (nomark _)) (Mks.pe_makeS T.k_Wrapping (Fw.raw Bw .nil) (hr.mono (by decide)) (by rfl) T.g_Wrapping (E := E) p0 (pv 1)) (Mks.pe_makeS T.k_Dials Rd hr (by rfl) T.g_Dials (E := E) p0 (pv 1)))))), ?_⟩
    have S3 : Same H H := Same.refl H
    refine ⟨_, rfl, rfl, _, rfl, ?_⟩
    cases k with
    | pl =>
      exact ite3 (fun _ => fun r rd hr' hd' ne' => ⟨r, rd, rfl, upd_same, rfl, q _ r (same3 S3 hd' hr') (.pl upd_same)⟩) (fun h => by cases h)
    | rs =>
      refine ite3 (fun h => by cases h) (fun _ => ⟨_, rfl, rfl, _, rfl, ite3 (fun _ => ?_) (fun h => by cases h)⟩)
      exact fun r rd hr' hd' ne' => ⟨r, rd, rfl, upd_same, rfl, q _ r (same3 S3 hd' hr') (.rs upd_same)⟩
    | md m =>
      refine ite3 (fun h => by cases h) (fun _ => ⟨_, rfl, rfl, _, rfl, ite3 (fun h => by cases h) (fun _ => ?_)⟩)
      refine ⟨_, rfl, rfl, _, rfl, ite3 (fun _ => ?_) (fun h => by cases h)⟩
      refine ⟨_, rfl, L, _, rfl, .inr (SqL.of hL3), fun r rd hr' hd' ne' => ?_⟩
      exact ⟨r, _, rd, m, rfl, upd_same, T.c_Wrapping, T.n_Wrapping_modulus, g.1, g.2, rfl, q _ r (same3 S3 hd' hr') (.md upd_same g.1 g.2)⟩
    | dl ps =>
      refine ite3 (fun h => by cases h) (fun _ => ⟨_, rfl, rfl, _, rfl, ite3 (fun h => by cases h) (fun _ => ?_)⟩)
      refine ⟨_, rfl, rfl, _, rfl, ite3 (fun h => by cases h) (fun _ => ?_)⟩
      refine ⟨_, rfl, L, _, rfl, .inr (SqL.of hL3), fun r rd hr' hd' ne' => ?_⟩
      refine ⟨r, rd, ps, rfl, upd_same, g.1, g.2.1, g.2.2, fun H4 b4 R4 => ⟨rfl, q H4 r ?_ R4⟩⟩
      intro b o hb
      have nb : b ≠ r := fun e => by
        subst e
        rw [same_none S3 hr'] at hb
        cases hb
      exact b4 b o nb (Same.put (Same.put S3 (same_none S3 hd')) (same_none S3 hr') b o hb)
theorem r_read (T : Tx K mg) (hopq : Sup.Opq base) (hf : ((P.main.file : Str) == PySem.Challenge.pw_gaugeroad_k23_registers_and_their_readin.main.file) = true) (ht : (P.main.scope.names.lookup ("super" : Str)).isSome = false) :
    FnR P w K mg base CX0 7 (Hkc.gm K (He.ga K "Register") "read") (spRead K) := by
  have nd : (["cls", "text", "words", "kind", "numbers"] : List Str).Nodup := by decide +kernel
  obtain ⟨oc, od, kV, doc, pm, an, cdv, ct, osl, lk, hcd⟩ := Hkc.fn_md (m := m_Register_read) T.v_Register_read rfl T.cm_Register_read.2.2
  obtain ⟨fi, us, Fi, Bi, Vi⟩ := f_wini (P := P) (w := w) (base := base) T
  have G := fn_of (P := P) (w := w) (mg := mg) (base := base) (CX := CX0) (k := 6) (N := ["cls", "text", "words", "kind", "numbers"]) (ps := ["cls", "text"]) (sp := spRead K) lk hcd ⟨rfl, rfl, rfl, by decide +kernel, rfl, by decide +kernel, by decide +kernel⟩ (fun vs H Q E h => ?_) (fun A outer s H vs Q E hr h => ?_)
  · have B : Binds K (PySem.W.fnOf m_Register_read.name m_Register_read.qual m_Register_read.params m_Register_read.body m_Register_read.scope .none kV doc pm an cdv ct) ["cls", "text"] [] := Binds.all (bind2 fun a b => rfl)
    exact (G.raw B .nil).imp fun vs H Q E h => by rw [List.append_nil]; exact h
  · obtain ⟨_, _, rfl, _⟩ := h
    rfl
  · obtain ⟨c, k, rfl, g, tl, q⟩ := h
    refine ⟨_, pss_cons (ps_set (i := 2) nd rfl (Or.inl rfl) (pe_make T.k_Words Fi (hr.mono (by decide)) (by rfl) T.g_Words Bi Vi (E := E) p0 (pa_cons (pv 1) pa_nil)))
      (pss_cons (ps_asg (pe_d (d_td T) hr (by rfl) (E := E) p0 (pa_cons (pv 2) pa_nil)) (pg_tup rfl (pgs_cons (pg_name (i := 3) nd rfl (Or.inl rfl)) (pgs_cons (pg_name (i := 4) nd rfl (Or.inl rfl)) pgs_nil))))
      (pss_cons (ps_expr (Dfs.pe_m0 (pv 2) (m_fin T) (hr.mono (by decide)) (E := E) p0))
      (pss_one (ps_ret (pe_d (d_do T hopq hf ht) hr (by rfl) (E := E) p0 (pa_cons (pv 3) (pa_cons (pv 4) pa_nil))))))), ?_⟩
    refine ⟨_, rfl, fun x dx hx hd ne => ⟨x, dx, k.text, rfl, upd_same, text_ne k, text_few g, text_free, tl, fun H1 l b1 W1 => ⟨rfl, ?_⟩⟩⟩
    have z0 : But x H H1 := (((But.refl x H).new hd).set).trans b1
    refine ⟨_, rfl, x, dx, l, k, rfl, g, W1, fun H3 L p b3 hL hL3 hp W3 => ?_⟩
    have S3 : Same H H3 := same_of (z0.trans b3) hx
    refine ⟨p, _, rfl, SqT.of hp, rfl, _, _, rfl, _, _, rfl, rfl, ?_⟩
    refine ⟨_, rfl, x, _, _, rfl, W3.at_, rfl, x, dx, l, k.text, rfl, W3, ?_⟩
    exact ⟨_, rfl, _, rfl, L, k, rfl, g, hL3, fun H4 r s4 R => q H4 r (S3.trans s4) R⟩
end
end K23
set_option Elab.async false
set_option linter.all false
set_option maxRecDepth 100000
set_option maxHeartbeats 4000000
namespace K23
open PySem PySem.Spec PyProof.Rows L2 Pre Dfs Vls
/-- the pen at p: the cells at a, s draws so far, what is left of a great cell -/
structure Pen (K : PySem.W.Frag) (H : Hp) (p a : Addr) (ns : List Int) (s g : Int) : Prop where
  at_ : H p = some (.lst [.ref a, .int s, .int g])
  cells : H a = some (.lst (ns.map V.int))
  len : ns.length ≤ 63
  s0 : 0 ≤ s
  g0 : 0 ≤ g
theorem Pen.ne {K : PySem.W.Frag} {H : Hp} {p a : Addr} {ns : List Int} {s g : Int} (R : Pen K H p a ns s g) : a ≠ p := by
  refine ne_of R.cells R.at_ fun q => ?_
  have q2 := HO.lst.inj q
  cases ns with
  | nil => cases q2
  | cons y r => cases q2
theorem Pen.next {K : PySem.W.Frag} {H H' : Hp} {p a : Addr} {ns : List Int} {s g s' g' : Int} (R : Pen K H p a ns s g) (b : But p H H')
    (e : H' p = some (.lst [.ref a, .int s', .int g'])) (h1 : 0 ≤ s') (h2 : 0 ≤ g') : Pen K H' p a ns s' g' :=
  ⟨e, b _ _ R.ne R.cells, R.len, h1, h2⟩
def spDraw (K : PySem.W.Frag) : Sp := fun vs H Q _ => ∃ (p a : Addr) (ns : List Int) (s g m : Int),
  vs = [.ref p, .int m] ∧ Pen K H p a ns s g ∧ s < 1000000 ∧ 0 < m ∧ m < 1073741824 ∧
  ∀ (H' : Hp) (s' g' r : Int), But p H H' → Pen K H' p a ns s' g' → s ≤ s' → s' ≤ s + 1 → 0 ≤ r → r < m → Q (.int r) H'
section
variable {P : Program} {w : World} {K : PySem.W.Frag} {mg : Str → Option Value} {base : Heap}
theorem scDraw : FnScope ["_law_pen_here", "_law_many", "_law_digit", "_law_spot", "_law_cell", "_law_great", "_law_mixed"] ["_law_pen_here", "_law_many"] (defScope s_law_draw) :=
  ⟨rfl, rfl, rfl, by decide +kernel, rfl, by decide +kernel, by decide +kernel⟩
theorem item_of {ns : List Int} {t : Int} (h0 : 0 ≤ t) (hn : ns ≠ []) : ∃ v, atI (ns.map V.int) (t % (((ns.map V.int).length : Nat) : Int)) = some (V.int v) := by
  have hp : (0 : Int) < (((ns.map V.int).length : Nat) : Int) := by
    cases ns with
    | nil => exact absurd rfl hn
    | cons y r => simp
  have a1 := Int.emod_nonneg t (show (((ns.map V.int).length : Nat) : Int) ≠ 0 by omega)
  have a2 := Int.emod_lt_of_pos t hp
  obtain ⟨j, hj⟩ := Int.eq_ofNat_of_zero_le a1
  rw [hj] at a2 ⊢
  have hj2 : j < ns.length := by
    rw [List.length_map] at a2
    omega
  refine ⟨ns[j], atI_nat ?_⟩
  rw [List.getElem?_map, List.getElem?_eq_getElem hj2]
  rfl
theorem d_draw (T : Tx K mg) : Dfn P w K mg base CX0 1 "_law_draw" ["_law_pen_here", "_law_many"] (spDraw K) := by
  have nd := scDraw.nd
  refine dfn T.q_law_draw T.g_law_draw (N := ["_law_pen_here", "_law_many", "_law_digit", "_law_spot", "_law_cell", "_law_great", "_law_mixed"]) scDraw (fun vs H Q E h => ?_) (fun kV doc pm an cdv ct => bind2 fun a b => rfl) (fun cdv A outer s H vs Q E hr h => ?_)
  · obtain ⟨_, _, _, _, _, _, rfl, _⟩ := h
    rfl
  · obtain ⟨p, a, ns, z, g, m, rfl, R, hz, m0, m1, k⟩ := h
    refine ⟨_, pss_cons (ps_if (pt_cmpR op_gt (pe_ix ix_list (pv 0) pe_int (fun _ _ => rfl)) pe_int (nomark _))
        (pss_cons (ps_set (i := 2) nd rfl (Or.inl rfl) (pe_op op_mod (pe_callTy call_int1 (by rfl) T.f_int (by decide +kernel) (pa_cons (pe_ix ix_list (pv 0) pe_int (fun _ _ => rfl)) pa_nil)) (pv 1)))
        (pss_cons (ps_asg (pe_op op_fdiv (pe_callTy call_int1 (by rfl) T.f_int (by decide +kernel) (pa_cons (pe_ix ix_list (pv 0) pe_int (fun _ _ => rfl)) pa_nil)) (pv 1)) (pg_sub (pv 0) pe_int set_list))
        (pss_one (ps_ret (pv 2))))) pss_nil)
      (pss_cons (ps_set (i := 3) nd rfl (Or.inl rfl) (pe_ix ix_list (pv 0) pe_int (fun _ _ => rfl)))
      (pss_cons (ps_asg (pe_op op_add (pv 3) pe_int) (pg_sub (pv 0) pe_int set_list))
      (pss_cons (ps_set (i := 4) nd rfl (Or.inl rfl) (pe_op op_add (pe_op op_mul pe_int (pv 3)) pe_int))
      (Evl.pss_cut (ps_if (pt_cmpR (op_neD hr.units) (pe_ix ix_list (pv 0) pe_int (fun _ _ => rfl)) (pe_lst pa_nil) (nomark _))
        (pss_one (ps_set (i := 4) nd rfl (Or.inl rfl) (pe_ix ix_list (pe_ix ix_list (pv 0) pe_int (fun _ _ => rfl))
          (pe_op op_mod (pe_callTy call_int1 (by rfl) T.f_int (by decide +kernel) (pa_cons (pv 3) pa_nil)) (pe_callB call_len_seq (by rfl) T.f_len PySem.boot_len (pa_cons (pe_ix ix_list (pv 0) pe_int (fun _ _ => rfl)) pa_nil))) (fun _ _ => rfl)))) pss_nil)
      (Evl.pss_cut (ps_if (PW.pt (pw_and (pt_cmpR op_lt (pv 3) (pe_callB call_len_seq (by rfl) T.f_len PySem.boot_len (pa_cons (pe_ix ix_list (pv 0) pe_int (fun _ _ => rfl)) pa_nil)) (nomark _))
          (pw_and1 (pt_cmpR op_ge (pe_callB call_abs (by rfl) T.f_abs (by decide +kernel) (pa_cons (pv 4) pa_nil)) (pe_op op_pow pe_int pe_int) (nomark _)))))
        (pss_cons (ps_set (i := 5) nd rfl (Or.inl rfl) (pe_op op_add (pe_op op_mul pe_int (pe_op op_sub (pe_callB call_abs (by rfl) T.f_abs (by decide +kernel) (pa_cons (pv 4) pa_nil)) (pe_op op_pow pe_int pe_int)))
            (pe_callTy call_int1 (by rfl) T.f_int (by decide +kernel) (pa_cons (pe_cmpR op_lt (pv 4) pe_int (nomark _)) pa_nil))))
        (pss_cons (ps_asg (pe_op op_fdiv (pe_callTy call_int1 (by rfl) T.f_int (by decide +kernel) (pa_cons (pv 5) pa_nil)) (pv 1)) (pg_sub (pv 0) pe_int set_list))
        (pss_one (ps_ret (pe_op op_mod (pe_callTy call_int1 (by rfl) T.f_int (by decide +kernel) (pa_cons (pv 5) pa_nil)) (pv 1)))))) pss_nil)
      (pss_cons (ps_set (i := 6) nd rfl (Or.inl rfl) (pe_op op_mod (pe_callTy call_int1 (by rfl) T.f_int (by decide +kernel) (pa_cons
          (pe_op op_pow (pe_op op_add (pe_op op_add (pe_op op_mod (pe_callTy call_int1 (by rfl) T.f_int (by decide +kernel) (pa_cons (pv 4) pa_nil)) pe_int) (pe_op op_mul pe_int (pv 3))) pe_int) pe_int) pa_nil)) pe_int))
      (pss_cons (ps_set (i := 6) nd rfl (Or.inl rfl) (pe_op op_mod (pe_callTy call_int1 (by rfl) T.f_int (by decide +kernel) (pa_cons
          (pe_op op_pow (pe_op op_add (pe_op op_add (pe_op op_mul (pv 6) (pe_op op_add (pe_op op_mul pe_int (pv 3)) pe_int)) (pe_op op_mul (pe_op op_mul pe_int (pv 3)) (pv 3))) pe_int) pe_int) pa_nil)) pe_int))
      (pss_one (ps_ret (pe_op op_mod (pe_callTy call_int1 (by rfl) T.f_int (by decide +kernel) (pa_cons (pe_op op_fdiv (pv 6) pe_int) pa_nil)) (pv 1))))))))))), ?_⟩
    have n0 := R.s0
    have p1 : upd H p (.lst [.ref a, .int (z + 1), .int g]) p = some (.lst [.ref a, .int (z + 1), .int g]) := upd_same
    refine ⟨_, rfl, p, _, _, _, rfl, rfl, SqL.of R.at_, rfl, _, _, rfl, rfl, _, rfl, ?_⟩
    refine ite2 (fun h1 => ?_) (fun h1 => ?_)
    · refine ⟨_, rfl, p, _, _, _, rfl, rfl, SqL.of R.at_, rfl, .inl ⟨_, rfl, _, rfl, _, _, rfl, rfl, m0, ?_⟩⟩
      refine ⟨_, rfl, p, _, _, _, rfl, rfl, SqL.of R.at_, rfl, .inl ⟨_, rfl, _, rfl, _, _, rfl, rfl, ⟨m0, m1⟩, ?_⟩⟩
      refine ⟨_, rfl, p, _, _, _, rfl, rfl, R.at_, rfl, ?_⟩
      refine ⟨_, rfl, ?_⟩
      have g1 : 0 ≤ g / m := Int.ediv_nonneg R.g0 (by omega)
      exact k _ z (g / m) (g % m) But.at_ (R.next But.at_ upd_same n0 g1) (Int.le_refl _) (by omega) (Int.emod_nonneg _ (by omega)) (Int.emod_lt_of_pos _ m0)
    · refine ⟨_, rfl, p, _, _, _, rfl, rfl, SqL.of R.at_, rfl, ?_⟩
      refine ⟨_, rfl, _, _, rfl, rfl, _, rfl, p, _, _, _, rfl, rfl, R.at_, rfl, ?_⟩
      refine ⟨_, rfl, _, _, rfl, rfl, .inl ⟨by decide, by decide⟩, _, _, rfl, rfl, ?_⟩
      refine ⟨fun σ1 H1 => ∃ c : Int, σ1 = [some (.ref p), some (.int m), none, some (.int z), some (.int c), none, none] ∧ But p H H1 ∧ Pen K H1 p a ns (z + 1) g, ?_, ?_⟩
      · have R1 : Pen K (upd H p (.lst [.ref a, .int (z + 1), .int g])) p a ns (z + 1) g := R.next But.at_ p1 (by omega) R.g0
        refine ⟨_, rfl, p, _, _, _, rfl, rfl, SqL.of R1.at_, rfl, Nat.zero_le _, fun q hq => ?_⟩
        have nq : a ≠ q := ne_of_none R1.cells hq
        have nq2 : p ≠ q := ne_of_none R1.at_ hq
        refine ⟨_, _, .lst (SqL.of (by rw [upd_ne nq]; exact R1.cells)) (dp_ints ns), .lst (SqL.of upd_same) .nil, shaped_ints ns, by decide, _, rfl, ?_⟩
        have b2 : But p H (upd (upd H p (.lst [.ref a, .int (z + 1), .int g])) q (.lst [])) := But.at_.new hq
        have R2 : Pen K (upd (upd H p (.lst [.ref a, .int (z + 1), .int g])) q (.lst [])) p a ns (z + 1) g := R.next b2 (by rw [upd_ne nq2]; exact p1) (by omega) R.g0
        rw [eqv_nil]
        refine ite2 (fun h2 => ?_) (fun h2 => ?_)
        · have hn : ns ≠ [] := fun e => by
            rw [e] at h2
            cases h2
          obtain ⟨v, hv⟩ := item_of (ns := ns) n0 hn
          have hpos : (0 : Int) < (((ns.map V.int).length : Nat) : Int) := by
            cases ns with
            | nil => exact absurd rfl hn
            | cons y r => simp
          refine ⟨_, rfl, p, _, _, _, rfl, rfl, SqL.of R2.at_, rfl, _, rfl, .inl ⟨_, rfl, _, rfl, p, _, _, _, rfl, rfl, SqL.of R2.at_, rfl, a, _, rfl, .inl (SqL.of R2.cells), _, _, rfl, rfl, hpos, a, _, _, _, rfl, rfl, SqL.of R2.cells, hv, ?_⟩⟩
          exact ⟨v, rfl, b2, R2⟩
        · exact ⟨_, rfl, b2, R2⟩
      · rintro σ1 H1 ⟨c, rfl, b1, R1⟩
        refine ⟨fun σ2 H2 => σ2 = [some (.ref p), some (.int m), none, some (.int z), some (.int c), none, none] ∧ H2 = H1, ?_, ?_⟩
        · refine ⟨_, rfl, _, rfl, p, _, _, _, rfl, rfl, SqL.of R1.at_, rfl, a, _, rfl, .inl (SqL.of R1.cells), _, _, rfl, rfl, _, rfl, ?_⟩
          refine ite2 (fun _ => ?_) (fun _ => ⟨rfl, rfl⟩)
          refine ⟨_, rfl, _, rfl, _, _, rfl, rfl, ⟨by decide, by decide, by decide⟩, _, _, rfl, rfl, _, rfl, ?_⟩
          refine ite2 (fun h3 => ?_) (fun _ => ⟨rfl, rfl⟩)
          have big : (10 : Int) ^ (18 : Int).toNat ≤ (if c < 0 then -c else c) := of_decide_eq_true h3
          refine ⟨_, rfl, _, rfl, _, _, rfl, rfl, ⟨by decide, by decide, by decide⟩, _, _, rfl, rfl, _, _, rfl, rfl, .inl ⟨by decide, by decide⟩, _, rfl, _, _, rfl, rfl, .inr ⟨_, rfl, _, _, rfl, rfl, ?_⟩⟩
          refine ⟨_, rfl, .inl ⟨_, rfl, _, rfl, _, _, rfl, rfl, ⟨m0, m1⟩, ?_⟩⟩
          refine ⟨_, rfl, p, _, _, _, rfl, rfl, R1.at_, rfl, ?_⟩
          refine ⟨_, rfl, .inl ⟨_, rfl, _, rfl, _, _, rfl, rfl, m0, ?_⟩⟩
          have g1 : 0 ≤ (2 * ((if c < 0 then -c else c) - 10 ^ (18 : Int).toNat) + (if decide (c < 0) = true then 1 else 0)) / m := by
            refine Int.ediv_nonneg ?_ (by omega)
            have e1 : (0 : Int) ≤ (if decide (c < 0) = true then 1 else 0) := by split <;> decide
            omega
          exact k _ (z + 1) _ _ b1.set (R.next b1.set upd_same (by omega) g1) (by omega) (by omega) (Int.emod_nonneg _ (by omega)) (Int.emod_lt_of_pos _ m0)
        · rintro σ2 H2 ⟨rfl, rfl⟩
          have c0 : 0 ≤ c % 2147483587 := Int.emod_nonneg _ (by decide)
          have c1 : c % 2147483587 < 2147483587 := Int.emod_lt_of_pos _ (by decide)
          refine ⟨_, rfl, .inl ⟨_, rfl, _, _, rfl, rfl, (by show (0 : Int) < _; decide), _, rfl, _, _, rfl, rfl, .inl ⟨by decide, by decide⟩, _, _, rfl, rfl, _, _, rfl, rfl, _, _, rfl, rfl, ⟨by decide, by decide, ?_⟩, .inl ⟨_, rfl, _, _, rfl, rfl, (by show (0 : Int) < _; decide), ?_⟩⟩⟩
          · omega
          have y0 : 0 ≤ (c % 2147483587 + 62480 * z + 799) ^ (5 : Int).toNat % 2147483629 := Int.emod_nonneg _ (by decide)
          have y1 : (c % 2147483587 + 62480 * z + 799) ^ (5 : Int).toNat % 2147483629 < 2147483629 := Int.emod_lt_of_pos _ (by decide)
          show gName 6 (V.int ((c % 2147483587 + 62480 * z + 799) ^ (5 : Int).toNat % 2147483629)) _ _ _
          generalize (c % 2147483587 + 62480 * z + 799) ^ (5 : Int).toNat % 2147483629 = y at y0 y1 ⊢
          have b1' : 64120 * z * z ≤ 64120 * 1000000 * 1000000 := Int.mul_le_mul (by omega) (by omega) n0 (by decide)
          have b2' : y * (2 * z + 97) ≤ 2147483629 * 2000097 := Int.mul_le_mul (by omega) (by omega) (by omega) (by decide)
          have b3' : 0 ≤ 64120 * z * z := Int.mul_nonneg (by omega) n0
          have b4' : 0 ≤ y * (2 * z + 97) := Int.mul_nonneg y0 (by omega)
          refine ⟨_, rfl, _, rfl, _, _, rfl, rfl, .inl ⟨by decide, by decide⟩, _, _, rfl, rfl, _, _, rfl, rfl, .inl ⟨by omega, by omega⟩, _, rfl, _, _, rfl, rfl, .inl ⟨by decide, by decide⟩, _, rfl, _, _, rfl, rfl, .inl ⟨by omega, by omega⟩, _, _, rfl, rfl, _, _, rfl, rfl, _, _, rfl, rfl,
            ⟨by decide, by decide, ?_⟩, .inl ⟨_, rfl, _, _, rfl, rfl, (by show (0 : Int) < _; decide), ?_⟩⟩
          · omega
          refine ⟨_, rfl, _, _, rfl, rfl, ⟨by decide, by decide⟩, .inl ⟨_, rfl, _, rfl, _, _, rfl, rfl, m0, ?_⟩⟩
          exact k _ (z + 1) g _ b1 R1 (by omega) (by omega) (Int.emod_nonneg _ (by omega)) (Int.emod_lt_of_pos _ m0)
end
end K23
set_option Elab.async false
set_option linter.all false
set_option maxRecDepth 100000
set_option maxHeartbeats 4000000
namespace K23
open PySem PySem.Spec PyProof.Rows L2 Pre Dfs Vls
theorem cut63 {xs : List V} (h : xs.length ≤ 63) : cutV xs none (some 63) = xs := by
  have e : HT.sIx xs.length xs.length (some 63) = min 63 xs.length := HT.sIx_nat _ _ 63
  unfold cutV
  rw [HT.sIx_none, e, List.drop_zero, Nat.sub_zero, Nat.min_eq_right h, List.take_length]
section
variable {P : Program} {w : World} {K : PySem.W.Frag} {mg : Str → Option Value} {base : Heap}
def spPen (K : PySem.W.Frag) : Sp := fun vs H Q _ => ∃ (a : Addr) (ns : List Int), vs = [.ref a] ∧ SqL K H a (ns.map V.int) ∧ ns.length ≤ 63 ∧ ∀ (H' : Hp) (p c : Addr), Same H H' → H p = none → H c = none → Pen K H' p c ns 0 0 → Q (.ref p) H'
theorem d_pen (T : Tx K mg) : Dfn P w K mg base CX0 1 "_law_pen" ["_law_script"] (spPen K) := by
  refine dfn T.q_law_pen T.g_law_pen (N := ["_law_script"]) ⟨rfl, rfl, rfl, by decide +kernel, rfl, by decide +kernel, by decide +kernel⟩ (fun vs H Q E h => ?_) (fun kV doc pm an cdv ct => bind1 fun a => rfl) (fun cdv A outer s H vs Q E hr h => ?_)
  · obtain ⟨_, _, rfl, _⟩ := h
    rfl
  · obtain ⟨a, ns, rfl, e, few, q⟩ := h
    refine ⟨_, pss_one (ps_ret (pe_lst (pa_cons (pe_callTy call_list_of (by rfl) T.f_list (by kernel_rfl) (pa_cons (pe_slice sl_list (pv 0) po_none (po_some pe_int)) pa_nil)) (pa_cons pe_int (pa_cons pe_int pa_nil))))), ?_⟩
    refine ⟨_, rfl, 63, rfl, a, _, rfl, e, fun p1 hp1 => ⟨p1, _, rfl, .inl (SqL.of upd_same), fun c hc => ⟨(by show (3 : Nat) ≤ sizeLine; rw [sizeLine_eq]; decide), fun p hp => ?_⟩⟩⟩
    have s1 : Same H (upd (upd H p1 (.lst (cutV (ns.map V.int) none (some 63)))) c (.lst (cutV (ns.map V.int) none (some 63)))) := Same.new (Same.upd hp1) hc
    have ncp : c ≠ p := ne_of_none upd_same hp
    refine q _ p c (Same.new s1 hp) (same_none s1 hp) (same_none (Same.upd hp1) hc) ⟨upd_same, ?_, few, Int.le_refl _, Int.le_refl _⟩
    rw [upd_ne ncp, upd_same, cut63 (by rw [List.length_map]; exact few)]
/-- pick -/
def spPick (K : PySem.W.Frag) : Sp := fun vs H Q _ => ∃ (p a b : Addr) (ns : List Int) (s g : Int) (xs : List V), vs = [.ref p, .ref b] ∧ Pen K H p a ns s g ∧ s < 1000000 ∧ b ≠ p ∧ H b = some (.lst xs) ∧ 0 < xs.length ∧ xs.length < 1000 ∧
  ∀ (H' : Hp) (s' g' : Int) (x : V), But p H H' → Pen K H' p a ns s' g' → s ≤ s' → s' ≤ s + 1 → x ∈ xs → Q x H'
theorem d_pick (T : Tx K mg) : Dfn P w K mg base CX0 2 "_law_pick" ["_law_pen_here", "_law_some"] (spPick K) := by
  refine dfn T.q_law_pick T.g_law_pick (N := ["_law_pen_here", "_law_some"]) ⟨rfl, rfl, rfl, by decide +kernel, rfl, by decide +kernel, by decide +kernel⟩ (fun vs H Q E h => ?_) (fun kV doc pm an cdv ct => bind2 fun a b => rfl) (fun cdv A outer s H vs Q E hr h => ?_)
  · obtain ⟨_, _, _, _, _, _, _, rfl, _⟩ := h
    rfl
  · obtain ⟨p, a, b, ns, z, g, xs, rfl, R, hz, nb, sb, h0, h1, q⟩ := h
    refine ⟨_, pss_one (ps_ret (pe_ix ix_list (pv 1) (pe_d (d_draw T) hr (by rfl) (E := E) p0 (pa_cons (pv 0) (pa_cons (pe_callB call_len_seq (by rfl) T.f_len PySem.boot_len (pa_cons (pv 1) pa_nil)) pa_nil))) (fun _ _ => rfl))), ?_⟩
    refine ⟨_, rfl, _, rfl, _, rfl, b, _, rfl, .inl (SqL.of sb), p, a, ns, z, g, _, rfl, R, hz, by omega, by omega, fun H' s' g' r bt R' h2 h3 h4 h5 => ?_⟩
    obtain ⟨n, rfl⟩ := Int.eq_ofNat_of_zero_le h4
    have hn : n < xs.length := by omega
    exact ⟨b, xs, _, xs[n], rfl, rfl, SqL.of (bt _ _ nb sb), atI_nat (j := n) (by simp [hn]), q H' s' g' _ bt R' h2 h3 (List.getElem_mem hn)⟩
end
end K23
set_option Elab.async false
set_option linter.all false
set_option maxRecDepth 100000
set_option maxHeartbeats 4000000
namespace K23
open PySem PySem.Spec PyProof.Rows L2 Pre Dfs Vls
/-- what the law keeps of a register: its word, its numbers -/
structure Pln (H : Hp) (t l : Addr) (k : Kd) : Prop where
  at_ : H t = some (.tup [.str k.word, .ref l])
  ns : H l = some (.lst (ivs k.args))
  good : k.Good
theorem Pln.same {H H' : Hp} {t l : Addr} {k : Kd} (p : Pln H t l k) (s : Same H H') : Pln H' t l k := ⟨s _ _ p.at_, s _ _ p.ns, p.good⟩
theorem str_txt (ns : List Nat) : (ns.map fun (n : Nat) => V.str (num n)) = (ns.map num).map V.str := by
  rw [List.map_map]
  rfl
theorem args_bd {k : Kd} (g : k.Good) : k.args.length ≤ 6 ∧ ∀ n ∈ k.args, n < 10 ^ 40 := by
  cases k with
  | pl => exact ⟨Nat.zero_le _, fun n h => by cases h⟩
  | rs => exact ⟨Nat.zero_le _, fun n h => by cases h⟩
  | md m =>
    refine ⟨by show 1 ≤ 6; omega, fun n h => ?_⟩
    obtain rfl : n = m := by simpa [Kd.args] using h
    have := g.2
    omega
  | dl ps =>
    refine ⟨g.2.1, fun n h => ?_⟩
    have := (g.2.2 n h).2
    omega
theorem sum_le {l : List Nat} {b : Nat} (h : ∀ x ∈ l, x ≤ b) : l.sum ≤ l.length * b := by
  induction l with
  | nil => simp
  | cons x r ih =>
    have h1 := h x (by simp)
    have h2 := ih fun y hy => h y (by simp [hy])
    rw [List.sum_cons, List.length_cons, Nat.succ_mul]
    omega
theorem joinL_len (S : List Nat) : ∀ l : List (List Nat), (TL.joinL S l).length ≤ (l.map List.length).sum + l.length * S.length
  | [] => Nat.zero_le _
  | [p] => by
    show p.length ≤ [p.length].sum + 1 * S.length
    simp
  | p :: q :: r => by
    have h := joinL_len S (q :: r)
    show (p ++ (S ++ TL.joinL S (q :: r))).length ≤ _
    rw [List.length_append, List.length_append, List.map_cons, List.sum_cons, List.length_cons, Nat.succ_mul]
    omega
theorem text_len {k : Kd} (g : k.Good) : (k.text.map (·.length)).sum + k.text.length * 1 ≤ 1000 ∧ (Txt.join " " k.text).length ≤ 1000 := by
  obtain ⟨h1, h2⟩ := args_bd g
  have few : k.text.length ≤ 7 := by
    unfold Kd.text
    rw [List.length_cons, List.length_map]
    omega
  have each : ∀ x ∈ k.text.map (·.length), x ≤ 40 := by
    intro x hx
    obtain ⟨y, hy, rfl⟩ := List.mem_map.mp hx
    rcases List.mem_cons.mp hy with rfl | hy
    · cases k with
      | pl => show (("plain" : Str)).length ≤ 40; decide
      | rs => show (("restarting" : Str)).length ≤ 40; decide
      | md m => show (("modulo" : Str)).length ≤ 40; decide
      | dl ps => show (("dials" : Str)).length ≤ 40; decide
    · obtain ⟨n, hn, rfl⟩ := List.mem_map.mp hy
      exact (num_len (h2 n hn)).2
  have s1 := sum_le each
  rw [List.length_map] at s1
  refine ⟨by omega, ?_⟩
  have e : (Txt.join " " k.text).length = (TL.joinL [32] (k.text.map TL.tl)).length := by
    rw [TL.len_tl, TL.join_eq, TL.tl_join]
    rfl
  rw [e]
  have z := joinL_len [32] (k.text.map TL.tl)
  have e2 : (k.text.map TL.tl).map List.length = k.text.map (·.length) := by
    rw [List.map_map]
    refine List.map_congr_left fun y _ => ?_
    exact (TL.len_tl y).symm
  rw [e2, List.length_map] at z
  rw [show ([32] : List Nat).length = 1 from rfl] at z
  omega
section
variable {P : Program} {w : World} {K : PySem.W.Frag} {mg : Str → Option Value} {base : Heap}
def spMade (K : PySem.W.Frag) : Sp := fun vs H Q _ => ∃ (t l : Addr) (k : Kd), vs = [.ref t] ∧ Pln H t l k ∧ ∀ (H' : Hp) (r : Addr), Same H H' → Reg K H' r k → Q (.ref r) H'
theorem d_made (T : Tx K mg) (hopq : Sup.Opq base) (hf : ((P.main.file : Str) == PySem.Challenge.pw_gaugeroad_k23_registers_and_their_readin.main.file) = true) (ht : (P.main.scope.names.lookup ("super" : Str)).isSome = false) :
    Dfn P w K mg base CX0 8 "_law_made" ["_law_plain"] (spMade K) := by
  have nd : (["_law_plain", "_law_number"] : List Str).Nodup := by decide +kernel
  refine dfn T.q_law_made T.g_law_made (N := ["_law_plain", "_law_number"]) ⟨rfl, rfl, rfl, by decide +kernel, rfl, by decide +kernel, by decide +kernel⟩ (fun vs H Q E h => ?_) (fun kV doc pm an cdv ct => bind1 fun a => rfl) (fun cdv A outer s H vs Q E hr h => ?_)
  · obtain ⟨_, _, _, rfl, _⟩ := h
    rfl
  · obtain ⟨t, l, k, rfl, pl, q⟩ := h
    obtain ⟨ab, an⟩ := args_bd pl.good
    obtain ⟨t1, t2⟩ := text_len pl.good
    refine ⟨_, pss_one (ps_ret (ClX.pe_cmeth (pe_glob (v := .ref (He.ga K "Register")) (by rfl) T.g_Register rfl) T.cm_Register_read.1 T.cm_Register_read.2.1 (r_read T hopq hf ht) hr (E := E) p0
      (pa_cons (pe_join pe_str (pe_op op_cat (pe_lst (pa_cons (pe_ix ix_tup (pv 0) pe_int (fun _ _ => rfl)) pa_nil))
        (pe_lc rfl nd (pi_list (pe_ix ix_tup (pv 0) pe_int (fun _ _ => rfl))) (own := [("_law_number", 1)]) (blk_by (by kernel_rfl)) (fun _ _ _ _ _ => pg_name (i := 1) nd rfl (Or.inl rfl)) (fun _ _ _ _ _ => pts_nil)
          (fun _ _ _ _ _ => pe_callTy call_str_int (by rfl) T.f_str (by kernel_rfl) (pa_cons (pe_var (i := 1) rfl (Or.inl rfl)) pa_nil))))) pa_nil))), ?_⟩
    refine ⟨rfl, ⟨_, rfl⟩, _, rfl, t, _, _, _, rfl, rfl, SqT.of pl.at_, atI_nat (j := 0) (v := .str k.word) rfl, (by show (1 : Nat) ≤ sizeLine; rw [sizeLine_eq]; decide), fun p1 hp1 => ?_⟩
    have s1 : Same H (upd H p1 (.lst [.str k.word])) := Same.upd hp1
    refine ⟨_, rfl, t, _, _, _, rfl, rfl, SqT.of (s1 _ _ pl.at_), atI_nat (j := 1) (v := .ref l) rfl, l, rfl, ⟨_, SqL.of (s1 _ _ pl.ns)⟩, fun D hD => ?_⟩
    have hDn : H D = none := same_none s1 hD
    have np : p1 ≠ D := ne_of_none upd_same hD
    refine lc_it (walk_list (xs := ivs k.args)) (fun i H1 => Same H H1 ∧ H1 p1 = some (.lst [.str k.word]) ∧ H1 D = some (.lst ((k.args.take i).map fun (n : Nat) => V.str (num n)))) ⟨Same.put s1 hDn, (upd_ne np).trans upd_same, upd_same⟩
      (fun i H1 _ z => SqL.of (z.1 _ _ pl.ns)) (fun i y H1 H2 hi z yy => ?_) (fun H1 z => ?_)
    · obtain ⟨rfl, hx⟩ := yy
      obtain ⟨n, hn, rfl⟩ := ivs_at hx
      have hlt := (List.getElem?_eq_some_iff.mp hn).1
      refine ⟨rfl, ?_⟩
      unfold tYes
      refine ite3 (fun _ => ?_) (fun h => by cases h)
      refine ⟨_, rfl, _, rfl, log40 (an n (List.mem_of_getElem? hn)), _, z.2.2, ?_, Same.put z.1 hDn, (upd_ne np).trans z.2.1, ?_⟩
      · rw [List.length_map, List.length_take, sizeLine_eq]
        omega
      · rw [upd_same, List.take_succ, hn, List.map_append]
        rfl
    · obtain ⟨z1, z2, z3⟩ := z
      rw [ivs_len, List.take_length] at z3
      refine ⟨p1, D, _, _, rfl, rfl, z2, z3, ?_, fun p hp => ?_⟩
      · rw [List.length_map, sizeLine_eq]
        show 1 + k.args.length ≤ _
        omega
      have tx : [V.str k.word] ++ (k.args.map fun (n : Nat) => V.str (num n)) = k.text.map V.str := by
        rw [str_txt]
        rfl
      refine ⟨" ", p, k.text, rfl, rfl, .inl (SqL.of ?_), Nat.le_trans t1 (by decide), _, k, rfl, pl.good, by omega, fun H' r s' R => q H' r (fun c o h => s' c o (Same.new z1 hp c o h)) R⟩
      rw [upd_same, tx]
end
end K23
set_option Elab.async false
set_option linter.all false
set_option maxRecDepth 100000
set_option maxHeartbeats 4000000
namespace K23
open PySem PySem.Spec PyProof.Rows L2 Pre Dfs Vls
/-- the modulus of a kind -/
def Kd.mod : Kd → V
  | .pl => .non
  | .rs => .non
  | .md m => .int m
  | .dl ps => .int ((lcms ps : Nat) : Int)
theorem dp_ivs {K : PySem.W.Frag} {H : Hp} : ∀ ps : List Nat, DpAll K H (ivs ps) (ps.map fun (p : Nat) => PyData.int ((p : Nat) : Int))
  | [] => .nil
  | p :: r => .cons (.int _) (dp_ivs r)
theorem data_ints (ps : List Nat) : (ps.map fun (p : Nat) => PyData.int ((p : Nat) : Int)) = (ps.map fun (p : Nat) => ((p : Nat) : Int)).map PyData.int := by
  rw [List.map_map]
  rfl
/-- the least common multiple is met as the steps go -/
theorem lcm_step {s n j : Nat} (hs : 0 < s) (hn : 0 < n) (h1 : 1 ≤ j) (h2 : j * s ≤ Nat.lcm s n) : (j * s % n = 0 ↔ j * s = Nat.lcm s n) ∧ (j * s ≠ Nat.lcm s n → (j + 1) * s ≤ Nat.lcm s n) := by
  have hM : 0 < Nat.lcm s n := Nat.lcm_pos hs hn
  refine ⟨⟨fun h => ?_, fun h => ?_⟩, fun h => ?_⟩
  · have d : Nat.lcm s n ∣ j * s := Nat.lcm_dvd (Nat.dvd_mul_left s j) (Nat.dvd_of_mod_eq_zero h)
    have := Nat.le_of_dvd (Nat.mul_pos h1 hs) d
    omega
  · rw [h]
    exact Nat.mod_eq_zero_of_dvd (Nat.dvd_lcm_right s n)
  · obtain ⟨q, hq⟩ := Nat.dvd_lcm_left s n
    rw [hq, Nat.mul_comm s q] at h h2 ⊢
    have lt : j < q := by
      refine Nat.lt_of_le_of_ne (Nat.le_of_mul_le_mul_right h2 hs) fun e => h (by rw [e])
    exact Nat.mul_le_mul_right s lt
section
variable {P : Program} {w : World} {K : PySem.W.Frag} {mg : Str → Option Value} {base : Heap}
def spMdl : Sp := fun vs H Q _ => ∃ (t l : Addr) (k : Kd), vs = [.ref t] ∧ Pln H t l k ∧ ∀ H', Same H H' → Q k.mod H'
theorem d_mdl (T : Tx K mg) : Dfn P w K mg base CX0 1 "_law_modulus" ["_law_plain"] spMdl := by
  have nd : (["_law_plain", "_law_found", "_law_number", "_law_step"] : List Str).Nodup := by decide +kernel
  refine dfn T.q_law_modulus T.g_law_modulus (N := ["_law_plain", "_law_found", "_law_number", "_law_step"]) ⟨rfl, rfl, rfl, by decide +kernel, rfl, by decide +kernel, by decide +kernel⟩ (fun vs H Q E h => ?_) (fun kV doc pm an cdv ct => bind1 fun a => rfl) (fun cdv A outer s H vs Q E hr h => ?_)
  · obtain ⟨_, _, _, rfl, _⟩ := h
    rfl
  · obtain ⟨t, l, k, rfl, pl, q⟩ := h
    refine ⟨_, pss_cons (ps_if (pt_cmpR (op_eqD hr.units) (pe_ix ix_tup (pv 0) pe_int (fun _ _ => rfl)) (pe_lst pa_nil) (nomark _)) (pss_one (ps_ret pe_non)) pss_nil)
      (pss_cons (ps_if (pt_cmpR op_eq (pe_ix ix_tup (pv 0) pe_int (fun _ _ => rfl)) pe_str (nomark _)) (pss_one (ps_ret (pe_ix ix_list (pe_ix ix_tup (pv 0) pe_int (fun _ _ => rfl)) pe_int (fun _ _ => rfl)))) pss_nil)
      (pss_cons (ps_set (i := 1) nd rfl (Or.inl rfl) pe_int)
      (pss_cons (ps_for (passes_of rfl) rfl (pi_list (pe_ix ix_tup (pv 0) pe_int (fun _ _ => rfl))) (pg_name (i := 2) nd rfl (Or.inl rfl))
        (pss_cons (ps_set (i := 3) nd rfl (Or.inl rfl) (pv 1))
        (pss_one (ps_while (passes_of rfl) (pt_cmpR op_ne (pe_op op_mod (pe_callTy call_int1 (by rfl) T.f_int (by decide +kernel) (pa_cons (pv 1) pa_nil)) (pv 2)) pe_int (nomark _))
          (pss_one (ps_set (i := 1) nd rfl (Or.inl rfl) (pe_op op_add (pv 1) (pv 3))))))))
      (pss_one (ps_ret (pv 1)))))), ?_⟩
    have t0 := SqT.of (K := K) pl.at_
    refine ⟨_, rfl, t, _, _, _, rfl, rfl, t0, atI_nat (j := 1) (v := .ref l) rfl, Nat.zero_le _, fun p1 hp1 => ?_⟩
    have s1 : Same H (upd H p1 (.lst [])) := Same.upd hp1
    refine ⟨_, _, .lst (SqL.of (s1 _ _ pl.ns)) (dp_ivs k.args), .lst (SqL.of upd_same) .nil, by rw [data_ints]; exact shaped_ints _, by decide, _, rfl, ?_⟩
    rw [data_ints, eqv_nil]
    have t1 := SqT.of (K := K) (s1 _ _ pl.at_)
    cases k with
    | pl => exact q _ s1
    | rs => exact q _ s1
    | md m =>
      refine ite3 (fun h => by cases h) (fun _ => ?_)
      refine ⟨_, rfl, t, _, _, _, rfl, rfl, t1, atI_nat (j := 0) (v := .str "modulo") rfl, rfl, _, rfl, ite3 (fun _ => ?_) (fun h => by cases h)⟩
      exact ⟨_, rfl, t, _, _, _, rfl, rfl, t1, atI_nat (j := 1) (v := .ref l) rfl, l, _, _, _, rfl, rfl, SqL.of (s1 _ _ pl.ns), atI_nat (j := 0) (v := .int m) rfl, q _ s1⟩
    | dl ps =>
      obtain ⟨g1, g2, g3⟩ := pl.good
      have ne : ((Kd.args (.dl ps)).map fun (p : Nat) => ((p : Nat) : Int)).isEmpty = false := by
        cases ps with
        | nil => simp at g1
        | cons p r => rfl
      rw [ne]
      refine ite3 (fun h => by cases h) (fun _ => ?_)
      refine ⟨_, rfl, t, _, _, _, rfl, rfl, t1, atI_nat (j := 0) (v := .str "dials") rfl, rfl, _, rfl, ite3 (fun h => by cases h) (fun _ => ?_)⟩
      refine ⟨_, rfl, t, _, _, _, rfl, rfl, t1, atI_nat (j := 1) (v := .ref l) rfl, l, rfl, ⟨_, SqL.of (s1 _ _ pl.ns)⟩, ?_⟩
      refine for_it (walk_list (xs := ivs ps)) (fun i σ H1 => Same H H1 ∧ ∃ x2 x3, σ = [some (.ref t), some (.int ((lcms (ps.take i) : Nat) : Int)), x2, x3]) ⟨s1, none, none, rfl⟩ (fun i σ H1 _ z => SqL.of (z.1 _ _ pl.ns)) (fun i y σ H1 H2 hi z yy => ?_) (fun σ H1 z => ?_)
      · obtain ⟨s2, x2, x3, rfl⟩ := z
        obtain ⟨rfl, hx⟩ := yy
        obtain ⟨p, hp, rfl⟩ := ivs_at hx
        obtain ⟨p2, p3⟩ := g3 p (List.mem_of_getElem? hp)
        obtain ⟨Lp, Lb⟩ := lcms_bd g3 i
        have nx := lcms_next hp
        generalize lcms (ps.take i) = L at Lp nx ⊢
        refine ⟨_, rfl, fun m σ H3 => ∃ j, j * L + m = Nat.lcm L p ∧ 1 ≤ j ∧ H3 = H2 ∧ σ = [some (.ref t), some (.int ((j * L : Nat) : Int)), some (.int p), some (.int (L : Int))], ⟨Nat.lcm L p - 1 * L, 1, ?_, Nat.le_refl _, rfl, ?_⟩, ?_⟩
        · have := Nat.le_of_dvd (Nat.lcm_pos Lp (by omega)) (Nat.dvd_lcm_left L p)
          omega
        · rw [Nat.one_mul]
          rfl
        rintro m σ H3 ⟨j, hj, j1, rfl, rfl⟩
        obtain ⟨st1, st2⟩ := lcm_step Lp (by omega : 0 < p) j1 (by omega : j * L ≤ Nat.lcm L p)
        refine ⟨_, rfl, .inl ⟨_, rfl, _, rfl, _, _, rfl, rfl, (by show (0 : Int) < p; omega), rfl, _, rfl, ?_⟩⟩
        have ec : ((j * L : Nat) : Int) % (p : Int) = ((j * L % p : Nat) : Int) := (Int.natCast_emod _ _).symm
        refine ite3 (fun hb => ?_) (fun hb => ?_)
        · have hz : ¬ j * L % p = 0 := fun e => by
            have hb2 : (!decide (V.int (((j * L : Nat) : Int) % (p : Int)) = V.int 0)) = true := hb
            rw [ec, e] at hb2
            exact absurd hb2 (by decide)
          refine ⟨fun σ' H4 => H4 = H3 ∧ σ' = [some (.ref t), some (.int (((j + 1) * L : Nat) : Int)), some (.int p), some (.int (L : Int))], ?_, ?_⟩
          · rintro σ' H4 ⟨rfl, rfl⟩
            have := st2 fun e => hz (st1.mpr e)
            refine ⟨Nat.lcm L p - (j + 1) * L, ?_, j + 1, by omega, by omega, rfl, rfl⟩
            rw [Nat.succ_mul] at this ⊢
            omega
          · refine ⟨_, rfl, _, rfl, _, _, rfl, rfl, rfl, ?_⟩
            rw [Nat.succ_mul, Int.natCast_add]
            rfl
        · have hz : j * L % p = 0 := by
            by_cases e : j * L % p = 0
            · exact e
            · exfalso
              have hb2 : (!decide (V.int (((j * L : Nat) : Int) % (p : Int)) = V.int 0)) = false := hb
              rw [ec, decide_eq_false (fun z => e (by injection z with z; exact Int.ofNat.inj z))] at hb2
              cases hb2
          refine ⟨s2, some (.int p), some (.int (L : Int)), ?_⟩
          rw [nx, st1.mp hz]
      · obtain ⟨s2, x2, x3, rfl⟩ := z
        refine ⟨_, rfl, ?_⟩
        rw [ivs_len, List.take_length]
        exact q _ s2
end
end K23
set_option Elab.async false
set_option linter.all false
set_option maxRecDepth 100000
set_option maxHeartbeats 4000000
namespace K23
open PySem PySem.Spec PyProof.Rows L2 Pre Dfs Vls
def some9 : List Nat := [2, 3, 4, 6, 9, 10, 12, 1000, 999]
theorem some9_bd : ∀ q ∈ some9, 2 ≤ q ∧ q ≤ 1000 := by decide
theorem ivs_mem {ps : List Nat} {x : V} (h : x ∈ ivs ps) : ∃ q ∈ ps, x = .int (q : Int) := by
  obtain ⟨q, hq, rfl⟩ := List.mem_map.mp h
  exact ⟨q, hq, rfl⟩
theorem Pen.same {K : PySem.W.Frag} {H H' : Hp} {p a : Addr} {ns : List Int} {s g : Int} (R : Pen K H p a ns s g) (S : Same H H') : Pen K H' p a ns s g := ⟨S _ _ R.at_, S _ _ R.cells, R.len, R.s0, R.g0⟩
section
variable {P : Program} {w : World} {K : PySem.W.Frag} {mg : Str → Option Value} {base : Heap}
def spRgs (K : PySem.W.Frag) : Sp := fun vs H Q _ => ∃ (p a : Addr) (ns : List Int) (s g : Int), vs = [.ref p] ∧ Pen K H p a ns s g ∧ s < 900000 ∧
  ∀ (H' : Hp) (t l : Addr) (k : Kd) (s' g' : Int), But p H H' → Pen K H' p a ns s' g' → s ≤ s' → s' ≤ s + 10 → Pln H' t l k → Q (.ref t) H'
theorem d_rgs (T : Tx K mg) : Dfn P w K mg base CX0 3 "_law_register" ["_law_pen_here"] (spRgs K) := by
  have nd : (["_law_pen_here", "_law_way", "_law_some", "_law_turn"] : List Str).Nodup := by decide +kernel
  refine dfn T.q_law_register T.g_law_register (N := ["_law_pen_here", "_law_way", "_law_some", "_law_turn"]) ⟨rfl, rfl, rfl, by decide +kernel, rfl, by decide +kernel, by decide +kernel⟩ (fun vs H Q E h => ?_) (fun kV doc pm an cdv ct => bind1 fun a => rfl) (fun cdv A outer s H vs Q E hr h => ?_)
  · obtain ⟨_, _, _, _, _, rfl, _⟩ := h
    rfl
  · obtain ⟨p, a, ns, z, g, rfl, R, hz, q⟩ := h
    refine ⟨_, pss_cons (ps_set (i := 1) nd rfl (Or.inl rfl) (pe_d (d_draw T) (hr.mono (by decide)) (by rfl) (E := E) p0 (pa_cons (pv 0) (pa_cons pe_int pa_nil))))
      (pss_cons (ps_if (pt_cmpR op_lt (pv 1) pe_int (nomark _)) (pss_one (ps_ret (pe_tup (pa_cons pe_str (pa_cons (pe_lst (pa_cons (pe_d (d_pick T) hr (by rfl) (E := E) p0 (pa_cons (pv 0) (pa_cons (pe_lst (pa_cons pe_int (pa_cons pe_int (pa_cons pe_int (pa_cons pe_int (pa_cons pe_int
          (pa_cons (pe_op op_pow pe_int pe_int) (pa_cons (pe_op op_pow pe_int pe_int) (pa_cons (pe_op op_add pe_int (pe_d (d_draw T) (hr.mono (by decide)) (by rfl) (E := E) p0 (pa_cons (pv 0) (pa_cons pe_int pa_nil)))) pa_nil))))))))) pa_nil))) pa_nil)) pa_nil))))) pss_nil)
      (pss_cons (ps_if (pt_cmpR op_lt (pv 1) pe_int (nomark _))
          (pss_cons (ps_set (i := 2) nd rfl (Or.inr rfl) (pe_lst (pa_cons pe_int (pa_cons pe_int (pa_cons pe_int (pa_cons pe_int (pa_cons pe_int (pa_cons pe_int (pa_cons pe_int (pa_cons pe_int (pa_cons pe_int pa_nil)))))))))))
          (pss_one (ps_ret (pe_tup (pa_cons pe_str (pa_cons (pe_lc rfl nd (pi_range1 (by rfl) T.f_range (pa_cons (pe_op op_add pe_int (pe_d (d_draw T) (hr.mono (by decide)) (by rfl) (E := E) p0 (pa_cons (pv 0) (pa_cons pe_int pa_nil)))) pa_nil)) (own := [("_law_turn", 3)]) (blk_by (by kernel_rfl))
              (fun _ _ _ _ _ => pg_name (i := 3) nd rfl (Or.inl rfl)) (fun _ _ _ _ _ => pts_nil) (fun _ _ _ _ _ => pe_d (d_pick T) hr (by rfl) (E := E) p0 (pa_cons (pv 0) (pa_cons (pv 2) pa_nil)))) pa_nil)))))) pss_nil)
      (pss_one (ps_ret (pe_tup (pa_cons (pe_ix ix_list (pe_lst (pa_cons pe_str (pa_cons pe_str pa_nil))) (pe_op op_sub (pv 1) pe_int) (fun _ _ => rfl)) (pa_cons (pe_lst pa_nil) pa_nil))))))), ?_⟩
    refine ⟨_, rfl, p, a, ns, z, g, 6, rfl, R, by omega, by omega, by omega, fun H1 s1 g1 r b1 R1 h1 h2 h3 h4 => ?_⟩
    obtain ⟨n, rfl⟩ := Int.eq_ofNat_of_zero_le h3
    refine ⟨_, rfl, _, _, rfl, rfl, _, rfl, ite3 (fun w2 => ?_) (fun w2 => ?_)⟩
    · refine ⟨_, rfl, ⟨_, _, rfl, rfl, ⟨by decide, by decide, by decide⟩, _, _, rfl, rfl, ⟨by decide, by decide, by decide⟩, _, rfl, p, a, ns, s1, g1, 40, rfl, R1, by omega, by omega, by omega, fun H2 s2 g2 r2 b2 R2 h5 h6 h7 h8 => ?_⟩⟩
      obtain ⟨n2, rfl⟩ := Int.eq_ofNat_of_zero_le h7
      refine ⟨_, _, rfl, rfl, (by show (8 : Nat) ≤ sizeLine; rw [sizeLine_eq]; decide), fun b hb => ?_⟩
      have nb : b ≠ p := fun e => by
        subst e
        rw [R2.at_] at hb
        cases hb
      refine ⟨p, a, b, ns, s2, g2, _, rfl, R2.same (Same.upd hb), by omega, nb, upd_same, (by show (0 : Nat) < 8; decide), (by show (8 : Nat) < 1000; decide), fun H3 s3 g3 x b3 R3 h9 h10 hx => ?_⟩
      obtain ⟨m, rfl, m1, m2⟩ : ∃ m : Nat, x = .int (m : Int) ∧ 2 ≤ m ∧ m ≤ 10 ^ 18 := by
        simp only [List.mem_cons, List.not_mem_nil, or_false] at hx
        rcases hx with rfl | rfl | rfl | rfl | rfl | rfl | rfl | rfl
        · exact ⟨2, rfl, by decide, by decide⟩
        · exact ⟨3, rfl, by decide, by decide⟩
        · exact ⟨10, rfl, by decide, by decide⟩
        · exact ⟨12, rfl, by decide, by decide⟩
        · exact ⟨100, rfl, by decide, by decide⟩
        · exact ⟨10 ^ 9, rfl, by decide, by decide⟩
        · exact ⟨10 ^ 18, rfl, by decide, by decide⟩
        · exact ⟨2 + n2, congrArg V.int (by show (2 : Int) + (n2 : Nat) = ((2 + n2 : Nat) : Int); omega), by omega, by omega⟩
      refine ⟨(by show (1 : Nat) ≤ sizeLine; rw [sizeLine_eq]; decide), fun l hl => ⟨(by show (2 : Nat) ≤ sizeLine; rw [sizeLine_eq]; decide), fun t ht => ?_⟩⟩
      have nt : l ≠ t := ne_of_none upd_same ht
      have S3 : Same H3 (upd (upd H3 l (.lst [.int (m : Int)])) t (.tup [.str "modulo", .ref l])) := Same.new (Same.upd hl) ht
      exact q _ t l (.md m) s3 g3 ((b1.trans ((b2.new hb).trans b3)).trans (But.of S3)) (R3.same S3) (by omega) (by omega) ⟨upd_same, (upd_ne nt).trans upd_same, m1, m2⟩
    · refine ⟨_, rfl, _, _, rfl, rfl, _, rfl, ite3 (fun w4 => ?_) (fun w4 => ?_)⟩
      · refine ⟨(by show (9 : Nat) ≤ sizeLine; rw [sizeLine_eq]; decide), fun b hb => ?_⟩
        have nb : b ≠ p := fun e => by
          subst e
          rw [R1.at_] at hb
          cases hb
        have hb1 : upd H1 b (.lst (ivs some9)) b = some (.lst (ivs some9)) := upd_same
        refine ⟨_, rfl, p, a, ns, s1, g1, 4, rfl, R1.same (Same.upd hb), by omega, by omega, by omega, fun H2 s2 g2 r2 b2 R2 h5 h6 h7 h8 => ?_⟩
        obtain ⟨n2, rfl⟩ := Int.eq_ofNat_of_zero_le h7
        have en : ((1 : Int) + (n2 : Nat)).toNat = 1 + n2 := by omega
        refine ⟨_, _, rfl, rfl, _, rfl, by omega, by omega, fun D hD => ?_⟩
        have nD : D ≠ p := fun e => by
          subst e
          rw [R2.at_] at hD
          cases hD
        have hb2 := b2 _ _ nb hb1
        have nDb : b ≠ D := ne_of_none hb2 hD
        have nDa : a ≠ D := ne_of_none R2.cells hD
        refine lc_it (walk_range (lo := 0) (n := ((1 : Int) + (n2 : Nat)).toNat)) (fun i H3 => But p H2 H3 ∧ (∃ s3 g3, Pen K H3 p a ns s3 g3 ∧ s2 ≤ s3 ∧ s3 ≤ s2 + i) ∧ H3 b = some (.lst (ivs some9)) ∧ ∃ qs, H3 D = some (.lst (ivs qs)) ∧ qs.length = i ∧ ∀ q ∈ qs, 2 ≤ q ∧ q ≤ 1000)
          ⟨(But.refl p H2).new hD, ⟨s2, g2, R2.same (Same.upd hD), by omega, by omega⟩, (upd_ne nDb).trans hb2, [], upd_same, rfl, fun q h => by cases h⟩ (fun _ _ _ _ => True.intro) (fun i x H3 H4 hi z y => ?_) (fun H3 z => ?_)
        · obtain ⟨rfl, rfl⟩ := y
          obtain ⟨b3, ⟨s3, g3, R3, k1, k2⟩, hb3, qs, hq, lq, bq⟩ := z
          refine ⟨rfl, ?_⟩
          unfold tYes
          refine ite3 (fun _ => ?_) (fun h => by cases h)
          refine ⟨_, rfl, _, rfl, p, a, b, ns, s3, g3, ivs some9, rfl, R3, by omega, nb, hb3, by decide, by decide, fun H5 s5 g5 x b5 R5 k3 k4 hx => ?_⟩
          obtain ⟨m, hm, rfl⟩ := ivs_mem hx
          refine ⟨_, b5 _ _ nD hq, by rw [ivs_len, sizeLine_eq]; omega, but_put (b3.trans b5) hD, ⟨s5, g5, ⟨(upd_ne nD.symm).trans R5.at_, (upd_ne nDa).trans R5.cells, R5.len, R5.s0, R5.g0⟩, by omega, by omega⟩, (upd_ne nDb).trans (b5 _ _ nb hb3), qs ++ [m], ?_, ?_, ?_⟩
          · rw [upd_same]
            unfold ivs
            rw [List.map_append]
            rfl
          · rw [List.length_append, lq]
            rfl
          · intro y hy
            rcases List.mem_append.mp hy with h | h
            · exact bq y h
            · obtain rfl : y = m := by simpa using h
              exact some9_bd y hm
        · obtain ⟨b3, ⟨s3, g3, R3, k1, k2⟩, hb3, qs, hq, lq, bq⟩ := z
          refine ⟨(by show (2 : Nat) ≤ sizeLine; rw [sizeLine_eq]; decide), fun t ht => ?_⟩
          have S3 : Same H3 (upd H3 t (.tup [.str "dials", .ref D])) := Same.upd ht
          exact q _ t D (.dl qs) s3 g3 ((b1.trans ((((But.refl p H1).new hb).trans b2).trans b3)).trans (But.of S3)) (R3.same S3) (by omega) (by omega) ⟨upd_same, S3 _ _ hq, by omega, by omega, bq⟩
      · have w2' := of_decide_eq_false w2
        have w4' := of_decide_eq_false w4
        refine ⟨(by show (2 : Nat) ≤ sizeLine; rw [sizeLine_eq]; decide), fun b hb => ?_⟩
        obtain rfl | rfl : n = 4 ∨ n = 5 := by omega
        · refine ⟨_, rfl, _, _, rfl, rfl, b, _, _, _, rfl, rfl, SqL.of upd_same, atI_nat (j := 0) (v := .str "plain") rfl, Nat.zero_le _, fun l hl => ⟨(by show (2 : Nat) ≤ sizeLine; rw [sizeLine_eq]; decide), fun t ht => ?_⟩⟩
          have nt : l ≠ t := ne_of_none upd_same ht
          have S3 := Same.new (o := .tup [.str "plain", .ref l]) (Same.new (o := .lst []) (Same.upd (o := .lst [.str "plain", .str "restarting"]) hb) hl) ht
          exact q _ t l .pl s1 g1 (b1.trans (But.of S3)) (R1.same S3) (by omega) (by omega) ⟨upd_same, (upd_ne nt).trans upd_same, True.intro⟩
        · refine ⟨_, rfl, _, _, rfl, rfl, b, _, _, _, rfl, rfl, SqL.of upd_same, atI_nat (j := 1) (v := .str "restarting") rfl, Nat.zero_le _, fun l hl => ⟨(by show (2 : Nat) ≤ sizeLine; rw [sizeLine_eq]; decide), fun t ht => ?_⟩⟩
          have nt : l ≠ t := ne_of_none upd_same ht
          have S3 := Same.new (o := .tup [.str "restarting", .ref l]) (Same.new (o := .lst []) (Same.upd (o := .lst [.str "plain", .str "restarting"]) hb) hl) ht
          exact q _ t l .rs s1 g1 (b1.trans (But.of S3)) (R1.same S3) (by omega) (by omega) ⟨upd_same, (upd_ne nt).trans upd_same, True.intro⟩
end
end K23
set_option Elab.async false
set_option linter.all false
set_option maxRecDepth 100000
set_option maxHeartbeats 2000000
/-! x == y, where the class of x answers by an own __eq__, whatever y is. -/
namespace Oeq
open PySem PySem.Spec PyProof.Rows L2 Pre
/-- the other operand: an instance, or a text -/
inductive Oth (H : Hp) : V → Value → Prop where
  | ins {b D dx : Addr} {fs : List (Str × V)} (e : H b = some (.ins D dx fs)) : Oth H (.ref b) (.ref D)
  | str (z : Str) : Oth H (.str z) (.type "str")
section
variable {X : Cx} {CX : CXT} {n : Nat} {f C : Addr} {fd : FuncData} {sp : Sp} {E : XK}
theorem Oth.looks {pins : List (Addr × Obj)} {σ : L2.St} {H : Hp} {s : Shared} {y : V} {u t : Value} {M : Model} (o : Oth H y t) (I : Inv X pins σ H s) (r : RelV y u) : PySem.W.Looks M s.heap (typeOf u) t := by
  cases o with
  | ins e =>
    cases (show u = Value.ref _ from r)
    obtain ⟨mB, J, _⟩ := ins_get I.hok e
    obtain ⟨od, J2, _⟩ := J.look
    exact J2.type
  | str z =>
    obtain ⟨k, rfl⟩ := (show ∃ k, u = Value.str z k from r)
    exact .of_pure rfl
def rEqO (K : PySem.W.Frag) (C : Addr) (sp : Sp) (E : XK) : R2 := fun x y H Q => ∃ a dx fs t, x = .ref a ∧ H a = some (.ins C dx fs) ∧ Oth H y t ∧ PySem.W.notFirst K C t = true ∧ sp [x, y] H (fun v H' => ∃ b, v = .bl b ∧ Q (.bl b) H') E
/-- the call of the own method, and what comes back -/
theorem ask {pins : List (Addr × Obj)} {σ : L2.St} {H : Hp} {s : Shared} {a : Addr} {y : V} {u : Value} {Q : VK} {A : Around} (F : FnOk X.prog X.w X.K X.mg X.base CX n f fd ["self", "other"] sp) (hb : Binds X.K fd ["self", "other"] []) (hr : Room n A) (hA : Env0 X.prog X.w X.K X.mg X.base A X.stack s H) (hx : Passes CX X E)
    (I : Inv X pins σ H s) (ry : RelV y u) (q : sp [.ref a, y] H (fun v H' => ∃ b, v = .bl b ∧ Q (.bl b) H') E) :
    wpAny (model X.prog X.w) A (call (.ref f) [.ref a, u]) (fun v s' => ∃ b, v = Value.bool b ∧ EP X pins σ Q (.bool b) s') X.xe s := by
  have hb2 := hb s [Value.ref a, u] I.kIn rfl
  refine wpAny_call (codeAny_mono (F.run A X.stack s H ⟨[Value.ref a, u], []⟩ [Value.ref a, u] [V.ref a, y] _ E hr hA hb2 (.cons rfl (.cons ry .nil)) q) ?_)
  intro out s' back
  cases out with
  | error z => exact hx pins σ H s z s' I back
  | ok fl =>
    cases fl with
    | ret w =>
      obtain ⟨v, H2, I2, rv, b, rfl, q2⟩ := I.after back
      cases (show w = Value.bool b from rv)
      exact ⟨b, rfl, .bl b, H2, I2, rfl, q2⟩
    | next => exact back.elim
    | brk => exact back.elim
    | cont => exact back.elim
theorem op_eqO (m : Meth X.K C "__eq__" f) (F : FnOk X.prog X.w X.K X.mg X.base CX n f fd ["self", "other"] sp) (hb : Binds X.K fd ["self", "other"] []) (hr : Room n X.A) (hx : Passes CX X E) : OpR X (compareOp .Eq) (rEqO X.K C sp E) := by
  intro pins s σ H x y v u Q I rx ry h
  obtain ⟨a, dx, fs, t, rfl, ea, ot, nf, q⟩ := h
  cases (show v = Value.ref a from rx)
  obtain ⟨mA, J, _⟩ := ins_get I.hok ea
  obtain ⟨od, J2, _⟩ := J.look
  obtain ⟨mF, hF⟩ := I.fr
  show wpAny _ _ (richCompare .Eq (.ref a) u) _ _ _
  refine PySem.W.cmp_K (op := .Eq) (tb := t) hr.units0 hF I.ok.mod.kin J2 (ot.looks I ry) nf m.at_ m.fn ?_
  refine wpAny_mono (ask F hb hr I.env0 hx I ry q) ?_ fun _ _ z => z
  rintro w s' ⟨b, rfl, q2⟩
  exact q2
/-- the other operand is of a class below, which answers first -/
theorem below {M : Program} {w : World} {A : Around} {E0 : Value → Shared → Prop} {K : PySem.W.Frag} {s : Shared} {a b D : Addr} {oa ob : Obj} {ca cb : Option Obj} {R : Value → Shared → Prop} (hu : A.units < cLine) (kin : K.In s.heap)
    (ha : PySem.W.InstAt s.heap a oa C ca) (hb : PySem.W.InstAt s.heap b ob D cb) (hn : (Value.ref C != Value.ref D) = true) (hs : PySem.W.subIn K (.ref D) (.ref C) = some true)
    (e1 : PySem.W.findIn K (.ref D) "__eq__" = some (some (.ref f))) (e2 : PySem.W.isFn K (.ref f) = true)
    (go : wpAny (model M w) A (call (.ref f) [.ref b, .ref a]) (fun v s' => ∃ c, v = Value.bool c ∧ R (.bool c) s') E0 s) : wpAny (model M w) A (richCompare .Eq (.ref a) (.ref b)) R E0 s := by
  have tried : wpAny (model M w) A (tryCompare (.ref b) "__eq__" (.ref a)) (fun r s' => ∃ c, r = some (Value.bool c) ∧ R (.bool c) s') E0 s := by
    unfold tryCompare
    refine wpAny_bind (PySem.W.ifBound_K kin hb e1 e2 (wpAny_mono go ?_ fun _ _ z => z))
    rintro v s' ⟨c, rfl, q⟩
    exact wpAny_pure ⟨c, rfl, q⟩
  unfold richCompare
  simp only [oneThing_ref, cmpInfo]
  refine wpAny_holding (wpAny_bind (wpAny_cRoomFor hu (wpAny_bind (ha.type.here (wpAny_bind (hb.type.here ?_))))))
  rw [if_pos hn]
  refine wpAny_bind ((PySem.W.looks_subIn kin hs).here ?_)
  rw [if_pos rfl]
  refine wpAny_bind (wpAny_mono tried ?_ fun _ _ z => z)
  rintro r s' ⟨c, rfl, q⟩
  exact wpAny_bind (wpAny_rule (wpAny_pure q))
/-- x == y, y of a class D below that of x -/
def rEqB (C D : Addr) (sp : Sp) (E : XK) : R2 := fun x y H Q => ∃ a dx fs b dy gs, x = .ref a ∧ H a = some (.ins C dx fs) ∧ y = .ref b ∧ H b = some (.ins D dy gs) ∧ sp [y, x] H (fun v H' => ∃ c, v = .bl c ∧ Q (.bl c) H') E
theorem op_eqB {D : Addr} (m : Meth X.K D "__eq__" f) (F : FnOk X.prog X.w X.K X.mg X.base CX n f fd ["self", "other"] sp) (hb : Binds X.K fd ["self", "other"] []) (hr : Room n X.A) (hx : Passes CX X E) (hn : (Value.ref C != Value.ref D) = true) (hs : PySem.W.subIn X.K (.ref D) (.ref C) = some true) :
    OpR X (compareOp .Eq) (rEqB C D sp E) := by
  intro pins s σ H x y v u Q I rx ry h
  obtain ⟨a, dx, fs, b, dy, gs, rfl, ea, rfl, eb, q⟩ := h
  cases (show v = Value.ref a from rx)
  cases (show u = Value.ref b from ry)
  obtain ⟨mA, J, _⟩ := ins_get I.hok ea
  obtain ⟨oa, J1, _⟩ := J.look
  obtain ⟨mB, J, _⟩ := ins_get I.hok eb
  obtain ⟨ob, J2, _⟩ := J.look
  show wpAny _ _ (richCompare .Eq (.ref a) (.ref b)) _ _ _
  exact below hr.units0 I.kIn J1 J2 hn hs m.at_ m.fn (ask (y := .ref a) (u := Value.ref a) F hb hr I.env0 hx I rfl q)
end
end Oeq
set_option Elab.async false
set_option linter.all false
set_option maxRecDepth 100000
set_option maxHeartbeats 2000000
/-! x != y, where the class of x says only ==. -/
namespace Oeq
open PySem PySem.Spec PyProof.Rows L2 Pre
section
variable {X : Cx} {CX : CXT} {n : Nat} {f C : Addr} {fd : FuncData} {sp : Sp} {E : XK}
/-- object's own != : the other way about of what == says -/
theorem other_way {P : Program} {w : World} {A : Around} {E0 : Value → Shared → Prop} {K : PySem.W.Frag} {s : Shared} {a : Addr} {oa : Obj} {ca : Option Obj} {u : Value} {R : Fin → Shared → Prop} (hu : A.units < cLine) (kin : K.In s.heap)
    (ha : PySem.W.InstAt s.heap a oa C ca) (e1 : PySem.W.findIn K (.ref C) "__eq__" = some (some (.ref f))) (e2 : PySem.W.isFn K (.ref f) = true)
    (go : wpAny (model P w) A (call (.ref f) [.ref a, u]) (fun v s' => ∃ b, v = Value.bool b ∧ R (.done (.ret (.bool (!b)))) s') E0 s) :
    wpAny (model P w) A (Builtin.«object.__ne__» ⟨[.ref a, u], []⟩) R E0 s := by
  have said : wpAny (model P w) A (callSpecialIfBound? (.ref a) "__eq__" [u]) (fun r s' => ∃ b, r = some (Value.bool b) ∧ R (.done (.ret (.bool (!b)))) s') E0 s := by
    refine PySem.W.ifBound_K kin ha e1 e2 (wpAny_mono go ?_ fun _ _ z => z)
    rintro v s' ⟨b, rfl, q⟩
    exact ⟨b, rfl, q⟩
  unfold Builtin.«object.__ne__»
  show wpAny _ _ (slotArgs "__ne__" 1 ⟨[.ref a, u], []⟩ >>= _) _ _ _
  rw [show slotArgs "__ne__" 1 ⟨[.ref a, u], []⟩ = pure (.ref a, [u]) from rfl]
  refine wpAny_bind (wpAny_pure ?_)
  refine wpAny_bind (wpAny_cRoomFor hu ?_)
  refine wpAny_bind (wpAny_mono said ?_ fun _ _ z => z)
  rintro r s' ⟨b, rfl, q⟩
  refine wpAny_bind (wpAny_truthy_bool ?_)
  exact wpAny_pure q
theorem slot_ok {P : Program} {w : World} {A : Around} {E0 : Value → Shared → Prop} {K : PySem.W.Frag} {s : Shared} {a : Addr} {oa : Obj} {ca : Option Obj} {u : Value} {R : Unit → Shared → Prop} (kin : K.In s.heap)
    (ha : PySem.W.InstAt s.heap a oa C ca) (ho : PySem.W.mroIn K C (.type "object") = some true) (q : R () s) : wpAny (model P w) A (checkBuiltinCall "object.__ne__" ⟨[.ref a, u], []⟩) R E0 s := by
  have L : PySem.W.Looks (model P w) s.heap (isInstance (.ref a) (.type "object")) true := ha.type.andThen (PySem.W.looks_mroIn kin ho)
  have args := F.cmpArgs_ne (.ref a) u
  simp only [checkBuiltinCall, F.cmpKind_ne, F.cmpSplit_ne]
  refine wpAny_bind (L.here ?_)
  unfold argsOk at args
  cases hs : Manifest.signature? "object.__ne__" with
  | none => exact wpAny_pure q
  | some sig =>
    rw [hs] at args
    have e : Bind.checkArgs "object.__ne__" sig ⟨[.ref a, u], []⟩ = pure () := args
    show wpAny _ _ (Bind.checkArgs "object.__ne__" sig ⟨[.ref a, u], []⟩) _ _ _
    rw [e]
    exact wpAny_pure q
def rNeO (K : PySem.W.Frag) (C : Addr) (sp : Sp) (E : XK) : R2 := fun x y H Q => ∃ a dx fs t, x = .ref a ∧ H a = some (.ins C dx fs) ∧ Oth H y t ∧ PySem.W.notFirst K C t = true ∧ sp [x, y] H (fun v H' => ∃ b, v = .bl b ∧ Q (.bl (!b)) H') E
theorem op_neO (m : Meth X.K C "__eq__" f) (FO : FnOk X.prog X.w X.K X.mg X.base CX n f fd ["self", "other"] sp) (hb : Binds X.K fd ["self", "other"] []) (hr : Room (n + 2) X.A) (hx : Passes CX X E)
    (hne : PySem.W.findIn X.K (.ref C) "__ne__" = some (some (.builtin "object.__ne__"))) (ho : PySem.W.mroIn X.K C (.type "object") = some true) : OpR X (compareOp .NotEq) (rNeO X.K C sp E) := by
  intro pins s σ H x y v u Q I rx ry h
  obtain ⟨a, dx, fs, t, rfl, ea, ot, nf, q⟩ := h
  cases (show v = Value.ref a from rx)
  obtain ⟨mA, J, _⟩ := ins_get I.hok ea
  obtain ⟨od, J2, _⟩ := J.look
  have kin := I.kIn
  have slot := F.cmp_object.ne
  have asked : wpAny (model X.prog X.w) X.A (tryCompare (.ref a) "__ne__" u) (fun r s' => ∃ b, r = some (Value.bool b) ∧ EP X pins σ Q (.bool b) s') X.xe s := by
    have rung : wpAny (model X.prog X.w) X.A (call (.builtin "object.__ne__") [.ref a, u]) (fun v s' => ∃ b, v = Value.bool b ∧ EP X pins σ Q (.bool b) s') X.xe s := by
      refine wpAny_call (codeAny_call_builtin slot.plain F.cmpEntry_ne (slot_ok kin J2 ho ?_))
      refine other_way (A := X.A.in1) hr.in1.units0 kin J2 m.at_ m.fn ?_
      have same : (fun v H' => ∃ b, v = V.bl b ∧ (fun v H' => ∃ b, v = V.bl b ∧ Q (.bl (!b)) H') (.bl b) H') = (fun v H' => ∃ b, v = V.bl b ∧ Q (.bl (!b)) H' : VK) := by
        funext v H'
        refine propext ⟨?_, ?_⟩
        · rintro ⟨b, rfl, c, e, q⟩
          obtain rfl : b = c := V.bl.inj e
          exact ⟨b, rfl, q⟩
        · rintro ⟨b, rfl, q⟩
          exact ⟨b, rfl, b, rfl, q⟩
      refine wpAny_mono (ask (A := X.A.in1) (Q := fun v H' => ∃ b, v = V.bl b ∧ Q (.bl (!b)) H') FO hb (hr.in1.mono (by omega)) I.env0.in1 hx I ry (by rw [same]; exact q)) ?_ fun _ _ z => z
      rintro v s' ⟨b, rfl, w, H2, I2, rw2, c, rfl, q2⟩
      cases (show Value.bool b = Value.bool c from rw2)
      exact ⟨b, rfl, !b, rfl, .bl (!b), H2, I2, rfl, q2⟩
    unfold tryCompare
    refine wpAny_bind ?_
    simp only [callSpecialIfBound?, bindSpecialIfBound?, specialOf]
    refine wpAny_holding (wpAny_bind (wpAny_bind (wpAny_bind (J2.type.here ((PySem.W.looks_findIn kin hne).here ?_)))))
    simp only [slot.bind]
    have fin : wpAny (model X.prog X.w) X.A (call (.builtin "object.__ne__") ([.ref a] ++ [u]) >>= fun v => pure (some v)) (fun r s' => wpAny (model X.prog X.w) X.A (match r with | some .notImplemented | none => pure none | some v => pure (some v)) (fun r s' => ∃ b, r = some (Value.bool b) ∧ EP X pins σ Q (.bool b) s') X.xe s') X.xe s := by
      refine wpAny_bind (wpAny_mono rung ?_ fun _ _ z => z)
      rintro v s' ⟨b, rfl, q⟩
      exact wpAny_pure (wpAny_pure ⟨b, rfl, q⟩)
    refine wpAny_bind (wpAny_askSetting (wpAny_ite ?_))
    split
    · exact wpAny_bind (wpAny_pure (wpAny_pure fin))
    · exact wpAny_tryCatch (wpAny_bind (wpAny_pure (wpAny_pure fin)))
  show wpAny _ _ (richCompare .NotEq (.ref a) u) _ _ _
  have last : wpAny (model X.prog X.w) X.A (tryCompare (.ref a) "__ne__" u) (fun r s' => ∃ b, r = some (Value.bool b) ∧ EP X pins σ Q (.bool b) s') X.xe s := asked
  unfold richCompare
  simp only [oneThing_ref, cmpInfo]
  refine wpAny_holding (wpAny_bind (wpAny_cRoomFor hr.units0 (wpAny_bind (J2.type.here (wpAny_bind ((ot.looks I ry).here ?_))))))
  have rest : wpAny (model X.prog X.w) X.A (tryCompare (.ref a) "__ne__" u) (fun r s' => ∃ b, r = some (Value.bool b) ∧ EP X pins σ Q (.bool b) s') X.xe s := last
  by_cases c : (Value.ref C != t) = true
  · rw [if_pos c]
    have e : PySem.W.subIn X.K t (.ref C) = some false := by
      rcases Bool.or_eq_true_iff.mp nf with z | z
      · rw [beq_iff_eq.mp z] at c
        simp at c
      · exact beq_iff_eq.mp z
    refine wpAny_bind ((PySem.W.looks_subIn kin e).here ?_)
    rw [if_neg (by decide)]
    refine wpAny_bind (wpAny_mono rest ?_ fun _ _ z => z)
    rintro r s' ⟨b, rfl, q⟩
    exact wpAny_pure q
  · rw [if_neg c]
    refine wpAny_bind (wpAny_pure ?_)
    rw [if_neg (by decide)]
    refine wpAny_bind (wpAny_mono rest ?_ fun _ _ z => z)
    rintro r s' ⟨b, rfl, q⟩
    exact wpAny_pure q
end
end Oeq
set_option Elab.async false
set_option linter.all false
set_option maxRecDepth 100000
set_option maxHeartbeats 4000000
namespace K23
open PySem PySem.Spec PyProof.Rows L2 Pre Dfs Vls
/-- the total that is told of a reading of the total n -/
def totV : Kd → Nat → V
  | .pl, n => .int (n : Int)
  | .rs, n => .int (n : Int)
  | .md m, n => .int ((n : Int) % (m : Int))
  | .dl ps, n => .int ((n % lcms ps : Nat) : Int)
section
variable {P : Program} {w : World} {K : PySem.W.Frag} {mg : Str → Option Value} {base : Heap}
def spTot (K : PySem.W.Frag) (k : Kd) : Sp := fun vs H Q _ => ∃ (a : Addr) (v : V) (n : Nat) (l : Int), vs = [.ref a, v] ∧ Reg K H a k ∧ Rd H k n l v ∧ 0 ≤ l ∧ ∀ H', Same H H' → Q (totV k n) H'
theorem m_totX (T : Tx K mg) (k : Kd) : Mk0.Mk1 P w K mg base (L2.CX P w) 7 (CK K k) "total_of" "self" "reading" (spTot K k) := by
  have len : ∀ vs H Q E, spTot K k vs H Q E → vs.length = ["self", "reading"].length := fun vs H Q E h => by
    obtain ⟨_, _, _, _, rfl, _⟩ := h
    rfl
  cases k with
  | pl =>
    refine Mk0.mfk1 T.q_Plain_total_of T.c_Plain T.m_Plain_total_of (N := ["self", "reading"]) ⟨rfl, rfl, rfl, by decide +kernel, rfl, by decide +kernel, by decide +kernel⟩ len (fun kV doc pm an cdv ct a b => rfl) (fun kV doc pm an cdv ct a b => rfl) (fun cdv A outer s H vs Q E hr h => ?_)
    obtain ⟨a, v, n, l, rfl, r, rd, h1, q⟩ := h
    refine ⟨_, pss_cons (ps_expr (pe_d (d_chkR T .pl) (hr.mono (by decide)) (by rfl) (E := E) pc (pa_cons (pv 0) (pa_cons (pv 1) (pa_cons pe_str pa_nil))))) (pss_one (ps_ret (pv 1))), ?_⟩
    refine ⟨_, rfl, _, rfl, a, v, _, rfl, r, .inl ⟨⟨n, l, h1, rd⟩, fun H1 s1 => ?_⟩⟩
    cases rd with
    | pl => exact ⟨_, rfl, q H1 s1⟩
  | md m =>
    refine Mk0.mfk1 T.q_Wrapping_total_of T.c_Wrapping T.m_Wrapping_total_of (N := ["self", "reading"]) ⟨rfl, rfl, rfl, by decide +kernel, rfl, by decide +kernel, by decide +kernel⟩ len (fun kV doc pm an cdv ct a b => rfl) (fun kV doc pm an cdv ct a b => rfl) (fun cdv A outer s H vs Q E hr h => ?_)
    obtain ⟨a, v, n, l, rfl, r, rd, h1, q⟩ := h
    refine ⟨_, pss_cons (ps_expr (pe_d (d_chkR T (.md m)) (hr.mono (by decide)) (by rfl) (E := E) pc (pa_cons (pv 0) (pa_cons (pv 1) (pa_cons pe_str pa_nil))))) (pss_one (ps_ret (pv 1))), ?_⟩
    refine ⟨_, rfl, _, rfl, a, v, _, rfl, r, .inl ⟨⟨n, l, h1, rd⟩, fun H1 s1 => ?_⟩⟩
    cases rd with
    | md => exact ⟨_, rfl, q H1 s1⟩
  | rs =>
    refine Mk0.mfk1 T.q_Restarting_total_of T.c_Restarting T.m_Restarting_total_of (N := ["self", "reading"]) ⟨rfl, rfl, rfl, by decide +kernel, rfl, by decide +kernel, by decide +kernel⟩ len (fun kV doc pm an cdv ct a b => rfl) (fun kV doc pm an cdv ct a b => rfl) (fun cdv A outer s H vs Q E hr h => ?_)
    obtain ⟨a, v, n, l, rfl, r, rd, h1, q⟩ := h
    refine ⟨_, pss_cons (ps_expr (pe_d (d_chkR T .rs) (hr.mono (by decide)) (by rfl) (E := E) pc (pa_cons (pv 0) (pa_cons (pv 1) (pa_cons pe_str pa_nil))))) (pss_one (ps_ret (pe_ix ix_tup (pv 1) pe_int (fun _ _ => rfl)))), ?_⟩
    refine ⟨_, rfl, _, rfl, a, v, _, rfl, r, .inl ⟨⟨n, l, h1, rd⟩, fun H1 s1 => ?_⟩⟩
    cases rd with
    | rs e => exact ⟨_, rfl, _, _, _, _, rfl, rfl, SqT.of (s1 _ _ e), atI_nat (j := 1) (v := .int n) rfl, q H1 s1⟩
  | dl ps =>
    refine Mk0.mfk1 T.q_Dials_total_of T.c_Dials T.m_Dials_total_of (N := ["self", "reading"]) ⟨rfl, rfl, rfl, by decide +kernel, rfl, by decide +kernel, by decide +kernel⟩ len (fun kV doc pm an cdv ct a b => rfl) (fun kV doc pm an cdv ct a b => rfl) (fun cdv A outer s H vs Q E hr h => ?_)
    obtain ⟨a, v, n, l, rfl, r, rd, h1, q⟩ := h
    refine ⟨_, pss_cons (ps_expr (pe_d (d_chkR T (.dl ps)) (hr.mono (by decide)) (by rfl) (E := E) pc (pa_cons (pv 0) (pa_cons (pv 1) (pa_cons pe_str pa_nil))))) (pss_one (ps_ret (pe_d (d_least T) (hr.mono (by decide)) (by rfl) (E := E) p0 (pa_cons (fld (pv 0)) (pa_cons (pv 1) pa_nil))))), ?_⟩
    refine ⟨_, rfl, _, rfl, a, v, _, rfl, r, .inl ⟨⟨n, l, h1, rd⟩, fun H1 s1 => ?_⟩⟩
    cases r with
    | dl e ht g1 g2 g3 =>
      rename_i dx tp
      cases rd with
      | dl e1 =>
        rename_i t1
        exact ⟨_, rfl, a, _, _, _, _, rfl, s1 _ _ e, T.c_Dials, T.n_Dials_periods, rfl, _, rfl, tp, t1, ps, n, rfl, s1 _ _ ht, s1 _ _ e1, g2, g3, fun H2 s2 => q H2 fun b o h => s2 b o (s1 b o h)⟩
/-! the own == -/
/-- what stands on the other side: a register, or a text -/
inductive Oo (K : PySem.W.Frag) (H : Hp) : V → Option Kd → Prop where
  | reg {a : Addr} {k : Kd} (r : Reg K H a k) : Oo K H (.ref a) (some k)
  | str (z : Str) : Oo K H (.str z) none
def isPl : Option Kd → Bool
  | some .pl => true
  | _ => false
def isRs : Option Kd → Bool
  | some .rs => true
  | _ => false
def isDl : Option Kd → Bool
  | some (.dl _) => true
  | _ => false
def isWr : Option Kd → Bool
  | some (.md _) => true
  | some (.dl _) => true
  | _ => false
/-- whether they are equal -/
def eqK : Kd → Option Kd → Bool
  | .pl, o => isPl o
  | .rs, o => isRs o
  | .md m, some (.md n) => decide (m = n)
  | .dl ps, some (.dl qs) => decide (ps = qs)
  | _, _ => false
structure Kt (K : PySem.W.Frag) (H : Hp) (y : V) (o : Option Kd) (t : Value) : Prop where
  ty : TyX K H y t
  pl : PySem.W.kitOne K t (.ref (He.ga K "Plain")) = some (isPl o)
  wr : PySem.W.kitOne K t (.ref (He.ga K "Wrapping")) = some (isWr o)
  dl : PySem.W.kitOne K t (.ref (He.ga K "Dials")) = some (isDl o)
  rs : PySem.W.kitOne K t (.ref (He.ga K "Restarting")) = some (isRs o)
theorem Oo.kt (T : Tx K mg) {H : Hp} {y : V} {o : Option Kd} (h : Oo K H y o) : ∃ t, Kt K H y o t := by
  cases h with
  | str z => exact ⟨_, .base (.str z), T.ks_Plain, T.ks_Wrapping, T.ks_Dials, T.ks_Restarting⟩
  | reg r =>
    cases r with
    | pl e => exact ⟨_, T.is_Plain.ty T.c_Plain e, T.k_Plain_Plain, T.k_Plain_Wrapping, T.k_Plain_Dials, T.k_Plain_Restarting⟩
    | rs e => exact ⟨_, T.is_Restarting.ty T.c_Restarting e, T.k_Restarting_Plain, T.k_Restarting_Wrapping, T.k_Restarting_Dials, T.k_Restarting_Restarting⟩
    | md e h2 h3 => exact ⟨_, T.is_Wrapping.ty T.c_Wrapping e, T.k_Wrapping_Plain, T.k_Wrapping_Wrapping, T.k_Wrapping_Dials, T.k_Wrapping_Restarting⟩
    | dl e ht h1 h2 h3 => exact ⟨_, T.is_Dials.ty T.c_Dials e, T.k_Dials_Plain, T.k_Dials_Wrapping, T.k_Dials_Dials, T.k_Dials_Restarting⟩
theorem eqv_ints : ∀ xs ys : List Int, PyData.eqvAll (xs.map PyData.int) (ys.map PyData.int) = decide (xs = ys)
  | [], [] => by simp [PyData.eqvAll]
  | [], y :: ys => by simp [PyData.eqvAll]
  | x :: xs, [] => by simp [PyData.eqvAll]
  | x :: xs, y :: ys => by
    have h := eqv_ints xs ys
    rw [List.map_cons, List.map_cons, PyData.eqvAll, PyData.eqv, h]
    by_cases e : x = y
    · subst e
      simp
    · simp [e]
theorem eqv_ivs (ps qs : List Nat) : PyData.eqv (.tuple ((ps.map fun (p : Nat) => ((p : Nat) : Int)).map PyData.int)) (.tuple ((qs.map fun (p : Nat) => ((p : Nat) : Int)).map PyData.int)) = decide (ps = qs) := by
  rw [PyData.eqv, eqv_ints]
  by_cases e : ps = qs
  · subst e
    simp
  · rw [decide_eq_false e, decide_eq_false]
    intro z
    refine e ?_
    have inj : ∀ (l r : List Nat), (l.map fun (p : Nat) => ((p : Nat) : Int)) = (r.map fun (p : Nat) => ((p : Nat) : Int)) → l = r := by
      intro l
      induction l with
      | nil =>
        intro r h
        cases r with
        | nil => rfl
        | cons y r => simp at h
      | cons x l ih =>
        intro r h
        cases r with
        | nil => simp at h
        | cons y r =>
          rw [List.map_cons, List.map_cons] at h
          obtain ⟨h1, h2⟩ := List.cons.inj h
          rw [Int.ofNat.inj h1, ih r h2]
    exact inj ps qs z
theorem shaped_tup (ns : List Int) : SeqAt.shaped (.tuple (ns.map PyData.int)) = true := by
  unfold SeqAt.shaped
  have h := depth_ints ns
  have h2 := canLay_ints ns
  have e1 : PyData.canLay0 (.tuple (ns.map PyData.int)) = true := by simp only [PyData.canLay0]; exact h2
  have e2 : PyData.depth (.tuple (ns.map PyData.int)) ≤ 64 := by simp only [PyData.depth]; omega
  rw [e1, decide_eq_true e2]
  rfl
def spEqm (K : PySem.W.Frag) (k : Kd) : Sp := fun vs H Q _ => ∃ (a : Addr) (y : V) (o : Option Kd), vs = [.ref a, y] ∧ Reg K H a k ∧ Oo K H y o ∧ ∀ H', Same H H' → Q (.bl (eqK k o)) H'
theorem m_eqX (T : Tx K mg) (k : Kd) : Mk0.Mk1 P w K mg base CX0 2 (CK K k) "__eq__" "self" "other" (spEqm K k) := by
  have len : ∀ vs H Q E, spEqm K k vs H Q E → vs.length = ["self", "other"].length := fun vs H Q E h => by
    obtain ⟨_, _, _, rfl, _⟩ := h
    rfl
  cases k with
  | pl =>
    refine Mk0.mfk1 T.q_Plain_eq T.c_Plain T.m_Plain_eq (N := ["self", "other"]) ⟨rfl, rfl, rfl, by decide +kernel, rfl, by decide +kernel, by decide +kernel⟩ len (fun kV doc pm an cdv ct a b => rfl) (fun kV doc pm an cdv ct a b => rfl) (fun cdv A outer s H vs Q E hr h => ?_)
    obtain ⟨a, y, o, rfl, r, oo, q⟩ := h
    obtain ⟨t, kt⟩ := oo.kt T
    refine ⟨_, pss_one (ps_ret (pe_callB call_isi (by rfl) T.f_isinstance (by decide +kernel) (pa_cons (pv 1) (pa_cons (pe_glob (v := .ref (He.ga K "Plain")) (by rfl) T.g_Plain rfl) pa_nil)))), ?_⟩
    exact ⟨_, rfl, _, _, _, _, _, rfl, .own _, kt.ty, kt.pl, q _ (Same.refl H)⟩
  | rs =>
    refine Mk0.mfk1 T.q_Restarting_eq T.c_Restarting T.m_Restarting_eq (N := ["self", "other"]) ⟨rfl, rfl, rfl, by decide +kernel, rfl, by decide +kernel, by decide +kernel⟩ len (fun kV doc pm an cdv ct a b => rfl) (fun kV doc pm an cdv ct a b => rfl) (fun cdv A outer s H vs Q E hr h => ?_)
    obtain ⟨a, y, o, rfl, r, oo, q⟩ := h
    obtain ⟨t, kt⟩ := oo.kt T
    refine ⟨_, pss_one (ps_ret (pe_callB call_isi (by rfl) T.f_isinstance (by decide +kernel) (pa_cons (pv 1) (pa_cons (pe_glob (v := .ref (He.ga K "Restarting")) (by rfl) T.g_Restarting rfl) pa_nil)))), ?_⟩
    exact ⟨_, rfl, _, _, _, _, _, rfl, .own _, kt.ty, kt.rs, q _ (Same.refl H)⟩
  | md m =>
    refine Mk0.mfk1 T.q_Wrapping_eq T.c_Wrapping T.m_Wrapping_eq (N := ["self", "other"]) ⟨rfl, rfl, rfl, by decide +kernel, rfl, by decide +kernel, by decide +kernel⟩ len (fun kV doc pm an cdv ct a b => rfl) (fun kV doc pm an cdv ct a b => rfl) (fun cdv A outer s H vs Q E hr h => ?_)
    obtain ⟨a, y, o, rfl, r, oo, q⟩ := h
    obtain ⟨t, kt⟩ := oo.kt T
    refine ⟨_, pss_cons (ps_if (PW.pt (pw_or (pt_not (pt_val (pe_callB call_isi (by rfl) T.f_isinstance (by decide +kernel) (pa_cons (pv 1) (pa_cons (pe_glob (v := .ref (He.ga K "Wrapping")) (by rfl) T.g_Wrapping rfl) pa_nil)))))
        (pw_or1 (pt_val (pe_callB call_isi (by rfl) T.f_isinstance (by decide +kernel) (pa_cons (pv 1) (pa_cons (pe_glob (v := .ref (He.ga K "Dials")) (by rfl) T.g_Dials rfl) pa_nil))))))) (pss_one (ps_ret pe_bl)) pss_nil)
      (pss_one (ps_ret (pe_cmpR op_eq (fld (pv 0)) (fld (pv 1)) (nomark _)))), ?_⟩
    refine ⟨_, rfl, _, _, _, _, _, rfl, .own _, kt.ty, kt.wr, _, rfl, ?_⟩
    have no : ∀ o, eqK (.md m) o = false → Q (.bl (eqK (.md m) o)) H → Q (.bl false) H := fun o e q => by rw [e] at q; exact q
    have q0 := q H (Same.refl H)
    cases oo with
    | str z => exact no _ rfl q0
    | reg r2 =>
      cases r2 with
      | pl e => exact no _ rfl q0
      | rs e => exact no _ rfl q0
      | dl e ht h1 h2 h3 =>
        refine ite3 (fun h => by cases h) (fun _ => ?_)
        refine ⟨_, rfl, _, _, _, _, _, rfl, .own _, kt.ty, kt.dl, _, rfl, ?_⟩
        exact no _ rfl q0
      | md e2 h2 h3 =>
        rename_i dx2 m2
        refine ite3 (fun h => by cases h) (fun _ => ?_)
        refine ⟨_, rfl, _, _, _, _, _, rfl, .own _, kt.ty, kt.dl, _, rfl, ?_⟩
        refine ite3 (fun h => by cases h) (fun _ => ?_)
        cases r with
        | md e g2 g3 =>
          refine ⟨_, rfl, a, _, _, _, _, rfl, e, T.c_Wrapping, T.n_Wrapping_modulus, rfl, _, rfl, _, _, _, _, _, rfl, e2, T.c_Wrapping, T.n_Wrapping_modulus, rfl, rfl, ?_⟩
          have ee : decide (V.int ((m : Nat) : Int) = V.int ((m2 : Nat) : Int)) = decide (m = m2) := by
            by_cases z : m = m2
            · rw [z]
              simp
            · have z2 : V.int ((m : Nat) : Int) ≠ V.int ((m2 : Nat) : Int) := fun y => z (Int.ofNat.inj (V.int.inj y))
              rw [decide_eq_false z, decide_eq_false z2]
          rw [ee]
          exact q0
  | dl ps =>
    refine Mk0.mfk1 T.q_Dials_eq T.c_Dials T.m_Dials_eq (N := ["self", "other"]) ⟨rfl, rfl, rfl, by decide +kernel, rfl, by decide +kernel, by decide +kernel⟩ len (fun kV doc pm an cdv ct a b => rfl) (fun kV doc pm an cdv ct a b => rfl) (fun cdv A outer s H vs Q E hr h => ?_)
    obtain ⟨a, y, o, rfl, r, oo, q⟩ := h
    obtain ⟨t, kt⟩ := oo.kt T
    refine ⟨_, pss_one (ps_ret (pe_and (pe_callB call_isi (by rfl) T.f_isinstance (by decide +kernel) (pa_cons (pv 1) (pa_cons (pe_glob (v := .ref (He.ga K "Dials")) (by rfl) T.g_Dials rfl) pa_nil))) (pe_one (pe_cmpR (op_eqD hr.units) (fld (pv 0)) (fld (pv 1)) (nomark _))))), ?_⟩
    refine ⟨_, rfl, _, _, _, _, _, rfl, .own _, kt.ty, kt.dl, _, rfl, ?_⟩
    have no : ∀ o, eqK (.dl ps) o = false → Q (.bl (eqK (.dl ps) o)) H → Q (.bl false) H := fun o e q => by rw [e] at q; exact q
    have q0 := q H (Same.refl H)
    cases oo with
    | str z => exact no _ rfl q0
    | reg r2 =>
      cases r2 with
      | pl e => exact no _ rfl q0
      | rs e => exact no _ rfl q0
      | md e h2 h3 => exact no _ rfl q0
      | dl e2 ht2 h1 h2 h3 =>
        rename_i dx2 t2 qs
        refine ite3 (fun _ => ?_) (fun h => by cases h)
        cases r with
        | dl e ht g1 g2 g3 =>
          refine ⟨_, rfl, a, _, _, _, _, rfl, e, T.c_Dials, T.n_Dials_periods, rfl, _, rfl, _, _, _, _, _, rfl, e2, T.c_Dials, T.n_Dials_periods, rfl, ?_⟩
          refine ⟨_, _, .tup (SqT.of ht) (dp_ivs ps), .tup (SqT.of ht2) (dp_ivs qs), by rw [data_ints]; exact shaped_tup _, by rw [data_ints]; exact shaped_tup _, ?_⟩
          rw [data_ints, data_ints, eqv_ivs]
          exact q0
end
end K23
set_option Elab.async false
set_option linter.all false
set_option maxRecDepth 100000
set_option maxHeartbeats 2000000
/-! str(x), x an instance whose class says __str__. -/
namespace Sto
open PySem PySem.Spec PyProof.Rows L2
section
variable {X : Cx} {CX : CXT} {k : Nat} {f C : Addr} {fd : FuncData} {sp : Sp} {E : XK}
def rStrO (C : Addr) (sp : Sp) (E : XK) : List V → Hp → VK → Prop := fun xs H Q => ∃ a dx fs, xs = [.ref a] ∧ H a = some (.ins C dx fs) ∧ sp [.ref a] H (fun v H' => ∃ z, v = .str z ∧ Q v H') E
theorem call_strO (m : Meth X.K C "__str__" f) (F : FnOk X.prog X.w X.K X.mg X.base CX k f fd ["self"] sp) (hb : Binds X.K fd ["self"] []) (hr : Room (k + 2) X.A) (hx : Passes CX X E) : CallR X (.type "str") (rStrO C sp E) := by
  intro pins s σ H xs us Q I r h
  obtain ⟨a, dx, fs, rfl, e, q⟩ := h
  cases r with
  | cons ra rr =>
    cases rr
    cases ra
    obtain ⟨mA, O, _⟩ := ins_get I.hok e
    obtain ⟨od, hod, _⟩ := lookIn_ns O.ns
    refine PySem.W.kso_call (C := C) (od := some od) hr.in1.in1.units0 I.kIn ⟨O.obj, rfl, rfl, hod⟩ m.at_ m.fn ?_
    have hb2 := hb s [Value.ref a] I.kIn rfl
    refine wpAny_call (codeAny_mono (F.run X.A.in1.in1 X.stack s H ⟨[Value.ref a], []⟩ [Value.ref a] [V.ref a] _ E (hr.in1.in1) I.env0.in1.in1 hb2 (.cons rfl .nil) q) ?_)
    intro out s' hq
    cases out with
    | error z => exact hx pins σ H s z s' I hq
    | ok fl =>
      cases fl with
      | ret u =>
        obtain ⟨v, H2, I2, rv, z, rfl, q2⟩ := I.after hq
        obtain ⟨t, rfl⟩ := (show ∃ t, u = Value.str z t from rv)
        exact ⟨.str z, H2, I2, ⟨_, rfl⟩, q2⟩
      | next => exact hq.elim
      | brk => exact hq.elim
      | cont => exact hq.elim
end
end Sto
set_option Elab.async false
set_option linter.all false
set_option maxRecDepth 100000
set_option maxHeartbeats 4000000
namespace K23
open PySem PySem.Spec PyProof.Rows L2 Pre Dfs Vls
def rEqR (K : PySem.W.Frag) : R2 := fun x y H Q => ∃ a k o, x = .ref a ∧ Reg K H a k ∧ Oo K H y o ∧ ∀ H', Same H H' → Q (.bl (eqK k o)) H'
theorem op_eqR {X : Cx} (T : Tx X.K X.mg) (hr : Room 4 X.A) : OpR X (compareOp .Eq) (rEqR X.K) := by
  intro pins s σ H x y v u Q I rx ry h
  obtain ⟨a, k, o, rfl, r, oo, q⟩ := h
  have plain : ∀ {dx : Addr} {fs : List (Str × V)} {t : Value}, H a = some (.ins (CK X.K k) dx fs) → Oeq.Oth H y t → PySem.W.notFirst X.K (CK X.K k) t = true → wpAny (model X.prog X.w) X.A (compareOp .Eq v u) (EP X pins σ Q) X.xe s := by
    intro dx fs t e ot nf
    have M := m_eqX (P := X.prog) (w := X.w) (base := X.base) T k
    obtain ⟨fd, F, B, _⟩ := M.ok
    exact Oeq.op_eqO M.mt F B (hr.mono (by decide)) p0 (E := fun _ _ _ => False) pins s σ H (.ref a) y v u Q I rx ry ⟨a, dx, fs, t, rfl, e, ot, nf, a, y, o, rfl, r, oo, fun H' s' => ⟨_, rfl, q H' s'⟩⟩
  cases oo with
  | str z =>
    cases r with
    | pl e => exact plain e (.str z) T.nfs_Plain
    | rs e => exact plain e (.str z) T.nfs_Restarting
    | md e h2 h3 => exact plain e (.str z) T.nfs_Wrapping
    | dl e ht h1 h2 h3 => exact plain e (.str z) T.nfs_Dials
  | reg r2 =>
    cases r with
    | pl e =>
      cases r2 with
      | pl e2 => exact plain e (.ins e2) T.nf_Plain_Plain
      | rs e2 => exact plain e (.ins e2) T.nf_Plain_Restarting
      | md e2 g2 g3 => exact plain e (.ins e2) T.nf_Plain_Wrapping
      | dl e2 ht2 g1 g2 g3 => exact plain e (.ins e2) T.nf_Plain_Dials
    | rs e =>
      cases r2 with
      | pl e2 => exact plain e (.ins e2) T.nf_Restarting_Plain
      | rs e2 => exact plain e (.ins e2) T.nf_Restarting_Restarting
      | md e2 g2 g3 => exact plain e (.ins e2) T.nf_Restarting_Wrapping
      | dl e2 ht2 g1 g2 g3 => exact plain e (.ins e2) T.nf_Restarting_Dials
    | dl e ht h1 h2 h3 =>
      cases r2 with
      | pl e2 => exact plain e (.ins e2) T.nf_Dials_Plain
      | rs e2 => exact plain e (.ins e2) T.nf_Dials_Restarting
      | md e2 g2 g3 => exact plain e (.ins e2) T.nf_Dials_Wrapping
      | dl e2 ht2 g1 g2 g3 => exact plain e (.ins e2) T.nf_Dials_Dials
    | md e h2 h3 =>
      cases r2 with
      | pl e2 => exact plain e (.ins e2) T.nf_Wrapping_Plain
      | rs e2 => exact plain e (.ins e2) T.nf_Wrapping_Restarting
      | md e2 g2 g3 => exact plain e (.ins e2) T.nf_Wrapping_Wrapping
      | dl e2 ht2 g1 g2 g3 =>
        rename_i m1 m2 m3 m4 m5 m6
        have M := m_eqX (P := X.prog) (w := X.w) (base := X.base) T (.dl m6)
        obtain ⟨fd, F, B, _⟩ := M.ok
        exact Oeq.op_eqB (C := He.ga X.K "Wrapping") M.mt F B (hr.mono (by decide)) p0 T.un_WD T.sub_DW (E := fun _ _ _ => False) pins s σ H (.ref a) _ v u Q I rx ry
          ⟨a, _, _, _, _, _, rfl, e, rfl, e2, _, _, _, rfl, .dl e2 ht2 g1 g2 g3, .reg (.md e h2 h3), fun H' s' => ⟨_, rfl, q H' s'⟩⟩
/-- x != a text -/
def rNeS (K : PySem.W.Frag) : R2 := fun x y H Q => ∃ a k z, x = .ref a ∧ Reg K H a k ∧ y = .str z ∧ ∀ H', Same H H' → Q (.bl true) H'
theorem op_neS {X : Cx} (T : Tx X.K X.mg) (hr : Room 6 X.A) : OpR X (compareOp .NotEq) (rNeS X.K) := by
  intro pins s σ H x y v u Q I rx ry h
  obtain ⟨a, k, z, rfl, r, rfl, q⟩ := h
  have plain : ∀ {dx : Addr} {fs : List (Str × V)}, H a = some (.ins (CK X.K k) dx fs) → PySem.W.notFirst X.K (CK X.K k) (.type "str") = true → PySem.W.findIn X.K (.ref (CK X.K k)) "__ne__" = some (some (.builtin "object.__ne__")) → PySem.W.mroIn X.K (CK X.K k) (.type "object") = some true →
      eqK k none = false → wpAny (model X.prog X.w) X.A (compareOp .NotEq v u) (EP X pins σ Q) X.xe s := by
    intro dx fs e nf ne ob no
    have M := m_eqX (P := X.prog) (w := X.w) (base := X.base) T k
    obtain ⟨fd, F, B, _⟩ := M.ok
    exact Oeq.op_neO M.mt F B (hr.mono (by decide)) p0 ne ob (E := fun _ _ _ => False) pins s σ H (.ref a) (.str z) v u Q I rx ry ⟨a, dx, fs, _, rfl, e, .str z, nf, a, .str z, none, rfl, r, .str z, fun H' s' => ⟨_, rfl, by rw [no]; exact q H' s'⟩⟩
  cases r with
  | pl e => exact plain e T.nfs_Plain T.ne_Plain T.is_Plain.o rfl
  | rs e => exact plain e T.nfs_Restarting T.ne_Restarting T.is_Restarting.o rfl
  | md e h2 h3 => exact plain e T.nfs_Wrapping T.ne_Wrapping T.is_Wrapping.o rfl
  | dl e ht h1 h2 h3 => exact plain e T.nfs_Dials T.ne_Dials T.is_Dials.o rfl
section
variable {P : Program} {w : World} {K : PySem.W.Frag} {mg : Str → Option Value} {base : Heap}
def spShn : Sp := fun vs H Q _ => ∃ (t l : Addr) (k : Kd) (n : Nat) (li : Int), vs = [.ref t, .int (n : Int), .int li] ∧ Pln H t l k ∧ ∀ (v : V) (H' : Hp), Same H H' → Rd H' k n li v → Q v H'
theorem d_shn (T : Tx K mg) : Dfn P w K mg base CX0 1 "_law_shown" ["_law_plain", "_law_total_here", "_law_life"] spShn := by
  have nd : (["_law_plain", "_law_total_here", "_law_life", "_law_rests", "_law_number"] : List Str).Nodup := by decide +kernel
  refine dfn T.q_law_shown T.g_law_shown (N := ["_law_plain", "_law_total_here", "_law_life", "_law_rests", "_law_number"]) ⟨rfl, rfl, rfl, by decide +kernel, rfl, by decide +kernel, by decide +kernel⟩ (fun vs H Q E h => ?_) (fun kV doc pm an cdv ct => bind3 fun a b c => rfl) (fun cdv A outer s H vs Q E hr h => ?_)
  · obtain ⟨_, _, _, _, _, rfl, _⟩ := h
    rfl
  · obtain ⟨t, l, k, n, li, rfl, pl, q⟩ := h
    refine ⟨_, pss_cons (ps_if (pt_cmpR op_eq (pe_ix ix_tup (pv 0) pe_int (fun _ _ => rfl)) pe_str (nomark _)) (pss_one (ps_ret (pv 1))) pss_nil)
      (pss_cons (ps_if (pt_cmpR op_eq (pe_ix ix_tup (pv 0) pe_int (fun _ _ => rfl)) pe_str (nomark _)) (pss_one (ps_ret (pe_tup (pa_cons (pv 2) (pa_cons (pv 1) pa_nil))))) pss_nil)
      (pss_cons (ps_setLc (i := 3) rfl nd rfl rfl (by rfl) (pi_list (pe_ix ix_tup (pv 0) pe_int (fun _ _ => rfl))) (own := [("_law_number", 4)]) (blk_by (by kernel_rfl)) (fun _ _ _ _ _ => pg_name (i := 4) nd rfl (Or.inl rfl)) (fun _ _ _ _ _ => pts_nil)
        (fun _ _ _ _ _ => pe_op op_mod (pe_callTy call_int1 (by rfl) T.f_int (by decide +kernel) (pa_cons (pv 1) pa_nil)) (pe_var (i := 4) rfl (Or.inl rfl))))
      (pss_one (ps_ret (pe_ifExp (pt_cmpR op_eq (pe_ix ix_tup (pv 0) pe_int (fun _ _ => rfl)) pe_str (nomark _)) (pe_ix ix_list (pv 3) pe_int (fun _ _ => rfl)) (pe_callTy call_tuple_of (by rfl) T.f_tuple (by kernel_rfl) (pa_cons (pv 3) pa_nil))))))), ?_⟩
    have t0 := SqT.of (K := K) pl.at_
    have lists : k.args.length ≤ 6 ∧ (∀ p ∈ k.args, 1 ≤ p) := by
      have g := pl.good
      cases k with
      | pl => exact ⟨Nat.zero_le _, fun p h => by cases h⟩
      | rs => exact ⟨Nat.zero_le _, fun p h => by cases h⟩
      | md m => exact ⟨by show 1 ≤ 6; decide, fun p h => by
          obtain rfl : p = m := by simpa [Kd.args] using h
          exact Nat.le_trans (by decide) g.1⟩
      | dl ps => exact ⟨g.2.1, fun p h => Nat.le_trans (by decide) (g.2.2 p h).1⟩
    refine ⟨_, rfl, t, _, _, _, rfl, rfl, t0, atI_nat (j := 0) (v := .str k.word) rfl, rfl, _, rfl, ?_⟩
    have three : (k = .pl) ∨ (k = .rs) ∨ (decide (V.str k.word = V.str "plain") = false ∧ decide (V.str k.word = V.str "restarting") = false) := by
      cases k with
      | pl => exact .inl rfl
      | rs => exact .inr (.inl rfl)
      | md m => exact .inr (.inr ⟨rfl, rfl⟩)
      | dl ps => exact .inr (.inr ⟨rfl, rfl⟩)
    rcases three with rfl | rfl | ⟨w1, w2⟩
    · exact ite3 (fun _ => ⟨_, rfl, q _ H (Same.refl H) .pl⟩) (fun h => by cases h)
    · refine ite3 (fun h => by cases h) (fun _ => ?_)
      refine ⟨_, rfl, t, _, _, _, rfl, rfl, t0, atI_nat (j := 0) (v := .str "restarting") rfl, rfl, _, rfl, ite3 (fun _ => ?_) (fun h => by cases h)⟩
      exact ⟨_, rfl, _, rfl, (by show (2 : Nat) ≤ sizeLine; rw [sizeLine_eq]; decide), fun u hu => q _ _ (Same.upd hu) (.rs upd_same)⟩
    · rw [w1]
      refine ite3 (fun h => by cases h) (fun _ => ?_)
      refine ⟨_, rfl, t, _, _, _, rfl, rfl, t0, atI_nat (j := 0) (v := .str k.word) rfl, rfl, _, rfl, ?_⟩
      rw [w2]
      refine ite3 (fun h => by cases h) (fun _ => ?_)
      refine ⟨_, rfl, t, _, _, _, rfl, rfl, t0, atI_nat (j := 1) (v := .ref l) rfl, l, rfl, ⟨_, SqL.of pl.ns⟩, fun D hD => ?_⟩
      refine lc_it (walk_list (xs := ivs k.args)) (fun i H1 => Same H H1 ∧ H1 D = some (.lst (rests (n : Int) (k.args.take i)))) ⟨Same.upd hD, upd_same⟩ (fun i H1 _ z => SqL.of (z.1 _ _ pl.ns)) (fun i y H1 H2 hi z yy => ?_) (fun H1 z => ?_)
      · obtain ⟨rfl, hx⟩ := yy
        obtain ⟨p, hp, rfl⟩ := ivs_at hx
        have p1 := lists.2 p (List.mem_of_getElem? hp)
        have hlt := (List.getElem?_eq_some_iff.mp hp).1
        refine ⟨rfl, ?_⟩
        unfold tYes
        refine ite3 (fun _ => ?_) (fun h => by cases h)
        refine ⟨_, rfl, .inl ⟨_, rfl, _, rfl, _, _, rfl, rfl, (by omega), _, z.2, ?_, Same.put z.1 hD, ?_⟩⟩
        · rw [rests_len, List.length_take, sizeLine_eq]
          omega
        · rw [upd_same, rests_next hp]
      · obtain ⟨S1, z2⟩ := z
        rw [ivs_len, List.take_length] at z2
        refine ⟨_, rfl, t, _, _, _, rfl, rfl, SqT.of (S1 _ _ pl.at_), atI_nat (j := 0) (v := .str k.word) rfl, rfl, _, rfl, ?_⟩
        cases k with
        | pl => cases w1
        | rs => cases w2
        | md m =>
          refine ite3 (fun _ => ?_) (fun h => by cases h)
          exact ⟨_, rfl, D, _, _, _, rfl, rfl, SqL.of z2, atI_nat (j := 0) (v := .int ((n : Int) % (m : Int))) rfl, q _ H1 S1 .md⟩
        | dl ps =>
          refine ite3 (fun h => by cases h) (fun _ => ?_)
          refine ⟨_, rfl, D, _, rfl, .inl ⟨SqL.of z2, fun u hu => q _ _ (Same.new S1 hu) (.dl upd_same)⟩⟩
def spTtl (K : PySem.W.Frag) : Sp := fun vs H Q _ => ∃ (p a : Addr) (ns : List Int) (s g : Int), vs = [.ref p] ∧ Pen K H p a ns s g ∧ s < 900000 ∧
  ∀ (H' : Hp) (s' g' : Int) (n : Nat), But p H H' → Pen K H' p a ns s' g' → s ≤ s' → s' ≤ s + 4 → n ≤ 10 ^ 40 → Q (.int (n : Int)) H'
theorem d_ttl (T : Tx K mg) : Dfn P w K mg base CX0 3 "_law_total" ["_law_pen_here"] (spTtl K) := by
  refine dfn T.q_law_total T.g_law_total (N := ["_law_pen_here"]) ⟨rfl, rfl, rfl, by decide +kernel, rfl, by decide +kernel, by decide +kernel⟩ (fun vs H Q E h => ?_) (fun kV doc pm an cdv ct => bind1 fun a => rfl) (fun cdv A outer s H vs Q E hr h => ?_)
  · obtain ⟨_, _, _, _, _, rfl, _⟩ := h
    rfl
  · obtain ⟨p, a, ns, z, g, rfl, R, hz, q⟩ := h
    refine ⟨_, pss_one (ps_ret (pe_d (d_pick T) hr (by rfl) (E := E) p0 (pa_cons (pv 0) (pa_cons (pe_lst (pa_cons pe_int (pa_cons pe_int
      (pa_cons (pe_d (d_draw T) (hr.mono (by decide)) (by rfl) (E := E) p0 (pa_cons (pv 0) (pa_cons pe_int pa_nil)))
      (pa_cons (pe_d (d_draw T) (hr.mono (by decide)) (by rfl) (E := E) p0 (pa_cons (pv 0) (pa_cons (pe_op op_pow pe_int pe_int) pa_nil)))
      (pa_cons (pe_op op_pow pe_int pe_int) (pa_cons (pe_op op_add (pe_op op_pow pe_int pe_int) (pe_d (d_draw T) (hr.mono (by decide)) (by rfl) (E := E) p0 (pa_cons (pv 0) (pa_cons pe_int pa_nil)))) pa_nil))))))) pa_nil)))), ?_⟩
    refine ⟨_, rfl, _, rfl, p, a, ns, z, g, _, rfl, R, by omega, by omega, by omega, fun H1 s1 g1 r1 b1 R1 h1 h2 h3 h4 => ?_⟩
    obtain ⟨n1, rfl⟩ := Int.eq_ofNat_of_zero_le h3
    refine ⟨_, rfl, _, _, rfl, rfl, ⟨by decide, by decide, by decide⟩, p, a, ns, s1, g1, 10 ^ 6, rfl, R1, by omega, by decide, by decide, fun H2 s2 g2 r2 b2 R2 h5 h6 h7 h8 => ?_⟩
    obtain ⟨n2, rfl⟩ := Int.eq_ofNat_of_zero_le h7
    refine ⟨_, _, rfl, rfl, ⟨by decide, by decide, by decide⟩, _, _, rfl, rfl, ⟨by decide, by decide, by decide⟩, _, rfl, p, a, ns, s2, g2, _, rfl, R2, by omega, by omega, by omega, fun H3 s3 g3 r3 b3 R3 h9 h10 h11 h12 => ?_⟩
    obtain ⟨n3, rfl⟩ := Int.eq_ofNat_of_zero_le h11
    refine ⟨_, _, rfl, rfl, (by show (6 : Nat) ≤ sizeLine; rw [sizeLine_eq]; decide), fun b hb => ?_⟩
    have nb : b ≠ p := (ne_of_none R3.at_ hb).symm
    refine ⟨p, a, b, ns, s3, g3, _, rfl, R3.same (Same.upd hb), by omega, nb, upd_same, (by show (0 : Nat) < 6; decide), (by show (6 : Nat) < 1000; decide), fun H4 s4 g4 x b4 R4 h13 h14 hx => ?_⟩
    have B : But p H H4 := ((b1.trans (b2.trans b3)).new hb).trans b4
    simp only [List.mem_cons, List.not_mem_nil, or_false] at hx
    rcases hx with rfl | rfl | rfl | rfl | rfl | rfl
    · exact q H4 s4 g4 0 B R4 (by omega) (by omega) (by decide)
    · exact q H4 s4 g4 1 B R4 (by omega) (by omega) (by decide)
    · exact q H4 s4 g4 n1 B R4 (by omega) (by omega) (by omega)
    · exact q H4 s4 g4 n2 B R4 (by omega) (by omega) (by omega)
    · exact q H4 s4 g4 (10 ^ 40) B R4 (by omega) (by omega) (Nat.le_refl _)
    · have e : ((10 : Int) ^ Int.toNat 20 + ((n3 : Nat) : Int)) = ((10 ^ 20 + n3 : Nat) : Int) := by
        rw [Int.natCast_add]
        rfl
      rw [e]
      exact q H4 s4 g4 (10 ^ 20 + n3) B R4 (by omega) (by omega) (by omega)
end
end K23
set_option Elab.async false
set_option linter.all false
set_option maxRecDepth 100000
set_option maxHeartbeats 4000000
namespace K23
open PySem PySem.Spec PyProof.Rows L2 Pre Dfs Vls
theorem md_text (m : Nat) : ((Str.empty ++ ("modulo " : Str)) ++ num m) = Txt.join " " (Kd.text (.md m)) := by
  refine TL.ext_tl ?_
  rw [TL.tl_append, TL.tl_append, TL.join_eq, TL.tl_join]
  show (TL.tl Str.empty ++ TL.tl "modulo ") ++ TL.tl (num m) = TL.tl "modulo" ++ (TL.tl " " ++ TL.tl (num m))
  rw [← List.append_assoc]
  exact congrArg (· ++ TL.tl (num m)) (by decide +kernel)
section
variable {P : Program} {w : World} {K : PySem.W.Frag} {mg : Str → Option Value} {base : Heap}
def spStr (K : PySem.W.Frag) (k : Kd) : Sp := fun vs H Q _ => ∃ a : Addr, vs = [.ref a] ∧ Reg K H a k ∧ ∀ (H' : Hp), Same H H' → Q (.str (Txt.join " " k.text)) H'
theorem m_str (T : Tx K mg) (k : Kd) : Mfn P w K mg base CX0 2 (CK K k) "__str__" ["self"] (spStr K k) := by
  have len : ∀ vs H Q E, spStr K k vs H Q E → vs.length = ["self"].length := fun vs H Q E h => by
    obtain ⟨_, rfl, _⟩ := h
    rfl
  cases k with
  | pl =>
    refine mfn T.q_Plain_str T.c_Plain T.m_Plain_str (N := ["self"]) ⟨rfl, rfl, rfl, by decide +kernel, rfl, by decide +kernel, by decide +kernel⟩ len (fun kV doc pm an cdv ct => bind1 fun a => rfl) (fun cdv A outer s H vs Q E hr h => ?_)
    obtain ⟨a, rfl, r, q⟩ := h
    exact ⟨_, pss_one (ps_ret pe_str), q H (Same.refl H)⟩
  | rs =>
    refine mfn T.q_Restarting_str T.c_Restarting T.m_Restarting_str (N := ["self"]) ⟨rfl, rfl, rfl, by decide +kernel, rfl, by decide +kernel, by decide +kernel⟩ len (fun kV doc pm an cdv ct => bind1 fun a => rfl) (fun cdv A outer s H vs Q E hr h => ?_)
    obtain ⟨a, rfl, r, q⟩ := h
    exact ⟨_, pss_one (ps_ret pe_str), q H (Same.refl H)⟩
  | md m =>
    refine mfn T.q_Wrapping_str T.c_Wrapping T.m_Wrapping_str (N := ["self"]) ⟨rfl, rfl, rfl, by decide +kernel, rfl, by decide +kernel, by decide +kernel⟩ len (fun kV doc pm an cdv ct => bind1 fun a => rfl) (fun cdv A outer s H vs Q E hr h => ?_)
    obtain ⟨a, rfl, r, q⟩ := h
    cases r with
    | md e g2 g3 =>
      refine ⟨_, pss_one (ps_ret (pe_joined (.cons pe_str (.cons (pe_fmt (fld (pv 0))) .nil)))), ?_⟩
      have hm : m < 10 ^ 40 := by omega
      have l2 : ((Str.empty ++ ("modulo " : Str)) ++ num m).length = 7 + (num m).length := by
        rw [TL.len_tl, TL.tl_append, List.length_append, ← TL.len_tl (num m)]
        rfl
      have l3 := (num_len hm).2
      exact ⟨_, rfl, by rw [sizeLine_eq]; decide, _, rfl, a, _, _, _, _, rfl, e, T.c_Wrapping, T.n_Wrapping_modulus, rfl, .inr ⟨m, rfl, log40 hm, num m, rfl, by rw [l2, sizeLine_eq]; omega, by rw [md_text]; exact q H (Same.refl H)⟩⟩
  | dl ps =>
    have nd : (["self", "period"] : List Str).Nodup := by decide +kernel
    refine mfn T.q_Dials_str T.c_Dials T.m_Dials_str (N := ["self", "period"]) ⟨rfl, rfl, rfl, by decide +kernel, rfl, by decide +kernel, by decide +kernel⟩ len (fun kV doc pm an cdv ct => bind1 fun a => rfl) (fun cdv A outer s H vs Q E hr h => ?_)
    obtain ⟨a, rfl, r, q⟩ := h
    cases r with
    | dl e ht g1 g2 g3 =>
      rename_i dx tp
      refine ⟨_, pss_one (ps_ret (pe_join pe_str (pe_lst (pa_cons pe_str (StX.pa_star (pe_lc rfl nd (pi_tup (fld (pv 0))) (own := [("period", 1)]) (blk_by (by kernel_rfl)) (fun _ _ _ _ _ => pg_name (i := 1) nd rfl (Or.inl rfl)) (fun _ _ _ _ _ => pts_nil)
          (fun _ _ _ _ _ => pe_callTy call_str_int (by rfl) T.f_str (by kernel_rfl) (pa_cons (pe_var (i := 1) rfl (Or.inl rfl)) pa_nil))) pa_nil))))), ?_⟩
      have good : (Kd.dl ps).Good := ⟨g1, g2, g3⟩
      obtain ⟨t1, t2⟩ := text_len good
      refine ⟨⟨_, rfl⟩, _, rfl, a, _, _, _, _, rfl, e, T.c_Dials, T.n_Dials_periods, rfl, tp, rfl, ⟨_, SqT.of ht⟩, fun D hD => ?_⟩
      refine lc_it (walk_tup (xs := ivs ps)) (fun i H1 => Same H H1 ∧ H1 D = some (.lst ((ps.take i).map fun (n : Nat) => V.str (num n)))) ⟨Same.upd hD, upd_same⟩ (fun i H1 _ z => SqT.of (z.1 _ _ ht)) (fun i x H1 H2 hi z y => ?_) (fun H1 z => ?_)
      · obtain ⟨rfl, hx⟩ := y
        obtain ⟨p, hp, rfl⟩ := ivs_at hx
        have hlt := (List.getElem?_eq_some_iff.mp hp).1
        have pb := (g3 p (List.mem_of_getElem? hp)).2
        refine ⟨rfl, ?_⟩
        unfold tYes
        refine ite3 (fun _ => ?_) (fun h => by cases h)
        refine ⟨_, rfl, _, rfl, log40 (by omega), _, z.2, ?_, Same.put z.1 hD, ?_⟩
        · rw [List.length_map, List.length_take, sizeLine_eq]
          omega
        · rw [upd_same, List.take_succ, hp, List.map_append]
          rfl
      · obtain ⟨z1, z2⟩ := z
        rw [ivs_len, List.take_length] at z2
        refine ⟨D, _, rfl, .inr (SqL.of z2), ?_, fun p hp => ?_⟩
        · rw [List.append_nil, List.length_cons, List.length_map, sizeLine_eq]
          omega
        · have tx : (V.str "dials" :: ((ps.map fun (n : Nat) => V.str (num n)) ++ [])) = (Kd.text (.dl ps)).map V.str := by
            rw [List.append_nil, str_txt]
            rfl
          refine ⟨" ", p, Kd.text (.dl ps), rfl, rfl, .inl (SqL.of ?_), Nat.le_trans t1 (by decide), q _ (Same.new z1 hp)⟩
          rw [upd_same, tx]
end
end K23
set_option Elab.async false
set_option linter.all false
set_option maxRecDepth 100000
set_option maxHeartbeats 4000000
namespace K23
open PySem PySem.Spec PyProof.Rows L2 Pre Dfs Vls
/-! the readings as data -/
def rdD : Kd → Nat × Int → PyData
  | .pl, q => .int (q.1 : Int)
  | .md m, q => .int ((q.1 : Int) % (m : Int))
  | .rs, q => .tuple [.int q.2, .int (q.1 : Int)]
  | .dl ps, q => .tuple ((ps.map fun (p : Nat) => (q.1 : Int) % ((p : Nat) : Int)).map PyData.int)
theorem Rd.dp {K : PySem.W.Frag} {H : Hp} {k : Kd} {q : Nat × Int} {v : V} (r : Rd H k q.1 q.2 v) : Dp K H v (rdD k q) := by
  cases r with
  | pl => exact .int _
  | md => exact .int _
  | rs e => exact .tup (SqT.of e) (.cons (.int _) (.cons (.int _) .nil))
  | dl e =>
    rename_i ps t0
    refine .tup (SqT.of e) ?_
    have e2 : rests (q.1 : Int) ps = (ps.map fun (p : Nat) => (q.1 : Int) % ((p : Nat) : Int)).map V.int := by
      unfold rests
      rw [List.map_map]
      rfl
    rw [e2]
    exact dp_ints _
theorem rdD_lay (k : Kd) (q : Nat × Int) : PyData.canLay0 (rdD k q) = true ∧ PyData.depth (rdD k q) ≤ 2 := by
  cases k with
  | pl => exact ⟨rfl, by show PyData.depth (.int _) ≤ 2; simp only [PyData.depth]; omega⟩
  | md m => exact ⟨rfl, by show PyData.depth (.int _) ≤ 2; simp only [PyData.depth]; omega⟩
  | rs =>
    refine ⟨rfl, ?_⟩
    have := depth_ints [q.2, (q.1 : Int)]
    show PyData.depth (.tuple ([q.2, (q.1 : Int)].map PyData.int)) ≤ 2
    simp only [PyData.depth]
    omega
  | dl ps =>
    constructor
    · show PyData.canLay0 (.tuple (List.map PyData.int _)) = true
      simp only [PyData.canLay0]
      exact canLay_ints _
    · show PyData.depth (.tuple (List.map PyData.int _)) ≤ 2
      have := depth_ints (ps.map fun (p : Nat) => (q.1 : Int) % ((p : Nat) : Int))
      simp only [PyData.depth]
      omega
/-! how long they are when shown -/
theorem int_short {n : Nat} (h : n ≤ 10 ^ 40) : (PyData.shown (.int (n : Int))).length ≤ 41 := by
  rw [PyData.shown_int]
  show (num n).length ≤ 41
  have e : (num n).length = (TL.numL n).length := by
    rw [← num_tl]
    rfl
  rw [e]
  exact TL.numL_len (by decide) (Nat.lt_of_le_of_lt h (by decide))
theorem int_log {n : Nat} (h : n ≤ 10 ^ 40) : n.log2 ≤ 133 := by
  by_cases z : n = 0
  · subst z
    decide
  · have : n.log2 < 134 := (Nat.log2_lt z).mpr (Nat.lt_of_le_of_lt h (by decide))
    omega
structure Small (w : Nat) (d : PyData) : Prop where
  leaf : PyData.leavesShort 41 d = true
  wt : PyData.weight d ≤ w
  sh : d.showable = true
  nd : d.hasDict = false
  dp : d.depth ≤ 2
theorem small_int {n : Nat} (h : n ≤ 10 ^ 40) : Small 134 (.int (n : Int)) := by
  have z := int_log h
  refine ⟨decide_eq_true (int_short h), ?_, ?_, ?_, ?_⟩
  · simp only [PyData.weight]
    split
    · omega
    · rw [Int.natAbs_natCast]
      omega
  · simp only [PyData.showable, Int.natAbs_natCast]
    exact decide_eq_true (by omega)
  · simp only [PyData.hasDict]
  · simp only [PyData.depth]
    omega
theorem small_ints : ∀ ns : List Nat, (∀ n ∈ ns, n ≤ 10 ^ 40) → PyData.leavesShortAll 41 (ns.map fun (n : Nat) => PyData.int (n : Int)) = true ∧ PyData.weightAll (ns.map fun (n : Nat) => PyData.int (n : Int)) ≤ 135 * ns.length ∧
    PyData.showableAll (ns.map fun (n : Nat) => PyData.int (n : Int)) = true ∧ PyData.hasDictAll (ns.map fun (n : Nat) => PyData.int (n : Int)) = false ∧ PyData.depthAll (ns.map fun (n : Nat) => PyData.int (n : Int)) ≤ 1
  | [], _ => ⟨by simp [PyData.leavesShortAll], by simp [PyData.weightAll], by simp [PyData.showableAll], by simp [PyData.hasDictAll], by simp [PyData.depthAll]⟩
  | n :: ns, h => by
    have a := small_int (h n (List.mem_cons_self ..))
    obtain ⟨b1, b2, b3, b4, b5⟩ := small_ints ns fun m hm => h m (List.mem_cons_of_mem _ hm)
    have a2 := a.wt
    have a5 : PyData.depth (.int (n : Int)) = 0 := by simp only [PyData.depth]
    simp only [List.map_cons, PyData.leavesShortAll, PyData.weightAll, PyData.showableAll, PyData.hasDictAll, PyData.depthAll, a.leaf, a.sh, a.nd, b1, b3, b4, Bool.true_and, Bool.false_or, List.length_cons, a5, true_and]
    refine ⟨by omega, ?_⟩
    omega
theorem small_tup {ns : List Nat} (h : ∀ n ∈ ns, n ≤ 10 ^ 40) (few : ns.length ≤ 6) : Small 900 (.tuple ((ns.map fun (n : Nat) => ((n : Nat) : Int)).map PyData.int)) := by
  have e : (ns.map fun (n : Nat) => ((n : Nat) : Int)).map PyData.int = ns.map fun (n : Nat) => PyData.int (n : Int) := by
    rw [List.map_map]
    rfl
  rw [e]
  obtain ⟨b1, b2, b3, b4, b5⟩ := small_ints ns h
  refine ⟨?_, ?_, ?_, ?_, ?_⟩
  · simp only [PyData.leavesShort]
    exact b1
  · simp only [PyData.weight]
    omega
  · simp only [PyData.showable]
    exact b3
  · simp only [PyData.hasDict]
    exact b4
  · simp only [PyData.depth]
    omega
theorem Small.mono {w u : Nat} {d : PyData} (s : Small w d) (h : w ≤ u) : Small u d := ⟨s.leaf, Nat.le_trans s.wt h, s.sh, s.nd, s.dp⟩
theorem rdD_small {k : Kd} {q : Nat × Int} (g : k.Good) (h1 : q.1 ≤ 10 ^ 40) (h2 : 0 ≤ q.2) (h3 : q.2 ≤ 10 ^ 40) : Small 900 (rdD k q) := by
  cases k with
  | pl => exact (small_int h1).mono (by decide)
  | md m =>
    have e : ((q.1 : Int) % (m : Int)) = ((q.1 % m : Nat) : Int) := (Int.natCast_emod _ _).symm
    show Small 900 (.int ((q.1 : Int) % (m : Int)))
    rw [e]
    exact (small_int (Nat.le_trans (Nat.mod_le _ _) h1)).mono (by decide)
  | rs =>
    obtain ⟨n, l⟩ := q
    obtain ⟨m, rfl⟩ := Int.eq_ofNat_of_zero_le h2
    have h3' : m ≤ 10 ^ 40 := by
      have : (m : Int) ≤ 10 ^ 40 := h3
      omega
    exact small_tup (ns := [m, n]) (fun x hx => by
      simp only [List.mem_cons, List.not_mem_nil, or_false] at hx
      rcases hx with rfl | rfl
      · exact h3'
      · exact h1) (by show (2 : Nat) ≤ 6; decide)
  | dl ps =>
    have e : (ps.map fun (p : Nat) => (q.1 : Int) % ((p : Nat) : Int)) = (ps.map fun (p : Nat) => q.1 % p).map fun (n : Nat) => ((n : Nat) : Int) := by
      rw [List.map_map]
      refine List.map_congr_left fun p _ => ?_
      exact (Int.natCast_emod _ _).symm
    show Small 900 (.tuple ((ps.map fun (p : Nat) => (q.1 : Int) % ((p : Nat) : Int)).map PyData.int))
    rw [e]
    exact small_tup (fun x hx => by
      obtain ⟨p, _, rfl⟩ := List.mem_map.mp hx
      exact Nat.le_trans (Nat.mod_le _ _) h1) (by rw [List.length_map]; exact g.2.1)
theorem Small.fits {w : Nat} {d : PyData} (s : Small w d) (h : w ≤ 100000) : d.shown.length ≤ sizeLine := by
  have z := PyData.shown_le 41 (by decide) d s.leaf
  have z2 := s.wt
  have z3 : (41 + 2) * d.weight ≤ 43 * 100000 := Nat.mul_le_mul (by decide) (by omega)
  rw [sizeLine_eq]
  omega
/-- what repr asks of a list of two readings -/
theorem pair_ok {d1 d2 : PyData} (a : Small 900 d1) (b : Small 900 d2) : (PyData.list [d1, d2]).showable = true ∧ (PyData.list [d1, d2]).hasDict = false ∧ (PyData.list [d1, d2]).depth ≤ 60 ∧ (PyData.list [d1, d2]).shown.length ≤ sizeLine := by
  have a2 := a.wt
  have b2 := b.wt
  have a5 := a.dp
  have b5 := b.dp
  refine ⟨?_, ?_, ?_, ?_⟩
  · simp only [PyData.showable, PyData.showableAll, a.sh, b.sh, Bool.and_self]
  · simp only [PyData.hasDict, PyData.hasDictAll, a.nd, b.nd, Bool.or_self]
  · simp only [PyData.depth, PyData.depthAll]
    omega
  · have l : PyData.leavesShort 41 (.list [d1, d2]) = true := by simp only [PyData.leavesShort, PyData.leavesShortAll, a.leaf, b.leaf, Bool.and_self]
    have z := PyData.shown_le 41 (by decide) (.list [d1, d2]) l
    have w : PyData.weight (.list [d1, d2]) ≤ 1802 := by
      simp only [PyData.weight, PyData.weightAll]
      omega
    have z3 : (41 + 2) * PyData.weight (.list [d1, d2]) ≤ 43 * 1802 := Nat.mul_le_mul (by decide) w
    rw [sizeLine_eq]
    omega
end K23
set_option Elab.async false
set_option linter.all false
set_option maxRecDepth 100000
set_option maxHeartbeats 4000000
namespace K23
open PySem PySem.Spec PyProof.Rows L2 Pre Dfs Vls
/-! what stays while the pen and the tables go on -/
def cutH (p : Addr) (H : Hp) : Hp := fun b => if b = p then none else match H b with
  | some (.tbl _) => none
  | o => o
theorem cut_none {p : Addr} {H : Hp} : cutH p H p = none := if_pos rfl
theorem cut_some {p b : Addr} {H : Hp} {o : HO} (h : cutH p H b = some o) : H b = some o ∧ b ≠ p ∧ ∀ ps, o ≠ .tbl ps := by
  unfold cutH at h
  by_cases e : b = p
  · rw [if_pos e] at h
    cases h
  · rw [if_neg e] at h
    cases q : H b with
    | none =>
      rw [q] at h
      cases h
    | some u =>
      rw [q] at h
      cases u with
      | tbl ps => cases h
      | _ =>
        obtain rfl := Option.some.inj h
        exact ⟨rfl, e, fun ps z => by cases z⟩
theorem cut_keep {p b : Addr} {H : Hp} {o : HO} (h : H b = some o) (n : b ≠ p) (t : ∀ ps, o ≠ .tbl ps) : cutH p H b = some o := by
  unfold cutH
  rw [if_neg n, h]
  cases o with
  | tbl ps => exact absurd rfl (t ps)
  | _ => rfl
theorem cut_free {p b : Addr} {H : Hp} (h : H b = none) : cutH p H b = none := by
  unfold cutH
  split
  · rfl
  · rw [h]
abbrev Keep (p : Addr) (H H' : Hp) : Prop := Same (cutH p H) H'
theorem Keep.same {p : Addr} {H H' : Hp} (s : Same H H') : Keep p H H' := fun b o h => s b o (cut_some h).1
theorem Keep.but {p : Addr} {H H' : Hp} (s : But p H H') : Keep p H H' := fun b o h => s b o (cut_some h).2.1 (cut_some h).1
theorem Keep.ext {p : Addr} {H H' : Hp} (s : LamX.ExtN H H') : Keep p H H' := fun b o h => s b o (cut_some h).1 (cut_some h).2.2
theorem Keep.trans {p : Addr} {H H1 H2 : Hp} (a : Keep p H H1) (b : Keep p H1 H2) : Keep p H H2 := fun c o h => b c o (cut_keep (a c o h) (cut_some h).2.1 (cut_some h).2.2)
section
variable {K : PySem.W.Frag} {H H' : Hp} {p a : Addr} {ns : List Int} {s g : Int}
theorem Pen.off {b : Addr} {o : HO} (R : Pen K H p a ns s g) (h : H b = some o) (n : o ≠ .lst [.ref a, .int s, .int g]) : b ≠ p := fun e => by
  subst e
  rw [R.at_] at h
  exact n (Option.some.inj h).symm
theorem Pen.ext (R : Pen K H p a ns s g) (e : LamX.ExtN H H') : Pen K H' p a ns s g := ⟨e _ _ R.at_ (fun ps z => by cases z), e _ _ R.cells (fun ps z => by cases z), R.len, R.s0, R.g0⟩
/-- tables, while the pen goes on -/
theorem tabs_but {T : List (Addr × Str)} (R : Pen K H p a ns s g) (t : LamX.Tabs T H) (e : But p H H') : LamX.Tabs T H' := fun q hq => by
  obtain ⟨ps, h1, h2, h3⟩ := t q hq
  refine ⟨ps, e _ _ (R.off h1 (fun z => by cases z)) h1, h2, fun pos cv hc => ?_⟩
  obtain ⟨c, e1, e2⟩ := h3 pos cv hc
  exact ⟨c, e1, e _ _ (R.off e2 (fun z => by unfold LamX.CodeO at z; cases z)) e2⟩
theorem Pln.cut {t l : Addr} {k : Kd} (R : Pen K H p a ns s g) (q : Pln H t l k) : Pln (cutH p H) t l k := by
  refine ⟨cut_keep q.at_ (R.off q.at_ (fun z => by cases z)) (fun ps z => by cases z), cut_keep q.ns (R.off q.ns (fun z => ?_)) (fun ps z => by cases z), q.good⟩
  have z2 := HO.lst.inj z
  cases e : k.args with
  | nil =>
    rw [e] at z2
    cases z2
  | cons y r =>
    rw [e] at z2
    cases z2
theorem Reg.cut {r : Addr} {k : Kd} (R : Pen K H p a ns s g) (q : Reg K H r k) : Reg K (cutH p H) r k := by
  cases q with
  | pl e => exact .pl (cut_keep e (R.off e (fun z => by cases z)) (fun ps z => by cases z))
  | rs e => exact .rs (cut_keep e (R.off e (fun z => by cases z)) (fun ps z => by cases z))
  | md e h2 h3 => exact .md (cut_keep e (R.off e (fun z => by cases z)) (fun ps z => by cases z)) h2 h3
  | dl e ht h1 h2 h3 => exact .dl (cut_keep e (R.off e (fun z => by cases z)) (fun ps z => by cases z)) (cut_keep ht (R.off ht (fun z => by cases z)) (fun ps z => by cases z)) h1 h2 h3
theorem Rd.cut {k : Kd} {T l : Int} {v : V} (R : Pen K H p a ns s g) (q : Rd H k T l v) : Rd (cutH p H) k T l v := by
  cases q with
  | pl => exact .pl
  | md => exact .md
  | rs e => exact .rs (cut_keep e (R.off e (fun z => by cases z)) (fun ps z => by cases z))
  | dl e => exact .dl (cut_keep e (R.off e (fun z => by cases z)) (fun ps z => by cases z))
end
/-! a statement from one state to the next -/
def tPP (S S' : L2.St → Hp → Prop) : TS := fun D σ H => S σ H ∧ ∀ σ' H', S' σ' H' → D.nx σ' H'
theorem PS.pp {X : Cx} {st : Stmt} {t : TS} {S S' : L2.St → Hp → Prop} (h : PS X st t) (i : ∀ D σ H, S σ H → (∀ σ' H', S' σ' H' → D.nx σ' H') → t D σ H) : PS X st (tPP S S') :=
  ⟨fun pins s σ H D I q => h.run pins s σ H D I (i D σ H q.1 q.2)⟩
theorem pp_go {S S' : L2.St → Hp → Prop} {u : TS} {D : Ends} {σ : L2.St} {H : Hp} (h : S σ H) (k : ∀ σ' H', S' σ' H' → u D σ' H') : tSeq (tPP S S') u D σ H := ⟨h, k⟩
/-- a statement that returns True -/
def tPR (S : L2.St → Hp → Prop) (R : Hp → Prop) : TS := fun D σ H => S σ H ∧ ∀ H', R H' → D.rt (.bl true) H'
theorem PS.pr {X : Cx} {st : Stmt} {t : TS} {S : L2.St → Hp → Prop} {R : Hp → Prop} (h : PS X st t) (i : ∀ D σ H, S σ H → (∀ H', R H' → D.rt (.bl true) H') → t D σ H) : PS X st (tPR S R) :=
  ⟨fun pins s σ H D I q => h.run pins s σ H D I (i D σ H q.1 q.2)⟩
/-- no exception goes on -/
theorem pF {P : Program} {w : World} {X : Cx} (eP : X.prog = P := by rfl) (ew : X.w = w := by rfl) : Passes (L2.CX P w) X (fun _ _ _ => False) := fun _ _ _ _ _ _ _ h => by
  obtain ⟨_, _, _, _, _, _, _, _, _, _, _, _, h⟩ := h
  exact h.elim
/-- the register, what it is made of -/
structure Fk (K : PySem.W.Frag) (H : Hp) (t l r : Addr) (k : Kd) : Prop where
  pln : Pln H t l k
  reg : Reg K H r k
section
variable {K : PySem.W.Frag} {H H' : Hp} {t l r : Addr} {k : Kd} {p a : Addr} {ns : List Int} {s g : Int}
theorem Fk.same (f : Fk K H t l r k) (S : Same H H') : Fk K H' t l r k := ⟨f.pln.same S, f.reg.same S⟩
theorem Fk.keep (R : Pen K H p a ns s g) (f : Fk K H t l r k) (S : Keep p H H') : Fk K H' t l r k := ⟨(f.pln.cut R).same S, (f.reg.cut R).same S⟩
end
/-- the pen between two counts of draws -/
def Pt (K : PySem.W.Frag) (H : Hp) (p a : Addr) (ns : List Int) (lo hi : Int) : Prop := ∃ s g, Pen K H p a ns s g ∧ lo ≤ s ∧ s ≤ hi
theorem Pt.same {K : PySem.W.Frag} {H H' : Hp} {p a : Addr} {ns : List Int} {lo hi : Int} (f : Pt K H p a ns lo hi) (S : Same H H') : Pt K H' p a ns lo hi := by
  obtain ⟨s, g, R, h1, h2⟩ := f
  exact ⟨s, g, R.same S, h1, h2⟩
end K23
set_option Elab.async false
set_option linter.all false
set_option maxRecDepth 100000
set_option maxHeartbeats 4000000
namespace K23
open PySem PySem.Spec PyProof.Rows L2 Pre Dfs Vls
/-! _law_right: its names, its statements, the states between them -/
abbrev NR : List Str := ["_law_pen_here", "_law_plain", "_law_made_here", "_law_modulus_here", "_law_lives", "_law_one", "_law_two", "_law_first", "_law_second", "_law_told", "_law_due", "_law_number"]
abbrev scR : Scope := defScope s_law_right
theorem ndR : NR.Nodup := by decide +kernel
def stR (i : Nat) : Stmt := (defBody s_law_right).getD i (.Pass default)
theorem body_eq : defBody s_law_right = [stR 0, stR 1, stR 2, stR 3, stR 4, stR 5, stR 6, stR 7, stR 8, stR 9, stR 10, stR 11, stR 12, stR 13] := rfl
section
variable {P : Program} {w : World} {K : PySem.W.Frag} {mg : Str → Option Value} {base : Heap} {cdv : Value} {A : Around} {outer : List Env} {s : Shared} {H0 : Hp} {E : XK}
abbrev XR (P : Program) (w : World) (K : PySem.W.Frag) (mg : Str → Option Value) (base : Heap) (cdv : Value) (A : Around) (outer : List Env) (s : Shared) (H0 : Hp) (E : XK) : Cx := cxOf CX0 P w K mg base NR "_law_right" scR (He.ga K "_law_right") cdv A outer s H0 E
variable (p a t l : Addr) (ns : List Int) (k : Kd) (z0 : Int)
def S0 (K : PySem.W.Frag) : L2.St → Hp → Prop := fun σ H => σ = [some (.ref p), some (.ref t), none, none, none, none, none, none, none, none, none, none] ∧ Pt K H p a ns z0 z0 ∧ Pln H t l k
def S1 (K : PySem.W.Frag) : L2.St → Hp → Prop := fun σ H => ∃ r, σ = [some (.ref p), some (.ref t), some (.ref r), some k.mod, none, none, none, none, none, none, none, none] ∧ Pt K H p a ns z0 z0 ∧ Fk K H t l r k
def S2 (K : PySem.W.Frag) : L2.St → Hp → Prop := fun σ H => ∃ r lv, ∃ m0 m1 : Nat, σ = [some (.ref p), some (.ref t), some (.ref r), some k.mod, some (.ref lv), none, none, none, none, none, none, none] ∧ Pt K H p a ns z0 (z0 + 2) ∧ Fk K H t l r k ∧ lv ≠ p ∧ H lv = some (.lst [.int (m0 : Int), .int (m1 : Int)]) ∧ m0 ≤ 3 ∧ m1 ≤ 3
def S3 (K : PySem.W.Frag) : L2.St → Hp → Prop := fun σ H => ∃ r lv, ∃ m0 m1 : Nat, σ = [some (.ref p), some (.ref t), some (.ref r), some k.mod, some (.ref lv), none, none, none, none, none, none, none] ∧ Pt K H p a ns z0 (z0 + 3) ∧ Fk K H t l r k ∧ lv ≠ p ∧ H lv = some (.lst [.int (m0 : Int), .int (m1 : Int)]) ∧ m0 ≤ 10 ^ 40 ∧ m1 ≤ 10 ^ 40
def S5 (K : PySem.W.Frag) : L2.St → Hp → Prop := fun σ H => ∃ r lv, ∃ m0 m1 n1 n2 : Nat, σ = [some (.ref p), some (.ref t), some (.ref r), some k.mod, some (.ref lv), some (.int (n1 : Int)), some (.int (n2 : Int)), none, none, none, none, none] ∧ Pt K H p a ns z0 (z0 + 11) ∧ Fk K H t l r k ∧ H lv = some (.lst [.int (m0 : Int), .int (m1 : Int)]) ∧ (m0 ≤ 10 ^ 40 ∧ m1 ≤ 10 ^ 40) ∧ n1 ≤ 10 ^ 40 ∧ n2 ≤ 10 ^ 40
theorem ps0 (T : Tx K mg) (hopq : Sup.Opq base) (hf : ((P.main.file : Str) == PySem.Challenge.pw_gaugeroad_k23_registers_and_their_readin.main.file) = true) (ht : (P.main.scope.names.lookup ("super" : Str)).isSome = false)
    (hr : Room 10 (XR P w K mg base cdv A outer s H0 E).A) : PS (XR P w K mg base cdv A outer s H0 E) (stR 0) (tPP (S0 p a t l ns k z0 K) (S1 p a t l ns k z0 K)) := by
  refine PS.pp (ps_par (i := 2) (j := 3) rfl ndR rfl rfl (by decide) rfl rfl (pa_cons (pe_d (d_made T hopq hf ht) (hr.mono (by decide)) (by rfl) (E := E) p0 (pa_cons (pv 1) pa_nil)) (pa_cons (pe_d (d_mdl T) (hr.mono (by decide)) (by rfl) (E := E) p0 (pa_cons (pv 1) pa_nil)) pa_nil)) (by rfl)) (fun D σ H q nx => ?_)
  obtain ⟨rfl, pt, pl⟩ := q
  refine ⟨_, rfl, t, l, k, rfl, pl, fun H1 r S1 rg => ?_⟩
  refine ⟨_, rfl, t, l, k, rfl, pl.same S1, fun H2 S2 => ?_⟩
  have S12 : Same H H2 := fun b o h => S2 b o (S1 b o h)
  exact ⟨_, _, rfl, nx _ _ ⟨r, rfl, pt.same S12, pl.same S12, rg.same S2⟩⟩
theorem ps1 (T : Tx K mg) (hz : 0 ≤ z0) (hz2 : z0 < 800000) (hr : Room 10 (XR P w K mg base cdv A outer s H0 E).A) : PS (XR P w K mg base cdv A outer s H0 E) (stR 1) (tPP (S1 p a t l ns k z0 K) (S2 p a t l ns k z0 K)) := by
  refine PS.pp (ps_set (i := 4) ndR rfl (Or.inl rfl) (pe_lst (pa_cons (pe_d (d_draw T) (hr.mono (by decide)) (by rfl) (E := E) p0 (pa_cons (pv 0) (pa_cons pe_int pa_nil))) (pa_cons (pe_d (d_draw T) (hr.mono (by decide)) (by rfl) (E := E) p0 (pa_cons (pv 0) (pa_cons pe_int pa_nil))) pa_nil)))) (fun D σ H q nx => ?_)
  obtain ⟨r, rfl, pt, fk⟩ := q
  obtain ⟨s1, g1, R, h1, h2⟩ := pt
  refine ⟨_, rfl, p, a, ns, s1, g1, 3, rfl, R, by omega, by omega, by omega, fun H1 s2 g2 r2 b1 R1 h3 h4 h5 h6 => ?_⟩
  obtain ⟨m0, rfl⟩ := Int.eq_ofNat_of_zero_le h5
  refine ⟨_, rfl, p, a, ns, s2, g2, 3, rfl, R1, by omega, by omega, by omega, fun H2 s3 g3 r3 b2 R2 h7 h8 h9 h10 => ?_⟩
  obtain ⟨m1, rfl⟩ := Int.eq_ofNat_of_zero_le h9
  refine ⟨(by show (2 : Nat) ≤ sizeLine; rw [sizeLine_eq]; decide), fun lv hlv => ?_⟩
  have nl : lv ≠ p := (ne_of_none R2.at_ hlv).symm
  have S : Same H2 (upd H2 lv (.lst [.int (m0 : Int), .int (m1 : Int)])) := Same.upd hlv
  exact nx _ _ ⟨r, lv, m0, m1, rfl, ⟨s3, g3, R2.same S, by omega, by omega⟩, (fk.keep R (Keep.but (b1.trans b2))).same S, nl, upd_same, by omega, by omega⟩
theorem ps2 (T : Tx K mg) (hz : 0 ≤ z0) (hz2 : z0 < 800000) (hr : Room 10 (XR P w K mg base cdv A outer s H0 E).A) : PS (XR P w K mg base cdv A outer s H0 E) (stR 2) (tPP (S2 p a t l ns k z0 K) (S3 p a t l ns k z0 K)) := by
  refine PS.pp (ps_set (i := 4) ndR rfl (Or.inl rfl) (pe_d (d_pick T) (hr.mono (by decide)) (by rfl) (E := E) p0 (pa_cons (pv 0) (pa_cons (pe_lst (pa_cons (pv 4) (pa_cons (pv 4) (pa_cons (pe_lst (pa_cons (pe_op op_pow pe_int pe_int) (pa_cons (pe_op op_pow pe_int pe_int) pa_nil)))
      (pa_cons (pe_lst (pa_cons (pe_op op_add (pe_op op_pow pe_int pe_int) pe_int) (pa_cons (pe_op op_sub (pe_op op_pow pe_int pe_int) pe_int) pa_nil))) pa_nil))))) pa_nil)))) (fun D σ H q nx => ?_)
  obtain ⟨r, lv, m0, m1, rfl, pt, fk, nl, hlv, k0, k1⟩ := q
  obtain ⟨s1, g1, R, h1, h2⟩ := pt
  refine ⟨_, rfl, _, rfl, _, rfl, _, _, rfl, rfl, ⟨by decide, by decide, by decide⟩, _, _, rfl, rfl, ⟨by decide, by decide, by decide⟩, (by show (2 : Nat) ≤ sizeLine; rw [sizeLine_eq]; decide), fun u1 hu1 => ?_⟩
  refine ⟨_, _, rfl, rfl, ⟨by decide, by decide, by decide⟩, _, _, rfl, rfl, _, _, rfl, rfl, ⟨by decide, by decide, by decide⟩, _, _, rfl, rfl, (by show (2 : Nat) ≤ sizeLine; rw [sizeLine_eq]; decide), fun u2 hu2 => ⟨(by show (4 : Nat) ≤ sizeLine; rw [sizeLine_eq]; decide), fun b hb => ?_⟩⟩
  have V1 := Same.upd hu1 (o := .lst [.int ((10 : Int) ^ Int.toNat 40), .int ((10 : Int) ^ Int.toNat 40)])
  have V2 := Same.upd hu2 (o := .lst [.int ((10 : Int) ^ Int.toNat 6 + 1), .int ((10 : Int) ^ Int.toNat 40 - 1)])
  have V3 := Same.upd hb (o := .lst [.ref lv, .ref lv, .ref u1, .ref u2])
  have V : Same H _ := fun b o h => V3 b o (V2 b o (V1 b o h))
  have nu1 : u1 ≠ p := (ne_of_none R.at_ hu1).symm
  have nu2 : u2 ≠ p := (ne_of_none (V1 _ _ R.at_) hu2).symm
  have nb : b ≠ p := (ne_of_none (V2 _ _ (V1 _ _ R.at_)) hb).symm
  have RV := R.same V
  have e1 := V3 _ _ (V2 u1 (.lst [.int ((10 : Int) ^ Int.toNat 40), .int ((10 : Int) ^ Int.toNat 40)]) upd_same)
  have e2 := V3 u2 (.lst [.int ((10 : Int) ^ Int.toNat 6 + 1), .int ((10 : Int) ^ Int.toNat 40 - 1)]) upd_same
  have elv := V _ _ hlv
  refine ⟨p, a, b, ns, s1, g1, _, rfl, RV, by omega, nb, upd_same, (by show (0 : Nat) < 4; decide), (by show (4 : Nat) < 1000; decide), fun H4 s4 g4 x b4 R4 h3 h4 hx => ?_⟩
  have fk4 := (fk.same V).keep RV (Keep.but b4)
  have pt4 : Pt K H4 p a ns z0 (z0 + 3) := ⟨s4, g4, R4, by omega, by omega⟩
  simp only [List.mem_cons, List.not_mem_nil, or_false] at hx
  rcases hx with rfl | rfl | rfl | rfl
  · exact nx _ _ ⟨r, lv, m0, m1, rfl, pt4, fk4, nl, b4 _ _ nl elv, by omega, by omega⟩
  · exact nx _ _ ⟨r, lv, m0, m1, rfl, pt4, fk4, nl, b4 _ _ nl elv, by omega, by omega⟩
  · exact nx _ _ ⟨r, u1, 10 ^ 40, 10 ^ 40, rfl, pt4, fk4, nu1, b4 _ _ nu1 e1, Nat.le_refl _, Nat.le_refl _⟩
  · exact nx _ _ ⟨r, u2, 10 ^ 6 + 1, 10 ^ 40 - 1, rfl, pt4, fk4, nu2, b4 _ _ nu2 e2, by decide, by decide⟩
end
end K23
set_option Elab.async false
set_option linter.all false
set_option maxRecDepth 100000
set_option maxHeartbeats 4000000
namespace K23
open PySem PySem.Spec PyProof.Rows L2 Pre Dfs Vls
theorem mod_or {k : Kd} (g : k.Good) : k.mod = .non ∨ ∃ M : Nat, k.mod = .int (M : Int) ∧ 2 ≤ M ∧ M ≤ 10 ^ 18 := by
  cases k with
  | pl => exact .inl rfl
  | rs => exact .inl rfl
  | md m => exact .inr ⟨m, rfl, g.1, g.2⟩
  | dl ps =>
    refine .inr ⟨lcms ps, rfl, lcms_ge g.1 g.2.2, ?_⟩
    have z := (lcms_bd g.2.2 ps.length).2
    rw [List.take_length] at z
    exact Nat.le_trans z (Nat.le_trans (Nat.pow_le_pow_right (by decide) g.2.1) (by decide))
theorem Reg.modF {K : PySem.W.Frag} {mg : Str → Option Value} {H : Hp} {r : Addr} {k : Kd} (T : Tx K mg) (q : Reg K H r k) : ∃ C dx fs, H r = some (.ins C dx fs) ∧ Cls K C ∧ NoAttr K C "modulus" ∧ fs.lookup ("modulus" : Str) = some k.mod := by
  cases q with
  | pl e => exact ⟨_, _, _, e, T.c_Plain, T.n_Plain_modulus, rfl⟩
  | rs e => exact ⟨_, _, _, e, T.c_Restarting, T.n_Restarting_modulus, rfl⟩
  | md e h2 h3 => exact ⟨_, _, _, e, T.c_Wrapping, T.n_Wrapping_modulus, rfl⟩
  | dl e ht h1 h2 h3 => exact ⟨_, _, _, e, T.c_Dials, T.n_Dials_modulus, rfl⟩
/-- what repr asks of a value that is none, or a number -/
theorem opt_ok {K : PySem.W.Frag} {H : Hp} {v : V} (h : v = .non ∨ ∃ n : Nat, v = .int (n : Int) ∧ n ≤ 10 ^ 40) : ∃ d : PyData, Dp K H v d ∧ d.showable = true ∧ d.hasDict = false ∧ d.depth ≤ 60 ∧ d.shown.length ≤ sizeLine := by
  rcases h with rfl | ⟨n, rfl, h⟩
  · refine ⟨_, .non, by simp only [PyData.showable], by simp only [PyData.hasDict], by simp only [PyData.depth]; omega, ?_⟩
    rw [PyData.shown_none, sizeLine_eq]
    decide
  · have z := small_int h
    have z2 := z.dp
    exact ⟨_, .int _, z.sh, z.nd, by omega, z.fits (by decide)⟩
theorem opt_eq {K : PySem.W.Frag} {H H' : Hp} {v : V} {d : PyData} (h : v = .non ∨ ∃ n : Nat, v = .int (n : Int) ∧ n ≤ 10 ^ 40) (x : Dp K H v d) : Dp K H' v d := by
  rcases h with rfl | ⟨n, rfl, h⟩
  · cases x
    exact .non
  · cases x
    exact .int _
section
variable {P : Program} {w : World} {K : PySem.W.Frag} {mg : Str → Option Value} {base : Heap} {cdv : Value} {A : Around} {outer : List Env} {s : Shared} {H0 : Hp} {E : XK}
variable (p a t l : Addr) (ns : List Int) (k : Kd) (z0 : Int)
theorem ps3 (T : Tx K mg) (still : (XR P w K mg base cdv A outer s H0 E).A.guards = some []) (hr : Room 10 (XR P w K mg base cdv A outer s H0 E).A) : PS (XR P w K mg base cdv A outer s H0 E) (stR 3) (tPP (S3 p a t l ns k z0 K) (S3 p a t l ns k z0 K)) := by
  obtain ⟨fs, Fs, Bs⟩ := (m_str (P := P) (w := w) (base := base) T k).ok
  refine PS.pp (ps_if (PW.pt (pw_or (pt_cmpR op_ne (pe_callB (Shw.call_repr hr still) (by rfl) T.f_repr (by decide +kernel) (pa_cons (fld (pv 2)) pa_nil)) (pe_callB (Shw.call_repr hr still) (by rfl) T.f_repr (by decide +kernel) (pa_cons (pv 3) pa_nil)) (nomark _))
    (pw_or1 (pt_cmpR op_ne (pe_callTy (Sto.call_strO (m_str (P := P) (w := w) (base := base) T k).mt Fs Bs (hr.mono (by decide)) p0 (E := fun _ _ _ => False)) (by rfl) T.f_str (by kernel_rfl) (pa_cons (pv 2) pa_nil))
      (pe_join pe_str (pe_op op_cat (pe_lst (pa_cons (pe_ix ix_tup (pv 1) pe_int (fun _ _ => rfl)) pa_nil))
        (pe_lc rfl ndR (pi_list (pe_ix ix_tup (pv 1) pe_int (fun _ _ => rfl))) (own := [("_law_number", 11)]) (blk_by (by kernel_rfl)) (fun _ _ _ _ _ => pg_name (i := 11) ndR rfl (Or.inl rfl)) (fun _ _ _ _ _ => pts_nil)
          (fun _ _ _ _ _ => pe_callTy call_str_int (by rfl) T.f_str (by kernel_rfl) (pa_cons (pe_var (i := 11) rfl (Or.inl rfl)) pa_nil))))) (nomark _))))) (pss_one (ps_ret pe_bl)) pss_nil) (fun D σ H q nx => ?_)
  obtain ⟨r, lv, m0, m1, rfl, pt, fk, nl, hlv, k0, k1⟩ := q
  have pl := fk.pln
  obtain ⟨C, dx, fls, ei, cc, na, lk⟩ := fk.reg.modF T
  have opt : k.mod = .non ∨ ∃ n : Nat, k.mod = .int (n : Int) ∧ n ≤ 10 ^ 40 := by
    rcases mod_or pl.good with h | ⟨M, h, h1, h2⟩
    · exact .inl h
    · exact .inr ⟨M, h, Nat.le_trans h2 (by decide)⟩
  obtain ⟨d, dp, o1, o2, o3, o4⟩ := opt_ok (K := K) (H := H) opt
  refine ⟨_, rfl, r, C, dx, fls, _, rfl, ei, cc, na, lk, _, d, rfl, dp, o1, o2, o3, o4, _, rfl, _, d, rfl, dp, o1, o2, o3, o4, rfl, ?_⟩
  refine ⟨_, rfl, ite3 (fun h => by rw [decide_eq_true rfl] at h; cases h) (fun _ => ?_)⟩
  obtain ⟨ab, an⟩ := args_bd pl.good
  obtain ⟨t1, t2⟩ := text_len pl.good
  obtain ⟨dx2, fl2, ei2, _⟩ := fk.reg.ins
  have lstr : ∀ {dxx : Addr} {ff : List (Str × V)}, H r = some (.ins (CK K k) dxx ff) → True := fun _ => True.intro
  refine ⟨_, rfl, r, dx2, fl2, rfl, ei2, r, rfl, fk.reg, fun H2 S2 => ⟨_, rfl, ?_⟩⟩
  have pl2 := pl.same S2
  refine ⟨⟨_, rfl⟩, _, rfl, t, _, _, _, rfl, rfl, SqT.of pl2.at_, atI_nat (j := 0) (v := .str k.word) rfl, (by show (1 : Nat) ≤ sizeLine; rw [sizeLine_eq]; decide), fun p1 hp1 => ?_⟩
  have s1 : Same H2 (upd H2 p1 (.lst [.str k.word])) := Same.upd hp1
  refine ⟨_, rfl, t, _, _, _, rfl, rfl, SqT.of (s1 _ _ pl2.at_), atI_nat (j := 1) (v := .ref l) rfl, l, rfl, ⟨_, SqL.of (s1 _ _ pl2.ns)⟩, fun D1 hD => ?_⟩
  have hDn : H2 D1 = none := same_none s1 hD
  have np : p1 ≠ D1 := ne_of_none upd_same hD
  refine lc_it (walk_list (xs := ivs k.args)) (fun i H1 => Same H2 H1 ∧ H1 p1 = some (.lst [.str k.word]) ∧ H1 D1 = some (.lst ((k.args.take i).map fun (n : Nat) => V.str (num n)))) ⟨Same.put s1 hDn, (upd_ne np).trans upd_same, upd_same⟩
    (fun i H1 _ z => SqL.of (z.1 _ _ pl2.ns)) (fun i y H1 H3 hi z yy => ?_) (fun H1 z => ?_)
  · obtain ⟨rfl, hx⟩ := yy
    obtain ⟨n, hn, rfl⟩ := ivs_at hx
    have hlt := (List.getElem?_eq_some_iff.mp hn).1
    refine ⟨rfl, ?_⟩
    unfold tYes
    refine ite3 (fun _ => ?_) (fun h => by cases h)
    refine ⟨_, rfl, _, rfl, log40 (an n (List.mem_of_getElem? hn)), _, z.2.2, ?_, Same.put z.1 hDn, (upd_ne np).trans z.2.1, ?_⟩
    · rw [List.length_map, List.length_take, sizeLine_eq]
      omega
    · rw [upd_same, List.take_succ, hn, List.map_append]
      rfl
  · obtain ⟨z1, z2, z3⟩ := z
    rw [ivs_len, List.take_length] at z3
    refine ⟨p1, D1, _, _, rfl, rfl, z2, z3, ?_, fun p3 hp3 => ?_⟩
    · rw [List.length_map, sizeLine_eq]
      show 1 + k.args.length ≤ _
      omega
    have tx : [V.str k.word] ++ (k.args.map fun (n : Nat) => V.str (num n)) = k.text.map V.str := by
      rw [str_txt]
      rfl
    refine ⟨" ", p3, k.text, rfl, rfl, .inl (SqL.of ?_), Nat.le_trans t1 (by decide), rfl, ?_⟩
    · rw [upd_same, tx]
    · refine ⟨_, rfl, ite3 (fun h => by rw [decide_eq_true rfl] at h; cases h) (fun _ => ?_)⟩
      have S3 : Same H (upd H1 p3 (.lst ([V.str k.word] ++ (k.args.map fun (n : Nat) => V.str (num n))))) := fun b o h => Same.new z1 hp3 b o (S2 b o h)
      exact nx _ _ ⟨r, lv, m0, m1, rfl, pt.same S3, fk.same S3, nl, S3 _ _ hlv, k0, k1⟩
end
end K23
set_option Elab.async false
set_option linter.all false
set_option maxRecDepth 100000
set_option maxHeartbeats 4000000
namespace K23
open PySem PySem.Spec PyProof.Rows L2 Pre Dfs Vls
/-- totals, lives, readings -/
structure Fw (K : PySem.W.Frag) (H : Hp) (t l r lv : Addr) (k : Kd) (m0 m1 n1 n2 : Nat) (v1 v2 : V) : Prop where
  fk : Fk K H t l r k
  at_ : H lv = some (.lst [.int (m0 : Int), .int (m1 : Int)])
  b0 : m0 ≤ 10 ^ 40
  b1 : m1 ≤ 10 ^ 40
  b2 : n1 ≤ 10 ^ 40
  b3 : n2 ≤ 10 ^ 40
  r1 : Rd H k n1 m0 v1
  r2 : Rd H k n2 m1 v2
theorem Fw.same {K : PySem.W.Frag} {H H' : Hp} {t l r lv : Addr} {k : Kd} {m0 m1 n1 n2 : Nat} {v1 v2 : V} (f : Fw K H t l r lv k m0 m1 n1 n2 v1 v2) (S : Same H H') : Fw K H' t l r lv k m0 m1 n1 n2 v1 v2 :=
  ⟨f.fk.same S, S _ _ f.at_, f.b0, f.b1, f.b2, f.b3, f.r1.same S, f.r2.same S⟩
theorem le_int {n : Nat} (h : n ≤ 10 ^ 40) : (n : Int) ≤ 10 ^ 40 := by
  have : ((n : Nat) : Int) ≤ ((10 ^ 40 : Nat) : Int) := Int.ofNat_le.mpr h
  exact this
section
variable {P : Program} {w : World} {K : PySem.W.Frag} {mg : Str → Option Value} {base : Heap} {cdv : Value} {A : Around} {outer : List Env} {s : Shared} {H0 : Hp} {E : XK}
variable (p a t l : Addr) (ns : List Int) (k : Kd) (z0 : Int)
def S6 (K : PySem.W.Frag) : L2.St → Hp → Prop := fun σ H => ∃ r lv, ∃ m0 m1 n1 n2 : Nat, ∃ v1 v2, σ = [some (.ref p), some (.ref t), some (.ref r), some k.mod, some (.ref lv), some (.int (n1 : Int)), some (.int (n2 : Int)), some v1, some v2, none, none, none] ∧ Pt K H p a ns z0 (z0 + 11) ∧ Fw K H t l r lv k m0 m1 n1 n2 v1 v2
theorem ps4 (T : Tx K mg) (hz : 0 ≤ z0) (hz2 : z0 < 800000) (hr : Room 10 (XR P w K mg base cdv A outer s H0 E).A) : PS (XR P w K mg base cdv A outer s H0 E) (stR 4) (tPP (S3 p a t l ns k z0 K) (S5 p a t l ns k z0 K)) := by
  refine PS.pp (ps_par (i := 5) (j := 6) rfl ndR rfl rfl (by decide) rfl rfl (pa_cons (pe_d (d_ttl T) (hr.mono (by decide)) (by rfl) (E := E) p0 (pa_cons (pv 0) pa_nil)) (pa_cons (pe_d (d_ttl T) (hr.mono (by decide)) (by rfl) (E := E) p0 (pa_cons (pv 0) pa_nil)) pa_nil)) (by rfl)) (fun D σ H q nx => ?_)
  obtain ⟨r, lv, m0, m1, rfl, pt, fk, nl, hlv, k0, k1⟩ := q
  obtain ⟨s1, g1, R, h1, h2⟩ := pt
  refine ⟨_, rfl, p, a, ns, s1, g1, rfl, R, by omega, fun H1 s2 g2 n1 b1 R1 h3 h4 h5 => ?_⟩
  refine ⟨_, rfl, p, a, ns, s2, g2, rfl, R1, by omega, fun H2 s3 g3 n2 b2 R2 h6 h7 h8 => ?_⟩
  exact ⟨_, _, rfl, nx _ _ ⟨r, lv, m0, m1, n1, n2, rfl, ⟨s3, g3, R2, by omega, by omega⟩, fk.keep R (Keep.but (b1.trans b2)), (b1.trans b2) _ _ nl hlv, ⟨k0, k1⟩, h5, h8⟩⟩
theorem ps5 (T : Tx K mg) (hr : Room 10 (XR P w K mg base cdv A outer s H0 E).A) : PS (XR P w K mg base cdv A outer s H0 E) (stR 5) (tPP (S5 p a t l ns k z0 K) (S6 p a t l ns k z0 K)) := by
  refine PS.pp (ps_par (i := 7) (j := 8) rfl ndR rfl rfl (by decide) rfl rfl (pa_cons (pe_d (d_shn T) (hr.mono (by decide)) (by rfl) (E := E) p0 (pa_cons (pv 1) (pa_cons (pv 5) (pa_cons (pe_ix ix_list (pv 4) pe_int (fun _ _ => rfl)) pa_nil))))
    (pa_cons (pe_d (d_shn T) (hr.mono (by decide)) (by rfl) (E := E) p0 (pa_cons (pv 1) (pa_cons (pv 6) (pa_cons (pe_ix ix_list (pv 4) pe_int (fun _ _ => rfl)) pa_nil)))) pa_nil)) (by rfl)) (fun D σ H q nx => ?_)
  obtain ⟨r, lv, m0, m1, n1, n2, rfl, pt, fk, hlv, ⟨k0, k1⟩, b2, b3⟩ := q
  refine ⟨_, rfl, _, rfl, _, rfl, lv, _, _, _, rfl, rfl, SqL.of hlv, atI_nat (j := 0) (v := .int (m0 : Int)) rfl, t, l, k, n1, m0, rfl, fk.pln, fun v1 H1 S1 r1 => ?_⟩
  have hlv1 := S1 _ _ hlv
  refine ⟨_, rfl, _, rfl, _, rfl, lv, _, _, _, rfl, rfl, SqL.of hlv1, atI_nat (j := 1) (v := .int (m1 : Int)) rfl, t, l, k, n2, m1, rfl, fk.pln.same S1, fun v2 H2 S2 r2 => ?_⟩
  have S12 : Same H H2 := fun b o h => S2 b o (S1 b o h)
  exact ⟨_, _, rfl, nx _ _ ⟨r, lv, m0, m1, n1, n2, v1, v2, rfl, pt.same S12, fk.same S12, S12 _ _ hlv, k0, k1, b2, b3, r1.same S2, r2⟩⟩
theorem ps6 (T : Tx K mg) (still : (XR P w K mg base cdv A outer s H0 E).A.guards = some []) (hr : Room 10 (XR P w K mg base cdv A outer s H0 E).A) : PS (XR P w K mg base cdv A outer s H0 E) (stR 6) (tPP (S6 p a t l ns k z0 K) (S6 p a t l ns k z0 K)) := by
  obtain ⟨fd, F3, B⟩ := m_showsX (P := P) (w := w) (base := base) T k
  obtain ⟨its, kb⟩ := B.kw
  have M := m_shows (P := P) (w := w) (base := base) T k
  refine PS.pp (ps_if (pt_cmpR op_ne (pe_callB (Shw.call_repr hr still) (by rfl) T.f_repr (by decide +kernel) (pa_cons (pe_lst
      (pa_cons (Dfs.pe_m (pv 2) M (hr.mono (by decide)) (E := fun _ _ _ => False) pF (pa_cons (pv 5) (pa_cons (pe_ix ix_list (pv 4) pe_int (fun _ _ => rfl)) pa_nil)))
      (pa_cons (Mk0.pe_methK (pv 2) M.cl M.mt F3 (hr.mono (by decide)) kb (E := fun _ _ _ => False) pF (pk_cons (pe_ix ix_list (pv 4) pe_int (fun _ _ => rfl)) (pk_cons (pv 6) pk_nil))) pa_nil))) pa_nil))
    (pe_callB (Shw.call_repr hr still) (by rfl) T.f_repr (by decide +kernel) (pa_cons (pe_lst (pa_cons (pv 7) (pa_cons (pv 8) pa_nil))) pa_nil)) (nomark _)) (pss_one (ps_ret pe_bl)) pss_nil) (fun D σ H q nx => ?_)
  obtain ⟨r, lv, m0, m1, n1, n2, v1, v2, rfl, pt, f⟩ := q
  obtain ⟨dx, fls, ei, hl, _⟩ := f.fk.reg.ins
  have d1 : Small 900 (rdD k (n1, (m0 : Int))) := rdD_small f.fk.pln.good f.b2 (Int.natCast_nonneg _) (le_int f.b0)
  have d2 : Small 900 (rdD k (n2, (m1 : Int))) := rdD_small f.fk.pln.good f.b3 (Int.natCast_nonneg _) (le_int f.b1)
  obtain ⟨o1, o2, o3, o4⟩ := pair_ok d1 d2
  refine ⟨_, rfl, r, dx, fls, rfl, ei, hl, _, rfl, _, rfl, lv, _, _, _, rfl, rfl, SqL.of f.at_, atI_nat (j := 0) (v := .int (m0 : Int)) rfl, r, n1, m0, rfl, f.fk.reg, Int.natCast_nonneg _, le_int f.b2, Int.natCast_nonneg _, le_int f.b0, fun u1 H1 S1 q1 => ?_⟩
  have f1 := f.same S1
  refine ⟨_, rfl, r, dx, fls, rfl, S1 _ _ ei, hl, _, rfl, lv, _, _, _, rfl, rfl, SqL.of f1.at_, atI_nat (j := 1) (v := .int (m1 : Int)) rfl, _, rfl, rfl, r, n2, m1, rfl, f1.fk.reg, Int.natCast_nonneg _, le_int f.b3, Int.natCast_nonneg _, le_int f.b1, fun u2 H2 S2 q2 => ?_⟩
  refine ⟨(by show (2 : Nat) ≤ sizeLine; rw [sizeLine_eq]; decide), fun b1 hb1 => ?_⟩
  have V1 : Same H2 (upd H2 b1 (.lst [u1, u2])) := Same.upd hb1
  have x1 : Dp K (upd H2 b1 (.lst [u1, u2])) u1 (rdD k (n1, (m0 : Int))) := Rd.dp ((q1.same S2).same V1)
  have x2 : Dp K (upd H2 b1 (.lst [u1, u2])) u2 (rdD k (n2, (m1 : Int))) := Rd.dp (q2.same V1)
  refine ⟨_, _, rfl, .lst (SqL.of upd_same) (.cons x1 (.cons x2 .nil)), o1, o2, o3, o4, ?_⟩
  have S12 : Same H (upd H2 b1 (.lst [u1, u2])) := fun b o h => V1 b o (S2 b o (S1 b o h))
  have f2 := f.same S12
  refine ⟨_, rfl, _, rfl, (by show (2 : Nat) ≤ sizeLine; rw [sizeLine_eq]; decide), fun b2 hb2 => ?_⟩
  have V2 := Same.upd (o := .lst [v1, v2]) hb2
  have f3 := f2.same V2
  have y1 : Dp K _ v1 (rdD k (n1, (m0 : Int))) := Rd.dp f3.r1
  have y2 : Dp K _ v2 (rdD k (n2, (m1 : Int))) := Rd.dp f3.r2
  refine ⟨_, _, rfl, .lst (SqL.of upd_same) (.cons y1 (.cons y2 .nil)), o1, o2, o3, o4, rfl, ?_⟩
  refine ⟨_, rfl, ite3 (fun h => by rw [decide_eq_true rfl] at h; cases h) (fun _ => ?_)⟩
  exact nx _ _ ⟨r, lv, m0, m1, n1, n2, v1, v2, rfl, (pt.same S12).same V2, f3⟩
end
end K23
set_option Elab.async false
set_option linter.all false
set_option maxRecDepth 100000
set_option maxHeartbeats 4000000
namespace K23
open PySem PySem.Spec PyProof.Rows L2 Pre Dfs Vls
theorem tot_non {k : Kd} (n : Nat) (h : k.mod = .non) : totV k n = .int (n : Int) := by
  cases k with
  | pl => rfl
  | rs => rfl
  | md m => cases h
  | dl ps => cases h
theorem tot_mod {k : Kd} {M : Nat} (n : Nat) (h : k.mod = .int (M : Int)) : totV k n = .int ((n : Int) % (M : Int)) := by
  cases k with
  | pl => cases h
  | rs => cases h
  | md m =>
    rw [← V.int.inj h]
    rfl
  | dl ps =>
    rw [← V.int.inj h]
    show V.int ((n % lcms ps : Nat) : Int) = _
    rw [Int.natCast_emod]
/-- what the law reckons first of what lies between -/
def due1 (k : Kd) (n1 m0 n2 m1 : Nat) : V := if n1 ≤ n2 ∧ (decide (V.str k.word = V.str "plain") = true ∨ m0 = m1) then .int ((n2 : Int) - n1) else .non
theorem due_non {k : Kd} {n1 m0 n2 m1 : Nat} (h : k.mod = .non) : due1 k n1 m0 n2 m1 = btw k n1 m0 n2 m1 := by
  unfold due1
  cases k with
  | pl =>
    show (if _ then _ else _) = (if n1 ≤ n2 then V.int ((n2 : Int) - n1) else .non)
    by_cases z : n1 ≤ n2
    · rw [if_pos ⟨z, .inl rfl⟩, if_pos z]
    · rw [if_neg (fun y => z y.1), if_neg z]
  | rs =>
    show (if _ then _ else _) = (if (m0 : Int) = (m1 : Int) ∧ n1 ≤ n2 then V.int ((n2 : Int) - n1) else .non)
    by_cases z : n1 ≤ n2 ∧ m0 = m1
    · rw [if_pos ⟨z.1, .inr z.2⟩, if_pos ⟨by rw [z.2], z.1⟩]
    · rw [if_neg (fun y => y.2.elim (fun q => by cases q) fun q => z ⟨y.1, q⟩), if_neg (fun y => z ⟨y.2, Int.ofNat.inj y.1⟩)]
  | md m => cases h
  | dl ps => cases h
theorem due_mod {k : Kd} {M : Nat} {n1 m0 n2 m1 : Nat} (h : k.mod = .int (M : Int)) : btw k n1 m0 n2 m1 = .int (((n2 : Int) - n1) % (M : Int)) := by
  cases k with
  | pl => cases h
  | rs => cases h
  | md m =>
    rw [← V.int.inj h]
    rfl
  | dl ps =>
    rw [← V.int.inj h]
    rfl
theorem btw_opt {k : Kd} {n1 m0 n2 m1 : Nat} (g : k.Good) (h : n2 ≤ 10 ^ 40) : btw k n1 m0 n2 m1 = .non ∨ ∃ n : Nat, btw k n1 m0 n2 m1 = .int (n : Int) ∧ n ≤ 10 ^ 40 := by
  rcases mod_or g with hM | ⟨M, hM, M1, M2⟩
  · rw [← due_non hM]
    unfold due1
    split
    · rename_i z
      refine .inr ⟨n2 - n1, ?_, by omega⟩
      exact congrArg V.int (by omega)
    · exact .inl rfl
  · rw [due_mod hM]
    have a := Int.emod_nonneg ((n2 : Int) - n1) (show (M : Int) ≠ 0 by omega)
    have b := Int.emod_lt_of_pos ((n2 : Int) - n1) (show (0 : Int) < M by omega)
    obtain ⟨n, hn⟩ := Int.eq_ofNat_of_zero_le a
    rw [hn] at b
    refine .inr ⟨n, by rw [hn], ?_⟩
    have : n < M := by omega
    exact Nat.le_trans (Nat.le_of_lt this) (Nat.le_trans M2 (by decide))
section
variable {P : Program} {w : World} {K : PySem.W.Frag} {mg : Str → Option Value} {base : Heap} {cdv : Value} {A : Around} {outer : List Env} {s : Shared} {H0 : Hp} {E : XK}
variable (p a t l : Addr) (ns : List Int) (k : Kd) (z0 : Int)
def S10 (K : PySem.W.Frag) : L2.St → Hp → Prop := fun σ H => ∃ r lv, ∃ m0 m1 n1 n2 : Nat, ∃ v1 v2, σ = [some (.ref p), some (.ref t), some (.ref r), some k.mod, some (.ref lv), some (.int (n1 : Int)), some (.int (n2 : Int)), some v1, some v2, some (btw k n1 m0 n2 m1), none, none] ∧ Pt K H p a ns z0 (z0 + 11) ∧ Fw K H t l r lv k m0 m1 n1 n2 v1 v2
def S11 (K : PySem.W.Frag) : L2.St → Hp → Prop := fun σ H => ∃ r lv, ∃ m0 m1 n1 n2 : Nat, ∃ v1 v2, σ = [some (.ref p), some (.ref t), some (.ref r), some k.mod, some (.ref lv), some (.int (n1 : Int)), some (.int (n2 : Int)), some v1, some v2, some (btw k n1 m0 n2 m1), some (due1 k n1 m0 n2 m1), none] ∧ Pt K H p a ns z0 (z0 + 11) ∧ Fw K H t l r lv k m0 m1 n1 n2 v1 v2
def S12 (K : PySem.W.Frag) : L2.St → Hp → Prop := fun σ H => ∃ r lv, ∃ m0 m1 n1 n2 : Nat, ∃ v1 v2, σ = [some (.ref p), some (.ref t), some (.ref r), some k.mod, some (.ref lv), some (.int (n1 : Int)), some (.int (n2 : Int)), some v1, some v2, some (btw k n1 m0 n2 m1), some (btw k n1 m0 n2 m1), none] ∧ Pt K H p a ns z0 (z0 + 11) ∧ Fw K H t l r lv k m0 m1 n1 n2 v1 v2
theorem ps7 (T : Tx K mg) (hr : Room 10 (XR P w K mg base cdv A outer s H0 E).A) : PS (XR P w K mg base cdv A outer s H0 E) (stR 7) (tPP (S6 p a t l ns k z0 K) (S6 p a t l ns k z0 K)) := by
  obtain ⟨fd, F3, B⟩ := m_showsX (P := P) (w := w) (base := base) T k
  obtain ⟨ds, hd, hb⟩ := B.one
  have M := m_shows (P := P) (w := w) (base := base) T k
  refine PS.pp (ps_if (PW.pt (pw_or (pt_cmpR (op_neD hr.units) (pe_meth (pv 2) M.cl M.mt F3 (hr.mono (by decide)) hb hd (E := fun _ _ _ => False) pF (pa_cons (pv 5) pa_nil)) (pe_d (d_shn T) (hr.mono (by decide)) (by rfl) (E := E) p0 (pa_cons (pv 1) (pa_cons (pv 5) (pa_cons pe_int pa_nil)))) (nomark _))
    (pw_or1 (pt_cmpR op_notBl (Dfs.pe_m (pv 2) (m_isrd T k) (hr.mono (by decide)) (E := E) p0 (pa_cons (pv 7) pa_nil)) pe_bl (nomark _))))) (pss_one (ps_ret pe_bl)) pss_nil) (fun D σ H q nx => ?_)
  obtain ⟨r, lv, m0, m1, n1, n2, v1, v2, rfl, pt, f⟩ := q
  obtain ⟨dx, fls, ei, hl1, hl2, _⟩ := f.fk.reg.ins
  have lay := rdD_lay k (n1, (0 : Int))
  have sh : SeqAt.shaped (rdD k (n1, (0 : Int))) = true := by
    unfold SeqAt.shaped
    rw [lay.1, decide_eq_true (by have := lay.2; omega)]
    rfl
  refine ⟨_, rfl, r, dx, fls, rfl, ei, hl1, _, rfl, r, n1, 0, rfl, f.fk.reg, Int.natCast_nonneg _, le_int f.b2, Int.le_refl _, by decide, fun u1 H1 S1 q1 => ?_⟩
  have f1 := f.same S1
  refine ⟨_, rfl, _, rfl, t, l, k, n1, 0, rfl, f1.fk.pln, fun u2 H2 S2 q2 => ?_⟩
  have S12 : Same H H2 := fun b o h => S2 b o (S1 b o h)
  have f2 := f.same S12
  refine ⟨_, _, Rd.dp (q := (n1, (0 : Int))) (q1.same S2), Rd.dp (q := (n1, (0 : Int))) q2, sh, sh, ?_⟩
  rw [PySem.SeqAt.eqv_refl _ lay.1]
  refine ⟨_, rfl, ite3 (fun h => by cases h) (fun _ => ?_)⟩
  refine ⟨_, rfl, r, dx, fls, rfl, S12 _ _ ei, hl2, _, rfl, r, v1, rfl, f2.fk.reg, .inl ⟨n1, m0, Int.natCast_nonneg _, f2.r1, fun H3 S3 => ?_⟩⟩
  refine ⟨true, true, rfl, rfl, _, rfl, ite3 (fun h => by cases h) (fun _ => ?_)⟩
  exact nx _ _ ⟨r, lv, m0, m1, n1, n2, v1, v2, rfl, (pt.same S12).same S3, f2.same S3⟩
theorem ps8 (T : Tx K mg) (hr : Room 10 (XR P w K mg base cdv A outer s H0 E).A) : PS (XR P w K mg base cdv A outer s H0 E) (stR 8) (tPP (S6 p a t l ns k z0 K) (S6 p a t l ns k z0 K)) := by
  have M := m_totX (P := P) (w := w) (base := base) T k
  obtain ⟨fd, F3, _, kb⟩ := M.ok
  refine PS.pp (ps_if (pt_cmpR op_ne (Mk0.pe_methK (pv 2) M.cl M.mt F3 (hr.mono (by decide)) kb (E := fun _ _ _ => False) pF (pk_cons (pv 7) pk_nil))
    (pe_ifExp (pt_cmpR op_isN (pv 3) pe_non (nomark _)) (pv 5) (pe_op op_mod (pe_callTy call_int1 (by rfl) T.f_int (by decide +kernel) (pa_cons (pv 5) pa_nil)) (pv 3))) (nomark _)) (pss_one (ps_ret pe_bl)) pss_nil) (fun D σ H q nx => ?_)
  obtain ⟨r, lv, m0, m1, n1, n2, v1, v2, rfl, pt, f⟩ := q
  have lk : ∃ dx fls, H r = some (.ins (CK K k) dx fls) ∧ fls.lookup ("total_of" : Str) = none := by
    cases f.fk.reg with
    | pl e => exact ⟨_, _, e, rfl⟩
    | rs e => exact ⟨_, _, e, rfl⟩
    | md e h2 h3 => exact ⟨_, _, e, rfl⟩
    | dl e ht h1 h2 h3 => exact ⟨_, _, e, rfl⟩
  obtain ⟨dx, fls, ei, hl⟩ := lk
  refine ⟨_, rfl, r, dx, fls, rfl, ei, hl, _, rfl, rfl, r, v1, n1, m0, rfl, f.fk.reg, f.r1, Int.natCast_nonneg _, fun H1 S1 => ?_⟩
  have fin : D.nx [some (.ref p), some (.ref t), some (.ref r), some k.mod, some (.ref lv), some (.int (n1 : Int)), some (.int (n2 : Int)), some v1, some v2, none, none, none] H1 := nx _ _ ⟨r, lv, m0, m1, n1, n2, v1, v2, rfl, pt.same S1, f.same S1⟩
  refine ⟨_, rfl, rfl, _, rfl, ?_⟩
  rcases mod_or f.fk.pln.good with hM | ⟨M, hM, M1, M2⟩
  · rw [tot_non n1 hM]
    refine ite3 (fun _ => ?_) (fun h => by rw [hM] at h; cases h)
    exact ⟨_, rfl, rfl, _, rfl, ite3 (fun h => by rw [decide_eq_true rfl] at h; cases h) (fun _ => fin)⟩
  · rw [tot_mod n1 hM]
    refine ite3 (fun h => by rw [hM] at h; exact absurd (of_decide_eq_true h) (by intro h; cases h)) (fun _ => ?_)
    refine ⟨_, rfl, .inl ⟨_, rfl, _, rfl, _, _, rfl, hM, by omega, rfl, _, rfl, ite3 (fun h => by rw [decide_eq_true rfl] at h; cases h) (fun _ => fin)⟩⟩
theorem ps9 (T : Tx K mg) (hr : Room 10 (XR P w K mg base cdv A outer s H0 E).A) : PS (XR P w K mg base cdv A outer s H0 E) (stR 9) (tPP (S6 p a t l ns k z0 K) (S10 p a t l ns k z0 K)) := by
  refine PS.pp (ps_set (i := 9) ndR rfl (Or.inl rfl) (Dfs.pe_m (pv 2) (m_btw T k) (hr.mono (by decide)) (E := fun _ _ _ => False) pF (pa_cons (pv 7) (pa_cons (pv 8) pa_nil)))) (fun D σ H q nx => ?_)
  obtain ⟨r, lv, m0, m1, n1, n2, v1, v2, rfl, pt, f⟩ := q
  obtain ⟨dx, fls, ei, _, _, hl3⟩ := f.fk.reg.ins
  exact ⟨_, rfl, r, dx, fls, rfl, ei, hl3, _, rfl, _, rfl, r, v1, v2, n1, n2, m0, m1, rfl, f.fk.reg, f.r1, f.r2, Int.natCast_nonneg _, Int.natCast_nonneg _, fun H1 S1 => nx _ _ ⟨r, lv, m0, m1, n1, n2, v1, v2, rfl, pt.same S1, f.same S1⟩⟩
theorem ps10 (T : Tx K mg) (hr : Room 10 (XR P w K mg base cdv A outer s H0 E).A) : PS (XR P w K mg base cdv A outer s H0 E) (stR 10) (tPP (S10 p a t l ns k z0 K) (S11 p a t l ns k z0 K)) := by
  refine PS.pp (ps_set (i := 10) ndR rfl (Or.inl rfl) (pe_ifExp (PW.pt (pw_and (pt_cmpR op_ge (pv 6) (pv 5) (nomark _)) (pw_and1 (PW.pt (pw_or (pt_cmpR op_eq (pe_ix ix_tup (pv 1) pe_int (fun _ _ => rfl)) pe_str (nomark _)) (pw_or1 (pt_cmpR op_eq (pe_ix ix_list (pv 4) pe_int (fun _ _ => rfl)) (pe_ix ix_list (pv 4) pe_int (fun _ _ => rfl)) (nomark _)))))))) (pe_op op_sub (pv 6) (pv 5)) pe_non)) (fun D σ H q nx => ?_)
  obtain ⟨r, lv, m0, m1, n1, n2, v1, v2, rfl, pt, f⟩ := q
  have fin : ∀ v, v = due1 k n1 m0 n2 m1 → D.nx [some (.ref p), some (.ref t), some (.ref r), some k.mod, some (.ref lv), some (.int (n1 : Int)), some (.int (n2 : Int)), some v1, some v2, some (btw k n1 m0 n2 m1), some v, none] H := fun v e => by
    rw [e]
    exact nx _ _ ⟨r, lv, m0, m1, n1, n2, v1, v2, rfl, pt, f⟩
  refine ⟨_, rfl, _, rfl, _, _, rfl, rfl, _, rfl, ite3 (fun h => ?_) (fun h => ?_)⟩
  · have h1 : (n1 : Int) ≤ n2 := of_decide_eq_true h
    refine ⟨_, rfl, t, _, _, _, rfl, rfl, SqT.of f.fk.pln.at_, atI_nat (j := 0) (v := .str k.word) rfl, rfl, _, rfl, ite3 (fun h2 => ?_) (fun h2 => ?_)⟩
    · refine ite3 (fun _ => ?_) (fun h => by cases h)
      refine ⟨_, rfl, _, rfl, _, _, rfl, rfl, fin _ ?_⟩
      unfold due1
      rw [if_pos ⟨by omega, .inl h2⟩]
    · refine ⟨_, rfl, lv, _, _, _, rfl, rfl, SqL.of f.at_, atI_nat (j := 0) (v := .int (m0 : Int)) rfl, _, rfl, lv, _, _, _, rfl, rfl, SqL.of f.at_, atI_nat (j := 1) (v := .int (m1 : Int)) rfl, rfl, _, rfl, ite3 (fun h3 => ?_) (fun h3 => ?_)⟩
      · have e := Int.ofNat.inj (V.int.inj (of_decide_eq_true h3))
        refine ⟨_, rfl, _, rfl, _, _, rfl, rfl, fin _ ?_⟩
        unfold due1
        rw [if_pos ⟨by omega, .inr e⟩]
      · refine fin _ ?_
        unfold due1
        rw [if_neg]
        rintro ⟨_, z | z⟩
        · rw [h2] at z
          cases z
        · rw [z, decide_eq_true rfl] at h3
          cases h3
  · refine ite3 (fun h => by cases h) (fun _ => fin _ ?_)
    have h1 : ¬ (n1 : Int) ≤ n2 := of_decide_eq_false h
    unfold due1
    rw [if_neg (fun z => h1 (by omega))]
theorem ps11 (T : Tx K mg) (hr : Room 10 (XR P w K mg base cdv A outer s H0 E).A) : PS (XR P w K mg base cdv A outer s H0 E) (stR 11) (tPP (S11 p a t l ns k z0 K) (S12 p a t l ns k z0 K)) := by
  refine PS.pp (ps_set (i := 10) ndR rfl (Or.inl rfl) (pe_ifExp (pt_cmpR op_notN (pv 3) pe_non (nomark _)) (pe_op op_mod (pe_callTy call_int1 (by rfl) T.f_int (by decide +kernel) (pa_cons (pe_op op_sub (pv 6) (pv 5)) pa_nil)) (pv 3)) (pv 10))) (fun D σ H q nx => ?_)
  obtain ⟨r, lv, m0, m1, n1, n2, v1, v2, rfl, pt, f⟩ := q
  have fin : ∀ v, v = btw k n1 m0 n2 m1 → D.nx [some (.ref p), some (.ref t), some (.ref r), some k.mod, some (.ref lv), some (.int (n1 : Int)), some (.int (n2 : Int)), some v1, some v2, some (btw k n1 m0 n2 m1), some v, none] H := fun v e => by
    rw [e]
    exact nx _ _ ⟨r, lv, m0, m1, n1, n2, v1, v2, rfl, pt, f⟩
  refine ⟨_, rfl, rfl, _, rfl, ?_⟩
  rcases mod_or f.fk.pln.good with hM | ⟨M, hM, M1, M2⟩
  · refine ite3 (fun h => by rw [hM] at h; cases h) (fun _ => ?_)
    exact ⟨_, rfl, fin _ (due_non hM)⟩
  · refine ite3 (fun _ => ?_) (fun h => by rw [hM, decide_eq_false (by intro h; cases h)] at h; cases h)
    exact ⟨_, rfl, _, rfl, _, _, rfl, rfl, .inl ⟨_, rfl, _, rfl, _, _, rfl, hM, by omega, fin _ (due_mod hM).symm⟩⟩
end
end K23
set_option Elab.async false
set_option linter.all false
set_option maxRecDepth 100000
set_option maxHeartbeats 4000000
namespace K23
open PySem PySem.Spec PyProof.Rows L2 Pre Dfs Vls
section
variable {P : Program} {w : World} {K : PySem.W.Frag} {mg : Str → Option Value} {base : Heap} {cdv : Value} {A : Around} {outer : List Env} {s : Shared} {H0 : Hp} {E : XK}
variable (p a t l : Addr) (ns : List Int) (k : Kd) (z0 : Int)
theorem scal_opt {v : V} (h : v = .non ∨ ∃ n : Nat, v = .int (n : Int) ∧ n ≤ 10 ^ 40) : scal v v = true := by
  rcases h with rfl | ⟨n, rfl, _⟩ <;> rfl
theorem ps12 (T : Tx K mg) (still : (XR P w K mg base cdv A outer s H0 E).A.guards = some []) (hr : Room 10 (XR P w K mg base cdv A outer s H0 E).A) : PS (XR P w K mg base cdv A outer s H0 E) (stR 12) (tPP (S12 p a t l ns k z0 K) (S12 p a t l ns k z0 K)) := by
  obtain ⟨fd, F3, B, kb⟩ := (m_btwX (P := P) (w := w) (base := base) T k).ok
  have M := m_btw (P := P) (w := w) (base := base) T k
  refine PS.pp (ps_if (PW.pt (pw_or (pt_cmpR op_ne (pe_callB (Shw.call_repr hr still) (by rfl) T.f_repr (by decide +kernel) (pa_cons (pv 9) pa_nil)) (pe_callB (Shw.call_repr hr still) (by rfl) T.f_repr (by decide +kernel) (pa_cons (pv 10) pa_nil)) (nomark _))
    (pw_or1 (pt_cmpR op_ne (Mk0.pe_methK (pv 2) M.cl M.mt F3 (hr.mono (by decide)) kb (E := fun _ _ _ => False) pF (pk_cons (pv 8) (pk_cons (pv 7) pk_nil))) (pv 9) (nomark _))))) (pss_one (ps_ret pe_bl)) pss_nil) (fun D σ H q nx => ?_)
  obtain ⟨r, lv, m0, m1, n1, n2, v1, v2, rfl, pt, f⟩ := q
  have opt := btw_opt (m0 := m0) (m1 := m1) (n1 := n1) f.fk.pln.good f.b3
  obtain ⟨d, dp, o1, o2, o3, o4⟩ := opt_ok (K := K) (H := H) opt
  obtain ⟨dx, fls, ei, hl, hl2, hl3⟩ := f.fk.reg.ins
  refine ⟨_, rfl, _, d, rfl, dp, o1, o2, o3, o4, _, rfl, _, d, rfl, dp, o1, o2, o3, o4, rfl, ?_⟩
  refine ⟨_, rfl, ite3 (fun h => by rw [decide_eq_true rfl] at h; cases h) (fun _ => ?_)⟩
  refine ⟨_, rfl, r, dx, fls, rfl, ei, hl3, _, rfl, _, rfl, rfl, r, v1, v2, n1, n2, m0, m1, rfl, f.fk.reg, f.r1, f.r2, Int.natCast_nonneg _, Int.natCast_nonneg _, fun H1 S1 => ?_⟩
  refine ⟨_, rfl, scal_opt opt, _, rfl, ite3 (fun h => by rw [decide_eq_true rfl] at h; cases h) (fun _ => ?_)⟩
  exact nx _ _ ⟨r, lv, m0, m1, n1, n2, v1, v2, rfl, pt.same S1, f.same S1⟩
end
end K23
set_option Elab.async false
set_option linter.all false
set_option maxRecDepth 100000
set_option maxHeartbeats 4000000
namespace K23
open PySem PySem.Spec PyProof.Rows L2 Pre Dfs Vls
/-! what the law keeps of a register, as data -/
def plD (k : Kd) : PyData := .tuple [.str k.word, .list (k.args.map fun (p : Nat) => PyData.int ((p : Nat) : Int))]
theorem Pln.dp {K : PySem.W.Frag} {H : Hp} {t l : Addr} {k : Kd} (q : Pln H t l k) : Dp K H (.ref t) (plD k) :=
  .tup (SqT.of q.at_) (.cons (.str _) (.cons (.lst (SqL.of q.ns) (dp_ivs _)) .nil))
theorem plD_shaped (k : Kd) : SeqAt.shaped (plD k) = true := by
  unfold SeqAt.shaped plD
  rw [data_ints]
  have h := depth_ints (k.args.map fun (p : Nat) => ((p : Nat) : Int))
  have h2 := canLay_ints (k.args.map fun (p : Nat) => ((p : Nat) : Int))
  have h3 : PyData.canLay0 (.str k.word) = true := by cases k <;> simp only [PyData.canLay0, Kd.word] <;> decide +kernel
  have e1 : PyData.canLay0 (.tuple [.str k.word, .list ((k.args.map fun (p : Nat) => ((p : Nat) : Int)).map PyData.int)]) = true := by
    simp only [PyData.canLay0, PyData.canLayAll0] at h2 h3 ⊢
    simp only [h2, h3]
    rfl
  have e2 : PyData.depth (.tuple [.str k.word, .list ((k.args.map fun (p : Nat) => ((p : Nat) : Int)).map PyData.int)]) ≤ 64 := by
    simp only [PyData.depth, PyData.depthAll, Nat.max_def]
    repeat' split
    all_goals omega
  rw [e1, decide_eq_true e2]
  rfl
theorem eqv_ivl (ps qs : List Nat) : PyData.eqv (.list (ps.map fun (p : Nat) => PyData.int ((p : Nat) : Int))) (.list (qs.map fun (p : Nat) => PyData.int ((p : Nat) : Int))) = decide (ps = qs) := by
  have h := eqv_ivs ps qs
  rw [PyData.eqv] at h
  rw [data_ints, data_ints, PyData.eqv]
  exact h
theorem eqv_pl (k2 k : Kd) : PyData.eqv (plD k2) (plD k) = eqK k2 (some k) := by
  unfold plD
  rw [PyData.eqv, PyData.eqvAll, PyData.eqvAll, eqv_ivl]
  cases k2 <;> cases k <;> simp [PyData.eqv, PyData.eqvAll, Kd.word, Kd.args, eqK, isPl, isRs]
  all_goals first
    | exact of_decide_eq_false rfl
    | exact fun h => absurd h (of_decide_eq_false rfl)
    | exact decide_eq_decide.mpr Iff.rfl
section
variable {P : Program} {w : World} {K : PySem.W.Frag} {mg : Str → Option Value} {base : Heap}
def spUnl (K : PySem.W.Frag) : Sp := fun vs H Q _ => ∃ (p a t l r : Addr) (k : Kd) (ns : List Int) (s g : Int), vs = [.ref p, .ref t, .ref r] ∧ Pen K H p a ns s g ∧ s < 900000 ∧ Fk K H t l r k ∧
  ∀ (H' : Hp) (s' g' : Int), But p H H' → Pen K H' p a ns s' g' → s ≤ s' → s' ≤ s + 10 → Q (.bl true) H'
theorem d_unl (T : Tx K mg) (hopq : Sup.Opq base) (hf : ((P.main.file : Str) == PySem.Challenge.pw_gaugeroad_k23_registers_and_their_readin.main.file) = true) (ht : (P.main.scope.names.lookup ("super" : Str)).isSome = false) :
    Dfn P w K mg base CX0 9 "_law_is_unlike" ["_law_pen_here", "_law_plain", "_law_made_here"] (spUnl K) := by
  have nd : (["_law_pen_here", "_law_plain", "_law_made_here", "_law_other"] : List Str).Nodup := by decide +kernel
  refine dfn T.q_law_is_unlike T.g_law_is_unlike (N := ["_law_pen_here", "_law_plain", "_law_made_here", "_law_other"]) ⟨rfl, rfl, rfl, by decide +kernel, rfl, by decide +kernel, by decide +kernel⟩ (fun vs H Q E h => ?_) (fun kV doc pm an cdv ct => bind3 fun a b c => rfl) (fun cdv A outer s H vs Q E hr h => ?_)
  · obtain ⟨_, _, _, _, _, _, _, _, _, rfl, _⟩ := h
    rfl
  · obtain ⟨p, a, t, l, r, k, ns, z, g, rfl, R, hz, fk, q⟩ := h
    refine ⟨_, pss_cons (ps_set (i := 3) nd rfl (Or.inl rfl) (pe_d (d_rgs T) (hr.mono (by decide)) (by rfl) (E := E) p0 (pa_cons (pv 0) pa_nil)))
      (pss_one (ps_ret (pe_cmpR op_eq (pe_cmpR (op_eqR T (hr.mono (by decide))) (pe_d (d_made T hopq hf ht) hr (by rfl) (E := E) p0 (pa_cons (pv 3) pa_nil)) (pv 2) (nomark _)) (pe_cmpR (op_eqD hr.units) (pv 3) (pv 1) (nomark _)) (nomark _)))), ?_⟩
    refine ⟨_, rfl, p, a, ns, z, g, rfl, R, hz, fun H1 t2 l2 k2 s1 g1 b1 R1 h1 h2 pl2 => ?_⟩
    have fk1 := fk.keep R (Keep.but b1)
    refine ⟨_, rfl, t2, l2, k2, rfl, pl2, fun H2 r2 S2 rg2 => ?_⟩
    have fk2 := fk1.same S2
    refine ⟨_, rfl, r2, k2, some k, rfl, rg2, .reg fk2.reg, fun H3 S3 => ?_⟩
    refine ⟨_, rfl, _, rfl, _, _, (pl2.same S2).same S3 |>.dp, (fk2.pln.same S3).dp, plD_shaped _, plD_shaped _, ?_⟩
    refine ⟨rfl, ?_⟩
    rw [eqv_pl, decide_eq_true rfl]
    exact q H3 s1 g1 ((b1.trans (But.of S2)).trans (But.of S3)) ((R1.same S2).same S3) h1 h2
end
end K23
set_option Elab.async false
set_option linter.all false
set_option maxRecDepth 100000
set_option maxHeartbeats 4000000
namespace K23
open PySem PySem.Spec PyProof.Rows L2 Pre Dfs Vls
theorem eqK_self (k : Kd) : eqK k (some k) = true := by
  cases k with
  | pl => rfl
  | rs => rfl
  | md m => exact decide_eq_true rfl
  | dl ps => exact decide_eq_true rfl
section
variable {P : Program} {w : World} {K : PySem.W.Frag} {mg : Str → Option Value} {base : Heap} {cdv : Value} {A : Around} {outer : List Env} {s : Shared} {H0 : Hp} {E : XK}
variable (p a t l : Addr) (ns : List Int) (k : Kd) (z0 : Int)
theorem ps13 (T : Tx K mg) (hopq : Sup.Opq base) (hf : ((P.main.file : Str) == PySem.Challenge.pw_gaugeroad_k23_registers_and_their_readin.main.file) = true) (ht : (P.main.scope.names.lookup ("super" : Str)).isSome = false)
    (hz2 : z0 < 800000) (hr : Room 10 (XR P w K mg base cdv A outer s H0 E).A) : PS (XR P w K mg base cdv A outer s H0 E) (stR 13) (tPR (S12 p a t l ns k z0 K) (fun H => Pt K H p a ns z0 (z0 + 21) ∧ Pln H t l k)) := by
  obtain ⟨fs, Fs, Bs⟩ := (m_str (P := P) (w := w) (base := base) T k).ok
  refine PS.pr (ps_ret (pe_and (pe_cmpR (op_eqR T (hr.mono (by decide))) (pv 2) (pe_d (d_made T hopq hf ht) (hr.mono (by decide)) (by rfl) (E := E) p0 (pa_cons (pv 1) pa_nil)) (nomark _))
    (pe_and (pe_cmpR (op_neS T (hr.mono (by decide))) (pv 2) (pe_callTy (Sto.call_strO (m_str (P := P) (w := w) (base := base) T k).mt Fs Bs (hr.mono (by decide)) p0 (E := fun _ _ _ => False)) (by rfl) T.f_str (by kernel_rfl) (pa_cons (pv 2) pa_nil)) (nomark _))
    (pe_one (pe_d (d_unl T hopq hf ht) (hr.mono (by decide)) (by rfl) (E := E) p0 (pa_cons (pv 0) (pa_cons (pv 1) (pa_cons (pv 2) pa_nil)))))))) (fun D σ H q fin => ?_)
  obtain ⟨r, lv, m0, m1, n1, n2, v1, v2, rfl, pt, f⟩ := q
  have fk := f.fk
  refine ⟨_, rfl, _, rfl, t, l, k, rfl, fk.pln, fun H1 r1 S1 rg1 => ?_⟩
  refine ⟨r, k, some k, rfl, fk.reg.same S1, .reg rg1, fun H2 S2 => ?_⟩
  refine ⟨_, rfl, ite3 (fun _ => ?_) (fun h => by rw [eqK_self] at h; cases h)⟩
  have fk2 := (fk.same S1).same S2
  obtain ⟨dx2, fl2, ei2, _⟩ := fk2.reg.ins
  refine ⟨_, rfl, _, rfl, r, dx2, fl2, rfl, ei2, r, rfl, fk2.reg, fun H3 S3 => ⟨_, rfl, ?_⟩⟩
  refine ⟨r, k, _, rfl, fk2.reg.same S3, rfl, fun H4 S4 => ?_⟩
  refine ⟨_, rfl, ite3 (fun _ => ?_) (fun h => by cases h)⟩
  have S14 : Same H H4 := fun b o h => S4 b o (S3 b o (S2 b o (S1 b o h)))
  obtain ⟨z, g, R, h1, h2⟩ := pt.same S14
  refine ⟨_, rfl, _, rfl, _, rfl, p, a, t, l, r, k, ns, z, g, rfl, R, by omega, fk.same S14, fun H5 s5 g5 b5 R5 h3 h4 => ?_⟩
  exact fin H5 ⟨⟨s5, g5, R5, by omega, by omega⟩, ((fk.same S14).keep R (Keep.but b5)).pln⟩
/-- _law_right answers True -/
def spRight (K : PySem.W.Frag) : Sp := fun vs H Q _ => ∃ (p a t l : Addr) (ns : List Int) (z0 : Int) (k : Kd), vs = [.ref p, .ref t] ∧ Pt K H p a ns z0 z0 ∧ 0 ≤ z0 ∧ z0 < 800000 ∧ Pln H t l k ∧ ∀ H', Pt K H' p a ns z0 (z0 + 21) → Pln H' t l k → Q (.bl true) H'
end
end K23
set_option Elab.async false
set_option linter.all false
set_option maxRecDepth 100000
set_option maxHeartbeats 4000000
namespace K23
open PySem PySem.Spec PyProof.Rows L2 Pre Dfs Vls
section
variable {P : Program} {w : World} {K : PySem.W.Frag} {mg : Str → Option Value} {base : Heap}
theorem f_right (T : Tx K mg) (hopq : Sup.Opq base) (hf : ((P.main.file : Str) == PySem.Challenge.pw_gaugeroad_k23_registers_and_their_readin.main.file) = true) (ht : (P.main.scope.names.lookup ("super" : Str)).isSome = false) :
    ∃ fd, Shw.FnG P w K mg base CX0 11 (He.ga K "_law_right") fd ["_law_pen_here", "_law_plain"] (spRight K) ∧ Binds K fd ["_law_pen_here", "_law_plain"] [] ∧ PySem.W.keepIn K (.ref (He.ga K "_law_right")) = true := by
  obtain ⟨fd, F⟩ := T.q_law_right
  refine ⟨fd, Shw.okG F (N := NR) ⟨rfl, rfl, rfl, ndR, rfl, by decide +kernel, by decide +kernel⟩ (fun vs H Q E h => ?_) (fun cdv A outer s H vs Q E hr still h => ?_), F.bindsN fun kV doc pm an cdv ct => bind2 fun a b => rfl, F.kp⟩
  · obtain ⟨_, _, _, _, _, _, _, rfl, _⟩ := h
    rfl
  · obtain ⟨p, a, t, l, ns, z0, k, rfl, pt, h1, h2, pl, q⟩ := h
    rw [body_eq]
    refine ⟨_, pss_cons (ps0 (P := P) (w := w) (K := K) (mg := mg) (base := base) p a t l ns k z0 T hopq hf ht hr)
      (pss_cons (ps1 p a t l ns k z0 T h1 h2 hr)
      (pss_cons (ps2 p a t l ns k z0 T h1 h2 hr)
      (pss_cons (ps3 p a t l ns k z0 T still hr)
      (pss_cons (ps4 p a t l ns k z0 T h1 h2 hr)
      (pss_cons (ps5 p a t l ns k z0 T hr)
      (pss_cons (ps6 p a t l ns k z0 T still hr)
      (pss_cons (ps7 p a t l ns k z0 T hr)
      (pss_cons (ps8 p a t l ns k z0 T hr)
      (pss_cons (ps9 p a t l ns k z0 T hr)
      (pss_cons (ps10 p a t l ns k z0 T hr)
      (pss_cons (ps11 p a t l ns k z0 T hr)
      (pss_cons (ps12 p a t l ns k z0 T still hr)
      (pss_one (ps13 p a t l ns k z0 T hopq hf ht h2 hr)))))))))))))), ?_⟩
    exact pp_go ⟨rfl, pt, pl⟩ fun _ _ s1 => pp_go s1 fun _ _ s2 => pp_go s2 fun _ _ s3 => pp_go s3 fun _ _ s4 => pp_go s4 fun _ _ s5 => pp_go s5 fun _ _ s6 => pp_go s6 fun _ _ s7 => pp_go s7 fun _ _ s8 =>
      pp_go s8 fun _ _ s9 => pp_go s9 fun _ _ s10 => pp_go s10 fun _ _ s11 => pp_go s11 fun _ _ s12 => pp_go s12 fun _ _ s13 => ⟨s13, fun H' z => q H' z.1 z.2⟩
end
end K23
set_option Elab.async false
set_option linter.all false
set_option maxRecDepth 100000
set_option maxHeartbeats 4000000
namespace K23
open PySem PySem.Spec PyProof.Rows L2 Pre Dfs Vls
/-- a total that has given rests, up to some place -/
def Fit (i n : Nat) (ps xs : List Nat) : Prop := ∀ j p x, j < i → ps[j]? = some p → xs[j]? = some x → n % p = x
theorem dvd_lcms {ps : List Nat} {i j p : Nat} (hj : j < i) (h : ps[j]? = some p) : p ∣ lcms (ps.take i) := by
  induction i with
  | zero => omega
  | succ i ih =>
    cases q : ps[i]? with
    | none =>
      have hl := List.getElem?_eq_none_iff.mp q
      have hk := (List.getElem?_eq_some_iff.mp h).1
      have e : ps.take (i + 1) = ps.take i := by
        rw [List.take_succ, q]
        exact List.append_nil _
      rw [e]
      exact ih (by omega)
    | some r =>
      rw [lcms_next q]
      by_cases e : j = i
      · subst e
        rw [h] at q
        cases q
        exact Nat.dvd_lcm_right _ _
      · exact Nat.dvd_trans (ih (by omega)) (Nat.dvd_lcm_left _ _)
theorem fit_mod {ps xs : List Nat} {i n m : Nat} (hl : xs.length = ps.length) (a : Fit i n ps xs) (b : Fit i m ps xs) : n % lcms (ps.take i) = m % lcms (ps.take i) := by
  have key : ∀ i', i' ≤ i → n % lcms (ps.take i') = m % lcms (ps.take i') := by
    intro i'
    induction i' with
    | zero =>
      intro _
      rw [List.take_zero, show lcms [] = 1 from rfl, Nat.mod_one, Nat.mod_one]
    | succ j ih =>
      intro hj
      have h := ih (by omega)
      cases q : ps[j]? with
      | none =>
        have e : ps.take (j + 1) = ps.take j := by
          rw [List.take_succ, q]
          exact List.append_nil _
        rw [e]
        exact h
      | some p =>
        have hk := (List.getElem?_eq_some_iff.mp q).1
        obtain ⟨x, hx⟩ : ∃ x, xs[j]? = some x := ⟨xs[j]'(by omega), List.getElem?_eq_getElem _⟩
        have e1 := a j p x (by omega) q hx
        have e2 := b j p x (by omega) q hx
        rw [lcms_next q]
        have d : ∀ {u v : Nat}, u ≤ v → u % lcms (ps.take j) = v % lcms (ps.take j) → u % p = v % p → u % Nat.lcm (lcms (ps.take j)) p = v % Nat.lcm (lcms (ps.take j)) p := by
          intro u v le f1 f2
          have d1 : lcms (ps.take j) ∣ v - u := Nat.dvd_of_mod_eq_zero (Nat.sub_mod_eq_zero_of_mod_eq f1.symm)
          have d2 : p ∣ v - u := Nat.dvd_of_mod_eq_zero (Nat.sub_mod_eq_zero_of_mod_eq f2.symm)
          obtain ⟨c, hc⟩ := Nat.lcm_dvd d1 d2
          have e : v = u + Nat.lcm (lcms (ps.take j)) p * c := by omega
          rw [e, Nat.add_mul_mod_self_left]
        rcases Nat.le_total n m with le | le
        · exact d le h (e1.trans e2.symm)
        · exact (d le h.symm (e2.trans e1.symm)).symm
  exact key i (Nat.le_refl i)
theorem fit_next {ps xs : List Nat} {i n p x k : Nat} (hL : 0 < lcms (ps.take i)) (a : Fit i n ps xs) (hp : ps[i]? = some p) (hx : xs[i]? = some x) (h : (n % lcms (ps.take i) + k * lcms (ps.take i)) % p = x) :
    Fit (i + 1) (n % lcms (ps.take i) + k * lcms (ps.take i)) ps xs := by
  intro j q y hj hq hy
  by_cases e : j = i
  · subst e
    rw [hp] at hq
    rw [hx] at hy
    cases hq
    cases hy
    exact h
  · have d : q ∣ lcms (ps.take i) := dvd_lcms (by omega) hq
    have z := a j q y (by omega) hq hy
    rw [Nat.add_mod, Nat.mod_eq_zero_of_dvd (Nat.dvd_trans d (Nat.dvd_mul_left _ _)), Nat.add_zero, Nat.mod_mod, Nat.mod_mod_of_dvd _ d]
    exact z
section
variable {P : Program} {w : World} {K : PySem.W.Frag} {mg : Str → Option Value} {base : Heap}
def spLeastF : Sp := fun vs H Q _ => ∃ (tp tr : Addr) (ps xs : List Nat), vs = [.ref tp, .ref tr] ∧ H tp = some (.tup (ivs ps)) ∧ H tr = some (.tup (ivs xs)) ∧ ps.length ≤ 6 ∧ (∀ p ∈ ps, 2 ≤ p ∧ p ≤ 1000) ∧ xs.length = ps.length ∧
  (∀ (j p x : Nat), ps[j]? = some p → xs[j]? = some x → x < p) ∧ (∀ n, Fit ps.length n ps xs → ∀ H', Same H H' → Q (.int ((n % lcms ps : Nat) : Int)) H') ∧ ((∀ n, ¬ Fit ps.length n ps xs) → ∀ H', Same H H' → Q .non H')
theorem d_leastF (T : Tx K mg) : Dfn P w K mg base CX0 1 "least_total" ["periods", "rests"] spLeastF := by
  have nd : (["periods", "rests", "total", "step", "period", "rest", "fits", "k"] : List Str).Nodup := by decide +kernel
  refine dfn T.q_least_total T.g_least_total (N := ["periods", "rests", "total", "step", "period", "rest", "fits", "k"]) ⟨rfl, rfl, rfl, by decide +kernel, rfl, by decide +kernel, by decide +kernel⟩ (fun vs H Q E h => ?_) (fun kV doc pm an cdv ct => bind2 fun a b => rfl) (fun cdv A outer s H vs Q E hr h => ?_)
  · obtain ⟨_, _, _, _, rfl, _⟩ := h
    rfl
  · obtain ⟨tp, tr, ps, xs, rfl, e1, e2, few, bd, hl, lt, q, qn⟩ := h
    refine ⟨_, pss_cons (ps_asg (pe_tup (pa_cons pe_int (pa_cons pe_int pa_nil))) (pg_tup rfl (pgs_cons (pg_name (i := 2) nd rfl (Or.inr rfl)) (pgs_cons (pg_name (i := 3) nd rfl (Or.inr rfl)) pgs_nil))))
      (pss_cons (ps_for (passes_of rfl) rfl (RZ.pi_zipA (by rfl) T.f_zip (pa_cons (pv 0) (pa_cons (pv 1) pa_nil))) (pg_tup rfl (pgs_cons (pg_name (i := 4) nd rfl (Or.inr rfl)) (pgs_cons (pg_name (i := 5) nd rfl (Or.inr rfl)) pgs_nil)))
        (pss_cons (ps_setLc (i := 6) rfl nd rfl rfl (by rfl) (pi_range1 (by rfl) T.f_range (pa_cons (pv 4) pa_nil)) (own := [("k", 7)]) (blk_by (by kernel_rfl)) (fun _ _ _ _ _ => pg_name (i := 7) nd rfl (Or.inl rfl))
            (fun _ _ _ _ _ => pts_one (pt_cmpR op_eq (pe_op op_mod (pe_op op_add (pv 2) (pe_op op_mul (pe_var (i := 7) rfl (Or.inl rfl)) (pv 3))) (pv 4)) (pv 5) (nomark _)))
            (fun _ _ _ _ _ => pe_op op_add (pv 2) (pe_op op_mul (pe_var (i := 7) rfl (Or.inl rfl)) (pv 3))))
        (pss_cons (ps_if (pt_not (pt_truth (pv 6) (fun _ => rfl))) (pss_one (ps_ret pe_non)) pss_nil)
        (pss_cons (ps_set (i := 2) nd rfl (Or.inr rfl) (pe_ix ix_list (pv 6) pe_int (fun _ _ => rfl)))
        (pss_one (ps_set (i := 3) nd rfl (Or.inr rfl) (pe_callBfun Crt.cr_lcm (by rfl) T.g_lcm (pa_cons (pv 3) (pa_cons (pv 4) pa_nil)))))))))
      (pss_one (ps_ret (pv 2)))), ?_⟩
    refine ⟨(by show (2 : Nat) ≤ sizeLine; rw [sizeLine_eq]; decide), fun p0 hp0 => ⟨p0, _, rfl, SqT.of upd_same, rfl, _, _, rfl, _, _, rfl, rfl, ?_⟩⟩
    have s0 : Same H (upd H p0 (.tup [.int 0, .int 1])) := Same.upd hp0
    refine ⟨_, rfl, _, rfl, tp, tr, ivs ps, ivs xs, rfl, .inr ⟨SqT.of (s0 _ _ e1), SqT.of (s0 _ _ e2), ?_⟩⟩
    refine for_it (walk_zipT (by rw [ivs_len, ivs_len, hl])) (fun i σ H1 => Same H H1 ∧ ∃ n x4 x5 x6, Fit i n ps xs ∧ σ = [some (.ref tp), some (.ref tr), some (.int ((n % lcms (ps.take i) : Nat) : Int)), some (.int ((lcms (ps.take i) : Nat) : Int)), x4, x5, x6, none])
      ⟨s0, 0, none, none, none, fun j p x h => by omega, ?_⟩ (fun i σ H1 _ z => ⟨SqT.of (z.1 _ _ e1), SqT.of (z.1 _ _ e2)⟩) (fun i v σ H1 H2 hi z y => ?_) (fun σ H1 z => ?_)
    · rw [List.take_zero, show lcms [] = 1 from rfl, Nat.mod_one]
      rfl
    · obtain ⟨s1, n, x4, x5, x6, ft, rfl⟩ := z
      obtain ⟨Tp, x, y, rfl, hTp, rfl, hx, hy⟩ := y
      obtain ⟨p, hp, rfl⟩ := ivs_at hx
      obtain ⟨x, hxx, rfl⟩ := ivs_at hy
      have xlt := lt i p x hp hxx
      have xe : ((x : Nat) : Int) = (x : Int) % (p : Int) := (Int.emod_eq_of_lt (by omega) (by omega)).symm
      have xm : x % p = x := Nat.mod_eq_of_lt xlt
      obtain ⟨p2, p3⟩ := bd p (List.mem_of_getElem? hp)
      have hi2 : i < ps.length := (List.getElem?_eq_some_iff.mp hp).1
      obtain ⟨Lp, Lb⟩ := lcms_bd bd i
      have nx := lcms_next hp
      have nxt : ∀ k, (n % lcms (ps.take i) + k * lcms (ps.take i)) % p = x → Fit (i + 1) (n % lcms (ps.take i) + k * lcms (ps.take i)) ps xs := fun k h => fit_next Lp ft hp hxx h
      have same : ∀ m, Fit i m ps xs → m % lcms (ps.take i) = n % lcms (ps.take i) := fun m h => fit_mod hl h ft
      generalize lcms (ps.take i) = L at Lp Lb nx nxt same ⊢
      have Lb2 : L ≤ 1000 ^ 5 := Nat.le_trans Lb (Nat.pow_le_pow_right (by decide) (by omega))
      have Lb3 : L < 2 ^ 63 := Nat.lt_of_le_of_lt Lb2 (by decide)
      have s2 : Same H (upd H1 Tp (.tup [.int p, .int (x : Int)])) := Same.new s1 hTp
      refine ⟨Tp, _, rfl, SqT.of upd_same, rfl, _, _, rfl, _, _, rfl, rfl, ?_⟩
      refine ⟨_, rfl, (p : Int), rfl, by omega, by omega, fun D hD => ?_⟩
      have hDn : H D = none := by
        cases q9 : H D with
        | none => rfl
        | some o =>
          rw [s2 _ _ q9] at hD
          cases hD
      refine lc_it (walk_range (lo := 0) (n := p)) (fun j H2 => Same H H2 ∧ H2 D = some (.lst (fitV (n % L) L p x j))) ⟨Same.put s2 hDn, upd_same⟩ (fun _ _ _ _ => True.intro) (fun j x H2 H3 hj z y => ?_) (fun H2 z => ?_)
      · obtain ⟨rfl, rfl⟩ := y
        have cm : CMul (0 + ((j : Nat) : Int)) ((L : Nat) : Int) := .inl ⟨by omega, by omega⟩
        have e3 : ((n % L : Nat) : Int) + (0 + ((j : Nat) : Int)) * ((L : Nat) : Int) = ((n % L + j * L : Nat) : Int) := by
          rw [Int.zero_add, Int.natCast_add, Int.natCast_mul]
        refine ⟨rfl, ?_⟩
        refine ⟨_, rfl, _, rfl, _, rfl, _, _, rfl, rfl, cm, _, _, rfl, rfl, _, rfl, _, _, rfl, rfl, (by show (0 : Int) < p; omega), _, rfl, rfl, _, rfl, ?_⟩
        rw [xe, fit_eq]
        refine ite3 (fun h => ?_) (fun h => ?_)
        · refine ⟨_, rfl, _, rfl, _, rfl, _, _, rfl, rfl, cm, _, _, rfl, rfl, _, z.2, ?_, Same.put z.1 hDn, ?_⟩
          · have := fit_len (n % L) L p x j
            rw [sizeLine_eq]
            omega
          · rw [upd_same, fit_yes h]
            exact congrArg (fun v => some (HO.lst (fitV (n % L) L p x j ++ [v]))) (congrArg V.int e3)
        · refine ⟨z.1, ?_⟩
          rw [fit_no h]
          exact z.2
      · have z2 := z.2
        by_cases hk : ∃ j, j < p ∧ fitF (n % L) L p x j = true
        · obtain ⟨j, hj, hjf⟩ := hk
          obtain ⟨k0, r0, f1, f2, f3, f4⟩ := Crt.first hj hjf
          have hv : fitV (n % L) L p x p = .int ((n % L + k0 * L : Nat) : Int) :: r0.map fun (k : Nat) => V.int ((n % L + k * L : Nat) : Int) := by
            unfold fitV
            rw [f1]
            rfl
          rw [hv] at z2
          refine ⟨_, rfl, true, .inl ⟨_, SqL.of z2, rfl⟩, ite3 (fun h => by cases h) (fun _ => ?_)⟩
          refine ⟨_, rfl, D, _, _, _, rfl, rfl, SqL.of z2, atI_nat (j := 0) (v := V.int ((n % L + k0 * L : Nat) : Int)) rfl, ?_⟩
          refine ⟨_, rfl, _, rfl, L, p, rfl, by omega, by omega, Lp, by omega, ?_⟩
          have g2 : (n % L + k0 * L) % p = x := by
            have := of_decide_eq_true f2
            rw [xm] at this
            exact this
          refine ⟨z.1, n % L + k0 * L, some (.int p), some (.int (x : Int)), some (.ref D), nxt k0 g2, ?_⟩
          have eL : (n % L + k0 * L) % L = n % L := by rw [Nat.add_mul_mod_self_right, Nat.mod_mod]
          have fin := Crt.crt (n := n % L + k0 * L) (k := k0) Lp (by omega : 0 < p) (by rw [eL]) (fun j hj => by
            rw [eL, g2]
            have := of_decide_eq_false (f4 j hj)
            rw [xm] at this
            exact this)
          rw [eL] at fin
          rw [nx, ← fin]
          rfl
        · have no : ∀ j, j < p → fitF (n % L) L p x j = false := fun j hj => by
            cases e : fitF (n % L) L p x j with
            | false => rfl
            | true => exact absurd ⟨j, hj, e⟩ hk
          have hv : fitV (n % L) L p x p = [] := by
            unfold fitV
            rw [List.filter_eq_nil_iff.mpr fun j hj => by rw [no j (List.mem_range.mp hj)]; decide]
            rfl
          rw [hv] at z2
          refine ⟨_, rfl, false, .inl ⟨_, SqL.of z2, rfl⟩, ite3 (fun _ => ?_) (fun h => by cases h)⟩
          refine qn (fun m hm => ?_) H2 z.1
          have em := same m fun j q y hj hq hy => hm j q y (by omega) hq hy
          have c1 := Crt.crt_lt (L := L) (p := p) (n := m) Lp (by omega)
          have c2 := Crt.crt_ok (L := L) (p := p) (n := m) Lp (by omega)
          have c3 := no _ c1
          have c4 := of_decide_eq_false c3
          rw [em, hm i p x hi2 hp hxx] at c2
          rw [xm] at c4
          exact c4 c2
    · obtain ⟨s1, n, x4, x5, x6, ft, rfl⟩ := z
      refine ⟨_, rfl, ?_⟩
      rw [ivs_len] at ft
      rw [ivs_len, List.take_length]
      exact q n ft H1 s1
end
end K23
set_option Elab.async false
set_option linter.all false
set_option maxRecDepth 100000
set_option maxHeartbeats 4000000
namespace K23
open PySem PySem.Spec PyProof.Rows L2 Pre Dfs Vls
/-! any value, also a register: what is_whole and the like tell of it -/
structure Vv (K : PySem.W.Frag) (H : Hp) (v : V) : Prop where
  ex : ∃ tt, TyX K H v tt ∧ PySem.W.kitOne K tt (.type "int") = some (isI v) ∧ (isI v = true → PySem.W.kitOne K tt (.type "bool") = some (isB v)) ∧ PySem.W.kitOne K tt (.type "tuple") = some (isT H v)
theorem vv_of {K : PySem.W.Frag} {H : Hp} {v : V} (d : Dat H v) : Vv K H v := ⟨_, d.ty, d.kInt, fun _ => d.kBool, d.kTup⟩
theorem Reg.vv {K : PySem.W.Frag} {mg : Str → Option Value} (T : Tx K mg) {H : Hp} {a : Addr} {k : Kd} (r : Reg K H a k) : Vv K H (.ref a) ∧ isT H (.ref a) = false := by
  have no : ∀ {C dx : Addr} {fs : List (Str × V)}, H a = some (.ins C dx fs) → isT H (.ref a) = false := fun e => by simp only [isT, e]
  have mk : ∀ {C dx : Addr} {fs : List (Str × V)}, H a = some (.ins C dx fs) → Ins K C → Cls K C → PySem.W.kitOne K (.ref C) (.type "int") = some false → PySem.W.kitOne K (.ref C) (.type "tuple") = some false → Vv K H (.ref a) ∧ isT H (.ref a) = false :=
    fun {C dx fs} e i c k1 k2 => ⟨⟨.ref C, i.ty c e, k1, (fun h => by cases h), by rw [no e]; exact k2⟩, no e⟩
  cases r with
  | pl e => exact mk e T.is_Plain T.c_Plain T.kt_Plain_int T.kt_Plain_tuple
  | rs e => exact mk e T.is_Restarting T.c_Restarting T.kt_Restarting_int T.kt_Restarting_tuple
  | md e h2 h3 => exact mk e T.is_Wrapping T.c_Wrapping T.kt_Wrapping_int T.kt_Wrapping_tuple
  | dl e ht h1 h2 h3 => exact mk e T.is_Dials T.c_Dials T.kt_Dials_int T.kt_Dials_tuple
section
variable {P : Program} {w : World} {K : PySem.W.Frag} {mg : Str → Option Value} {base : Heap}
def spWholeV (K : PySem.W.Frag) : Sp := fun vs H Q _ => ∃ x, vs = [x] ∧ Vv K H x ∧ Q (.bl (isW x)) H
def spWithinV (K : PySem.W.Frag) : Sp := fun vs H Q _ => ∃ x lo hi, vs = [x, .int lo, .int hi] ∧ Vv K H x ∧ Q (.bl (inR lo hi x)) H
def spCountV (K : PySem.W.Frag) : Sp := fun vs H Q _ => ∃ x, vs = [x] ∧ Vv K H x ∧ Q (.bl (isC x)) H
theorem dv_whole (T : Tx K mg) : Dfn P w K mg base CX0 1 "is_whole" ["value"] (spWholeV K) := by
  refine dfn T.q_is_whole T.g_is_whole (N := ["value"]) ⟨rfl, rfl, rfl, by decide +kernel, rfl, by decide +kernel, by decide +kernel⟩ (fun vs H Q E h => ?_) (fun kV doc pm an cdv ct => bind1 fun a => rfl) (fun cdv A outer s H vs Q E hr h => ?_)
  · obtain ⟨_, rfl, _⟩ := h
    rfl
  · obtain ⟨x, rfl, ⟨tt, ty, kI, kB, kT⟩, q⟩ := h
    refine ⟨_, pss_one (ps_ret (pe_and (pe_callB call_isi (by rfl) T.f_isinstance (by decide +kernel) (pa_cons (pv 0) (pa_cons (pe_bltn (v := .ty "int") (by rfl) T.f_int (by kernel_rfl) rfl) pa_nil)))
      (pe_one (pe_not (pe_callB call_isi (by rfl) T.f_isinstance (by decide +kernel) (pa_cons (pv 0) (pa_cons (pe_bltn (v := .ty "bool") (by rfl) T.f_bool (by kernel_rfl) rfl) pa_nil))))))), ?_⟩
    refine ⟨_, rfl, _, _, _, _, _, rfl, .ty _, ty, kI, _, rfl, ?_⟩
    refine ite2 (fun h1 => ?_) (fun h1 => ?_)
    · refine ⟨_, rfl, _, _, _, _, _, rfl, .ty _, ty, kB h1, _, rfl, ?_⟩
      have e : (!isB x) = isW x := by cases x <;> first | rfl | cases h1
      show Q (.bl (!isB x)) H
      rw [e]
      exact q
    · have e : isW x = false := by cases x <;> first | rfl | exact absurd rfl h1
      rw [e] at q
      exact q
theorem dv_within (T : Tx K mg) : Dfn P w K mg base CX0 2 "is_within" ["value", "low", "high"] (spWithinV K) := by
  refine dfn T.q_is_within T.g_is_within (N := ["value", "low", "high"]) ⟨rfl, rfl, rfl, by decide +kernel, rfl, by decide +kernel, by decide +kernel⟩ (fun vs H Q E h => ?_) (fun kV doc pm an cdv ct => bind3 fun a b c => rfl) (fun cdv A outer s H vs Q E hr h => ?_)
  · obtain ⟨_, _, _, rfl, _⟩ := h
    rfl
  · obtain ⟨x, lo, hi, rfl, d, q⟩ := h
    refine ⟨_, pss_one (ps_ret (pe_and (pe_d (dv_whole T) hr (by rfl) (E := E) p0 (pa_cons (pv 0) pa_nil)) (pe_one (pe_chain op_le op_le (pv 1) (pv 0) (pv 2))))), ?_⟩
    refine ⟨_, rfl, x, rfl, d, _, rfl, ?_⟩
    refine ite2 (fun h1 => ?_) (fun h1 => ?_)
    · cases x with
      | int i =>
        have q2 : Q (.bl (decide (lo ≤ i) && decide (i ≤ hi))) H := q
        refine ⟨_, rfl, _, rfl, _, _, rfl, rfl, _, rfl, ?_⟩
        refine ite2 (fun h2 => ⟨_, rfl, _, _, rfl, rfl, ?_⟩) (fun h2 => ?_)
        · rw [h2] at q2
          exact q2
        · rw [Bool.not_eq_true] at h2
          rw [h2] at q2
          exact q2
      | _ => cases h1
    · have e : inR lo hi x = false := by cases x <;> first | rfl | exact absurd rfl h1
      rw [e] at q
      exact q
theorem dv_count (T : Tx K mg) : Dfn P w K mg base CX0 2 "is_count" ["value"] (spCountV K) := by
  refine dfn T.q_is_count T.g_is_count (N := ["value"]) ⟨rfl, rfl, rfl, by decide +kernel, rfl, by decide +kernel, by decide +kernel⟩ (fun vs H Q E h => ?_) (fun kV doc pm an cdv ct => bind1 fun a => rfl) (fun cdv A outer s H vs Q E hr h => ?_)
  · obtain ⟨_, rfl, _⟩ := h
    rfl
  · obtain ⟨x, rfl, d, q⟩ := h
    refine ⟨_, pss_one (ps_ret (pe_and (pe_d (dv_whole T) hr (by rfl) (E := E) p0 (pa_cons (pv 0) pa_nil)) (pe_one (pe_cmpR op_ge (pv 0) pe_int (nomark _))))), ?_⟩
    refine ⟨_, rfl, x, rfl, d, _, rfl, ?_⟩
    refine ite2 (fun h1 => ?_) (fun h1 => ?_)
    · cases x with
      | int i => exact ⟨_, rfl, _, _, rfl, rfl, q⟩
      | _ => cases h1
    · have e : isC x = false := by cases x <;> first | rfl | exact absurd rfl h1
      rw [e] at q
      exact q
end
end K23
set_option Elab.async false
set_option linter.all false
set_option maxRecDepth 100000
set_option maxHeartbeats 4000000
namespace K23
open PySem PySem.Spec PyProof.Rows L2 Pre Dfs Vls
/-- whether each is a rest by its period -/
def bsV (xs : List V) (ps : List Nat) : List Bool := (List.zip xs ps).map fun q => inR 0 (((q.2 : Nat) : Int) - 1) q.1
theorem bsV_at {xs : List V} {ps : List Nat} {i : Nat} {x : V} {p : Nat} (hx : xs[i]? = some x) (hp : ps[i]? = some p) : (bsV xs ps)[i]? = some (inR 0 (((p : Nat) : Int) - 1) x) := by
  unfold bsV
  rw [List.getElem?_map, (List.getElem?_zip_eq_some (z := (x, p))).mpr ⟨hx, hp⟩]
  rfl
theorem bsV_next {xs : List V} {ps : List Nat} {i : Nat} {b : Bool} (h : (bsV xs ps)[i]? = some b) : ((bsV xs ps).take i).map V.bl ++ [V.bl b] = ((bsV xs ps).take (i + 1)).map V.bl := by
  rw [List.take_succ, h, List.map_append]
  rfl
theorem bsV_good : ∀ {ns ps : List Nat}, (∀ (j p x : Nat), ps[j]? = some p → ns[j]? = some x → x < p) → (bsV (ivs ns) ps).all id = true
  | [], _, _ => rfl
  | _ :: _, [], _ => rfl
  | x :: ns, p :: ps, h => by
    have z := bsV_good (ns := ns) (ps := ps) fun j q y hq hy => h (j + 1) q y hq hy
    have lt := h 0 p x rfl rfl
    show ((decide ((0 : Int) ≤ (x : Int)) && decide ((x : Int) ≤ (p : Int) - 1)) && (bsV (ivs ns) ps).all id) = true
    rw [z, decide_eq_true (by omega : (0 : Int) ≤ (x : Int)), decide_eq_true (by omega : (x : Int) ≤ (p : Int) - 1)]
    rfl
/-- whether a value is a reading of a register -/
inductive IsRd (K : PySem.W.Frag) (H : Hp) : Kd → V → Bool → Prop where
  | pl {v : V} (d : Vv K H v) : IsRd K H .pl v (isC v)
  | md {m : Nat} {v : V} (d : Vv K H v) : IsRd K H (.md m) v (inR 0 (((m : Nat) : Int) - 1) v)
  | rsN {v : V} (d : Vv K H v) (h : isT H v = false) : IsRd K H .rs v false
  | rsT {t : Addr} {xs : List V} (e : H t = some (.tup xs)) (hl : xs.length ≠ 2) : IsRd K H .rs (.ref t) false
  | rs2 {t : Addr} {x y : V} (e : H t = some (.tup [x, y])) (dx : Dat H x) (dy : Dat H y) : IsRd K H .rs (.ref t) (isC x && isC y)
  | dlN {ps : List Nat} {v : V} (d : Vv K H v) (h : isT H v = false) : IsRd K H (.dl ps) v false
  | dlL {ps : List Nat} {t : Addr} {xs : List V} (e : H t = some (.tup xs)) (hl : xs.length ≠ ps.length) : IsRd K H (.dl ps) (.ref t) false
  | dlB {ps : List Nat} {t : Addr} {xs : List V} (e : H t = some (.tup xs)) (hl : xs.length = ps.length) (hd : ∀ x ∈ xs, Dat H x) (hb : (bsV xs ps).all id = false) : IsRd K H (.dl ps) (.ref t) false
  | dlF {ps ns : List Nat} {t : Addr} {b : Bool} (e : H t = some (.tup (ivs ns))) (hl : ns.length = ps.length) (lt : ∀ (j p x : Nat), ps[j]? = some p → ns[j]? = some x → x < p) (hb : b = true ↔ ∃ n, Fit ps.length n ps ns) : IsRd K H (.dl ps) (.ref t) b
section
variable {P : Program} {w : World} {K : PySem.W.Frag} {mg : Str → Option Value} {base : Heap}
def spIsRdY (K : PySem.W.Frag) (k : Kd) : Sp := fun vs H Q _ => ∃ (a : Addr) (v : V) (b : Bool), vs = [.ref a, v] ∧ Reg K H a k ∧ IsRd K H k v b ∧ ∀ H', Same H H' → Q (.bl b) H'
theorem m_isrdY (T : Tx K mg) (k : Kd) : Mk0.Mk1 P w K mg base CX0 4 (CK K k) "is_reading" "self" "value" (spIsRdY K k) := by
  have len : ∀ vs H Q E, spIsRdY K k vs H Q E → vs.length = ["self", "value"].length := fun vs H Q E h => by
    obtain ⟨_, _, _, rfl, _⟩ := h
    rfl
  cases k with
  | pl =>
    refine Mk0.mfk1 T.q_Plain_is_reading T.c_Plain T.m_Plain_is_reading (N := ["self", "value"]) ⟨rfl, rfl, rfl, by decide +kernel, rfl, by decide +kernel, by decide +kernel⟩ len (fun kV doc pm an cdv ct a b => rfl) (fun kV doc pm an cdv ct a b => rfl) (fun cdv A outer s H vs Q E hr h => ?_)
    obtain ⟨a, v, b, rfl, r, ir, q⟩ := h
    refine ⟨_, pss_one (ps_ret (pe_d (dv_count T) (hr.mono (by decide)) (by rfl) (E := E) p0 (pa_cons (pv 1) pa_nil))), ?_⟩
    cases ir with
    | pl d => exact ⟨_, rfl, _, rfl, d, q _ (Same.refl H)⟩
  | md m =>
    refine Mk0.mfk1 T.q_Wrapping_is_reading T.c_Wrapping T.m_Wrapping_is_reading (N := ["self", "value"]) ⟨rfl, rfl, rfl, by decide +kernel, rfl, by decide +kernel, by decide +kernel⟩ len (fun kV doc pm an cdv ct a b => rfl) (fun kV doc pm an cdv ct a b => rfl) (fun cdv A outer s H vs Q E hr h => ?_)
    obtain ⟨a, v, b, rfl, r, ir, q⟩ := h
    cases r with
    | md e g2 g3 =>
      refine ⟨_, pss_one (ps_ret (pe_d (dv_within T) (hr.mono (by decide)) (by rfl) (E := E) p0 (pa_cons (pv 1) (pa_cons pe_int (pa_cons (pe_op op_sub (fld (pv 0)) pe_int) pa_nil))))), ?_⟩
      cases ir with
      | md d => exact ⟨_, rfl, _, rfl, a, _, _, _, _, rfl, e, T.c_Wrapping, T.n_Wrapping_modulus, rfl, _, _, rfl, rfl, _, _, _, rfl, d, q _ (Same.refl H)⟩
  | rs =>
    refine Mk0.mfk1 T.q_Restarting_is_reading T.c_Restarting T.m_Restarting_is_reading (N := ["self", "value"]) ⟨rfl, rfl, rfl, by decide +kernel, rfl, by decide +kernel, by decide +kernel⟩ len (fun kV doc pm an cdv ct a b => rfl) (fun kV doc pm an cdv ct a b => rfl) (fun cdv A outer s H vs Q E hr h => ?_)
    obtain ⟨a, v, b, rfl, r, ir, q⟩ := h
    refine ⟨_, pss_cons (ps_if (PW.pt (pw_or (pt_not (pt_val (pe_callB call_isi (by rfl) T.f_isinstance (by decide +kernel) (pa_cons (pv 1) (pa_cons (pe_bltn (v := .ty "tuple") (by rfl) T.f_tuple (by kernel_rfl) rfl) pa_nil)))))
        (pw_or1 (pt_cmpR op_ne (pe_callB call_len_seq (by rfl) T.f_len PySem.boot_len (pa_cons (pv 1) pa_nil)) pe_int (nomark _))))) (pss_one (ps_ret pe_bl)) pss_nil)
      (pss_one (ps_ret (pe_and (pe_d (dv_count T) (hr.mono (by decide)) (by rfl) (E := E) p0 (pa_cons (pe_ix ix_tup (pv 1) pe_int (fun _ _ => rfl)) pa_nil))
        (pe_one (pe_d (dv_count T) (hr.mono (by decide)) (by rfl) (E := E) p0 (pa_cons (pe_ix ix_tup (pv 1) pe_int (fun _ _ => rfl)) pa_nil)))))), ?_⟩
    have vv : ∃ tt, TyX K H v tt ∧ PySem.W.kitOne K tt (.type "tuple") = some (isT H v) := by
      have ofV : Vv K H v → ∃ tt, TyX K H v tt ∧ PySem.W.kitOne K tt (.type "tuple") = some (isT H v) := fun d => by
        obtain ⟨tt, ty, _, _, kT⟩ := d
        exact ⟨tt, ty, kT⟩
      cases ir with
      | rsN d h => exact ofV d
      | rsT e hl => exact ofV (vv_of (.tup e))
      | rs2 e dx dy => exact ofV (vv_of (.tup e))
    obtain ⟨tt, ty, kT⟩ := vv
    refine ⟨_, rfl, _, _, _, _, _, rfl, .ty _, ty, kT, _, rfl, ?_⟩
    cases ir with
    | rsN d h =>
      rw [h]
      exact q _ (Same.refl H)
    | rsT e hl =>
      rename_i t xs
      rw [isT_tup e]
      refine ite3 (fun h => by cases h) (fun _ => ?_)
      refine ⟨_, rfl, t, _, rfl, .inr (SqT.of e), rfl, _, rfl, ite3 (fun _ => q _ (Same.refl H)) (fun h => ?_)⟩
      rw [decide_eq_false (fun z => hl (by injection z with z; exact Int.ofNat.inj z))] at h
      cases h
    | rs2 e dx dy =>
      rename_i t x y
      rw [isT_tup e]
      refine ite3 (fun h => by cases h) (fun _ => ?_)
      refine ⟨_, rfl, t, _, rfl, .inr (SqT.of e), rfl, _, rfl, ite3 (fun h => by cases h) (fun _ => ?_)⟩
      have q3 := q H (Same.refl H)
      refine ⟨_, rfl, t, _, _, _, rfl, rfl, SqT.of e, atI_nat (j := 0) (v := x) rfl, _, rfl, vv_of dx, _, rfl, ite3 (fun h => ?_) (fun h => ?_)⟩
      · refine ⟨_, rfl, t, _, _, _, rfl, rfl, SqT.of e, atI_nat (j := 1) (v := y) rfl, _, rfl, vv_of dy, ?_⟩
        rw [h] at q3
        exact q3
      · rw [h] at q3
        exact q3
  | dl ps =>
    have nd : (["self", "value", "rest", "period"] : List Str).Nodup := by decide +kernel
    refine Mk0.mfk1 T.q_Dials_is_reading T.c_Dials T.m_Dials_is_reading (N := ["self", "value", "rest", "period"]) ⟨rfl, rfl, rfl, by decide +kernel, rfl, by decide +kernel, by decide +kernel⟩ len (fun kV doc pm an cdv ct a b => rfl) (fun kV doc pm an cdv ct a b => rfl) (fun cdv A outer s H vs Q E hr h => ?_)
    obtain ⟨a, v, b, rfl, r, ir, q⟩ := h
    cases r with
    | dl e ht g1 g2 g3 =>
      rename_i dx tp
      refine ⟨_, pss_cons (ps_if (PW.pt (pw_or (pt_not (pt_val (pe_callB call_isi (by rfl) T.f_isinstance (by decide +kernel) (pa_cons (pv 1) (pa_cons (pe_bltn (v := .ty "tuple") (by rfl) T.f_tuple (by kernel_rfl) rfl) pa_nil)))))
          (pw_or1 (pt_cmpR op_ne (pe_callB call_len_seq (by rfl) T.f_len PySem.boot_len (pa_cons (pv 1) pa_nil)) (pe_callB call_len_seq (by rfl) T.f_len PySem.boot_len (pa_cons (fld (pv 0)) pa_nil)) (nomark _))))) (pss_one (ps_ret pe_bl)) pss_nil)
        (pss_cons (ps_if (pt_not (pt_val (pe_callB (cr_all rfl) (by rfl) T.f_all (by decide +kernel) (pa_cons (pe_lc (g := gTup K 2 (gCons (gName 2) (gCons (gName 3) gNil))) rfl nd (RZ.pi_zipA (by rfl) T.f_zip (pa_cons (pv 1) (pa_cons (fld (pv 0)) pa_nil))) (own := [("rest", 2), ("period", 3)]) (blk_by (by kernel_rfl))
            (fun _ _ _ _ _ => pg_tup (n := 2) rfl (pgs_cons (pg_name (i := 2) nd rfl (Or.inl rfl) (Or.inr rfl)) (pgs_cons (pg_name (i := 3) nd rfl (Or.inl rfl) (Or.inr rfl)) pgs_nil))) (fun _ _ _ _ _ => pts_nil)
            (fun _ _ _ _ _ => pe_d (dv_within T) (hr.mono (by decide)) (by rfl) (E := E) p0 (pa_cons (pe_var (i := 2) rfl (Or.inl rfl)) (pa_cons pe_int (pa_cons (pe_op op_sub (pe_var (i := 3) rfl (Or.inl rfl)) pe_int) pa_nil))))) pa_nil)))) (pss_one (ps_ret pe_bl)) pss_nil)
        (pss_one (ps_ret (pe_cmpR op_notN (pe_d (d_leastF T) (hr.mono (by decide)) (by rfl) (E := E) p0 (pa_cons (fld (pv 0)) (pa_cons (pv 1) pa_nil))) pe_non (nomark _))))), ?_⟩
      have vv : ∃ tt, TyX K H v tt ∧ PySem.W.kitOne K tt (.type "tuple") = some (isT H v) := by
        have ofV : Vv K H v → ∃ tt, TyX K H v tt ∧ PySem.W.kitOne K tt (.type "tuple") = some (isT H v) := fun d => by
          obtain ⟨tt, ty, _, _, kT⟩ := d
          exact ⟨tt, ty, kT⟩
        cases ir with
        | dlN d h => exact ofV d
        | dlL e hl => exact ofV (vv_of (.tup e))
        | dlB e hl hd hb => exact ofV (vv_of (.tup e))
        | dlF e hl lt hb => exact ofV (vv_of (.tup e))
      obtain ⟨tt, ty, kT⟩ := vv
      refine ⟨_, rfl, _, _, _, _, _, rfl, .ty _, ty, kT, _, rfl, ?_⟩
      have q2 : (isT H v = false ∧ Q (.bl false) H) ∨ ∃ (t : Addr) (xs : List V), v = .ref t ∧ H t = some (.tup xs) ∧
          ((xs.length ≠ ps.length ∧ Q (.bl false) H) ∨ (xs.length = ps.length ∧ (∀ x ∈ xs, Dat H x) ∧ (((bsV xs ps).all id = false ∧ ∀ H', Same H H' → Q (.bl false) H') ∨
            ∃ ns : List Nat, xs = ivs ns ∧ (∀ (j p x : Nat), ps[j]? = some p → ns[j]? = some x → x < p) ∧ (bsV xs ps).all id = true ∧ (b = true ↔ ∃ n, Fit ps.length n ps ns)))) := by
        cases ir with
        | dlN d h => exact .inl ⟨h, q _ (Same.refl H)⟩
        | dlL e hl => exact .inr ⟨_, _, rfl, e, .inl ⟨hl, q _ (Same.refl H)⟩⟩
        | dlB e hl hd hb => exact .inr ⟨_, _, rfl, e, .inr ⟨hl, hd, .inl ⟨hb, q⟩⟩⟩
        | dlF e hl lt hb =>
          refine .inr ⟨_, _, rfl, e, .inr ⟨by rw [ivs_len]; exact hl, fun x hx => ?_, .inr ⟨_, rfl, lt, bsV_good lt, hb⟩⟩⟩
          obtain ⟨n, _, rfl⟩ := List.mem_map.mp hx
          exact .int _
      rcases q2 with ⟨z, q3⟩ | ⟨t, xs, rfl, et, q3⟩
      · rw [z]
        exact q3
      rw [isT_tup et]
      refine ite3 (fun h => by cases h) (fun _ => ?_)
      refine ⟨_, rfl, t, _, rfl, .inr (SqT.of et), _, rfl, a, _, _, _, _, rfl, e, T.c_Dials, T.n_Dials_periods, rfl, tp, _, rfl, .inr (SqT.of ht), rfl, _, rfl, ?_⟩
      have le : (!decide (V.int ((xs.length : Nat) : Int) = V.int (((ivs ps).length : Nat) : Int))) = !decide (xs.length = ps.length) := by
        rw [ivs_len]
        by_cases h : xs.length = ps.length
        · rw [h, decide_eq_true rfl, decide_eq_true rfl]
        · rw [decide_eq_false h, decide_eq_false fun z => h (by injection z with z; exact Int.ofNat.inj z)]
      rw [le]
      rcases q3 with ⟨hl, q3⟩ | ⟨hl, hd, q3⟩
      · rw [decide_eq_false hl]
        exact q3
      rw [decide_eq_true hl]
      refine ite3 (fun h => by cases h) (fun _ => ?_)
      refine ⟨_, rfl, _, rfl, a, _, _, _, _, rfl, e, T.c_Dials, T.n_Dials_periods, rfl, t, tp, _, _, rfl, .inr ⟨SqT.of et, SqT.of ht, fun D hD => ?_⟩⟩
      refine lc_it (walk_zipT (by rw [ivs_len, hl])) (fun i H1 => Same H H1 ∧ H1 D = some (.lst (((bsV xs ps).take i).map V.bl))) ⟨Same.upd hD, upd_same⟩ (fun i H1 _ z => ⟨SqT.of (z.1 _ _ et), SqT.of (z.1 _ _ ht)⟩) (fun i x H1 H2 hi z y => ?_) (fun H1 z => ?_)
      · obtain ⟨Tp, u, vp, rfl, hT, rfl, hx, hy⟩ := y
        obtain ⟨p, hp, rfl⟩ := ivs_at hy
        have b := bsV_at hx hp
        have nD : D ≠ Tp := ne_of_none z.2 hT
        have hi2 : i < xs.length := (List.getElem?_eq_some_iff.mp hx).1
        have few : xs.length ≤ 6 := by omega
        have du := (hd u (List.mem_of_getElem? hx)).but (Same.new z.1 hT (o := .tup [u, .int (p : Int)]))
        refine ⟨Tp, _, rfl, SqT.of upd_same, rfl, _, _, rfl, _, _, rfl, rfl, rfl, ?_⟩
        unfold tYes
        refine ite3 (fun _ => ?_) (fun h => by cases h)
        refine ⟨_, rfl, _, rfl, _, _, rfl, rfl, _, _, _, rfl, vv_of du, _, (upd_ne nD).trans z.2, ?_, Same.put (Same.new z.1 hT) hD, ?_⟩
        · rw [List.length_map, List.length_take, sizeLine_eq]
          omega
        · rw [upd_same]
          exact congrArg (fun l => some (HO.lst l)) (bsV_next b)
      · have e3 : (bsV xs ps).take xs.length = bsV xs ps := List.take_of_length_le (by unfold bsV; rw [List.length_map, List.length_zip]; omega)
        have z2 := z.2
        rw [e3] at z2
        refine ⟨D, bsV xs ps, rfl, SqL.of z2, _, rfl, ?_⟩
        rcases q3 with ⟨ha, q4⟩ | ⟨ns, rfl, lt, ha, hb⟩
        · rw [ha]
          exact ite3 (fun _ => q4 _ z.1) (fun h => by cases h)
        · rw [ha]
          rw [ivs_len] at hl
          refine ite3 (fun h => by cases h) (fun _ => ?_)
          refine ⟨_, rfl, a, _, _, _, _, rfl, z.1 _ _ e, T.c_Dials, T.n_Dials_periods, rfl, _, rfl, tp, t, ps, ns, rfl, z.1 _ _ ht, z.1 _ _ et, g2, g3, hl, lt, fun n hn H' s' => ⟨rfl, ?_⟩, fun hn H' s' => ⟨rfl, ?_⟩⟩
          · show Q (.bl (!decide (V.int _ = V.non))) H'
            rw [decide_eq_false (by intro h; cases h)]
            have := hb.mpr ⟨n, hn⟩
            subst this
            exact q H' fun b o h => s' b o (z.1 b o h)
          · show Q (.bl (!decide (V.non = V.non))) H'
            rw [decide_eq_true rfl]
            have : b = false := by
              cases b with
              | false => rfl
              | true =>
                obtain ⟨n, z9⟩ := hb.mp rfl
                exact absurd z9 (hn n)
            subst this
            exact q H' fun b o h => s' b o (z.1 b o h)
end
end K23
set_option Elab.async false
set_option linter.all false
set_option maxRecDepth 100000
set_option maxHeartbeats 4000000
namespace K23
open PySem PySem.Spec PyProof.Rows L2 Pre Dfs Vls
/-! _law_strange_right: its names, its statements, what it takes for no reading -/
abbrev NO : List Str := ["_law_pen_here", "_law_plain", "_law_made_here", "_law_modulus_here", "_law_some", "_law_rests", "_law_fits", "_law_total_here", "_law_lap", "_law_thing", "_law_number"]
abbrev scO : Scope := defScope s_law_strange_right
theorem ndO : NO.Nodup := by decide +kernel
def stO (i : Nat) : Stmt := (defBody s_law_strange_right).getD i (.Pass default)
theorem bodyO_eq : defBody s_law_strange_right = [stO 0, stO 1, stO 2, stO 3, stO 4, stO 5, stO 6, stO 7, stO 8, stO 9, stO 10] := rfl
section
variable {K : PySem.W.Frag} {mg : Str → Option Value} {H H' : Hp} {k : Kd} {v : V} {b : Bool}
theorem Dat.isT_same (d : Dat H v) (s : Same H H') : isT H' v = isT H v := by
  cases d with
  | lst e => simp only [isT, e, s _ _ e]
  | tup e => simp only [isT, e, s _ _ e]
  | dct e => simp only [isT, e, s _ _ e]
  | _ => rfl
theorem IsRd.sameD (d : Dat H v) (s : Same H H') (h : IsRd K H k v b) : IsRd K H' k v b := by
  have dv := vv_of (K := K) (d.but s)
  have it := Dat.isT_same d s
  cases h with
  | pl _ => exact .pl dv
  | md _ => exact .md dv
  | rsN _ h => exact .rsN dv (it.trans h)
  | rsT e hl => exact .rsT (s _ _ e) hl
  | rs2 e dx dy => exact .rs2 (s _ _ e) (dx.but s) (dy.but s)
  | dlN _ h => exact .dlN dv (it.trans h)
  | dlL e hl => exact .dlL (s _ _ e) hl
  | dlB e hl hd hb => exact .dlB (s _ _ e) hl (fun x hx => (hd x hx).but s) hb
  | dlF e hl lt hb => exact .dlF (s _ _ e) hl lt hb
theorem isrd_oth (d : Vv K H v) (t : isT H v = false) (c : isC v = false) (r : ∀ hi, inR 0 hi v = false) : IsRd K H k v false := by
  cases k with
  | pl =>
    have z := IsRd.pl d
    rw [c] at z
    exact z
  | md m =>
    have z := IsRd.md (m := m) d
    rw [r] at z
    exact z
  | rs => exact .rsN d t
  | dl ps => exact .dlN d t
theorem isrd_tup {t : Addr} {xs : List V} (e : H t = some (.tup xs)) (hd : ∀ x ∈ xs, Dat H x) (h2 : ∀ x y, xs = [x, y] → (isC x && isC y) = false) (hl : ∀ ps, k = .dl ps → xs.length = ps.length → (bsV xs ps).all id = false) : IsRd K H k (.ref t) false := by
  have dv : Vv K H (.ref t) := vv_of (.tup e)
  cases k with
  | pl => exact .pl dv
  | md m => exact .md dv
  | rs =>
    by_cases hn : xs.length = 2
    · match xs, hn, e, hd, h2 with
      | [x, y], _, e, hd, h2 =>
        have z := IsRd.rs2 (K := K) e (hd x (by simp)) (hd y (by simp))
        rw [h2 x y rfl] at z
        exact z
    · exact .rsT e hn
  | dl ps =>
    by_cases hn : xs.length = ps.length
    · exact .dlB e hn hd (hl ps rfl hn)
    · exact .dlL e hn
/-- a value that this register does not read -/
def Od (K : PySem.W.Frag) (H : Hp) (k : Kd) (v : V) : Prop := (Dat H v ∧ IsRd K H k v false) ∨ ∃ a k', v = .ref a ∧ Reg K H a k'
theorem Od.same (o : Od K H k v) (s : Same H H') : Od K H' k v := by
  rcases o with ⟨d, i⟩ | ⟨a, k', rfl, r⟩
  · exact .inl ⟨d.but s, i.sameD d s⟩
  · exact .inr ⟨a, k', rfl, r.same s⟩
theorem Od.rd (T : Tx K mg) (o : Od K H k v) : IsRd K H k v false := by
  rcases o with ⟨_, i⟩ | ⟨a, k', rfl, r⟩
  · exact i
  · obtain ⟨dv, it⟩ := r.vv T
    exact isrd_oth dv it rfl fun _ => rfl
theorem Od.oth (d : Dat H v) (t : isT H v = false) (c : isC v = false) (r : ∀ hi, inR 0 hi v = false) : Od K H k v := .inl ⟨d, isrd_oth (vv_of d) t c r⟩
theorem Od.lst {a : Addr} {xs : List V} (e : H a = some (.lst xs)) : Od K H k (.ref a) := .oth (.lst e) (by simp only [isT, e]) rfl fun _ => rfl
theorem Od.tup {t : Addr} {xs : List V} (e : H t = some (.tup xs)) (hd : ∀ x ∈ xs, Dat H x) (h2 : ∀ x y, xs = [x, y] → (isC x && isC y) = false) (hl : ∀ ps, k = .dl ps → xs.length = ps.length → (bsV xs ps).all id = false) : Od K H k (.ref t) := .inl ⟨.tup e, isrd_tup e hd h2 hl⟩
end
theorem bsV_two {x y : V} {ps : List Nat} (hn : [x, y].length = ps.length) (h : (∀ hi, inR 0 hi x = false) ∨ ∀ hi, inR 0 hi y = false) : (bsV [x, y] ps).all id = false := by
  obtain ⟨p1, p2, rfl⟩ : ∃ p1 p2, ps = [p1, p2] := by
    match ps, hn with
    | [p1, p2], _ => exact ⟨p1, p2, rfl⟩
  show (inR 0 _ x && (inR 0 _ y && true)) = false
  rcases h with h | h
  · rw [h]
    rfl
  · rw [h, Bool.false_and, Bool.and_false]
theorem bsV_one {x : V} {ps : List Nat} (hn : [x].length = ps.length) (h : ∀ hi, inR 0 hi x = false) : (bsV [x] ps).all id = false := by
  obtain ⟨p1, rfl⟩ : ∃ p1, ps = [p1] := by
    match ps, hn with
    | [p1], _ => exact ⟨p1, rfl⟩
  show (inR 0 _ x && true) = false
  rw [h]
  rfl
theorem neg_inR {i : Int} (h : i < 0) (hi : Int) : inR 0 hi (.int i) = false := by
  show (decide (0 ≤ i) && _) = false
  rw [decide_eq_false (by omega)]
  rfl
section
variable {P : Program} {w : World} {K : PySem.W.Frag} {mg : Str → Option Value} {base : Heap} {cdv : Value} {A : Around} {outer : List Env} {s : Shared} {H0 : Hp} {E : XK}
abbrev XO (P : Program) (w : World) (K : PySem.W.Frag) (mg : Str → Option Value) (base : Heap) (cdv : Value) (A : Around) (outer : List Env) (s : Shared) (H0 : Hp) (E : XK) : Cx := cxOf CX0 P w K mg base NO "_law_strange_right" scO (He.ga K "_law_strange_right") cdv A outer s H0 E
variable (p a t l : Addr) (ns : List Int) (k : Kd) (z0 : Int)
def O0 (K : PySem.W.Frag) : L2.St → Hp → Prop := fun σ H => σ = [some (.ref p), some (.ref t), none, none, none, none, none, none, none, none, none] ∧ Pt K H p a ns z0 z0 ∧ Pln H t l k
def O1 (K : PySem.W.Frag) : L2.St → Hp → Prop := fun σ H => ∃ r, σ = [some (.ref p), some (.ref t), some (.ref r), some k.mod, none, none, none, none, none, none, none] ∧ Pt K H p a ns z0 z0 ∧ Fk K H t l r k
def O2 (m : Nat) (K : PySem.W.Frag) : L2.St → Hp → Prop := fun σ H => ∃ r L xs, σ = [some (.ref p), some (.ref t), some (.ref r), some k.mod, some (.ref L), none, none, none, none, none, none] ∧ Pt K H p a ns z0 z0 ∧ Fk K H t l r k ∧ H L = some (.lst xs) ∧ xs.length ≤ m ∧ ∀ x ∈ xs, Od K H k x
theorem so0 (T : Tx K mg) (hopq : Sup.Opq base) (hf : ((P.main.file : Str) == PySem.Challenge.pw_gaugeroad_k23_registers_and_their_readin.main.file) = true) (ht : (P.main.scope.names.lookup ("super" : Str)).isSome = false)
    (hr : Room 10 (XO P w K mg base cdv A outer s H0 E).A) : PS (XO P w K mg base cdv A outer s H0 E) (stO 0) (tPP (O0 p a t l ns k z0 K) (O1 p a t l ns k z0 K)) := by
  refine PS.pp (ps_asg (pe_tup (pa_cons (pe_d (d_made T hopq hf ht) (hr.mono (by decide)) (by rfl) (E := E) p0 (pa_cons (pv 1) pa_nil)) (pa_cons (pe_d (d_mdl T) (hr.mono (by decide)) (by rfl) (E := E) p0 (pa_cons (pv 1) pa_nil)) pa_nil)))
    (pg_tup rfl (pgs_cons (pg_name (i := 2) ndO rfl (Or.inr rfl)) (pgs_cons (pg_name (i := 3) ndO rfl (Or.inl rfl)) pgs_nil)))) (fun D σ H q nx => ?_)
  obtain ⟨rfl, pt, pl⟩ := q
  refine ⟨_, rfl, t, l, k, rfl, pl, fun H1 r S1 rg => ?_⟩
  refine ⟨_, rfl, t, l, k, rfl, pl.same S1, fun H2 S2 => ?_⟩
  have S12 : Same H H2 := fun b o h => S2 b o (S1 b o h)
  refine ⟨(by show (2 : Nat) ≤ sizeLine; rw [sizeLine_eq]; decide), fun q hq => ⟨q, _, rfl, SqT.of upd_same, rfl, _, _, rfl, _, _, rfl, rfl, ?_⟩⟩
  have S3 : Same H2 (upd H2 q (.tup [.ref r, k.mod])) := Same.upd hq
  exact nx _ _ ⟨r, rfl, (pt.same S12).same S3, ((pl.same S12).same S3), (rg.same S2).same S3⟩
theorem so1 (T : Tx K mg) (hr : Room 10 (XO P w K mg base cdv A outer s H0 E).A) : PS (XO P w K mg base cdv A outer s H0 E) (stO 1) (tPP (O1 p a t l ns k z0 K) (O2 p a t l ns k z0 15 K)) := by
  refine PS.pp (ps_set (i := 4) ndO rfl (Or.inl rfl) (pe_lst (pa_cons pe_non (pa_cons pe_bl (pa_cons (pe_un un_neg pe_int) (pa_cons pe_str (pa_cons (pe_lst (pa_cons pe_int pa_nil)) (pa_cons (pe_tup pa_nil) (pa_cons (pe_op op_repT (pe_tup (pa_cons pe_int pa_nil)) pe_int)
    (pa_cons (pe_tup (pa_cons pe_non pa_nil)) (pa_cons (pe_tup (pa_cons pe_int (pa_cons (pe_un un_neg pe_int) pa_nil))) (pa_cons (pe_tup (pa_cons (pe_un un_neg pe_int) (pa_cons pe_int pa_nil))) (pa_cons (pe_tup (pa_cons (pe_un un_neg pe_int) (pa_cons pe_int pa_nil)))
    (pa_cons (pe_lst (pa_cons pe_int (pa_cons pe_int pa_nil))) (pa_cons (pe_lst (pa_cons pe_int (pa_cons pe_int pa_nil))) (pa_cons pe_dnewK (pa_cons (pv 2) pa_nil))))))))))))))))) (fun D σ H q nx => ?_)
  obtain ⟨r, rfl, pt, fk⟩ := q
  have good := fk.pln.good
  have c1 : (1 : Nat) ≤ sizeLine := by rw [sizeLine_eq]; decide
  have c2 : (2 : Nat) ≤ sizeLine := by rw [sizeLine_eq]; decide
  refine ⟨_, rfl, c1, fun u1 hu1 => ?_⟩
  have S1 : Same H (upd H u1 (.lst [.int 0])) := Same.upd hu1
  have o1 : Od K (upd H u1 (.lst [.int 0])) k (.ref u1) := .lst upd_same
  generalize upd H u1 (.lst [.int 0]) = H1 at S1 o1 ⊢
  refine ⟨(by show (0 : Nat) ≤ sizeLine; exact Nat.zero_le _), fun u2 hu2 => ?_⟩
  have S2 : Same H1 (upd H1 u2 (.tup [])) := Same.upd hu2
  have o2 : Od K (upd H1 u2 (.tup [])) k (.ref u2) := .tup upd_same (fun x h => by cases h) (fun x y h => by cases h) (fun ps e hn => by
    subst e
    have := good.1
    exact absurd hn (by show ¬ 0 = ps.length; omega))
  generalize upd H1 u2 (.tup []) = H2 at S2 o2 ⊢
  refine ⟨c1, fun u3 hu3 => ?_⟩
  refine ⟨_, _, _, rfl, rfl, SqT.of upd_same, (fun z => by cases z), by decide, by decide, by decide, fun u4 hu4 => ?_⟩
  have S3 : Same H2 (upd H2 u3 (.tup [.int 0])) := Same.upd hu3
  have S4 := Same.upd (o := .tup (List.replicate (Int.toNat 9) [V.int 0]).flatten) hu4
  have o4 : Od K (upd (upd H2 u3 (.tup [.int 0])) u4 (.tup (List.replicate (Int.toNat 9) [V.int 0]).flatten)) k (.ref u4) := .tup upd_same (fun x h => by
    obtain rfl : x = .int 0 := by
      have h9 : x ∈ [V.int 0, .int 0, .int 0, .int 0, .int 0, .int 0, .int 0, .int 0, .int 0] := h
      simpa using h9
    exact .int _) (fun x y h => by cases h) (fun ps e hn => by
    subst e
    have := good.2.1
    exact absurd hn (by show ¬ 9 = ps.length; omega))
  have S34 : Same H2 _ := fun b o h => S4 b o (S3 b o h)
  generalize upd (upd H2 u3 (.tup [.int 0])) u4 (.tup (List.replicate (Int.toNat 9) [V.int 0]).flatten) = H4 at S34 o4 ⊢
  clear S3 S4
  refine ⟨c1, fun u5 hu5 => ?_⟩
  have S5 : Same H4 (upd H4 u5 (.tup [.non])) := Same.upd hu5
  have o5 : Od K (upd H4 u5 (.tup [.non])) k (.ref u5) := .tup upd_same (fun x h => by
    obtain rfl : x = .non := by simpa using h
    exact .non) (fun x y h => by cases h) (fun ps e hn => bsV_one hn fun _ => rfl)
  generalize upd H4 u5 (.tup [.non]) = H5 at S5 o5 ⊢
  have pr : ∀ {Hx : Hp} {u : Addr} {x y : Int}, Hx u = some (.tup [.int x, .int y]) → (x < 0 ∨ y < 0) → Od K Hx k (.ref u) := fun {Hx u x y} e h => .tup e (fun z hz => by
    simp only [List.mem_cons, List.not_mem_nil, or_false] at hz
    rcases hz with rfl | rfl <;> exact .int _) (fun a b hab => by
    cases hab
    show (decide (0 ≤ x) && decide (0 ≤ y)) = false
    rcases h with h | h
    · rw [decide_eq_false (by omega : ¬ 0 ≤ x)]
      rfl
    · rw [decide_eq_false (by omega : ¬ 0 ≤ y), Bool.and_false]) (fun ps e hn => bsV_two hn (h.imp (fun h => neg_inR h) (fun h => neg_inR h)))
  refine ⟨_, rfl, c2, fun u6 hu6 => ?_⟩
  have S6 : Same H5 (upd H5 u6 (.tup [.int 0, .int (-1)])) := Same.upd hu6
  have o6 : Od K (upd H5 u6 (.tup [.int 0, .int (-1)])) k (.ref u6) := pr upd_same (.inr (by decide))
  generalize upd H5 u6 (.tup [.int 0, .int (-1)]) = H6 at S6 o6 ⊢
  refine ⟨_, rfl, c2, fun u7 hu7 => ?_⟩
  have S7 : Same H6 (upd H6 u7 (.tup [.int (-1), .int 0])) := Same.upd hu7
  have o7 : Od K (upd H6 u7 (.tup [.int (-1), .int 0])) k (.ref u7) := pr upd_same (.inl (by decide))
  generalize upd H6 u7 (.tup [.int (-1), .int 0]) = H7 at S7 o7 ⊢
  refine ⟨_, rfl, c2, fun u8 hu8 => ?_⟩
  have S8 : Same H7 (upd H7 u8 (.tup [.int (-1), .int 5])) := Same.upd hu8
  have o8 : Od K (upd H7 u8 (.tup [.int (-1), .int 5])) k (.ref u8) := pr upd_same (.inl (by decide))
  generalize upd H7 u8 (.tup [.int (-1), .int 5]) = H8 at S8 o8 ⊢
  refine ⟨c2, fun u9 hu9 => ?_⟩
  have S9 : Same H8 (upd H8 u9 (.lst [.int 0, .int 1])) := Same.upd hu9
  have o9 : Od K (upd H8 u9 (.lst [.int 0, .int 1])) k (.ref u9) := .lst upd_same
  generalize upd H8 u9 (.lst [.int 0, .int 1]) = H9 at S9 o9 ⊢
  refine ⟨c2, fun u10 hu10 => ?_⟩
  have S10 : Same H9 (upd H9 u10 (.lst [.int 1, .int 0])) := Same.upd hu10
  have o10 : Od K (upd H9 u10 (.lst [.int 1, .int 0])) k (.ref u10) := .lst upd_same
  generalize upd H9 u10 (.lst [.int 1, .int 0]) = H10 at S10 o10 ⊢
  intro u11 hu11
  have S11 : Same H10 (upd H10 u11 (.dK [])) := Same.upd hu11
  have o11 : Od K (upd H10 u11 (.dK [])) k (.ref u11) := .oth (.dct upd_same) (by simp only [isT, upd_same]) rfl fun _ => rfl
  generalize upd H10 u11 (.dK []) = H11 at S11 o11 ⊢
  refine ⟨_, rfl, (by show (15 : Nat) ≤ sizeLine; rw [sizeLine_eq]; decide), fun L hL => ?_⟩
  have S12 := Same.upd (o := .lst [.non, .bl true, .int (-1), .str "0", .ref u1, .ref u2, .ref u4, .ref u5, .ref u6, .ref u7, .ref u8, .ref u9, .ref u10, .ref u11, .ref r]) hL
  have t11 : Same H10 _ := fun b o h => S12 b o (S11 b o h)
  have t10 : Same H9 _ := fun b o h => t11 b o (S10 b o h)
  have t9 : Same H8 _ := fun b o h => t10 b o (S9 b o h)
  have t8 : Same H7 _ := fun b o h => t9 b o (S8 b o h)
  have t7 : Same H6 _ := fun b o h => t8 b o (S7 b o h)
  have t6 : Same H5 _ := fun b o h => t7 b o (S6 b o h)
  have t5 : Same H4 _ := fun b o h => t6 b o (S5 b o h)
  have t4 : Same H2 _ := fun b o h => t5 b o (S34 b o h)
  have t2 : Same H1 _ := fun b o h => t4 b o (S2 b o h)
  have t1 : Same H _ := fun b o h => t2 b o (S1 b o h)
  refine nx _ _ ⟨r, L, _, rfl, pt.same t1, fk.same t1, upd_same, (by show 15 ≤ 15; decide), fun x hx => ?_⟩
  simp only [List.mem_cons, List.not_mem_nil, or_false] at hx
  rcases hx with rfl | rfl | rfl | rfl | rfl | rfl | rfl | rfl | rfl | rfl | rfl | rfl | rfl | rfl | rfl
  · exact .oth .non rfl rfl fun _ => rfl
  · exact .oth (.bl _) rfl rfl fun _ => rfl
  · exact .oth (.int _) rfl rfl fun hi => neg_inR (by decide) hi
  · exact .oth (.str _) rfl rfl fun _ => rfl
  · exact o1.same t2
  · exact o2.same t4
  · exact o4.same t5
  · exact o5.same t6
  · exact o6.same t7
  · exact o7.same t8
  · exact o8.same t9
  · exact o9.same t10
  · exact o10.same t11
  · exact o11.same S12
  · exact .inr ⟨r, k, rfl, fk.reg.same t1⟩
end
end K23
set_option Elab.async false
set_option linter.all false
set_option maxRecDepth 100000
set_option maxHeartbeats 4000000
namespace K23
open PySem PySem.Spec PyProof.Rows L2 Pre Dfs Vls
/-- a statement from one state to the next, or to the answer True -/
def tPX (S S' : L2.St → Hp → Prop) (R : Hp → Prop) : TS := fun D σ H => S σ H ∧ (∀ σ' H', S' σ' H' → D.nx σ' H') ∧ ∀ H', R H' → D.rt (.bl true) H'
theorem PS.px {X : Cx} {st : Stmt} {t : TS} {S S' : L2.St → Hp → Prop} {R : Hp → Prop} (h : PS X st t) (i : ∀ D σ H, S σ H → (∀ σ' H', S' σ' H' → D.nx σ' H') → (∀ H', R H' → D.rt (.bl true) H') → t D σ H) : PS X st (tPX S S' R) :=
  ⟨fun pins s σ H D I q => h.run pins s σ H D I (i D σ H q.1 q.2.1 q.2.2)⟩
theorem bsV_self : ∀ {ps : List Nat}, ps ≠ [] → (bsV (ivs ps) ps).all id = false
  | [], h => absurd rfl h
  | p :: ps, _ => by
    show ((decide ((0 : Int) ≤ (p : Int)) && decide ((p : Int) ≤ (p : Int) - 1)) && _) = false
    rw [decide_eq_false (by omega : ¬ (p : Int) ≤ (p : Int) - 1), Bool.and_false, Bool.false_and]
theorem inR_hi {i hi : Int} (h : ¬ i ≤ hi) : inR 0 hi (.int i) = false := by
  show (decide (0 ≤ i) && decide (i ≤ hi)) = false
  rw [decide_eq_false h, Bool.and_false]
section
variable {P : Program} {w : World} {K : PySem.W.Frag} {mg : Str → Option Value} {base : Heap} {cdv : Value} {A : Around} {outer : List Env} {s : Shared} {H0 : Hp} {E : XK}
variable (p a t l : Addr) (ns : List Int) (k : Kd) (z0 : Int)
theorem so2 (T : Tx K mg) (hr : Room 10 (XO P w K mg base cdv A outer s H0 E).A) : PS (XO P w K mg base cdv A outer s H0 E) (stO 2) (tPP (O2 p a t l ns k z0 15 K) (O2 p a t l ns k z0 17 K)) := by
  refine PS.pp (ps_set (i := 4) ndO rfl (Or.inl rfl) (pe_op op_cat (pv 4) (pe_ifExp (pt_cmpR op_eq (pe_ix ix_tup (pv 1) pe_int (fun _ _ => rfl)) pe_str (nomark _)) (pe_lst (pa_cons (pv 3) (pa_cons (pe_op op_sub (pe_op op_pow pe_int pe_int) pe_int) pa_nil)))
    (pe_lst (pa_cons (pe_tup (pa_cons pe_int (pa_cons pe_bl pa_nil))) (pa_cons (pe_tup (pa_cons pe_bl (pa_cons pe_int pa_nil))) pa_nil)))))) (fun D σ H q nx => ?_)
  obtain ⟨r, L, xs, rfl, pt, fk, hL, hm, ho⟩ := q
  have c2 : (2 : Nat) ≤ sizeLine := by rw [sizeLine_eq]; decide
  refine ⟨_, rfl, _, rfl, t, _, _, _, rfl, rfl, SqT.of fk.pln.at_, atI_nat (j := 0) (v := .str k.word) rfl, rfl, _, rfl, ?_⟩
  have fin : ∀ (H1 : Hp) (b : Addr) (v1 v2 : V), Same H H1 → H1 b = some (.lst [v1, v2]) → Od K H1 k v1 → Od K H1 k v2 → ∀ q, H1 q = none → D.nx [some (.ref p), some (.ref t), some (.ref r), some k.mod, some (.ref q), none, none, none, none, none, none] (upd H1 q (.lst (xs ++ [v1, v2]))) := fun H1 b v1 v2 s1 hb i1 i2 q hq => by
    have s2 : Same H1 (upd H1 q (.lst (xs ++ [v1, v2]))) := Same.upd hq
    have s12 : Same H (upd H1 q (.lst (xs ++ [v1, v2]))) := fun b o h => s2 b o (s1 b o h)
    refine nx _ _ ⟨r, q, _, rfl, pt.same s12, fk.same s12, upd_same, by rw [List.length_append]; show xs.length + 2 ≤ 17; omega, fun x hx => ?_⟩
    rcases List.mem_append.mp hx with hx | hx
    · exact (ho x hx).same s12
    · simp only [List.mem_cons, List.not_mem_nil, or_false] at hx
      rcases hx with rfl | rfl
      · exact i1.same s2
      · exact i2.same s2
  have len : xs.length + 2 ≤ sizeLine := by rw [sizeLine_eq]; omega
  by_cases hk : ∃ m, k = .md m
  · obtain ⟨m, rfl⟩ := hk
    refine ite3 (fun _ => ?_) (fun h => by cases h)
    refine ⟨_, rfl, _, _, rfl, rfl, ⟨by decide, by decide, by decide⟩, _, _, rfl, rfl, c2, fun b hb => ?_⟩
    have s1 := Same.upd (o := .lst [V.int (m : Int), .int ((10 : Int) ^ Int.toNat 41 - 1)]) hb
    have g := fk.pln.good
    refine ⟨L, b, xs, _, rfl, rfl, s1 _ _ hL, upd_same, len, fin _ b _ _ s1 upd_same (.inl ⟨.int _, ?_⟩) (.inl ⟨.int _, ?_⟩)⟩
    · have z := IsRd.md (K := K) (m := m) (vv_of (K := K) (Dat.int (H := upd H b (.lst [V.int (m : Int), .int ((10 : Int) ^ Int.toNat 41 - 1)])) (m : Int)))
      have e : inR 0 (((m : Nat) : Int) - 1) (.int (m : Int)) = false := inR_hi (by omega)
      rw [e] at z
      exact z
    · have z := IsRd.md (K := K) (m := m) (vv_of (K := K) (Dat.int (H := upd H b (.lst [V.int (m : Int), .int ((10 : Int) ^ Int.toNat 41 - 1)])) ((10 : Int) ^ Int.toNat 41 - 1)))
      have e : inR 0 (((m : Nat) : Int) - 1) (.int ((10 : Int) ^ Int.toNat 41 - 1)) = false := inR_hi (by
        have h2 : m ≤ 10 ^ 18 := g.2
        have h4 : ((10 : Int) ^ Int.toNat 41) = 100000000000000000000000000000000000000000 := by decide
        rw [h4]
        omega)
      rw [e] at z
      exact z
  · have hw : decide (V.str k.word = V.str "modulo") = false := by
      cases k with
      | md m => exact absurd ⟨m, rfl⟩ hk
      | pl => rfl
      | rs => rfl
      | dl ps => rfl
    rw [hw]
    refine ite3 (fun h => by cases h) (fun _ => ?_)
    refine ⟨c2, fun u1 hu1 => ⟨c2, fun u2 hu2 => ⟨c2, fun b hb => ?_⟩⟩⟩
    have s1 := Same.upd (o := .tup [.int 0, .bl true]) hu1
    have s2 := Same.upd (o := .tup [.bl true, .int 0]) hu2
    have s3 := Same.upd (o := .lst [.ref u1, .ref u2]) hb
    have e1 := s3 _ _ (s2 u1 (.tup [.int 0, .bl true]) upd_same)
    have e2 := s3 u2 (.tup [.bl true, .int 0]) upd_same
    have s13 : Same H _ := fun b o h => s3 b o (s2 b o (s1 b o h))
    refine ⟨L, b, xs, _, rfl, rfl, s13 _ _ hL, upd_same, len, fin _ b _ _ s13 upd_same (.tup e1 (fun z hz => ?_) (fun x y h => ?_) (fun ps e hn => bsV_two hn (.inr fun _ => rfl))) (.tup e2 (fun z hz => ?_) (fun x y h => ?_) (fun ps e hn => bsV_two hn (.inl fun _ => rfl)))⟩
    · simp only [List.mem_cons, List.not_mem_nil, or_false] at hz
      rcases hz with rfl | rfl
      · exact .int _
      · exact .bl _
    · cases h
      rfl
    · simp only [List.mem_cons, List.not_mem_nil, or_false] at hz
      rcases hz with rfl | rfl
      · exact .bl _
      · exact .int _
    · cases h
      rfl
theorem so3 (T : Tx K mg) (hr : Room 10 (XO P w K mg base cdv A outer s H0 E).A) : PS (XO P w K mg base cdv A outer s H0 E) (stO 3) (tPP (O2 p a t l ns k z0 17 K) (O2 p a t l ns k z0 20 K)) := by
  refine PS.pp (ps_if (pt_cmpR op_eq (pe_ix ix_tup (pv 1) pe_int (fun _ _ => rfl)) pe_str (nomark _)) (pss_one (ps_set (i := 4) ndO rfl (Or.inl rfl) (pe_op op_cat (pv 4) (pe_lst (pa_cons (pe_callTy call_tuple_of (by rfl) T.f_tuple (by kernel_rfl) (pa_cons (pe_ix ix_tup (pv 1) pe_int (fun _ _ => rfl)) pa_nil))
    (pa_cons pe_int (pa_cons (pe_op op_rep (pe_lst (pa_cons pe_int pa_nil)) (pe_callB call_len_seq (by rfl) T.f_len PySem.boot_len (pa_cons (pe_ix ix_tup (pv 1) pe_int (fun _ _ => rfl)) pa_nil))) pa_nil))))))) pss_nil) (fun D σ H q nx => ?_)
  obtain ⟨r, L, xs, rfl, pt, fk, hL, hm, ho⟩ := q
  have c3 : (3 : Nat) ≤ sizeLine := by rw [sizeLine_eq]; decide
  have c1 : (1 : Nat) ≤ sizeLine := by rw [sizeLine_eq]; decide
  refine ⟨_, rfl, t, _, _, _, rfl, rfl, SqT.of fk.pln.at_, atI_nat (j := 0) (v := .str k.word) rfl, rfl, _, rfl, ?_⟩
  by_cases hk : ∃ ps, k = .dl ps
  · obtain ⟨ps, rfl⟩ := hk
    have g := fk.pln.good
    have few : ps.length ≤ 6 := g.2.1
    have g1 := g.1
    refine ite3 (fun _ => ?_) (fun h => by cases h)
    have e0 := fk.pln.at_
    have en := fk.pln.ns
    refine ⟨_, rfl, _, rfl, t, _, _, _, rfl, rfl, SqT.of e0, atI_nat (j := 1) (v := .ref l) rfl, l, _, rfl, .inl ⟨SqL.of en, fun u1 hu1 => ?_⟩⟩
    have s1 := Same.upd (o := .tup (ivs (Kd.dl ps).args)) hu1
    refine ⟨c1, fun u2 hu2 => ?_⟩
    have s2 := Same.upd (o := .lst [.int 0]) hu2
    have s12 : Same H _ := fun b o h => s2 b o (s1 b o h)
    refine ⟨_, rfl, t, _, _, _, rfl, rfl, SqT.of (s12 _ _ e0), atI_nat (j := 1) (v := .ref l) rfl, l, _, rfl, .inl (SqL.of (s12 _ _ en)), ?_⟩
    have s3' : ∀ q, (upd (upd H u1 (.tup (ivs (Kd.dl ps).args))) u2 (.lst [.int 0])) q = none → True := fun _ _ => True.intro
    have el : ivs (Kd.dl ps).args = ivs ps := rfl
    have ln : (ivs (Kd.dl ps).args).length = ps.length := by rw [el, ivs_len]
    refine ⟨u2, _, _, rfl, rfl, upd_same, by rw [ln]; omega, by rw [ln]; omega, by rw [ln, sizeLine_eq]; show 1 * ((ps.length : Nat) : Int).toNat ≤ _; rw [Int.toNat_natCast]; omega, fun u3 hu3 => ?_⟩
    have s3 := Same.upd (o := .lst (List.replicate (Int.toNat ((ivs (Kd.dl ps).args).length : Int)) [V.int 0]).flatten) hu3
    refine ⟨c3, fun b hb => ?_⟩
    have s4 := Same.upd (o := .lst [.ref u1, .int 0, .ref u3]) hb
    have s14 : Same H _ := fun c o h => s4 c o (s3 c o (s12 c o h))
    have e1 := s4 _ _ (s3 _ _ (s2 u1 (.tup (ivs ps)) upd_same))
    have e3 := s4 u3 (.lst (List.replicate (Int.toNat ((ivs (Kd.dl ps).args).length : Int)) [V.int 0]).flatten) upd_same
    refine ⟨L, b, xs, _, rfl, rfl, s14 _ _ hL, upd_same, by rw [sizeLine_eq]; show xs.length + 3 ≤ _; omega, fun q hq => ?_⟩
    have s5 := Same.upd (o := .lst (xs ++ [.ref u1, .int 0, .ref u3])) hq
    have s15 : Same H _ := fun c o h => s5 c o (s14 c o h)
    refine nx _ _ ⟨r, q, _, rfl, pt.same s15, fk.same s15, upd_same, by rw [List.length_append]; show xs.length + 3 ≤ 20; omega, fun x hx => ?_⟩
    rcases List.mem_append.mp hx with hx | hx
    · exact (ho x hx).same s15
    · simp only [List.mem_cons, List.not_mem_nil, or_false] at hx
      rcases hx with rfl | rfl | rfl
      · have hps : ps ≠ [] := fun z => by
          rw [z] at g1
          exact absurd g1 (by decide)
        have i1 : IsRd K _ (.dl ps) (.ref u1) false := .dlB e1 (ivs_len ps) (fun x hx => by
          obtain ⟨n, _, rfl⟩ := List.mem_map.mp hx
          exact .int _) (bsV_self hps)
        exact Od.same (.inl ⟨.tup e1, i1⟩) s5
      · exact .inl ⟨.int _, .dlN (vv_of (.int _)) rfl⟩
      · exact Od.same (.lst e3) s5
  · have hw : decide (V.str k.word = V.str "dials") = false := by
      cases k with
      | dl ps => exact absurd ⟨ps, rfl⟩ hk
      | pl => rfl
      | rs => rfl
      | md m => rfl
    rw [hw]
    exact ite3 (fun h => by cases h) (fun _ => nx _ _ ⟨r, L, xs, rfl, pt, fk, hL, by omega, ho⟩)
end
end K23
set_option Elab.async false
set_option linter.all false
set_option maxRecDepth 100000
set_option maxHeartbeats 4000000
namespace K23
open PySem PySem.Spec PyProof.Rows L2 Pre Dfs Vls
section
variable {P : Program} {w : World} {K : PySem.W.Frag} {mg : Str → Option Value} {base : Heap} {cdv : Value} {A : Around} {outer : List Env} {s : Shared} {H0 : Hp} {E : XK}
variable (p a t l : Addr) (ns : List Int) (k : Kd) (z0 : Int)
def O4 (K : PySem.W.Frag) : L2.St → Hp → Prop := fun σ H => ∃ r, ∃ L : Addr, σ = [some (.ref p), some (.ref t), some (.ref r), some k.mod, some (.ref L), none, none, none, none, none, none] ∧ Pt K H p a ns z0 z0 ∧ Fk K H t l r k
def O5 (ps : List Nat) (K : PySem.W.Frag) : L2.St → Hp → Prop := fun σ H => k = .dl ps ∧ O4 p a t l ns k z0 K σ H
theorem so4 (T : Tx K mg) (hr : Room 10 (XO P w K mg base cdv A outer s H0 E).A) : PS (XO P w K mg base cdv A outer s H0 E) (stO 4) (tPP (O2 p a t l ns k z0 20 K) (O4 p a t l ns k z0 K)) := by
  have M := m_isrdY (P := P) (w := w) (base := base) T k
  obtain ⟨fd, F, B, kb⟩ := M.ok
  refine PS.pp (ps_if (pt_cmpR (op_neD hr.units) (pe_lc rfl ndO (pi_list (pv 4)) (own := [("_law_thing", 9)]) (blk_by (by kernel_rfl)) (fun _ _ _ _ _ => pg_name (i := 9) ndO rfl (Or.inl rfl))
      (fun _ _ _ _ _ => pts_one (pt_cmpR op_notBl (Mk0.pe_methK (pv 2) M.cl M.mt F (hr.mono (by decide)) kb (E := E) p0 (pk_cons (pe_var (i := 9) rfl (Or.inl rfl)) pk_nil)) pe_bl (nomark _)))
      (fun _ _ _ _ _ => pe_var (i := 9) rfl (Or.inl rfl))) (pe_lst pa_nil) (nomark _)) (pss_one (ps_ret pe_bl)) pss_nil) (fun D σ H q nx => ?_)
  obtain ⟨r, L, xs, rfl, pt, fk, hL, hm, ho⟩ := q
  obtain ⟨dx, fls, ei, hl1, hl2, _⟩ := fk.reg.ins
  refine ⟨_, rfl, L, rfl, ⟨_, SqL.of hL⟩, fun D1 hD => ?_⟩
  refine lc_it (walk_list (xs := xs)) (fun i H1 => Same H H1 ∧ H1 D1 = some (.lst [])) ⟨Same.upd hD, upd_same⟩ (fun i H1 _ z => SqL.of (z.1 _ _ hL)) (fun i y H1 H3 hi z yy => ?_) (fun H1 z => ?_)
  · obtain ⟨rfl, hx⟩ := yy
    have od := (ho y (List.mem_of_getElem? hx)).same z.1
    refine ⟨rfl, ?_⟩
    refine ⟨_, rfl, r, dx, fls, rfl, z.1 _ _ ei, hl2, _, rfl, rfl, r, y, false, rfl, fk.reg.same z.1, od.rd T, fun H2 S2 => ?_⟩
    refine ⟨false, false, rfl, rfl, _, rfl, ite3 (fun h => by cases h) (fun _ => ?_)⟩
    exact ⟨fun b o h => S2 b o (z.1 b o h), S2 _ _ z.2⟩
  · refine ⟨(by show (0 : Nat) ≤ sizeLine; exact Nat.zero_le _), fun u hu => ?_⟩
    have s1 := Same.upd (o := .lst []) hu
    have e1 := s1 _ _ z.2
    have e2 : upd H1 u (.lst []) u = some (.lst []) := upd_same
    have s2 : Same H _ := fun b o h => s1 b o (z.1 b o h)
    refine ⟨.list [], .list [], .lst (SqL.of e1) .nil, .lst (SqL.of e2) .nil, rfl, rfl, _, rfl, ?_⟩
    have ev : PyData.eqv (.list []) (.list []) = true := by simp [PyData.eqv, PyData.eqvAll]
    rw [ev]
    exact ite3 (fun h => by cases h) (fun _ => nx _ _ ⟨r, L, rfl, pt.same s2, fk.same s2⟩)
theorem so5 (T : Tx K mg) (hr : Room 10 (XO P w K mg base cdv A outer s H0 E).A) : PS (XO P w K mg base cdv A outer s H0 E) (stO 5) (tPX (O4 p a t l ns k z0 K) (fun σ H => ∃ ps, O5 p a t l ns k z0 ps K σ H) (fun H => Pt K H p a ns z0 (z0 + 10) ∧ Pln H t l k)) := by
  refine PS.px (ps_if (pt_cmpR op_ne (pe_ix ix_tup (pv 1) pe_int (fun _ _ => rfl)) pe_str (nomark _)) (pss_one (ps_ret pe_bl)) pss_nil) (fun D σ H q nx fin => ?_)
  obtain ⟨r, L, rfl, pt, fk⟩ := q
  refine ⟨_, rfl, t, _, _, _, rfl, rfl, SqT.of fk.pln.at_, atI_nat (j := 0) (v := .str k.word) rfl, rfl, _, rfl, ?_⟩
  by_cases hk : ∃ ps, k = .dl ps
  · obtain ⟨ps, rfl⟩ := hk
    exact ite3 (fun h => by cases h) (fun _ => nx _ _ ⟨ps, rfl, r, L, rfl, pt, fk⟩)
  · have hw : decide (V.str k.word = V.str "dials") = false := by
      cases k with
      | dl ps => exact absurd ⟨ps, rfl⟩ hk
      | pl => rfl
      | rs => rfl
      | md m => rfl
    rw [hw]
    obtain ⟨z, g, R, h1, h2⟩ := pt
    exact ite3 (fun _ => fin _ ⟨⟨z, g, R, h1, by omega⟩, fk.pln⟩) (fun h => by cases h)
end
end K23
set_option Elab.async false
set_option linter.all false
set_option maxRecDepth 100000
set_option maxHeartbeats 4000000
namespace K23
open PySem PySem.Spec PyProof.Rows L2 Pre Dfs Vls
section
variable {P : Program} {w : World} {K : PySem.W.Frag} {mg : Str → Option Value} {base : Heap} {cdv : Value} {A : Around} {outer : List Env} {s : Shared} {H0 : Hp} {E : XK}
variable (p a t l : Addr) (ns : List Int) (ps : List Nat) (z0 : Int)
/-- the rests that are drawn -/
structure Rs (K : PySem.W.Frag) (H : Hp) (p a t l r q : Addr) (ns : List Int) (ps xs : List Nat) (z0 : Int) : Prop where
  pt : Pt K H p a ns z0 (z0 + 6)
  fk : Fk K H t l r (.dl ps)
  at_ : H q = some (.tup (ivs xs))
  len : xs.length = ps.length
  lt : ∀ (j c x : Nat), ps[j]? = some c → xs[j]? = some x → x < c
theorem Rs.same {K : PySem.W.Frag} {H H' : Hp} {p a t l r q : Addr} {ns : List Int} {ps xs : List Nat} {z0 : Int} (f : Rs K H p a t l r q ns ps xs z0) (S : Same H H') : Rs K H' p a t l r q ns ps xs z0 :=
  ⟨f.pt.same S, f.fk.same S, S _ _ f.at_, f.len, f.lt⟩
def O6 (K : PySem.W.Frag) : L2.St → Hp → Prop := fun σ H => ∃ r L q xs, σ = [some (.ref p), some (.ref t), some (.ref r), some (Kd.dl ps).mod, some (.ref L), some (.ref q), none, none, none, none, none] ∧ Rs K H p a t l r q ns ps xs z0
theorem so6 (T : Tx K mg) (hz : 0 ≤ z0) (hz2 : z0 < 800000) (hr : Room 10 (XO P w K mg base cdv A outer s H0 E).A) : PS (XO P w K mg base cdv A outer s H0 E) (stO 6) (tPP (O4 p a t l ns (.dl ps) z0 K) (O6 p a t l ns ps z0 K)) := by
  refine PS.pp (ps_set (i := 5) ndO rfl (Or.inl rfl) (pe_callTy call_tuple_of (by rfl) T.f_tuple (by kernel_rfl) (pa_cons (pe_lc rfl ndO (pi_list (pe_ix ix_tup (pv 1) pe_int (fun _ _ => rfl))) (own := [("_law_number", 10)]) (blk_by (by kernel_rfl)) (fun _ _ _ _ _ => pg_name (i := 10) ndO rfl (Or.inl rfl))
      (fun _ _ _ _ _ => pts_nil) (fun _ _ _ _ _ => pe_d (d_draw T) (hr.mono (by decide)) (by rfl) (E := E) p0 (pa_cons (pv 0) (pa_cons (pe_var (i := 10) rfl (Or.inl rfl)) pa_nil)))) pa_nil))) (fun D σ H q nx => ?_)
  obtain ⟨r, L, rfl, pt, fk⟩ := q
  obtain ⟨z, g, R, h1, h2⟩ := pt
  have good := fk.pln.good
  have few : ps.length ≤ 6 := good.2.1
  refine ⟨_, rfl, t, _, _, _, rfl, rfl, SqT.of fk.pln.at_, atI_nat (j := 1) (v := .ref l) rfl, l, rfl, ⟨_, SqL.of fk.pln.ns⟩, fun D1 hD => ?_⟩
  have nD : D1 ≠ p := (ne_of_none R.at_ hD).symm
  have nDa : a ≠ D1 := ne_of_none R.cells hD
  refine lc_it (walk_list (xs := ivs ps)) (fun i H1 => But p H H1 ∧ (∃ s3 g3, Pen K H1 p a ns s3 g3 ∧ z ≤ s3 ∧ s3 ≤ z + i) ∧ ∃ xs, H1 D1 = some (.lst (ivs xs)) ∧ xs.length = i ∧ ∀ (j c x : Nat), ps[j]? = some c → xs[j]? = some x → x < c)
    ⟨(But.refl p H).new hD, ⟨z, g, R.same (Same.upd hD), by omega, by omega⟩, [], upd_same, rfl, fun j c x _ h => by cases h⟩ (fun i H1 _ y => SqL.of (fk.keep R (Keep.but y.1)).pln.ns) (fun i v H1 H3 hi y yy => ?_) (fun H1 y => ?_)
  · obtain ⟨rfl, hx⟩ := yy
    obtain ⟨c, hc, rfl⟩ := ivs_at hx
    obtain ⟨b3, ⟨s3, g3, R3, k1, k2⟩, xs, hq, lq, lt⟩ := y
    obtain ⟨c1, c2⟩ := good.2.2 c (List.mem_of_getElem? hc)
    have hi2 : i < ps.length := (List.getElem?_eq_some_iff.mp hc).1
    refine ⟨rfl, ?_⟩
    unfold tYes
    refine ite3 (fun _ => ?_) (fun h => by cases h)
    refine ⟨_, rfl, _, rfl, p, a, ns, s3, g3, (c : Int), rfl, R3, by omega, by omega, by omega, fun H5 s5 g5 x b5 R5 k3 k4 k5 k6 => ?_⟩
    obtain ⟨x, rfl⟩ := Int.eq_ofNat_of_zero_le k5
    refine ⟨_, b5 _ _ nD hq, by rw [ivs_len, sizeLine_eq]; omega, but_put (b3.trans b5) hD, ⟨s5, g5, ⟨(upd_ne nD.symm).trans R5.at_, (upd_ne nDa).trans R5.cells, R5.len, R5.s0, R5.g0⟩, by omega, by omega⟩, xs ++ [x], ?_, ?_, ?_⟩
    · rw [upd_same]
      unfold ivs
      rw [List.map_append]
      rfl
    · rw [List.length_append, lq]
      rfl
    · intro j d y hd hy
      by_cases e : j < xs.length
      · rw [List.getElem?_append_left e] at hy
        exact lt j d y hd hy
      · have hj := (List.getElem?_eq_some_iff.mp hy).1
        rw [List.length_append] at hj
        have ej : j = xs.length := by
          have : ([x] : List Nat).length = 1 := rfl
          omega
        subst ej
        rw [List.getElem?_append_right (Nat.le_refl _), Nat.sub_self] at hy
        obtain rfl : x = y := Option.some.inj hy
        rw [lq, hc] at hd
        obtain rfl := Option.some.inj hd
        omega
  · obtain ⟨b3, ⟨s3, g3, R3, k1, k2⟩, xs, hq, lq, lt⟩ := y
    rw [ivs_len] at lq
    have k3 : s3 ≤ z + 6 := by
      rw [ivs_len] at k2
      have : ((Kd.dl ps).args.length : Int) ≤ 6 := by show ((ps.length : Nat) : Int) ≤ 6; omega
      omega
    refine ⟨D1, _, rfl, .inl ⟨SqL.of hq, fun u hu => ?_⟩⟩
    have s1 : Same H1 (upd H1 u (.tup (ivs xs))) := Same.upd hu
    exact nx _ _ ⟨r, L, u, xs, rfl, ⟨s3, g3, R3.same s1, by omega, by omega⟩, (fk.keep R (Keep.but b3)).same s1, upd_same, lq, lt⟩
end
end K23
set_option Elab.async false
set_option linter.all false
set_option maxRecDepth 100000
set_option maxHeartbeats 4000000
namespace K23
open PySem PySem.Spec PyProof.Rows L2 Pre Dfs Vls
theorem fitI {ps xs : List Nat} {n : Nat} (hl : xs.length = ps.length) : (ps.map fun (p : Nat) => (n : Int) % ((p : Nat) : Int)) = (xs.map fun (x : Nat) => ((x : Nat) : Int)) ↔ Fit ps.length n ps xs := by
  constructor
  · intro h j c x hj hc hx
    have e := congrArg (fun l => l[j]?) h
    simp only [List.getElem?_map, hc, hx, Option.map_some] at e
    have e2 := Option.some.inj e
    rw [← Int.natCast_emod] at e2
    exact Int.ofNat.inj e2
  · intro h
    apply List.ext_getElem?
    intro j
    rw [List.getElem?_map, List.getElem?_map]
    by_cases hj : j < ps.length
    · obtain ⟨c, hc⟩ : ∃ c, ps[j]? = some c := ⟨ps[j], List.getElem?_eq_getElem hj⟩
      obtain ⟨x, hx⟩ : ∃ x, xs[j]? = some x := ⟨xs[j]'(by omega), List.getElem?_eq_getElem _⟩
      rw [hc, hx]
      have e := h j c x hj hc hx
      show some ((n : Int) % (c : Int)) = some ((x : Nat) : Int)
      rw [← Int.natCast_emod, e]
    · rw [List.getElem?_eq_none_iff.mpr (by omega), List.getElem?_eq_none_iff.mpr (by omega)]
      rfl
section
variable {P : Program} {w : World} {K : PySem.W.Frag} {mg : Str → Option Value} {base : Heap} {cdv : Value} {A : Around} {outer : List Env} {s : Shared} {H0 : Hp} {E : XK}
variable (p a t l : Addr) (ns : List Int) (ps : List Nat) (z0 : Int)
def O7 (i : Nat) (K : PySem.W.Frag) : L2.St → Hp → Prop := fun σ H => ∃ r L q xs, ∃ b : Bool, ∃ m : Nat, ∃ x8, σ = [some (.ref p), some (.ref t), some (.ref r), some (Kd.dl ps).mod, some (.ref L), some (.ref q), some (.bl b), some (.int (m : Int)), x8, none, none] ∧ Rs K H p a t l r q ns ps xs z0 ∧
  (b = true ↔ ∃ n, n < i ∧ Fit ps.length n ps xs) ∧ (b = true → Fit ps.length m ps xs ∧ m < i)
theorem so7 (T : Tx K mg) (hr : Room 10 (XO P w K mg base cdv A outer s H0 E).A) : PS (XO P w K mg base cdv A outer s H0 E) (stO 7) (tPP (O6 p a t l ns ps z0 K) (O7 p a t l ns ps z0 0 K)) := by
  refine PS.pp (ps_asg (pe_tup (pa_cons pe_bl (pa_cons pe_int pa_nil))) (pg_tup rfl (pgs_cons (pg_name (i := 6) ndO rfl (Or.inl rfl)) (pgs_cons (pg_name (i := 7) ndO rfl (Or.inl rfl)) pgs_nil)))) (fun D σ H q nx => ?_)
  obtain ⟨r, L, q, xs, rfl, f⟩ := q
  refine ⟨(by show (2 : Nat) ≤ sizeLine; rw [sizeLine_eq]; decide), fun u hu => ⟨u, _, rfl, SqT.of upd_same, rfl, _, _, rfl, _, _, rfl, rfl, ?_⟩⟩
  exact nx _ _ ⟨r, L, q, xs, false, 0, none, rfl, f.same (Same.upd hu), ⟨(fun h => by cases h), fun ⟨n, h, _⟩ => by omega⟩, (fun h => by cases h)⟩
noncomputable instance (i n : Nat) (ps xs : List Nat) : Decidable (Fit i n ps xs) := Classical.propDecidable _
def lapN (ps : List Nat) : Nat := if 400 < lcms ps then 400 else lcms ps
theorem so8 (T : Tx K mg) (hr : Room 10 (XO P w K mg base cdv A outer s H0 E).A) : PS (XO P w K mg base cdv A outer s H0 E) (stO 8) (tPP (O7 p a t l ns ps z0 0 K) (O7 p a t l ns ps z0 (lapN ps) K)) := by
  refine PS.pp (ps_for (passes_of rfl) rfl (pi_range1 (by rfl) T.f_range (pa_cons (pe_callB (call_min2 rfl) (by rfl) T.f_min (by decide +kernel) (pa_cons (pe_callTy call_int1 (by rfl) T.f_int (by decide +kernel) (pa_cons (pv 3) pa_nil)) (pa_cons pe_int pa_nil))) pa_nil)) (pg_name (i := 8) ndO rfl (Or.inl rfl))
    (pss_one (ps_if (PW.pt (pw_and (pt_cmpR (op_eqD hr.units) (pe_d (d_shn T) (hr.mono (by decide)) (by rfl) (E := E) p0 (pa_cons (pv 1) (pa_cons (pv 8) (pa_cons pe_int pa_nil)))) (pv 5) (nomark _)) (pw_and1 (pt_not (pt_val (pv 6))))))
      (pss_one (ps_par (i := 6) (j := 7) rfl ndO rfl rfl (by decide) rfl rfl (pa_cons pe_bl (pa_cons (pv 8) pa_nil)) (by rfl))) pss_nil))) (fun D σ H q nx => ?_)
  obtain ⟨r, L, q, xs, b, m, x8, rfl, f, hb, hm⟩ := q
  have eN : (if (400 : Int) < ((lcms ps : Nat) : Int) then (400 : Int) else ((lcms ps : Nat) : Int)) = ((lapN ps : Nat) : Int) := by
    unfold lapN
    by_cases h : 400 < lcms ps
    · rw [if_pos h, if_pos (by omega)]
      rfl
    · rw [if_neg h, if_neg (by omega)]
  have nN : lapN ps ≤ 400 := by
    unfold lapN
    split <;> omega
  refine ⟨_, rfl, .inl ⟨((lcms ps : Nat) : Int), rfl, _, _, rfl, ?_⟩⟩
  rw [eN]
  refine ⟨_, rfl, by omega, by omega, ?_⟩
  refine for_it (walk_range (lo := 0) (n := lapN ps)) (fun i σ H1 => O7 p a t l ns ps z0 i K σ H1) ⟨r, L, q, xs, b, m, x8, rfl, f, hb, hm⟩ (fun _ _ _ _ _ => True.intro) (fun i v σ H1 H2 hi z y => ?_) (fun σ H1 z => nx _ _ z)
  obtain ⟨rfl, rfl⟩ := y
  obtain ⟨r, L, q, xs, b, m, x8, rfl, f, hb, hm⟩ := z
  have pl := f.fk.pln
  refine ⟨_, rfl, _, rfl, t, l, .dl ps, i, 0, (by show [V.ref t, V.int (0 + (i : Int)), V.int 0] = _; rw [Int.zero_add]), pl.same (Same.refl _), fun v H2 S2 rd => ?_⟩
  have f2 := f.same S2
  have dp1 := Rd.dp (K := K) (q := (i, (0 : Int))) rd
  have dp2 : Dp K H2 (.ref q) (.tuple ((xs.map fun (x : Nat) => ((x : Nat) : Int)).map PyData.int)) := by
    rw [← data_ints]
    exact .tup (SqT.of f2.at_) (dp_ivs xs)
  have sh1 : SeqAt.shaped (rdD (.dl ps) (i, (0 : Int))) = true := shaped_tup _
  refine ⟨_, rfl, _, _, dp1, dp2, sh1, shaped_tup _, ?_⟩
  have ev : PyData.eqv (rdD (.dl ps) (i, (0 : Int))) (.tuple ((xs.map fun (x : Nat) => ((x : Nat) : Int)).map PyData.int)) = decide (Fit ps.length i ps xs) := by
    show PyData.eqv (.tuple ((ps.map fun (p : Nat) => (i : Int) % ((p : Nat) : Int)).map PyData.int)) _ = _
    rw [PyData.eqv, eqv_ints]
    exact decide_eq_decide.mpr (fitI f.len)
  rw [ev]
  refine ⟨_, rfl, ite3 (fun h => ?_) (fun h => ?_)⟩
  · have fi := of_decide_eq_true h
    refine ⟨_, rfl, _, rfl, ?_⟩
    cases b with
    | true =>
      refine ite3 (fun h => by cases h) (fun _ => ?_)
      exact ⟨r, L, q, xs, true, m, _, rfl, f2, ⟨fun _ => ⟨i, by omega, fi⟩, fun _ => rfl⟩, fun _ => ⟨(hm rfl).1, by have := (hm rfl).2; omega⟩⟩
    | false =>
      refine ite3 (fun _ => ?_) (fun h => by cases h)
      have ei : V.int ((0 : Int) + (i : Int)) = V.int (i : Int) := congrArg V.int (Int.zero_add _)
      exact ⟨_, rfl, _, _, rfl, ⟨r, L, q, xs, true, i, some (V.int ((0 : Int) + (i : Int))), by
        show [some (V.ref p), some (V.ref t), some (V.ref r), some (Kd.dl ps).mod, some (V.ref L), some (V.ref q), some (V.bl true), some (V.int ((0 : Int) + (i : Int))), some (V.int ((0 : Int) + (i : Int))), none, none] = _
        rw [ei], f2, ⟨fun _ => ⟨i, by omega, fi⟩, fun _ => rfl⟩, fun _ => ⟨fi, by omega⟩⟩⟩
  · have fi := of_decide_eq_false h
    refine ⟨r, L, q, xs, b, m, _, rfl, f2, ⟨fun hh => ?_, fun ⟨n, h1, h2⟩ => ?_⟩, fun hh => ⟨(hm hh).1, by have := (hm hh).2; omega⟩⟩
    · obtain ⟨n, h1, h2⟩ := hb.mp hh
      exact ⟨n, by omega, h2⟩
    · by_cases e : n = i
      · subst e
        exact absurd h2 fi
      · exact hb.mpr ⟨n, by omega, h2⟩
end
end K23
set_option Elab.async false
set_option linter.all false
set_option maxRecDepth 100000
set_option maxHeartbeats 4000000
namespace K23
open PySem PySem.Spec PyProof.Rows L2 Pre Dfs Vls
theorem fit_red {ps xs : List Nat} {n : Nat} (h : Fit ps.length n ps xs) : Fit ps.length (n % lcms ps) ps xs := by
  intro j c x hj hc hx
  have d : c ∣ lcms ps := by
    have z := dvd_lcms hj hc
    rw [List.take_length] at z
    exact z
  rw [Nat.mod_mod_of_dvd _ d]
  exact h j c x hj hc hx
theorem fit_rests {ps xs : List Nat} {n : Nat} (hl : xs.length = ps.length) (h : Fit ps.length n ps xs) : rests (n : Int) ps = ivs xs := by
  have e := (fitI hl).mpr h
  unfold rests ivs
  have e2 := congrArg (List.map V.int) e
  rw [List.map_map, List.map_map] at e2
  exact e2
section
variable {P : Program} {w : World} {K : PySem.W.Frag} {mg : Str → Option Value} {base : Heap} {cdv : Value} {A : Around} {outer : List Env} {s : Shared} {H0 : Hp} {E : XK}
variable (p a t l : Addr) (ns : List Int) (ps : List Nat) (z0 : Int)
def O9 (K : PySem.W.Frag) : L2.St → Hp → Prop := fun σ H => ∃ r L q xs, ∃ b : Bool, ∃ m : Nat, ∃ x8, σ = [some (.ref p), some (.ref t), some (.ref r), some (Kd.dl ps).mod, some (.ref L), some (.ref q), some (.bl b), some (.int (m : Int)), x8, none, none] ∧ Rs K H p a t l r q ns ps xs z0 ∧
  (b = true ↔ ∃ n, Fit ps.length n ps xs) ∧ (b = true → Fit ps.length m ps xs ∧ m < lcms ps)
theorem so9 (T : Tx K mg) (hr : Room 10 (XO P w K mg base cdv A outer s H0 E).A) : PS (XO P w K mg base cdv A outer s H0 E) (stO 9) (tPX (O7 p a t l ns ps z0 (lapN ps) K) (O9 p a t l ns ps z0 K) (fun H => Pt K H p a ns z0 (z0 + 10) ∧ Pln H t l (.dl ps))) := by
  refine PS.px (ps_if (PW.pt (pw_and (pt_cmpR op_gt (pv 3) pe_int (nomark _)) (pw_and1 (pt_not (pt_val (pv 6)))))) (pss_one (ps_ret pe_bl)) pss_nil) (fun D σ H q nx fin => ?_)
  obtain ⟨r, L, q, xs, b, m, x8, rfl, f, hb, hm⟩ := q
  have good := f.fk.pln.good
  have Lp : 0 < lcms ps := by
    have z := (lcms_bd good.2.2 ps.length).1
    rw [List.take_length] at z
    exact z
  have nL : lapN ps ≤ lcms ps := by
    unfold lapN
    split <;> omega
  have fin2 : D.rt (.bl true) H := by
    obtain ⟨z, g, R, h1, h2⟩ := f.pt
    exact fin _ ⟨⟨z, g, R, h1, by omega⟩, f.fk.pln⟩
  refine ⟨_, rfl, _, _, rfl, rfl, _, rfl, ite3 (fun h => ?_) (fun h => ?_)⟩
  · refine ⟨_, rfl, _, rfl, ?_⟩
    cases b with
    | true =>
      refine ite3 (fun h => by cases h) (fun _ => ?_)
      exact nx _ _ ⟨r, L, q, xs, true, m, x8, rfl, f, ⟨fun _ => ⟨m, (hm rfl).1⟩, fun _ => rfl⟩, fun _ => ⟨(hm rfl).1, Nat.lt_of_lt_of_le (hm rfl).2 nL⟩⟩
    | false => exact ite3 (fun _ => fin2) (fun h => by cases h)
  · have h400 : ¬ (400 : Int) < ((lcms ps : Nat) : Int) := of_decide_eq_false h
    have eN : lapN ps = lcms ps := if_neg (by omega)
    refine nx _ _ ⟨r, L, q, xs, b, m, x8, rfl, f, ⟨fun hh => ?_, fun ⟨n, h2⟩ => ?_⟩, fun hh => ⟨(hm hh).1, Nat.lt_of_lt_of_le (hm hh).2 nL⟩⟩
    · obtain ⟨n, _, h2⟩ := hb.mp hh
      exact ⟨n, h2⟩
    · exact hb.mpr ⟨n % lcms ps, by rw [eN]; exact Nat.mod_lt _ Lp, fit_red h2⟩
theorem bool_ok {K : PySem.W.Frag} {H : Hp} (b : Bool) : Dp K H (.bl b) (.bool b) ∧ (PyData.bool b).showable = true ∧ (PyData.bool b).hasDict = false ∧ (PyData.bool b).depth ≤ 60 ∧ (PyData.bool b).shown.length ≤ sizeLine := by
  refine ⟨.bl b, by simp only [PyData.showable], by simp only [PyData.hasDict], by simp only [PyData.depth]; omega, ?_⟩
  rw [PyData.shown_bool, sizeLine_eq]
  cases b <;> decide
theorem so10 (T : Tx K mg) (still : (XO P w K mg base cdv A outer s H0 E).A.guards = some []) (hr : Room 10 (XO P w K mg base cdv A outer s H0 E).A) : PS (XO P w K mg base cdv A outer s H0 E) (stO 10) (tPR (O9 p a t l ns ps z0 K) (fun H => Pt K H p a ns z0 (z0 + 10) ∧ Pln H t l (.dl ps))) := by
  refine PS.pr (ps_ret (pe_and (pe_cmpR op_eq (pe_callB (Shw.call_repr hr still) (by rfl) T.f_repr (by decide +kernel) (pa_cons (Dfs.pe_m (pv 2) (m_isrdY T (.dl ps)).mfn (hr.mono (by decide)) (E := E) p0 (pa_cons (pv 5) pa_nil)) pa_nil)) (pe_callB (Shw.call_repr hr still) (by rfl) T.f_repr (by decide +kernel) (pa_cons (pv 6) pa_nil)) (nomark _))
    (pe_one (pe_or (pe_not (pv 6)) (pe_one (pe_cmpR op_eq (Dfs.pe_m (pv 2) (m_totX T (.dl ps)).mfn (hr.mono (by decide)) (E := fun _ _ _ => False) pF (pa_cons (pv 5) pa_nil)) (pv 7) (nomark _))))))) (fun D σ H q fin => ?_)
  obtain ⟨r, L, q, xs, b, m, x8, rfl, f, hb, hm⟩ := q
  have fin2 : ∀ H', Same H H' → D.rt (.bl true) H' := fun H' S => by
    obtain ⟨z, g, R, h1, h2⟩ := (f.same S).pt
    exact fin _ ⟨⟨z, g, R, h1, by omega⟩, (f.same S).fk.pln⟩
  obtain ⟨dx, fls, ei, _, hl2, _⟩ := f.fk.reg.ins
  have ht0 : ∃ dx fls, H r = some (.ins (CK K (.dl ps)) dx fls) ∧ fls.lookup ("total_of" : Str) = none := by
    cases f.fk.reg with
    | dl e ht h1 h2 h3 => exact ⟨_, _, e, rfl⟩
  refine ⟨_, rfl, r, dx, fls, rfl, ei, hl2, _, rfl, r, .ref q, b, rfl, f.fk.reg, .dlF f.at_ f.len f.lt hb, fun H1 S1 => ?_⟩
  obtain ⟨o1, o2, o3, o4, o5⟩ := bool_ok (K := K) (H := H1) b
  refine ⟨_, _, rfl, o1, o2, o3, o4, o5, _, rfl, _, _, rfl, o1, o2, o3, o4, o5, rfl, ?_⟩
  refine ⟨_, rfl, ite3 (fun _ => ?_) (fun h => by rw [decide_eq_true rfl] at h; cases h)⟩
  refine ⟨_, rfl, _, rfl, ?_⟩
  cases b with
  | false => exact ⟨_, rfl, ite3 (fun _ => fin2 _ S1) (fun h => by cases h)⟩
  | true =>
    obtain ⟨hm1, hm2⟩ := hm rfl
    refine ⟨_, rfl, ite3 (fun h => by cases h) (fun _ => ?_)⟩
    obtain ⟨dx, fls, ei, ht0⟩ := ht0
    have f1 := f.same S1
    have rd : Rd H1 (.dl ps) (m : Int) 0 (.ref q) := .dl (by rw [fit_rests f.len hm1]; exact f1.at_)
    refine ⟨_, rfl, r, dx, fls, rfl, S1 _ _ ei, ht0, _, rfl, r, .ref q, m, 0, rfl, f1.fk.reg, rd, Int.le_refl _, fun H2 S2 => ?_⟩
    refine ⟨_, rfl, rfl, ?_⟩
    have e : decide (totV (.dl ps) m = V.int (m : Int)) = true := by
      have z : totV (.dl ps) m = V.int (m : Int) := by
        show V.int ((m % lcms ps : Nat) : Int) = _
        rw [Nat.mod_eq_of_lt hm2]
      rw [z, decide_eq_true rfl]
    rw [e]
    exact fin2 _ fun c o h => S2 c o (S1 c o h)
end
end K23
set_option Elab.async false
set_option linter.all false
set_option maxRecDepth 100000
set_option maxHeartbeats 4000000
namespace K23
open PySem PySem.Spec PyProof.Rows L2 Pre Dfs Vls
section
variable {P : Program} {w : World} {K : PySem.W.Frag} {mg : Str → Option Value} {base : Heap}
def spOdd (K : PySem.W.Frag) : Sp := fun vs H Q _ => ∃ (p a t l : Addr) (ns : List Int) (z0 : Int) (k : Kd), vs = [.ref p, .ref t] ∧ Pt K H p a ns z0 z0 ∧ 0 ≤ z0 ∧ z0 < 800000 ∧ Pln H t l k ∧ ∀ H', Pt K H' p a ns z0 (z0 + 10) → Pln H' t l k → Q (.bl true) H'
theorem f_odd (T : Tx K mg) (hopq : Sup.Opq base) (hf : ((P.main.file : Str) == PySem.Challenge.pw_gaugeroad_k23_registers_and_their_readin.main.file) = true) (ht : (P.main.scope.names.lookup ("super" : Str)).isSome = false) :
    ∃ fd, Shw.FnG P w K mg base CX0 11 (He.ga K "_law_strange_right") fd ["_law_pen_here", "_law_plain"] (spOdd K) ∧ Binds K fd ["_law_pen_here", "_law_plain"] [] ∧ PySem.W.keepIn K (.ref (He.ga K "_law_strange_right")) = true := by
  obtain ⟨fd, F⟩ := T.q_law_strange_right
  refine ⟨fd, Shw.okG F (N := NO) ⟨rfl, rfl, rfl, ndO, rfl, by decide +kernel, by decide +kernel⟩ (fun vs H Q E h => ?_) (fun cdv A outer s H vs Q E hr still h => ?_), F.bindsN fun kV doc pm an cdv ct => bind2 fun a b => rfl, F.kp⟩
  · obtain ⟨_, _, _, _, _, _, _, rfl, _⟩ := h
    rfl
  · obtain ⟨p, a, t, l, ns, z0, k, rfl, pt, h1, h2, pl, q⟩ := h
    rw [bodyO_eq]
    obtain ⟨ps, hps⟩ : ∃ ps, ∀ ps', k = .dl ps' → ps' = ps := by
      cases k with
      | dl ps => exact ⟨ps, fun ps' e => (Kd.dl.inj e).symm⟩
      | pl => exact ⟨[], fun ps' e => by cases e⟩
      | rs => exact ⟨[], fun ps' e => by cases e⟩
      | md m => exact ⟨[], fun ps' e => by cases e⟩
    refine ⟨_, pss_cons (so0 (P := P) (w := w) (K := K) (mg := mg) (base := base) p a t l ns k z0 T hopq hf ht hr)
      (pss_cons (so1 p a t l ns k z0 T hr)
      (pss_cons (so2 p a t l ns k z0 T hr)
      (pss_cons (so3 p a t l ns k z0 T hr)
      (pss_cons (so4 p a t l ns k z0 T hr)
      (pss_cons (so5 p a t l ns k z0 T hr)
      (pss_cons (so6 p a t l ns ps z0 T h1 h2 hr)
      (pss_cons (so7 p a t l ns ps z0 T hr)
      (pss_cons (so8 p a t l ns ps z0 T hr)
      (pss_cons (so9 p a t l ns ps z0 T hr)
      (pss_one (so10 p a t l ns ps z0 T still hr))))))))))), ?_⟩
    refine pp_go ⟨rfl, pt, pl⟩ fun _ _ s1 => pp_go s1 fun _ _ s2 => pp_go s2 fun _ _ s3 => pp_go s3 fun _ _ s4 => pp_go s4 fun _ _ s5 => ⟨s5, fun _ _ s6 => ?_, fun H' z => q H' z.1 z.2⟩
    obtain ⟨ps', e, s6⟩ := s6
    obtain rfl := hps ps' e
    subst e
    exact pp_go s6 fun _ _ s7 => pp_go s7 fun _ _ s8 => pp_go s8 fun _ _ s9 => ⟨s9, fun _ _ s10 => ⟨s10, fun H' z => q H' z.1 z.2⟩, fun H' z => q H' z.1 z.2⟩
end
end K23
set_option Elab.async false
set_option linter.all false
set_option maxRecDepth 100000
set_option maxHeartbeats 4000000
namespace K23
open PySem PySem.Spec PyProof.Rows L2 Pre Dfs Vls
/-! the law: its names, its statements -/
abbrev NL : List Str := ["_law_script", "_law_pen_here", "_law_lap", "_law_plain", "_law_some", "_law_one", "_law_told", "_law_at", "_law_display"]
abbrev scL : Scope := defScope s_law
theorem ndL : NL.Nodup := by decide +kernel
def stL (i : Nat) : Stmt := (defBody s_law).getD i (.Pass default)
theorem bodyL_eq : defBody s_law = [stL 0, stL 1, stL 2, stL 3, stL 4, stL 5, stL 6] := rfl
section
variable {P : Program} {w : World} {K : PySem.W.Frag} {mg : Str → Option Value} {base : Heap} {cdv : Value} {A : Around} {outer : List Env} {s : Shared} {H0 : Hp} {E : XK}
abbrev XL (P : Program) (w : World) (K : PySem.W.Frag) (mg : Str → Option Value) (base : Heap) (cdv : Value) (A : Around) (outer : List Env) (s : Shared) (H0 : Hp) (E : XK) : Cx := cxOf CX0 P w K mg base NL "law" scL (He.ga K "law") cdv A outer s H0 E
variable (a : Addr) (ns : List Int)
def L0 (K : PySem.W.Frag) : L2.St → Hp → Prop := fun σ H => σ = [some (.ref a), none, none, none, none, none, none, none, none] ∧ SqL K H a (ns.map V.int) ∧ ns.length ≤ 63
def L1 (K : PySem.W.Frag) : L2.St → Hp → Prop := fun σ H => ∃ p c x2 x3, σ = [some (.ref a), some (.ref p), x2, x3, none, none, none, none, none] ∧ Pt K H p c ns 0 0
def L2s : L2.St → Hp → Prop := fun σ H => ∃ x1 x2 x3, σ = [some (.ref a), x1, x2, x3, none, none, none, none, none]
theorem sl0 (T : Tx K mg) (hr : Room 11 (XL P w K mg base cdv A outer s H0 E).A) : PS (XL P w K mg base cdv A outer s H0 E) (stL 0) (tPP (L0 a ns K) (L1 a ns K)) := by
  refine PS.pp (ps_set (i := 1) ndL rfl (Or.inl rfl) (pe_d (d_pen T) (hr.mono (by decide)) (by rfl) (E := E) p0 (pa_cons (pv 0) pa_nil))) (fun D σ H q nx => ?_)
  obtain ⟨rfl, sq, hl⟩ := q
  refine ⟨_, rfl, a, ns, rfl, sq, hl, fun H1 p c S1 hp hc R => ?_⟩
  exact nx _ _ ⟨p, c, none, none, rfl, 0, 0, R, Int.le_refl _, Int.le_refl _⟩
theorem sl1 (T : Tx K mg) (hopq : Sup.Opq base) (hf : ((P.main.file : Str) == PySem.Challenge.pw_gaugeroad_k23_registers_and_their_readin.main.file) = true) (ht : (P.main.scope.names.lookup ("super" : Str)).isSome = false)
    (still : (XL P w K mg base cdv A outer s H0 E).A.guards = some []) (hr : Room 11 (XL P w K mg base cdv A outer s H0 E).A) : PS (XL P w K mg base cdv A outer s H0 E) (stL 1) (tPP (L1 a ns K) (L2s a)) := by
  obtain ⟨f1, F1, B1, k1⟩ := f_right (P := P) (w := w) (base := base) T hopq hf ht
  obtain ⟨f2, F2, B2, k2⟩ := f_odd (P := P) (w := w) (base := base) T hopq hf ht
  refine PS.pp (ps_for (passes_of rfl) rfl (pi_range1 (by rfl) T.f_range (pa_cons pe_int pa_nil)) (pg_name (i := 2) ndL rfl (Or.inl rfl))
    (pss_cons (ps_set (i := 3) ndL rfl (Or.inl rfl) (pe_d (d_rgs T) (hr.mono (by decide)) (by rfl) (E := E) p0 (pa_cons (pv 1) pa_nil)))
    (pss_one (ps_if (PW.pt (pw_or (pt_not (pt_val (Shw.pe_callG F1 hr still (by rfl) T.g_law_right k1 B1 .nil (E := E) p0 (pa_cons (pv 1) (pa_cons (pv 3) pa_nil)))))
      (pw_or1 (pt_not (pt_val (Shw.pe_callG F2 hr still (by rfl) T.g_law_strange_right k2 B2 .nil (E := E) p0 (pa_cons (pv 1) (pa_cons (pv 3) pa_nil)))))))) (pss_one (ps_ret pe_bl)) pss_nil)))) (fun D σ H q nx => ?_)
  obtain ⟨p, c, x2, x3, rfl, ⟨s0, g0, R0, a1, a2⟩⟩ := q
  refine ⟨6, rfl, by decide, by decide, for_it (walk_range (lo := 0) (n := (6 : Int).toNat)) (fun i σ H' => (∃ x2 x3, σ = [some (.ref a), some (.ref p), x2, x3, none, none, none, none, none]) ∧ Pt K H' p c ns 0 (41 * (i : Int)))
    ⟨⟨x2, x3, rfl⟩, s0, g0, R0, by omega, by omega⟩ (fun _ _ _ _ _ => True.intro) (fun i v σ H2 H3 hi z y => ?_) (fun σ H2 z => ?_)⟩
  · obtain ⟨rfl, rfl⟩ := y
    obtain ⟨⟨x2, x3, rfl⟩, pt⟩ := z
    have hi6 : i < 6 := hi
    obtain ⟨s2, g2, R2, h1, h2⟩ := pt
    refine ⟨_, rfl, p, c, ns, s2, g2, rfl, R2, by omega, fun H4 t l k s4 g4 b4 R4 h3 h4 pl => ?_⟩
    refine ⟨_, rfl, _, rfl, p, c, t, l, ns, s4, k, rfl, ⟨s4, g4, R4, Int.le_refl _, Int.le_refl _⟩, by omega, by omega, pl, fun H5 pt5 pl5 => ?_⟩
    refine ⟨_, rfl, ite3 (fun h => by cases h) (fun _ => ?_)⟩
    obtain ⟨s5, g5, R5, h5, h6⟩ := pt5
    refine ⟨_, rfl, _, rfl, p, c, t, l, ns, s5, k, rfl, ⟨s5, g5, R5, Int.le_refl _, Int.le_refl _⟩, by omega, by omega, pl5, fun H6 pt6 pl6 => ?_⟩
    refine ⟨_, rfl, ite3 (fun h => by cases h) (fun _ => ?_)⟩
    obtain ⟨s6, g6, R6, h7, h8⟩ := pt6
    exact ⟨⟨_, _, rfl⟩, s6, g6, R6, by omega, by omega⟩
  · obtain ⟨⟨x2, x3, rfl⟩, _⟩ := z
    exact nx _ _ ⟨_, _, _, rfl⟩
end
end K23
set_option Elab.async false
set_option linter.all false
set_option maxRecDepth 100000
set_option maxHeartbeats 4000000
namespace K23
open PySem PySem.Spec PyProof.Rows L2 Pre Dfs Vls NdefX
theorem same_but {H H1 H' : Hp} {a : Addr} (n : H a = none) (s : Same H H1) (b : But a H1 H') : Same H H' := fun c o h => b c o (fun e => by
  subst e
  rw [n] at h
  cases h) (s c o h)
section
variable {P : Program} {w : World} {K : PySem.W.Frag} {mg : Str → Option Value} {base : Heap}
theorem f_wrapK (T : Tx K mg) : ∃ fd, FnOk P w K mg base CX0 3 (He.ma K (He.ga K "Wrapping") "__init__") fd ["self", "modulus"] (spMod K) ∧ Binds K fd ["self", "modulus"] [] ∧ KBn K fd ["self", "modulus"] 1 ["modulus"] (fun us ws => us ++ ws) (fun vs zs => vs ++ zs) := by
  obtain ⟨fd, F⟩ := T.q_Wrapping_init
  refine ⟨fd, F.ok (N := ["self", "modulus"]) ⟨rfl, rfl, rfl, by decide +kernel, rfl, by decide +kernel, by decide +kernel⟩ (fun vs H Q E h => ?_) (fun cdv A outer s H vs Q E hr h => ?_), F.bindsN (fun kV doc pm an cdv ct => bind2 fun a b => rfl), Mk0.kb1 fun s a b _ => ?_⟩
  · obtain ⟨_, _, _, _, rfl, _⟩ := h
    rfl
  · obtain ⟨a, C, dx, m, rfl, e, c, n, h1, h2, q⟩ := h
    obtain ⟨tm, hm⟩ := T.i_MOST_MODULUS
    refine ⟨_, pss_cons (ps_if (pt_not (pt_val (pe_d (d_within T) hr (by rfl) (E := E) p0 (pa_cons (pv 1) (pa_cons pe_int (pa_cons (pe_glob (v := .int (10 ^ 18)) (by rfl) hm ⟨tm, rfl⟩) pa_nil)))))) (pss_one ps_never) pss_nil)
      (pss_one (ps_fld (pv 0) (pv 1) rfl)), ?_⟩
    refine ⟨_, rfl, _, _, _, rfl, .int _, _, rfl, ?_⟩
    rw [inR_of (by omega) (by omega)]
    refine ite3 (fun h => by cases h) (fun _ => ?_)
    exact ⟨_, rfl, _, rfl, a, _, dx, _, rfl, e, c, n, (by show (0 : Nat) < 1000; decide), q⟩
  · obtain ⟨oc, od, dV, kV, doc, pm, an, cdv, ct, osl, rfl, lk, hcd, hD, hK⟩ := F.ex
    rcases hD with ⟨_, rfl⟩ | ⟨e, _⟩
    · exact .of_eq rfl
    · exact absurd rfl e
end
/-- the registers that the law makes -/
def ks8 : List Kd := [.pl, .md 12, .dl [12], .dl [4, 6], .dl [6, 4], .dl [12], .rs, .md 13]
section
variable {P : Program} {w : World} {K : PySem.W.Frag} {mg : Str → Option Value} {base : Heap} {cdv : Value} {A : Around} {outer : List Env} {s : Shared} {H0 : Hp} {E : XK}
variable (a : Addr) (ns : List Int)
structure R8 (K : PySem.W.Frag) (H : Hp) (L : Addr) (rs : List Addr) : Prop where
  at_ : H L = some (.lst (rs.map V.ref))
  len : rs.length = 8
  reg : ∀ (i : Nat) (r : Addr) (k : Kd), rs[i]? = some r → ks8[i]? = some k → Reg K H r k
theorem R8.same {H H' : Hp} {L : Addr} {rs : List Addr} (f : R8 K H L rs) (S : Same H H') : R8 K H' L rs := ⟨S _ _ f.at_, f.len, fun i r k h1 h2 => (f.reg i r k h1 h2).same S⟩
def L3 (K : PySem.W.Frag) : L2.St → Hp → Prop := fun σ H => ∃ x1 x2 x3 L rs x5 x6, σ = [some (.ref a), x1, x2, x3, some (.ref L), x5, x6, none, none] ∧ R8 K H L rs
theorem sl2 (T : Tx K mg) (hopq : Sup.Opq base) (hf : ((P.main.file : Str) == PySem.Challenge.pw_gaugeroad_k23_registers_and_their_readin.main.file) = true) (ht : (P.main.scope.names.lookup ("super" : Str)).isSome = false)
    (hr : Room 11 (XL P w K mg base cdv A outer s H0 E).A) : PS (XL P w K mg base cdv A outer s H0 E) (stL 2) (tPP (L2s a) (L3 a K)) := by
  obtain ⟨fp, Fp, Bp⟩ := f_plain (P := P) (w := w) (base := base) T
  obtain ⟨fr, Fr, Br⟩ := f_rest (P := P) (w := w) (base := base) T
  obtain ⟨fw, Fw, Bw, Kw⟩ := f_wrapK (P := P) (w := w) (base := base) T
  have Rd := r_dials (P := P) (w := w) (base := base) T hopq hf ht
  refine PS.pp (ps_set (i := 4) ndL rfl (Or.inr rfl) (pe_lst (pa_cons (pe_make0 T.k_Plain Fp (hr.mono (by decide)) (by rfl) T.g_Plain Bp .nil (E := E) p0) (pa_cons (pe_make T.k_Wrapping Fw (hr.mono (by decide)) (by rfl) T.g_Wrapping Bw .nil (E := E) p0 (pa_cons pe_int pa_nil))
    (pa_cons (StX.pe_makeR T.k_Dials Rd (hr.mono (by decide)) (by rfl) T.g_Dials (E := E) p0 (pa_cons pe_int pa_nil)) (pa_cons (StX.pe_makeR T.k_Dials Rd (hr.mono (by decide)) (by rfl) T.g_Dials (E := E) p0 (pa_cons pe_int (pa_cons pe_int pa_nil)))
    (pa_cons (StX.pe_makeR T.k_Dials Rd (hr.mono (by decide)) (by rfl) T.g_Dials (E := E) p0 (pa_cons pe_int (pa_cons pe_int pa_nil))) (pa_cons (StX.pe_makeR T.k_Dials Rd (hr.mono (by decide)) (by rfl) T.g_Dials (E := E) p0 (pa_cons pe_int pa_nil))
    (pa_cons (pe_make0 T.k_Restarting Fr (hr.mono (by decide)) (by rfl) T.g_Restarting Br .nil (E := E) p0) (pa_cons (pe_makeK0 T.k_Wrapping Fw (hr.mono (by decide)) (by rfl) T.g_Wrapping Kw (E := E) p0 (pk_cons pe_int pk_nil)) pa_nil)))))))))) (fun D σ H q nx => ?_)
  obtain ⟨x1, x2, x3, rfl⟩ := q
  refine fun r0 d0 hr0 hd0 _ => ⟨r0, d0, rfl, upd_same, rfl, ?_⟩
  have S0 : Same H _ := same3 (Same.refl H) hd0 hr0 (o := .own r0) (u := .ins (He.ga K "Plain") d0 []) (v := .ins (He.ga K "Plain") d0 [("modulus", .non)])
  have g0 : Reg K _ r0 .pl := .pl (H := upd (upd (upd H d0 (.own r0)) r0 (.ins (He.ga K "Plain") d0 [])) r0 (.ins (He.ga K "Plain") d0 [("modulus", .non)])) upd_same
  generalize upd (upd (upd H d0 (.own r0)) r0 (.ins (He.ga K "Plain") d0 [])) r0 (.ins (He.ga K "Plain") d0 [("modulus", .non)]) = H1 at S0 g0 ⊢
  refine fun r1 d1 hr1 hd1 _ => ⟨r1, _, d1, 12, rfl, upd_same, T.c_Wrapping, T.n_Wrapping_modulus, by decide, by decide, rfl, ?_⟩
  have S1 : Same H1 _ := same3 (Same.refl H1) hd1 hr1 (o := .own r1) (u := .ins (He.ga K "Wrapping") d1 []) (v := .ins (He.ga K "Wrapping") d1 [("modulus", .int ((12 : Nat) : Int))])
  have g1 : Reg K _ r1 (.md 12) := .md (H := upd (upd (upd H1 d1 (.own r1)) r1 (.ins (He.ga K "Wrapping") d1 [])) r1 (.ins (He.ga K "Wrapping") d1 [("modulus", .int ((12 : Nat) : Int))])) upd_same (by decide) (by decide)
  generalize upd (upd (upd H1 d1 (.own r1)) r1 (.ins (He.ga K "Wrapping") d1 [])) r1 (.ins (He.ga K "Wrapping") d1 [("modulus", .int ((12 : Nat) : Int))]) = H2 at S1 g1 ⊢
  have dmk : ∀ {Hx Hy : Hp} {r d : Addr} {ps : List Nat}, Hx r = none → Hx d = none → But r (upd (upd Hx d (.own r)) r (.ins (He.ga K "Dials") d [])) Hy → Same Hx Hy := fun {Hx Hy r d ps} h1 h2 b => same_but h1 (Same.put (Same.put (Same.refl Hx) h2) h1) b
  refine fun r2 d2 hr2 hd2 _ => ⟨r2, d2, [12], rfl, upd_same, by decide, by decide, by decide, fun H3 b3 g2 => ⟨rfl, ?_⟩⟩
  have S2 : Same H2 H3 := dmk (ps := []) hr2 hd2 b3
  refine fun r3 d3 hr3 hd3 _ => ⟨r3, d3, [4, 6], rfl, upd_same, by decide, by decide, by decide, fun H4 b4 g3 => ⟨rfl, ?_⟩⟩
  have S3 : Same H3 H4 := dmk (ps := []) hr3 hd3 b4
  refine fun r4 d4 hr4 hd4 _ => ⟨r4, d4, [6, 4], rfl, upd_same, by decide, by decide, by decide, fun H5 b5 g4 => ⟨rfl, ?_⟩⟩
  have S4 : Same H4 H5 := dmk (ps := []) hr4 hd4 b5
  refine fun r5 d5 hr5 hd5 _ => ⟨r5, d5, [12], rfl, upd_same, by decide, by decide, by decide, fun H6 b6 g5 => ⟨rfl, ?_⟩⟩
  have S5 : Same H5 H6 := dmk (ps := []) hr5 hd5 b6
  refine fun r6 d6 hr6 hd6 _ => ⟨r6, d6, rfl, upd_same, rfl, ?_⟩
  have S6 : Same H6 _ := same3 (Same.refl H6) hd6 hr6 (o := .own r6) (u := .ins (He.ga K "Restarting") d6 []) (v := .ins (He.ga K "Restarting") d6 [("modulus", .non)])
  have g6 : Reg K _ r6 .rs := .rs (H := upd (upd (upd H6 d6 (.own r6)) r6 (.ins (He.ga K "Restarting") d6 [])) r6 (.ins (He.ga K "Restarting") d6 [("modulus", .non)])) upd_same
  generalize upd (upd (upd H6 d6 (.own r6)) r6 (.ins (He.ga K "Restarting") d6 [])) r6 (.ins (He.ga K "Restarting") d6 [("modulus", .non)]) = H7 at S6 g6 ⊢
  refine ⟨rfl, rfl, fun r7 d7 hr7 hd7 _ => ⟨r7, _, d7, 13, rfl, upd_same, T.c_Wrapping, T.n_Wrapping_modulus, by decide, by decide, rfl, ?_⟩⟩
  have S7 : Same H7 _ := same3 (Same.refl H7) hd7 hr7 (o := .own r7) (u := .ins (He.ga K "Wrapping") d7 []) (v := .ins (He.ga K "Wrapping") d7 [("modulus", .int ((13 : Nat) : Int))])
  have g7 : Reg K _ r7 (.md 13) := .md (H := upd (upd (upd H7 d7 (.own r7)) r7 (.ins (He.ga K "Wrapping") d7 [])) r7 (.ins (He.ga K "Wrapping") d7 [("modulus", .int ((13 : Nat) : Int))])) upd_same (by decide) (by decide)
  generalize upd (upd (upd H7 d7 (.own r7)) r7 (.ins (He.ga K "Wrapping") d7 [])) r7 (.ins (He.ga K "Wrapping") d7 [("modulus", .int ((13 : Nat) : Int))]) = H8 at S7 g7 ⊢
  refine ⟨(by show (8 : Nat) ≤ sizeLine; rw [sizeLine_eq]; decide), fun L hL => ?_⟩
  have S8 : Same H8 (upd H8 L (.lst [.ref r0, .ref r1, .ref r2, .ref r3, .ref r4, .ref r5, .ref r6, .ref r7])) := Same.upd hL
  have t7 : Same H7 _ := fun c o h => S8 c o (S7 c o h)
  have t6 : Same H6 _ := fun c o h => t7 c o (S6 c o h)
  have t5 : Same H5 _ := fun c o h => t6 c o (S5 c o h)
  have t4 : Same H4 _ := fun c o h => t5 c o (S4 c o h)
  have t3 : Same H3 _ := fun c o h => t4 c o (S3 c o h)
  have t2 : Same H2 _ := fun c o h => t3 c o (S2 c o h)
  have t1 : Same H1 _ := fun c o h => t2 c o (S1 c o h)
  refine nx _ _ ⟨x1, x2, x3, L, [r0, r1, r2, r3, r4, r5, r6, r7], none, none, rfl, upd_same, rfl, fun i r k h1 h2 => ?_⟩
  have hi : i < 8 := (List.getElem?_eq_some_iff.mp h1).1
  match i, hi, h1, h2 with
  | 0, _, h1, h2 => cases h1; cases h2; exact g0.same t1
  | 1, _, h1, h2 => cases h1; cases h2; exact g1.same t2
  | 2, _, h1, h2 => cases h1; cases h2; exact g2.same t3
  | 3, _, h1, h2 => cases h1; cases h2; exact g3.same t4
  | 4, _, h1, h2 => cases h1; cases h2; exact g4.same t5
  | 5, _, h1, h2 => cases h1; cases h2; exact g5.same t6
  | 6, _, h1, h2 => cases h1; cases h2; exact g6.same t7
  | 7, _, h1, h2 => cases h1; cases h2; exact g7.same S8
end
end K23
set_option Elab.async false
set_option linter.all false
set_option maxRecDepth 100000
set_option maxHeartbeats 4000000
namespace K23
open PySem PySem.Spec PyProof.Rows L2 Pre Dfs Vls
def kd8 (i : Nat) : Kd := ks8.getD i .pl
def fJ (j i : Nat) : Bool := eqK (kd8 i) (some (kd8 j))
def exJ (j : Nat) : List Nat := if j = 2 ∨ j = 5 then [2, 5] else [j]
theorem flt : ∀ j, j < 8 → (List.range 8).filter (fJ j) = exJ j := by decide +kernel
theorem kd8_at {i : Nat} (h : i < 8) : ks8[i]? = some (kd8 i) := by
  unfold kd8
  rw [List.getD_eq_getElem?_getD]
  have hl : i < ks8.length := h
  rw [List.getElem?_eq_getElem hl]
  rfl
theorem in25 : ∀ j : Nat, j < 8 → inV (.int ((0 : Int) + (j : Int))) [.int 2, .int 5] = decide (j = 2 ∨ j = 5) := by decide +kernel
def gotV (j i : Nat) : List V := ((List.range i).filter (fJ j)).map fun (k : Nat) => V.int (k : Int)
theorem got_yes {j i : Nat} (h : fJ j i = true) : gotV j (i + 1) = gotV j i ++ [V.int (i : Int)] := by
  unfold gotV
  rw [List.range_succ, List.filter_append, List.map_append, List.filter_cons_of_pos h]
  rfl
theorem got_no {j i : Nat} (h : fJ j i = false) : gotV j (i + 1) = gotV j i := by
  unfold gotV
  rw [List.range_succ, List.filter_append, List.filter_cons_of_neg (by rw [h]; decide), List.filter_nil, List.append_nil]
theorem got_len (j i : Nat) : (gotV j i).length ≤ i := by
  unfold gotV
  rw [List.length_map]
  exact Nat.le_trans (List.length_filter_le _ _) (by rw [List.length_range]; exact Nat.le_refl i)
theorem shaped_lst (ns : List Int) : SeqAt.shaped (.list (ns.map PyData.int)) = true ∧ PyData.canLay0 (.list (ns.map PyData.int)) = true := by
  have h := depth_ints ns
  have h2 := canLay_ints ns
  have e1 : PyData.canLay0 (.list (ns.map PyData.int)) = true := by simp only [PyData.canLay0]; exact h2
  have e2 : PyData.depth (.list (ns.map PyData.int)) ≤ 64 := by simp only [PyData.depth]; omega
  refine ⟨?_, e1⟩
  unfold SeqAt.shaped
  rw [e1, decide_eq_true e2]
  rfl
section
variable {P : Program} {w : World} {K : PySem.W.Frag} {mg : Str → Option Value} {base : Heap} {cdv : Value} {A : Around} {outer : List Env} {s : Shared} {H0 : Hp} {E : XK}
variable (a : Addr) (ns : List Int)
theorem sl3 (T : Tx K mg) (hr : Room 11 (XL P w K mg base cdv A outer s H0 E).A) : PS (XL P w K mg base cdv A outer s H0 E) (stL 3) (tPP (L3 a K) (L3 a K)) := by
  refine PS.pp (ps_for (passes_of rfl) rfl (pi_range1 (by rfl) T.f_range (pa_cons (pe_callB call_len_seq (by rfl) T.f_len PySem.boot_len (pa_cons (pv 4) pa_nil)) pa_nil)) (pg_name (i := 5) ndL rfl (Or.inr rfl))
    (pss_one (ps_if (pt_cmpR (op_neD hr.units) (pe_lc rfl ndL (pi_range1 (by rfl) T.f_range (pa_cons (pe_callB call_len_seq (by rfl) T.f_len PySem.boot_len (pa_cons (pv 4) pa_nil)) pa_nil)) (own := [("_law_at", 7)]) (blk_by (by kernel_rfl)) (fun _ _ _ _ _ => pg_name (i := 7) ndL rfl (Or.inl rfl))
        (fun _ _ _ _ _ => pts_one (pt_cmpR (r := rEqR K) (op_eqR (X := Cx.blk _ _ _ _ _ _) T (hr.mono (by decide))) (pe_ix (r := rIxL K) ix_list (pv 4) (pe_var (i := 7) rfl (Or.inl rfl)) (fun _ _ => rfl)) (pe_ix (r := rIxL K) ix_list (pv 4) (pv 5) (fun _ _ => rfl)) (nomark _)))
        (fun _ _ _ _ _ => pe_var (i := 7) rfl (Or.inl rfl)))
      (pe_ifExp (pt_cmpR op_in_seq (pv 5) (pe_tup (pa_cons pe_int (pa_cons pe_int pa_nil))) (by rfl)) (pe_lst (pa_cons pe_int (pa_cons pe_int pa_nil))) (pe_lst (pa_cons (pv 5) pa_nil))) (nomark _)) (pss_one (ps_ret pe_bl)) pss_nil))) (fun D σ H q nx => ?_)
  have q0 := q
  obtain ⟨x1, x2, x3, L, rs, x5, x6, rfl, f⟩ := q
  have hlen : (rs.map V.ref).length = 8 := by rw [List.length_map, f.len]
  refine ⟨_, rfl, L, _, rfl, .inl (SqL.of f.at_), ?_⟩
  rw [hlen]
  refine ⟨8, rfl, by decide, by decide, ?_⟩
  refine for_it (walk_range (lo := 0) (n := 8)) (fun i σ H1 => L3 a K σ H1) q0 (fun _ _ _ _ _ => True.intro) (fun j v σ H1 H2 hj z y => ?_) (fun σ H1 z => nx _ _ z)
  obtain ⟨rfl, rfl⟩ := y
  clear q0 hlen f x1 x2 x3 x5 x6 rs L
  obtain ⟨x1, x2, x3, L, rs, x5, x6, rfl, f⟩ := z
  have hlen : (rs.map V.ref).length = 8 := by rw [List.length_map, f.len]
  obtain ⟨rj, hrj⟩ : ∃ r, rs[j]? = some r := ⟨rs[j]'(by rw [f.len]; omega), List.getElem?_eq_getElem _⟩
  have hrj2 : (rs.map V.ref)[j]? = some (V.ref rj) := by
    rw [List.getElem?_map, hrj]
    rfl
  have ej : V.int ((0 : Int) + (j : Int)) = V.int (j : Int) := congrArg V.int (Int.zero_add _)
  refine ⟨_, rfl, L, _, rfl, .inl (SqL.of f.at_), ?_⟩
  rw [hlen]
  refine ⟨8, rfl, by decide, by decide, fun D1 hD => ?_⟩
  refine lc_it (walk_range (lo := 0) (n := 8)) (fun i H3 => Same H2 H3 ∧ H3 D1 = some (.lst (gotV j i))) ⟨Same.upd hD, upd_same⟩ (fun _ _ _ _ => True.intro) (fun i x H3 H4 hi z y => ?_) (fun H3 z => ?_)
  · obtain ⟨rfl, rfl⟩ := y
    have f2 := f.same z.1
    have hDn := same_none (Same.refl H2) hD
    obtain ⟨ri, hri⟩ : ∃ r, rs[i]? = some r := ⟨rs[i]'(by rw [f.len]; omega), List.getElem?_eq_getElem _⟩
    have hri2 : (rs.map V.ref)[i]? = some (V.ref ri) := by
      rw [List.getElem?_map, hri]
      rfl
    refine ⟨rfl, ?_⟩
    refine ⟨_, rfl, _, rfl, L, _, _, _, rfl, rfl, SqL.of f2.at_, by rw [Int.zero_add]; exact atI_nat hri2, ?_⟩
    refine ⟨_, rfl, _, rfl, L, _, _, _, rfl, rfl, SqL.of f2.at_, by rw [Int.zero_add]; exact atI_nat hrj2, ?_⟩
    refine ⟨ri, kd8 i, some (kd8 j), rfl, f2.reg i ri _ hri (kd8_at hi), .reg (f2.reg j rj _ hrj (kd8_at hj)), fun H5 S5 => ?_⟩
    have z2 := S5 _ _ z.2
    have s5 : Same H2 H5 := fun c o h => S5 c o (z.1 c o h)
    refine ⟨_, rfl, ?_⟩
    have efj : eqK (kd8 i) (some (kd8 j)) = fJ j i := rfl
    rw [efj]
    refine ite3 (fun h => ?_) (fun h => ?_)
    · refine ⟨_, rfl, _, z2, ?_, Same.put s5 hDn, ?_⟩
      · have := got_len j i
        rw [sizeLine_eq]
        omega
      · rw [upd_same, got_yes h]
        exact congrArg (fun v => some (HO.lst (gotV j i ++ [v]))) (congrArg V.int (Int.zero_add _))
    · refine ⟨s5, ?_⟩
      rw [got_no h]
      exact z2
  · have hg : gotV j 8 = (exJ j).map fun (k : Nat) => V.int (k : Int) := by
      unfold gotV
      rw [flt j hj]
    have z2 := z.2
    rw [hg] at z2
    have c2 : (2 : Nat) ≤ sizeLine := by rw [sizeLine_eq]; decide
    have fin : ∀ (H4 : Hp) (b : Addr), Same H3 H4 → H4 b = some (.lst ((exJ j).map fun (k : Nat) => V.int (k : Int))) → ∃ d e, Dp K H4 (.ref D1) d ∧ Dp K H4 (.ref b) e ∧ SeqAt.shaped d = true ∧ SeqAt.shaped e = true ∧ PyData.eqv d e = true := fun H4 b S4 hb => by
      have sh := shaped_lst ((exJ j).map fun (k : Nat) => ((k : Nat) : Int))
      rw [← data_ints] at sh
      exact ⟨_, _, .lst (SqL.of (S4 _ _ z2)) (dp_ivs (exJ j)), .lst (SqL.of hb) (dp_ivs (exJ j)), sh.1, sh.1, PySem.SeqAt.eqv_refl _ sh.2⟩
    refine ⟨_, rfl, c2, fun u hu => ?_⟩
    have s1 := Same.upd (o := .tup [.int 2, .int 5]) hu
    refine ⟨u, _, rfl, .inr (SqT.of upd_same), rfl, rfl, _, rfl, ?_⟩
    rw [in25 j hj]
    refine ite3 (fun h => ?_) (fun h => ?_)
    · have hc := of_decide_eq_true h
      refine ⟨c2, fun b hb => ?_⟩
      have s2 := Same.upd (o := .lst [.int 2, .int 5]) hb
      have s12 : Same H3 _ := fun c o h => s2 c o (s1 c o h)
      have ee : exJ j = [2, 5] := if_pos hc
      obtain ⟨d, e, p1, p2, p3, p4, p5⟩ := fin _ b s12 (by rw [ee, upd_same]; rfl)
      refine ⟨d, e, p1, p2, p3, p4, _, rfl, ?_⟩
      rw [p5]
      exact ite3 (fun h => by cases h) (fun _ => ⟨_, _, _, _, rs, _, _, rfl, (f.same z.1).same s12⟩)
    · have hc := of_decide_eq_false h
      refine ⟨_, rfl, (by show (1 : Nat) ≤ sizeLine; rw [sizeLine_eq]; decide), fun b hb => ?_⟩
      have s2 := Same.upd (o := .lst [.int ((0 : Int) + (j : Int))]) hb
      have s12 : Same H3 _ := fun c o h => s2 c o (s1 c o h)
      have ee : exJ j = [j] := if_neg hc
      obtain ⟨d, e, p1, p2, p3, p4, p5⟩ := fin _ b s12 (by rw [ee, upd_same, ej]; rfl)
      refine ⟨d, e, p1, p2, p3, p4, _, rfl, ?_⟩
      rw [p5]
      exact ite3 (fun h => by cases h) (fun _ => ⟨_, _, _, _, rs, _, _, rfl, (f.same z.1).same s12⟩)
end
end K23
set_option Elab.async false
set_option linter.all false
set_option maxRecDepth 100000
set_option maxHeartbeats 4000000
namespace K23
open PySem PySem.Spec PyProof.Rows L2 Pre Dfs Vls
def wrK : Kd → Bool
  | .md _ => true
  | .dl _ => true
  | _ => false
theorem Reg.two {K : PySem.W.Frag} {mg : Str → Option Value} (T : Tx K mg) {H : Hp} {r : Addr} {k : Kd} (g : Reg K H r k) : ∃ tt, TyX K H (.ref r) tt ∧ PySem.W.kitOne K tt (.ref (He.ga K "Register")) = some true ∧ PySem.W.kitOne K tt (.ref (He.ga K "Wrapping")) = some (wrK k) := by
  cases g with
  | pl e => exact ⟨_, T.is_Plain.ty T.c_Plain e, T.k_Plain_Register, T.k_Plain_Wrapping⟩
  | rs e => exact ⟨_, T.is_Restarting.ty T.c_Restarting e, T.k_Restarting_Register, T.k_Restarting_Wrapping⟩
  | md e h2 h3 => exact ⟨_, T.is_Wrapping.ty T.c_Wrapping e, T.k_Wrapping_Register, T.k_Wrapping_Wrapping⟩
  | dl e ht h1 h2 h3 => exact ⟨_, T.is_Dials.ty T.c_Dials e, T.k_Dials_Register, T.k_Dials_Wrapping⟩
def bB (g : Kd → Bool) (i : Nat) : List Bool := (List.range i).map fun j => g (kd8 j)
theorem bB_next (g : Kd → Bool) (i : Nat) : (bB g i).map V.bl ++ [V.bl (g (kd8 i))] = (bB g (i + 1)).map V.bl := by
  unfold bB
  rw [List.range_succ, List.map_append, List.map_append]
  rfl
theorem bB_len (g : Kd → Bool) (i : Nat) : (bB g i).length = i := by
  unfold bB
  rw [List.length_map, List.length_range]
def toldB : List Bool := [true, true, true, true, true, true, true, true, false, true, true, true, true, true, false, true]
section
variable {P : Program} {w : World} {K : PySem.W.Frag} {mg : Str → Option Value} {base : Heap} {cdv : Value} {A : Around} {outer : List Env} {s : Shared} {H0 : Hp} {E : XK}
variable (a : Addr)
def L4 (K : PySem.W.Frag) : L2.St → Hp → Prop := fun σ H => ∃ x1 x2 x3 L rs x5 B, σ = [some (.ref a), x1, x2, x3, some (.ref L), x5, some (.ref B), none, none] ∧ R8 K H L rs ∧ H B = some (.lst (toldB.map V.bl))
theorem sl4 (T : Tx K mg) (hr : Room 11 (XL P w K mg base cdv A outer s H0 E).A) : PS (XL P w K mg base cdv A outer s H0 E) (stL 4) (tPP (L3 a K) (L4 a K)) := by
  refine PS.pp (ps_set (i := 6) ndL rfl (Or.inl rfl) (pe_op op_cat
    (pe_lc rfl ndL (pi_list (pv 4)) (own := [("_law_display", 8)]) (blk_by (by kernel_rfl)) (fun _ _ _ _ _ => pg_name (i := 8) ndL rfl (Or.inl rfl)) (fun _ _ _ _ _ => pts_nil)
      (fun _ _ _ _ _ => pe_callB (id := "isinstance") (r := rIsi K) call_isi (by rfl) T.f_isinstance (by decide +kernel) (pa_cons (pe_var (i := 8) rfl (Or.inl rfl)) (pa_cons (pe_glob (v := .ref (He.ga K "Register")) (by rfl) T.g_Register rfl) pa_nil))))
    (pe_lc rfl ndL (pi_list (pv 4)) (own := [("_law_display", 8)]) (blk_by (by kernel_rfl)) (fun _ _ _ _ _ => pg_name (i := 8) ndL rfl (Or.inl rfl)) (fun _ _ _ _ _ => pts_nil)
      (fun _ _ _ _ _ => pe_callB (id := "isinstance") (r := rIsi K) call_isi (by rfl) T.f_isinstance (by decide +kernel) (pa_cons (pe_var (i := 8) rfl (Or.inl rfl)) (pa_cons (pe_glob (v := .ref (He.ga K "Wrapping")) (by rfl) T.g_Wrapping rfl) pa_nil)))))) (fun D σ H q nx => ?_)
  obtain ⟨x1, x2, x3, L, rs, x5, x6, rfl, f⟩ := q
  have hlen : (rs.map V.ref).length = 8 := by rw [List.length_map, f.len]
  have at_ : ∀ {i : Nat} {x : V}, (rs.map V.ref)[i]? = some x → ∃ r, x = .ref r ∧ rs[i]? = some r ∧ i < 8 := fun {i x} h => by
    rw [List.getElem?_map] at h
    cases e : rs[i]? with
    | none =>
      rw [e] at h
      cases h
    | some r =>
      rw [e] at h
      have := (List.getElem?_eq_some_iff.mp e).1
      exact ⟨r, (Option.some.inj h).symm, rfl, by rw [f.len] at this; exact this⟩
  refine ⟨_, rfl, L, rfl, ⟨_, SqL.of f.at_⟩, fun D1 hD => ?_⟩
  refine lc_it (walk_list (xs := rs.map V.ref)) (fun i H1 => Same H H1 ∧ H1 D1 = some (.lst ((bB (fun _ => true) i).map V.bl))) ⟨Same.upd hD, upd_same⟩ (fun i H1 _ z => SqL.of (z.1 _ _ f.at_)) (fun i x H1 H3 hi z y => ?_) (fun H1 z => ?_)
  · obtain ⟨rfl, hx⟩ := y
    obtain ⟨r, rfl, hr1, hi8⟩ := at_ hx
    obtain ⟨tt, ty, k1, k2⟩ := ((f.same z.1).reg i r _ hr1 (kd8_at hi8)).two T
    refine ⟨rfl, ?_⟩
    unfold tYes
    refine ite3 (fun _ => ?_) (fun h => by cases h)
    refine ⟨_, rfl, _, _, _, _, _, rfl, .own _, ty, k1, _, z.2, ?_, Same.put z.1 hD, ?_⟩
    · rw [List.length_map, bB_len, sizeLine_eq]
      omega
    · rw [upd_same, ← bB_next]
  · have z2 := z.2
    rw [hlen] at z2
    refine ⟨_, rfl, L, rfl, ⟨_, SqL.of (z.1 _ _ f.at_)⟩, fun D2 hD2 => ?_⟩
    have f1 := f.same z.1
    refine lc_it (walk_list (xs := rs.map V.ref)) (fun i H3 => Same H1 H3 ∧ H3 D2 = some (.lst ((bB wrK i).map V.bl))) ⟨Same.upd hD2, upd_same⟩ (fun i H3 _ y => SqL.of (y.1 _ _ f1.at_)) (fun i x H3 H4 hi y yy => ?_) (fun H3 y => ?_)
    · obtain ⟨rfl, hx⟩ := yy
      obtain ⟨r, rfl, hr1, hi8⟩ := at_ hx
      obtain ⟨tt, ty, k1, k2⟩ := ((f1.same y.1).reg i r _ hr1 (kd8_at hi8)).two T
      refine ⟨rfl, ?_⟩
      unfold tYes
      refine ite3 (fun _ => ?_) (fun h => by cases h)
      refine ⟨_, rfl, _, _, _, _, _, rfl, .own _, ty, k2, _, y.2, ?_, Same.put y.1 hD2, ?_⟩
      · rw [List.length_map, bB_len, sizeLine_eq]
        omega
      · rw [upd_same, ← bB_next]
    · have y2 := y.2
      rw [hlen] at y2
      have z3 := y.1 _ _ z2
      refine ⟨D1, D2, _, _, rfl, rfl, z3, y2, by rw [List.length_map, List.length_map, bB_len, bB_len, sizeLine_eq]; decide, fun B hB => ?_⟩
      have sB := Same.upd (o := .lst ((bB (fun _ => true) 8).map V.bl ++ (bB wrK 8).map V.bl)) hB
      exact nx _ _ ⟨x1, x2, x3, L, rs, x5, B, rfl, (f1.same y.1).same sB, by rw [upd_same]; rfl⟩
end
end K23
set_option Elab.async false
set_option linter.all false
set_option maxRecDepth 100000
set_option maxHeartbeats 4000000
namespace K23
open PySem PySem.Spec PyProof.Rows L2 Pre Dfs Vls
theorem dp_bls {K : PySem.W.Frag} {H : Hp} : ∀ bs : List Bool, DpAll K H (bs.map V.bl) (bs.map PyData.bool)
  | [] => .nil
  | b :: bs => .cons (.bl b) (dp_bls bs)
def toldD : PyData := .list (toldB.map PyData.bool)
theorem toldD_ok : SeqAt.shaped toldD = true ∧ PyData.canLay0 toldD = true := by
  have e1 : PyData.canLay0 toldD = true := by
    unfold toldD toldB
    simp only [List.map_cons, List.map_nil, PyData.canLay0, PyData.canLayAll0, Bool.true_and]
  have e2 : PyData.depth toldD ≤ 64 := by
    unfold toldD toldB
    simp only [List.map_cons, List.map_nil, PyData.depth, PyData.depthAll, Nat.max_def]
    decide
  refine ⟨?_, e1⟩
  unfold SeqAt.shaped
  rw [e1, decide_eq_true e2]
  rfl
section
variable {P : Program} {w : World} {K : PySem.W.Frag} {mg : Str → Option Value} {base : Heap} {cdv : Value} {A : Around} {outer : List Env} {s : Shared} {H0 : Hp} {E : XK}
variable (a : Addr)
theorem sl5 (T : Tx K mg) (hopq : Sup.Opq base) (hf : ((P.main.file : Str) == PySem.Challenge.pw_gaugeroad_k23_registers_and_their_readin.main.file) = true) (ht : (P.main.scope.names.lookup ("super" : Str)).isSome = false)
    (hr : Room 11 (XL P w K mg base cdv A outer s H0 E).A) : PS (XL P w K mg base cdv A outer s H0 E) (stL 5) (tPP (L4 a K) (L3 a K)) := by
  have Rd := r_dials (P := P) (w := w) (base := base) T hopq hf ht
  refine PS.pp (ps_if (PW.pt (pw_or (pt_cmpR (op_neD hr.units) (pv 6) (pe_op op_cat (pe_op op_rep (pe_lst (pa_cons pe_bl pa_nil)) pe_int)
      (pe_lst (pa_cons pe_bl (pa_cons pe_bl (pa_cons pe_bl (pa_cons pe_bl (pa_cons pe_bl (pa_cons pe_bl (pa_cons pe_bl (pa_cons pe_bl pa_nil)))))))))) (nomark _))
    (pw_or1 (pt_cmpR (op_neD hr.units) (fld (StX.pe_makeR T.k_Dials Rd (hr.mono (by decide)) (by rfl) T.g_Dials (E := E) p0 (pa_cons pe_int (pa_cons pe_int pa_nil)))) (pe_tup (pa_cons pe_int (pa_cons pe_int pa_nil))) (nomark _))))) (pss_one (ps_ret pe_bl)) pss_nil) (fun D σ H q nx => ?_)
  obtain ⟨x1, x2, x3, L, rs, x5, B, rfl, f, hB⟩ := q
  refine ⟨_, rfl, (by show (1 : Nat) ≤ sizeLine; rw [sizeLine_eq]; decide), fun u1 hu1 => ?_⟩
  have s1 := Same.upd (o := .lst [.bl true]) hu1
  refine ⟨u1, 8, _, rfl, rfl, upd_same, by decide, by decide, (by rw [sizeLine_eq]; decide), fun u2 hu2 => ?_⟩
  have s2 := Same.upd (o := .lst (List.replicate (Int.toNat 8) [V.bl true]).flatten) hu2
  refine ⟨(by show (8 : Nat) ≤ sizeLine; rw [sizeLine_eq]; decide), fun u3 hu3 => ?_⟩
  have s3 := Same.upd (o := .lst [.bl false, .bl true, .bl true, .bl true, .bl true, .bl true, .bl false, .bl true]) hu3
  have e2 := s3 u2 (.lst (List.replicate (Int.toNat 8) [V.bl true]).flatten) upd_same
  refine ⟨u2, u3, _, _, rfl, rfl, e2, upd_same, (by rw [sizeLine_eq]; decide), fun u4 hu4 => ?_⟩
  have s4 := Same.upd (o := .lst ((List.replicate (Int.toNat 8) [V.bl true]).flatten ++ [.bl false, .bl true, .bl true, .bl true, .bl true, .bl true, .bl false, .bl true])) hu4
  have s14 : Same H _ := fun c o h => s4 c o (s3 c o (s2 c o (s1 c o h)))
  have e4 : (upd (upd (upd (upd H u1 (.lst [.bl true])) u2 (.lst (List.replicate (Int.toNat 8) [V.bl true]).flatten)) u3 (.lst [.bl false, .bl true, .bl true, .bl true, .bl true, .bl true, .bl false, .bl true])) u4 (.lst ((List.replicate (Int.toNat 8) [V.bl true]).flatten ++ [.bl false, .bl true, .bl true, .bl true, .bl true, .bl true, .bl false, .bl true]))) u4 = some (.lst (toldB.map V.bl)) := by
    rw [upd_same]
    rfl
  generalize upd (upd (upd (upd H u1 (.lst [.bl true])) u2 (.lst (List.replicate (Int.toNat 8) [V.bl true]).flatten)) u3 (.lst [.bl false, .bl true, .bl true, .bl true, .bl true, .bl true, .bl false, .bl true])) u4 (.lst ((List.replicate (Int.toNat 8) [V.bl true]).flatten ++ [.bl false, .bl true, .bl true, .bl true, .bl true, .bl true, .bl false, .bl true])) = H4 at s14 e4 ⊢
  refine ⟨toldD, toldD, .lst (SqL.of (s14 _ _ hB)) (dp_bls toldB), .lst (SqL.of e4) (dp_bls toldB), toldD_ok.1, toldD_ok.1, _, rfl, ?_⟩
  rw [PySem.SeqAt.eqv_refl _ toldD_ok.2]
  refine ite3 (fun h => by cases h) (fun _ => ?_)
  have f4 := f.same s14
  refine fun r d hr0 hd0 _ => ⟨r, d, [4, 6], rfl, upd_same, by decide, by decide, by decide, fun H5 b5 g5 => ⟨rfl, ?_⟩⟩
  have S5 : Same H4 H5 := same_but hr0 (Same.put (Same.put (Same.refl H4) hd0) hr0) b5
  cases g5 with
  | dl e ht h1 h2 h3 =>
    rename_i dx tp
    refine ⟨r, _, _, _, _, rfl, e, T.c_Dials, T.n_Dials_periods, rfl, (by show (2 : Nat) ≤ sizeLine; rw [sizeLine_eq]; decide), fun u hu => ?_⟩
    have s6 := Same.upd (o := .tup [.int 4, .int 6]) hu
    have sh := shaped_tup [(4 : Int), 6]
    have cl : PyData.canLay0 (.tuple ([(4 : Int), 6].map PyData.int)) = true := by
      simp only [PyData.canLay0]
      exact canLay_ints _
    refine ⟨.tuple ([(4 : Int), 6].map PyData.int), .tuple ([(4 : Int), 6].map PyData.int), .tup (SqT.of (s6 _ _ ht)) (dp_ints [(4 : Int), 6]), .tup (SqT.of upd_same) (dp_ints [(4 : Int), 6]), sh, sh, _, rfl, ?_⟩
    rw [PySem.SeqAt.eqv_refl _ cl]
    exact ite3 (fun h => by cases h) (fun _ => nx _ _ ⟨x1, x2, x3, L, rs, x5, _, rfl, (f4.same S5).same s6⟩)
theorem sl6 (T : Tx K mg) (hr : Room 11 (XL P w K mg base cdv A outer s H0 E).A) : PS (XL P w K mg base cdv A outer s H0 E) (stL 6) (tPR (L3 a K) (fun _ => True)) := by
  refine PS.pr (ps_ret (pe_cmpR (op_eqD hr.units) (pe_lst (pa_cons (Dfs.pe_m (pe_ix ix_list (pv 4) pe_int (fun _ _ => rfl)) (m_isrdY T (.dl [4, 6])).mfn (hr.mono (by decide)) (E := E) p0 (pa_cons (pe_tup (pa_cons pe_int (pa_cons pe_int pa_nil))) pa_nil))
    (pa_cons (Dfs.pe_m (pe_ix ix_list (pv 4) pe_int (fun _ _ => rfl)) (m_totX T (.dl [4, 6])).mfn (hr.mono (by decide)) (E := fun _ _ _ => False) pF (pa_cons (pe_tup (pa_cons pe_int (pa_cons pe_int pa_nil))) pa_nil))
    (pa_cons (Dfs.pe_m (pe_ix ix_list (pv 4) pe_int (fun _ _ => rfl)) (m_btw T (.dl [4, 6])) (hr.mono (by decide)) (E := fun _ _ _ => False) pF (pa_cons (pe_tup (pa_cons pe_int (pa_cons pe_int pa_nil))) (pa_cons (pe_tup (pa_cons pe_int (pa_cons pe_int pa_nil))) pa_nil))) pa_nil))))
    (pe_lst (pa_cons pe_bl (pa_cons pe_int (pa_cons pe_int pa_nil)))) (nomark _))) (fun D σ H q fin => ?_)
  obtain ⟨x1, x2, x3, L, rs, x5, x6, rfl, f⟩ := q
  have c2 : (2 : Nat) ≤ sizeLine := by rw [sizeLine_eq]; decide
  have c3 : (3 : Nat) ≤ sizeLine := by rw [sizeLine_eq]; decide
  obtain ⟨r, hr3⟩ : ∃ r, rs[3]? = some r := ⟨rs[3]'(by rw [f.len]; decide), List.getElem?_eq_getElem _⟩
  have hr4 : (rs.map V.ref)[3]? = some (V.ref r) := by
    rw [List.getElem?_map, hr3]
    rfl
  have g := f.reg 3 r (.dl [4, 6]) hr3 rfl
  obtain ⟨dx, fls, ei, _, hl2, hl3⟩ := g.ins
  have ht0 : ∃ dx fls, H r = some (.ins (CK K (.dl [4, 6])) dx fls) ∧ fls.lookup ("total_of" : Str) = none := by
    cases g with
    | dl e ht h1 h2 h3 => exact ⟨_, _, e, rfl⟩
  obtain ⟨dx2, fls2, ei2, ht2⟩ := ht0
  refine ⟨_, rfl, L, _, _, _, rfl, rfl, SqL.of f.at_, atI_nat (j := 3) hr4, r, dx, fls, rfl, ei, hl2, c2, fun u1 hu1 => ?_⟩
  have s1 := Same.upd (o := .tup [.int 1, .int 2]) hu1
  have nf : ¬ ∃ n, Fit [4, 6].length n [4, 6] [1, 2] := fun ⟨n, h⟩ => by
    have h1 := h 0 4 1 (by decide) rfl rfl
    have h2 := h 1 6 2 (by decide) rfl rfl
    omega
  have lt : ∀ (j c x : Nat), ([4, 6] : List Nat)[j]? = some c → ([1, 2] : List Nat)[j]? = some x → x < c := fun j c x h1 h2 => by
    match j, h1, h2 with
    | 0, h1, h2 => cases h1; cases h2; decide
    | 1, h1, h2 => cases h1; cases h2; decide
  refine ⟨r, .ref u1, false, rfl, g.same s1, .dlF (ns := [1, 2]) upd_same rfl lt ⟨(fun h => by cases h), fun h => absurd h nf⟩, fun H1 S1 => ?_⟩
  have t1 : Same H H1 := fun c o h => S1 c o (s1 c o h)
  refine ⟨_, rfl, L, _, _, _, rfl, rfl, SqL.of (t1 _ _ f.at_), atI_nat (j := 3) hr4, r, dx2, fls2, rfl, t1 _ _ ei2, ht2, c2, fun u2 hu2 => ?_⟩
  have s2 := Same.upd (o := .tup [.int 1, .int 5]) hu2
  refine ⟨r, .ref u2, 5, 0, rfl, (g.same t1).same s2, .dl upd_same, Int.le_refl _, fun H2 S2 => ?_⟩
  have t2 : Same H H2 := fun c o h => S2 c o (s2 c o (t1 c o h))
  refine ⟨_, rfl, L, _, _, _, rfl, rfl, SqL.of (t2 _ _ f.at_), atI_nat (j := 3) hr4, r, dx, fls, rfl, t2 _ _ ei, hl3, c2, fun u3 hu3 => ⟨c2, fun u4 hu4 => ?_⟩⟩
  have s3 := Same.upd (o := .tup [.int 1, .int 5]) hu3
  have s4 := Same.upd (o := .tup [.int 3, .int 1]) hu4
  have e3 := s4 u3 (.tup [.int 1, .int 5]) upd_same
  refine ⟨r, .ref u3, .ref u4, 5, 7, 0, 0, rfl, ((g.same t2).same s3).same s4, .dl e3, .dl upd_same, Int.le_refl _, Int.le_refl _, fun H3 S3 => ?_⟩
  refine ⟨c3, fun b hb => ⟨c3, fun b2 hb2 => ?_⟩⟩
  have s5 := Same.upd (o := .lst [.bl false, .int 5, .int 2]) hb2
  have v2 : totV (.dl [4, 6]) 5 = V.int 5 := rfl
  have v3 : btw (.dl [4, 6]) 5 0 7 0 = V.int 2 := rfl
  have e5 : upd (upd H3 b (.lst [.bl false, totV (.dl [4, 6]) 5, btw (.dl [4, 6]) 5 0 7 0])) b2 (.lst [.bl false, .int 5, .int 2]) b = some (.lst [.bl false, .int 5, .int 2]) := s5 _ _ (by rw [upd_same, v2, v3])
  have it : ∀ Hx : Hp, DpAll K Hx [.bl false, .int 5, .int 2] [.bool false, .int 5, .int 2] := fun Hx => .cons (.bl _) (.cons (.int _) (.cons (.int _) .nil))
  have cl : PyData.canLay0 (.list [.bool false, .int 5, .int 2]) = true := by simp only [PyData.canLay0, PyData.canLayAll0, Bool.true_and]
  have sh : SeqAt.shaped (.list [.bool false, .int 5, .int 2]) = true := by
    unfold SeqAt.shaped
    have e2 : PyData.depth (.list [.bool false, .int 5, .int 2]) ≤ 64 := by
      simp only [PyData.depth, PyData.depthAll, Nat.max_def]
      decide
    rw [cl, decide_eq_true e2]
    rfl
  refine ⟨_, _, .lst (SqL.of e5) (it _), .lst (SqL.of upd_same) (it _), sh, sh, ?_⟩
  rw [PySem.SeqAt.eqv_refl _ cl]
  exact fin _ True.intro
end
end K23
set_option Elab.async false
set_option linter.all false
set_option maxRecDepth 100000
set_option maxHeartbeats 4000000
namespace K23
open PySem PySem.Spec PyProof.Rows L2 Pre Dfs Vls
section
variable {P : Program} {w : World} {K : PySem.W.Frag} {mg : Str → Option Value} {base : Heap}
def spLaw (K : PySem.W.Frag) : Sp := fun vs H Q _ => ∃ (a : Addr) (ns : List Int), vs = [.ref a] ∧ SqL K H a (ns.map V.int) ∧ ns.length ≤ 63 ∧ ∀ H', Q (.bl true) H'
theorem ok_law (T : Tx K mg) {fd : FuncData} (F : FunD K "law" "law" (defArgs s_law) (defBody s_law) (defScope s_law) [] [] (He.ga K "law") fd) (hopq : Sup.Opq base) (hf : ((P.main.file : Str) == PySem.Challenge.pw_gaugeroad_k23_registers_and_their_readin.main.file) = true) (ht : (P.main.scope.names.lookup ("super" : Str)).isSome = false) :
    Shw.FnG P w K mg base CX0 12 (He.ga K "law") fd ["_law_script"] (spLaw K) := by
  refine Shw.okG F (N := NL) ⟨rfl, rfl, rfl, ndL, rfl, by decide +kernel, by decide +kernel⟩ (fun vs H Q E h => ?_) (fun cdv A outer s H vs Q E hr still h => ?_)
  · obtain ⟨_, _, rfl, _⟩ := h
    rfl
  · obtain ⟨a, ns, rfl, sq, hl, q⟩ := h
    rw [bodyL_eq]
    refine ⟨_, pss_cons (sl0 (P := P) (w := w) (K := K) (mg := mg) (base := base) a ns T hr)
      (pss_cons (sl1 a ns T hopq hf ht still hr)
      (pss_cons (sl2 a T hopq hf ht hr)
      (pss_cons (sl3 a T hr)
      (pss_cons (sl4 a T hr)
      (pss_cons (sl5 a T hopq hf ht hr)
      (pss_one (sl6 a T hr))))))), ?_⟩
    exact pp_go ⟨rfl, sq, hl⟩ fun _ _ s1 => pp_go s1 fun _ _ s2 => pp_go s2 fun _ _ s3 => pp_go s3 fun _ _ s4 => pp_go s4 fun _ _ s5 => pp_go s5 fun _ _ s6 => ⟨s6, fun H' _ => q H'⟩
end
end K23
set_option Elab.async false
set_option linter.all false
set_option maxRecDepth 100000
set_option maxHeartbeats 8000000
open PySem PySem.W PySem.Calls PyProof.Rows
theorem PySem.Challenge.cw_gaugeroad_k23_registers_and_their_readin_holds : PySem.Challenge.rw_gaugeroad_k23_registers_and_their_readin.Holds := by
  w_on; o_law
  refine HandSHeadRun.head_imp (r := OpenLaw.row PySem.Challenge.rw_gaugeroad_k23_registers_and_their_readin) (q := view (OpenLaw.row PySem.Challenge.rw_gaugeroad_k23_registers_and_their_readin).prog [0, 46]) (H := K23.hk) (ob := K23.ob) (M := 8000) (loose := K23.names)
    (d := HandSHeadRun.topDef (OpenLaw.row PySem.Challenge.rw_gaugeroad_k23_registers_and_their_readin).prog 46) (kwd := []) K23.ob_eq K23.run
    (by kernel_rfl) (by kernel_rfl) (by kernel_rfl) (by rfl) (by first | assumption | decide +kernel) (by decide +kernel) ⟨rfl, rfl, rfl, rfl, rfl, by decide +kernel⟩ ?hw ?hc
  case hw => w_witness2
  case hc =>
    refine Shw.walkG (l := PySem.Challenge.rw_gaugeroad_k23_registers_and_their_readin) (n := 63) (k := 12) (x := "_law_script") (CX := fun _ => L2.CX0) rfl (by decide) (by kernel_rfl) ⟨rfl, by decide, by decide⟩ ?F (fun _ _ _ _ _ z => z)
    intro w mg fa h Y G hmg0
    obtain ⟨K, KX, c⟩ := Y
    have hmg : mg ("law" : PySem.Str) = some (.ref fa) := by
      have e : (HandSHeadRun.topDef (OpenLaw.row PySem.Challenge.rw_gaugeroad_k23_registers_and_their_readin).prog 46).name = ("law" : PySem.Str) := by kernel_rfl
      rw [← e]
      exact hmg0
    have T : K23.Tx K mg := ⟨c.x.t.d, c.x.more, c.m, h, KX, G⟩
    have ef : fa = He.ga K "law" := by
      have z := hmg.symm.trans T.g_law
      cases z
      rfl
    subst ef
    obtain ⟨fd, F⟩ := T.q_law
    refine ⟨K, KX, fd, [], K23.spLaw K, ?_⟩
    refine ⟨(fun p hp => by cases hp), (fun p hp => by cases hp), (fun p hp => by cases hp), fun s u => F.bindsA (ps := ["_law_script"]) (fun kV doc pm an cdv ct => Vls.bind1 fun a => rfl) s [u] rfl, fun H a ns hl _ hT hS => ⟨a, ns, rfl, hS, hl, fun _ => rfl⟩, fun base KB NB TB => K23.ok_law T F (Hkc.opqB_ok T.opq KB) (by decide +kernel) (by decide +kernel)⟩
