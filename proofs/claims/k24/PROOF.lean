import PyProof.Rows.All
import Wide.All
import OpenK.AllK
import Wide.FinOn
import HandS.ForMost
import HandS.ForExc
import HandS.Codes
import HandS.Evl
import KE.KExcIs
import HandS.IsInst
import HandS.ExcField
import HandS.ExcInit
import HandS.Defaults
import HandS.HeadHook1
import HandS.HeadHook2
import HandS.Lambda
import HandS.EndBits
import HandS.EndTab
import PyProof.ReprRoads
import HandS.Star
import HandS.ClsMeth
import HandS.Property
import HandS.Gcd
import HandS.Zip
import KE.KSuper
import HandS.Nested
import HandS.HeadHook4
import HandS.HeadWalk
import PyProof.InstNe
import KE.KOpsOwn
import KE.KOwnIter
import HandS.ExcValue
import PyProof.TupleIter
import PyProof.WalksMore
import PySem.Challenge.RW_gaugeroad_k24_texts_of_registers
import KE.KStateDown
import Lean
import HandS.Head0
import HandS.Head1
import HandS.Head2
import HandS.Head3
import HandS.HeadEnd
import HandS.Wide
import KE.GoesMore
import HandS.Walk
import PyProof.EnumMake
import HandS.Dict
import HandS.TryOnly
import HandS.Conv
import HandS.Text
import HandS.Iter
import HandS.FStr
import HandS.Steps
import KE.KCallOwn
import HandS.More
import HandS.Style
import KE.KMathG
import PyProof.ReprLen
import PyProof.FitsInt
set_option Elab.async false
set_option linter.all false
set_option maxRecDepth 100000
set_option maxHeartbeats 2000000
namespace Pre
open PySem PySem.Spec PyProof.Rows L2
/-- all but what stands at p is kept -/
def But (p : Addr) (H H' : Hp) : Prop := ∀ b o, b ≠ p → H b = some o → H' b = some o
theorem But.refl (p : Addr) (H : Hp) : But p H H := fun _ _ _ h => h
theorem But.trans {p : Addr} {H H1 H2 : Hp} (a : But p H H1) (b : But p H1 H2) : But p H H2 := fun c o n h => b c o n (a c o n h)
theorem But.of {p : Addr} {H H1 : Hp} (a : Same H H1) : But p H H1 := fun c o _ h => a c o h
theorem But.at_ {p : Addr} {H : Hp} {o : HO} : But p H (upd H p o) := fun c u n h => by
  rw [upd_ne n]
  exact h
theorem But.new {p q : Addr} {H H1 : Hp} {o : HO} (a : But p H H1) (n : H1 q = none) : But p H (upd H1 q o) := fun c u z h => by
  have h1 := a c u z h
  rw [upd_ne (ne_of_none h1 n)]
  exact h1
theorem But.set {p : Addr} {H H1 : Hp} {o : HO} (a : But p H H1) : But p H (upd H1 p o) := fun c u z h => by
  rw [upd_ne z]
  exact a c u z h
theorem Same.new {q : Addr} {H H1 : Hp} {o : HO} (a : Same H H1) (n : H1 q = none) : Same H (upd H1 q o) := fun c u h => by
  have h1 := a c u h
  rw [upd_ne (ne_of_none h1 n)]
  exact h1
theorem Same.upd {q : Addr} {H : Hp} {o : HO} (n : H q = none) : Same H (L2.upd H q o) := fun c u h => by
  rw [upd_ne (ne_of_none h n)]
  exact h
/-! data -/
theorem dp_ints {K : PySem.W.Frag} {H : Hp} : ∀ ns : List Int, DpAll K H (ns.map V.int) (ns.map PyData.int)
  | [] => .nil
  | n :: r => .cons (.int n) (dp_ints r)
theorem canLay_ints : ∀ ns : List Int, PyData.canLayAll0 (ns.map PyData.int) = true
  | [] => by decide
  | n :: r => by
    have h := canLay_ints r
    simp only [List.map_cons, PyData.canLayAll0, PyData.canLay0, Bool.true_and]
    exact h
theorem depth_ints : ∀ ns : List Int, PyData.depthAll (ns.map PyData.int) ≤ 1
  | [] => by decide
  | n :: r => by
    have h := depth_ints r
    simp only [List.map_cons, PyData.depthAll, PyData.depth, Nat.max_def]
    split <;> omega
theorem shaped_ints (ns : List Int) : SeqAt.shaped (.list (ns.map PyData.int)) = true := by
  unfold SeqAt.shaped
  have h := depth_ints ns
  have h2 := canLay_ints ns
  have e1 : PyData.canLay0 (.list (ns.map PyData.int)) = true := by simp only [PyData.canLay0]; exact h2
  have e2 : PyData.depth (.list (ns.map PyData.int)) ≤ 64 := by simp only [PyData.depth]; omega
  rw [e1, decide_eq_true e2]
  rfl
theorem eqv_nil (ns : List Int) : PyData.eqv (.list (ns.map PyData.int)) (.list []) = ns.isEmpty := by
  cases ns with
  | nil => simp [PyData.eqv, PyData.eqvAll]
  | cons y r => simp [PyData.eqv, PyData.eqvAll]
end Pre
set_option Elab.async false
set_option linter.all false
set_option maxRecDepth 100000
set_option maxHeartbeats 2000000
/-! An error that a clause caught and a name keeps: tracked behind the try, asked for its class, read. -/
namespace Kept
open PySem PySem.Spec PyProof.Rows L2

/-- at a: an error of the class cls, its own dict at d -/
def errO (a : Addr) (cls : Value) (d : Option Addr) : HO :=
  .ext fun h => ∃ (ob : Obj) (fl : Array Value), h.get? a = some ob ∧ Zc cls d ob ∧ ob.data = .fields fl

theorem errO_get {P : Program} {w : World} {H : Hp} {h : Heap} {a : Addr} {cls : Value} {d : Option Addr}
    (ok : HOk P w H h) (e : H a = some (errO a cls d)) :
    ∃ (ob : Obj) (fl : Array Value), h.get? a = some ob ∧ Zc cls d ob ∧ ob.data = .fields fl := by
  have z : ObjOk P w H h a (.ext fun h => ∃ (ob : Obj) (fl : Array Value), h.get? a = some ob ∧ Zc cls d ob ∧ ob.data = .fields fl) := ok a _ e
  exact z.1

section
variable {X : Cx} {pins : List (Addr × Obj)} {σ : L2.St} {H : Hp} {s : Shared} {a : Addr} {cls : Value} {d : Option Addr} {ob : Obj} {fl : Array Value}
/-- an untracked object that was made behind the def's entry comes to be tracked -/
theorem track (I : Inv X pins σ H s) (hx : X.ex = []) (new : X.s_0.heap.get? a = none) (at_ : s.heap.get? a = some ob)
    (un : H a = none) (nl : a ≠ X.env.locals) (np : ∀ p ∈ X.pn ++ pins, p.1 ≠ a) (hz : Zc cls d ob) (hf : ob.data = .fields fl) :
    Inv X pins σ (upd H a (errO a cls d)) s := by
  have away : ∀ {b : Addr} {o : HO}, H b = some o → upd H a (errO a cls d) b = some o := fun {b o} e => by
    rw [upd_ne (fun q => by rw [q, un] at e; cases e)]
    exact e
  refine ⟨I.ok, I.os, I.bare, ⟨I.base.keep, I.base.slot, ?_, I.base.there, ?_, ?_, ?_⟩, I.loc, I.cell, ?_, ?_, ?_, ?_, I.len⟩
  · intro b o e n q
    rw [upd_ne (fun z => by rw [z, new] at e; cases e)]
    exact I.base.free b o e n q
  · exact fun b xs e => away (I.base.tups b xs e)
  · exact fun b o u e => away (I.base.frzs b o u e)
  · intro b ps e
    obtain ⟨m, z⟩ := I.base.tbls b ps e
    exact ⟨m, away z⟩
  · rw [upd_ne nl.symm]
    exact I.free
  · intro x c e
    have nc : c ≠ a := fun z => by
      obtain ⟨v, o, ho, hd⟩ := I.cell x c e
      rw [z, at_] at ho
      cases ho
      rw [hf] at hd
      cases hd
    rw [upd_ne nc]
    exact I.freeC x c e
  · intro p hp
    obtain ⟨e1, e2, e3, e4, e5⟩ := I.pin p hp
    refine ⟨e1, ?_, e3, e4, e5⟩
    rw [upd_ne (np p hp)]
    exact e2
  · intro b o e
    by_cases hb : b = a
    · subst hb
      rw [upd_same] at e
      cases e
      refine ⟨⟨ob, fl, at_, hz, hf⟩, ⟨ob, at_⟩, ?_⟩
      rintro h1 h2 ⟨o1, f1, g1, g2, g3⟩ st
      exact ⟨o1, f1, st _ g1, g2, g3⟩
    · rw [upd_ne hb] at e
      exact (I.hok b o e).stay (fun _ _ _ q => q) (fun _ q => away q) (fun _ _ q => away q)
end

/-- what 'except x as n' wishes of an error of the body, the error being tracked behind the suite; slot i is n's -/
def wKept (K : PySem.W.Frag) (c : Value) (i : Nat) (ts : Addr → Value → Option Addr → TS) (Wo : WX) (D : Ends) : WX := fun cls d σ H =>
  ∃ b, PySem.W.exmOne K cls c = some b ∧
    (b = true → ∀ a, H a = none → ts a cls d
      { nx := fun σ' H' => D.nx (σ'.set i none) (upd H' a (errO a cls d)), rt := fun v H' => D.rt v (upd H' a (errO a cls d)),
        bk := fun σ' H' => D.bk (σ'.set i none) (upd H' a (errO a cls d)), ct := fun σ' H' => D.ct (σ'.set i none) (upd H' a (errO a cls d)) }
      (σ.set i (some (.ref a))) H) ∧
    (b = false → Wo cls d σ H)

section
variable {X : Cx} {x n : Str} {c : Value} {i : Nat} {body suite : List Stmt} {b0 : Stmt} {np pos pos' : Pos} {tb : WX → TS} {ts : Addr → Value → Option Addr → TS} {Wo : WX}
theorem ps_try_kept (hs : X.stack = X.env :: X.outer) (hf : X.env.frame = some X.env.locals) (hex : X.ex = []) (hN : X.N.Nodup) (hi : X.N[i]? = some n)
    (hln : X.env.kindOf n = some .local) (hc : Names X x c) (tk : Takes X Wo)
    (hb : ∀ (W : WX) (pn : List (Addr × Obj)) (xe : Value → Shared → Prop), Takes (X.tr pn xe) W →
      PassesOwn (model X.prog X.w) X.A X.env xe → PSs (X.tr pn xe) body (tb W))
    (hsu : ∀ (a : Addr) (oe : Obj) (cls : Value) (d : Option Addr) (pn : List (Addr × Obj)), Zc cls d oe → (∃ vs, oe.data = .fields vs) →
      PSs (X.suite a ((a, oe) :: pn)) (b0 :: suite) (ts a cls d)) :
    PS X (.Try body [.ExceptHandler (some (.Name x np)) (some n) (b0 :: suite) pos'] [] [] pos)
      (fun D σ H => tb (wKept X.K c i ts Wo D) D σ H) := by
  refine ⟨fun pins s σ H D I0 h0 => ?_⟩
  have fr0 : X.A.frames = some (X.env :: X.outer) := by
    rw [I0.ok.frames, hs]
  refine wpAny_Try_except (wpAny_mono ((hb (wKept X.K c i ts Wo D) (X.pn ++ pins)
    (fun e s1 => wpAny (model X.prog X.w) X.A (noteFrame e X.env) (fun _ s2 => wpAny (model X.prog X.w) X.A (setFlight e none)
      (fun _ s3 => wpAny (model X.prog X.w) X.A (handleBy e X.env [.ExceptHandler (some (.Name x np)) (some n) (b0 :: suite) pos'])
        (SP X pins D) X.xe s3) X.xe s2) X.xe s1) ?_ PassesOwn.looking).run [] s σ H D (I0.toTry _) h0) ?_ fun _ _ z => z)
  · -- the error lands
    rintro u s' ⟨a, B, sI, pq, σ1, H1, cls, d, rfl, J0, ground, ups, sky, una, os1, bare1, yes, em, wy, wn⟩
    have J : Inv X pins σ1 H1 sI := J0.ofTry I0.ok
    have sky1 : Sky B (X.env :: X.outer) a (Zc cls d) X.env.locals s'.heap := by
      rw [← hs]
      exact sky
    show wpAny (model X.prog X.w) X.A (noteFrame (.ref a) X.env) _ _ _
    refine Sky.land Zc.steady fr0 hf sky1 fun hp3 fl3 up3 => ?_
    have J3 : Inv X pins σ1 H1 { s' with heap := hp3 } := J.landed ground fl3.1 (ups.trans up3) os1 bare1
    obtain ⟨o3, v3, at3, z3, f3⟩ := fl3.there
    have out : a ∉ frs (X.env :: X.outer) := fun hm => by
      obtain ⟨_, oq, eq, nf⟩ := fl3.2.2.1.mem hm
      rw [at3] at eq
      cases eq
      exact nf _ f3
    have nl : a ≠ X.env.locals := fun q => out (List.mem_filterMap.mpr ⟨X.env, List.mem_cons_self, by rw [hf, q]⟩)
    have nf : a ∉ X.fs := fun hm => by
      obtain ⟨en, hen, q⟩ := List.mem_filterMap.mp hm
      exact out (List.mem_filterMap.mpr ⟨en, List.mem_cons_of_mem _ hen, q⟩)
    have noI : sI.heap.get? a = none := by
      cases q : sI.heap.get? a with
      | none => rfl
      | some o =>
        have z := ground a o q (by rw [hs]; exact out)
        rw [fl3.2.1] at z
        cases z
    have no0 : X.s_0.heap.get? a = none := by
      cases q : X.s_0.heap.get? a with
      | none => rfl
      | some o =>
        obtain ⟨o', z⟩ := J.base.there a o q (by rw [hex]; simp)
        rw [noI] at z
        cases z
    have npin : ∀ p ∈ X.pn ++ pins, p.1 ≠ a := fun p hp q => by
      have z := (J.pin p hp).1
      rw [q, noI] at z
      cases z
    refine wpAny_handleBy_cons (codeAny_handlers_test ?_) (by intro q; cases q)
    have tyL : PySem.W.Looks (model X.prog X.w) hp3 (typeOf (.ref a)) cls := fun A Q E s k q =>
      wpAny_typeOf_ref (k _ _ at3) (by rw [z3.1]; exact q)
    have S3 := J3.suite at3 f3 una nl nf
    have asked : ∀ {Q : Value → Shared → Prop} {E : Value → Shared → Prop}, Q c { s' with heap := hp3 } →
        wpAny (model X.prog X.w) (X.A.mark (some (.ref a))) (eval (.Name x np) X.env) Q E { s' with heap := hp3 } := by
      intro Q E q
      obtain ⟨g1, g2, g3 | ⟨g3, g4, g5⟩⟩ := hc
      · exact ld_glob (X := X.suite a ((a, o3) :: (X.pn ++ pins))) S3 g1 g3 q g2
      · exact ld_blt (X := X.suite a ((a, o3) :: (X.pn ++ pins))) S3 g1 g3 g4 q g5 g2
    refine asked ((PySem.W.exm_one (M := model X.prog X.w) J3.kIn tyL em).here ?_)
    cases yes with
    | false =>
      show wpAny _ X.A (handleBy (.ref a) X.env []) _ _ _
      refine wpAny_handleBy_nil ?_
      obtain ⟨k1, k2, k3, oq, vq, T, oT, tq, hq, hzq, hdq, h1q, hrq⟩ := id fl3
      unfold PySem.passOn
      refine wpAny_bind (wpAny_field hq hdq h1q ?_)
      rw [if_neg (show ¬ ((Value.ref T == Value.none) = true) from by simp)]
      have last : wpAny (model X.prog X.w) X.A (setFlight (.ref a) X.env.frame)
          (fun _ s4 => wpAny (model X.prog X.w) X.A (throw (.ref a) : Sem Flow) (SP X pins D) X.xe s4) X.xe { s' with heap := hp3 } := by
        rw [hf]
        refine HandSPX.setFlight_upZ fl3 fun hp4 held up4 => wpAny_throw (tk _ _ ?_)
        exact ⟨a, B, sI, pins, σ1, H1, cls, d, rfl, J, ground, (ups.trans up3).trans up4,
          .inr (.inr (by rw [hs]; exact held)), una, os1, bare1, wn rfl⟩
      first
        | exact wpAny_bind (wpAny_pure (wpAny_bind last))
        | exact wpAny_bind last
    | true =>
      refine codeAny_handlers_suite_as (HandSPX.lands_againZ fl3 fun hp4 fl4 up4 => ?_)
      have J4 : Inv X pins σ1 H1 { s' with heap := hp4 } := J.landed ground fl4.1 ((ups.trans up3).trans up4) os1 bare1
      obtain ⟨o4, v4, at4, z4, f4⟩ := fl4.there
      have S4 := J4.suite at4 f4 una nl nf
      refine store_ok (X := X.suite a ((a, o4) :: (X.pn ++ pins))) (v := .ref a) S4 hN hi (.inl hln) rfl (fun s5 S5 => ?_) (.inr hln)
      refine wpAny_mono ((hsu a o4 cls d (X.pn ++ pins) z4 ⟨_, f4⟩).run [] s5 _ H1 _ S5 (wy rfl a una)) ?_ (fun _ _ z => False.elim z)
      have over : ∀ {s6 : Shared} {σ6 : L2.St} {H6 : Hp} {Q : Shared → Prop}, Inv (X.suite a ((a, o4) :: (X.pn ++ pins))) [] σ6 H6 s6 →
          (∀ s7, Inv X pins (σ6.set i none) (upd H6 a (errO a cls d)) s7 → Q s7) →
          wpAny (model X.prog X.w) X.A (do bindName X.env n .none; unbindBehindTheSuite X.env n pos') (fun _ s7 => Q s7) X.xe s6 := by
        intro s6 σ6 H6 Q S6 hq
        have P6 : Inv X ((a, o4) :: pins) σ6 H6 s6 := ⟨I0.ok, S6.os, S6.bare, S6.base, S6.loc, S6.cell, S6.free, S6.freeC, fun p hp => by
          refine S6.pin p (List.mem_append_left _ ?_)
          rcases List.mem_append.mp hp with q | q
          · exact List.mem_cons_of_mem _ (List.mem_append_left _ q)
          · rcases List.mem_cons.mp q with q | q
            · rw [q]
              exact List.mem_cons_self
            · exact List.mem_cons_of_mem _ (List.mem_append_right _ q), S6.hok, S6.len⟩
        refine gone_ok P6 hN hi hln fun s7 J7 => hq s7 ?_
        obtain ⟨e1, e2, e3, e4, e5⟩ := J7.pin (a, o4) (List.mem_append_right _ List.mem_cons_self)
        have J8 : Inv X pins (σ6.set i none) H6 s7 := J7.pins_of fun p hp => J7.pin p (List.mem_append_right _ (List.mem_cons_of_mem _ hp))
        exact track J8 hex no0 e1 e2 e3 npin z4 f4
      intro fl6 s6 sp6
      cases fl6 with
      | next =>
        obtain ⟨σ6, H6, S6, q6⟩ := sp6
        exact over S6 fun s7 J7 => ⟨_, _, J7, q6⟩
      | brk =>
        obtain ⟨σ6, H6, S6, q6⟩ := sp6
        exact over S6 fun s7 J7 => ⟨_, _, J7, q6⟩
      | cont =>
        obtain ⟨σ6, H6, S6, q6⟩ := sp6
        exact over S6 fun s7 J7 => ⟨_, _, J7, q6⟩
      | ret u =>
        obtain ⟨v6, σ6, H6, S6, r6, q6⟩ := sp6
        exact over S6 fun s7 J7 => ⟨_, _, _, J7, r6, q6⟩
  · intro fl s1 hsp
    cases fl with
    | next =>
      obtain ⟨σ2, H2, J2, q2⟩ := hsp
      exact wpAny_execs_nil ⟨σ2, H2, J2.ofTry I0.ok, q2⟩
    | brk =>
      obtain ⟨σ2, H2, J2, q2⟩ := hsp
      exact ⟨σ2, H2, J2.ofTry I0.ok, q2⟩
    | cont =>
      obtain ⟨σ2, H2, J2, q2⟩ := hsp
      exact ⟨σ2, H2, J2.ofTry I0.ok, q2⟩
    | ret u =>
      obtain ⟨v2, σ2, H2, J2, r2, q2⟩ := hsp
      exact ⟨v2, σ2, H2, J2.ofTry I0.ok, r2, q2⟩
end
end Kept

namespace Kept
open PySem PySem.Spec PyProof.Rows L2
/-- what the error's class tells, for isinstance and for its fields -/
structure ErrC (K : PySem.W.Frag) (C : Addr) : Prop where
  cl : (PySem.W.clsIn K C).isSome = true
  ga : PySem.W.findIn K (.ref C) "__getattribute__" = some (some (.builtin "BaseException.__getattribute__"))
  gg : PySem.W.findIn K (.ref C) "__getattr__" = some none
  sb : PySem.W.subIn K (.ref C) (.type "BaseException") = some true
  ca : PySem.W.findIn K (.ref C) "__class__" = some (some (.builtin "object.__class__"))
  cg : PySem.W.specialIn K (.builtin "object.__class__") "__get__" = some (some (.builtin "getset_descriptor.__get__"))
  ct : PySem.W.takesIn K (.builtin "object.__class__") = some true
  mo : PySem.W.mroIn K C (.type "object") = some true
  hd : PySem.W.hasDictIn K C = true
def errB (K : PySem.W.Frag) (C : Addr) : Bool :=
  (PySem.W.clsIn K C).isSome &&
  (decide (PySem.W.findIn K (.ref C) "__getattribute__" = some (some (.builtin "BaseException.__getattribute__"))) &&
  (decide (PySem.W.findIn K (.ref C) "__getattr__" = some none) &&
  (decide (PySem.W.subIn K (.ref C) (.type "BaseException") = some true) &&
  (decide (PySem.W.findIn K (.ref C) "__class__" = some (some (.builtin "object.__class__"))) &&
  (decide (PySem.W.specialIn K (.builtin "object.__class__") "__get__" = some (some (.builtin "getset_descriptor.__get__"))) &&
  (decide (PySem.W.takesIn K (.builtin "object.__class__") = some true) &&
  (decide (PySem.W.mroIn K C (.type "object") = some true) && PySem.W.hasDictIn K C)))))))
theorem errB_ok {K : PySem.W.Frag} {C : Addr} (h : errB K C = true) : ErrC K C := by
  unfold errB at h
  simp only [Bool.and_eq_true, decide_eq_true_eq] at h
  obtain ⟨h1, h2, h3, h4, h5, h6, h7, h8, h9⟩ := h
  exact ⟨h1, h2, h3, h4, h5, h6, h7, h8, h9⟩

section
variable {X : Cx} {pins : List (Addr × Obj)} {σ : L2.St} {H : Hp} {s : Shared} {a C : Addr} {d : Option Addr}
theorem errO_inst (I : Inv X pins σ H s) (e : H a = some (errO a (.ref C) d))
    (hd : ∀ dd, d = some dd → ∃ fs, H dd = some (.xd fs)) :
    ∃ ob od, PySem.W.InstAt s.heap a ob C od := by
  obtain ⟨ob, fl, h1, h2, h3⟩ := errO_get I.hok e
  have nc : PySem.W.notCls ob = true := by
    unfold PySem.W.notCls
    rw [h3]
    all_goals rfl
  cases d with
  | none => exact ⟨ob, none, h1, h2.1, nc, by rw [h2.2]; trivial⟩
  | some dd =>
    obtain ⟨fs, hq⟩ := hd dd rfl
    have z : ObjOk X.prog X.w H s.heap dd (.xd fs) := I.hok dd _ hq
    obtain ⟨mA, hns, hr⟩ := z
    obtain ⟨od, ho, _⟩ := lookIn_ns hns
    exact ⟨ob, some od, h1, h2.1, nc, by rw [h2.2]; exact ho⟩
end

/-- isinstance(e, c) of such an error, one class -/
def rIsErr (K : PySem.W.Frag) : List V → Hp → VK → Prop := fun xs H Q =>
  ∃ (a C : Addr) (d : Option Addr) (c : V) (u : Value) (b : Bool), xs = [.ref a, c] ∧ H a = some (errO a (.ref C) d) ∧
    (∀ dd, d = some dd → ∃ fs, H dd = some (.xd fs)) ∧ ErrC K C ∧ ClsV c u ∧ PySem.W.kitOne K (.ref C) u = some b ∧ Q (.bl b) H
/-- isinstance(e, (c1, c2)): the tuple laid just then -/
def rIsErrT (K : PySem.W.Frag) : List V → Hp → VK → Prop := fun xs H Q =>
  ∃ (a C tp : Addr) (d : Option Addr) (cs : List V) (us : List Value) (b : Bool), xs = [.ref a, .ref tp] ∧ H a = some (errO a (.ref C) d) ∧
    (∀ dd, d = some dd → ∃ fs, H dd = some (.xd fs)) ∧ ErrC K C ∧ H tp = some (.tup cs) ∧ Paired ClsV cs us ∧
    PySem.W.kitAny K (.ref C) us = some b ∧ Q (.bl b) H
section
variable {X : Cx}
theorem call_isErr : CallR X (.builtin "isinstance") (rIsErr X.K) := by
  intro pins s σ H xs us Q I r h
  obtain ⟨a, C, d, c, u, b, rfl, ea, hd, T, k, e, q⟩ := h
  obtain ⟨u1, u2, rfl, r1, r2⟩ := vals2 r
  cases (show u1 = Value.ref a from r1)
  have e2 := k.eq r2
  subst e2
  obtain ⟨ob, od, J⟩ := errO_inst I ea hd
  exact PySem.W.kia_one (PySem.W.kitx_exc T.cl T.ga T.gg T.sb T.ca T.cg T.ct T.mo) I.kIn J e (fun z => nomatch z)
    fun tk => ⟨.bl b, H, I.tok tk, rfl, q⟩
theorem call_isErrT : CallR X (.builtin "isinstance") (rIsErrT X.K) := by
  intro pins s σ H xs us Q I r h
  obtain ⟨a, C, tp, d, cs, ws, b, rfl, ea, hd, T, et, k, e, q⟩ := h
  obtain ⟨u1, u2, rfl, r1, r2⟩ := vals2 r
  cases (show u1 = Value.ref a from r1)
  cases (show u2 = Value.ref tp from r2)
  obtain ⟨ob, od, J⟩ := errO_inst I ea hd
  obtain ⟨_, its, rv, o, h1, h2, n, h3⟩ := (show ObjOk X.prog X.w H s.heap tp (.tup cs) from I.hok tp _ et)
  have e3 := ClsV.all k rv
  subst e3
  obtain ⟨oc, oq, dt, sl⟩ := o
  simp only at h2 h3
  subst h2 h3
  exact PySem.W.kia_tup (PySem.W.kitx_exc T.cl T.ga T.gg T.sb T.ca T.cg T.ct T.mo) I.kIn J h1 e (fun z => nomatch z)
    fun tk => ⟨.bl b, H, I.tok tk, rfl, q⟩
end

/-- e.f of such an error -/
def tErrF (K : PySem.W.Frag) (ta : TE) (f : Str) : TE := fun σ H Q => ta σ H fun x H1 =>
  ∃ (a C dd : Addr) (fs : List (Str × V)) (v : V), x = .ref a ∧ H1 a = some (errO a (.ref C) (some dd)) ∧ H1 dd = some (.xd fs) ∧
    ErrC K C ∧ PySem.W.findIn K (.ref C) f = some none ∧ fs.lookup f = some v ∧ Q v H1
theorem pe_errF {X : Cx} {e : Expr} {te : TE} {pos : Pos} {f : Str} (he : PE X e te)
    (hb : attributeBase e f X.env (eval e X.env) = eval e X.env := by rfl) : PE X (.Attribute e f pos) (tErrF X.K te f) := by
  refine ⟨fun pins s σ H Q I h => attr_of hb (thn (he.run pins s σ H _ I h) ?_)⟩
  rintro u s1 ⟨x, H1, I1, rx, a, C, dd, fs, v, rfl, ea, ed, T, no, l, q⟩
  obtain rfl : u = Value.ref a := rx
  obtain ⟨ob, fl, h1, h2, h3⟩ := errO_get I1.hok ea
  have nc : PySem.W.notCls ob = true := by
    unfold PySem.W.notCls
    rw [h3]
    all_goals rfl
  have z : ObjOk X.prog X.w H1 s1.heap dd (.xd fs) := I1.hok dd _ ed
  obtain ⟨mA, hns, hr⟩ := z
  obtain ⟨od, ho, hl⟩ := lookIn_ns hns
  obtain ⟨u, hu, ru⟩ := RelO.some_of (v := v) (o := mA f) (by rw [← l]; exact hr f)
  have J : PySem.W.InstAt s1.heap a ob C (some od) := ⟨h1, h2.1, nc, by rw [h2.2]; exact ho⟩
  exact HandSPX.exc_get I1.kIn J T.ga T.gg T.sb (PySem.W.findObj_own T.hd no rfl (by rw [hl, hu])) (handed_of ru) ⟨v, H1, I1.tok _, ru, q⟩
end Kept
set_option Elab.async false
set_option linter.all false
set_option maxRecDepth 100000
set_option maxHeartbeats 2000000
/-! Errors of the program: classes below an own class below ValueError, with fields set by __init__; raised, and let out. -/
namespace Ers
open PySem PySem.Spec PyProof.Rows L2 Pre Kept

def oexB (K : PySem.W.Frag) (C : Addr) : Bool := (match K.lookup C with
  | some ⟨.type t, _, .cls cd, sl⟩ => decide (t = "type") && (match cd.mro, sl.toList with
    | .ref C' :: bm, [_, _, _, _, some (.builtin n), _] => decide (C' = C) && (decide (n = "ValueError.__new__") && (!cd.hasDel && (cd.hasDict && PySem.HandSPX.refsVE bm)))
    | _, _ => false)
  | _ => false) && (decide (PySem.W.findIn K (.ref C) "__setattr__" = some (some (.builtin "object.__setattr__"))) &&
    (decide (PySem.W.subIn K (.ref C) (.type "BaseException") = some true) && (decide (PySem.W.typeIn K (.ref C) = some (.type "type")) && PySem.W.keepIn K (.ref C))))
theorem oexB_ok {K : PySem.W.Frag} {C : Addr} (h : oexB K C = true) : OexC K C := by
  unfold oexB at h
  simp only [Bool.and_eq_true, decide_eq_true_eq] at h
  obtain ⟨h1, h2, h3, h4, h5⟩ := h
  refine ⟨?_, h2, h3, h4, h5⟩
  cases q : K.lookup C with
  | none =>
    rw [q] at h1
    cases h1
  | some o =>
    obtain ⟨oc, dd, dt, sl⟩ := o
    rw [q] at h1
    cases oc with
    | type t =>
      cases dt with
      | cls cd =>
        simp only [Bool.and_eq_true, decide_eq_true_eq] at h1
        obtain ⟨rfl, h1⟩ := h1
        obtain ⟨nm, bs, mro, ns, qn, hd, sn, sub, ab, col, del⟩ := cd
        dsimp only at h1
        split at h1
        · rename_i C' bm k0 k1 k2 k3 n k5 hs
          simp only [Bool.and_eq_true, decide_eq_true_eq, Bool.not_eq_true'] at h1
          obtain ⟨rfl, rfl, rfl, rfl, h6⟩ := h1
          obtain ⟨l⟩ := sl
          have hs' : l = [k0, k1, k2, k3, some (.builtin "ValueError.__new__"), k5] := hs
          subst hs'
          exact ⟨nm, qn, ns, bs, bm, sn, sub, ab, col, dd, k0, k1, k2, k3, k5, rfl, h6⟩
        · cases h1
      | _ => cases h1
    | _ => cases dt <;> cases h1

/-- __init__ of one field -/
def spIni1 (C : Addr) (f : Str) : Sp := fun vs H Q _ => ∃ (a : Addr) (v : V), vs = [.ref a, v] ∧ H a = some (exo a C none) ∧
  ∀ dx, H dx = none → dx ≠ a → Q .non (upd (upd H dx (exd dx [(f, v)])) a (exo a C (some dx)))
/-- .. of two -/
def spIni2 (C : Addr) (f g : Str) : Sp := fun vs H Q _ => ∃ (a : Addr) (v u : V), vs = [.ref a, v, u] ∧ H a = some (exo a C none) ∧
  ∀ dx, H dx = none → dx ≠ a → Q .non (upd (upd H dx (exd dx [(g, u), (f, v)])) a (exo a C (some dx)))
theorem del_eq {H1 : Hp} {a dx : Addr} {fs : List (Str × V)} (n : H1 a = none) (ne : dx ≠ a) (H2 : Hp)
    (e : ∀ b, b ≠ a → b ≠ dx → H2 b = H1 b) : upd (del H2 a) dx (.xd fs) = upd H1 dx (.xd fs) := by
  funext b
  by_cases h1 : b = dx
  · subst h1
    rw [upd_same, upd_same]
  · rw [upd_ne h1, upd_ne h1]
    by_cases h2 : b = a
    · subst h2
      rw [del_same, n]
    · rw [del_ne h2]
      exact e b h2 h1
/-- a reading that is weaker behind its end -/
theorem pa_weak {X : Cx} {es : List Expr} {t : TA} (h : PA X es t) : PA X es (fun σ H Q => ∃ R : List V → Hp → Prop, t σ H R ∧ ∀ vs H1, R vs H1 → Q vs H1) := ⟨fun pos pins s σ H Q I q => by
  obtain ⟨R, h1, h2⟩ := q
  exact thn (h.run pos pins s σ H R I h1) fun us s1 ⟨vs, H1, I1, r1, q1⟩ => ⟨vs, H1, I1, r1, h2 vs H1 q1⟩⟩
section
variable {X : Cx} {W : WX} {x f g : Str} {C fI : Addr} {fd : FuncData} {e e2 : Expr} {te te2 : TE} {p pos pos' : Pos}
/-- raise x(e), x's __init__ setting one field -/
theorem ps_raise1 (T : OexC X.K C) (iC : PySem.W.findIn X.K (.ref C) "__init__" = some (some (.ref fI))) (tI : PySem.W.typeIn X.K (.ref fI) = some (.type "function"))
    (F : FnOk X.prog X.w X.K X.mg X.base CX0 1 fI fd ["self", f] (spIni1 C f)) (hr : Room 2 X.A) (hb : Binds X.K fd ["self", f] []) (hg : Gl X x) (hm : X.mg x = some (.ref C))
    (hc : X.calm = true) (tk : Takes X W) (he : PE X e te) (hdb : (x == ("__debug__" : Str)) = false := by decide)
    (hst : starEach [e] X.env = (false, eval e X.env) :: starEach [] X.env := by rfl) :
    PS X (.Raise (some (.Call (.Name x p) [e] [] pos)) none pos')
      (fun _ σ H => te σ H fun v H1 => ∀ d, H1 d = none → W (.ref C) (some d) σ (upd H1 d (.xd [(f, v)]))) := by
  have weak : PE X e (fun σ H Q => ∃ R : V → Hp → Prop, te σ H R ∧ ∀ v H1, R v H1 → Q v H1) := ⟨fun pins s σ H Q I h => by
    obtain ⟨R, h1, h2⟩ := h
    exact thn (he.run pins s σ H R I h1) fun u s1 ⟨v, H1, I1, r1, q1⟩ => ⟨v, H1, I1, r1, h2 v H1 q1⟩⟩
  have mk := pmk_oex (dvs := []) (pos := pos) (p := p) T iC tI F hr hb .nil (fun _ _ _ _ _ _ _ z => z.elim) hg hm (pa_cons weak pa_nil (hs := hst)) hdb hst (by rfl)
  refine ⟨fun pins s σ H D I h => (ps_raise (pos := pos') hc tk mk).run pins s σ H D I ?_⟩
  refine ⟨_, h, fun v H1 q => ⟨Nat.le_of_ble_eq_true rfl, fun a na => ⟨a, v, rfl, upd_same, fun dx nd ne => ⟨rfl, dx, [(f, v)], upd_same, ?_, ?_, ?_⟩⟩⟩⟩
  · rw [upd_ne ne, upd_same]
  · rw [upd_ne ne] at nd
    exact nd
  · have nd' : H1 dx = none := by
      rw [upd_ne ne] at nd
      exact nd
    rw [del_eq na ne _ (fun b h1 h2 => by rw [upd_ne h1, upd_ne h2, upd_ne h1])]
    exact q dx nd'
/-- raise x(e, e2) -/
theorem ps_raise2 (T : OexC X.K C) (iC : PySem.W.findIn X.K (.ref C) "__init__" = some (some (.ref fI))) (tI : PySem.W.typeIn X.K (.ref fI) = some (.type "function"))
    (F : FnOk X.prog X.w X.K X.mg X.base CX0 1 fI fd ["self", f, g] (spIni2 C f g)) (hr : Room 2 X.A) (hb : Binds X.K fd ["self", f, g] []) (hg : Gl X x) (hm : X.mg x = some (.ref C))
    (hc : X.calm = true) (tk : Takes X W) (he : PE X e te) (he2 : PE X e2 te2) (hdb : (x == ("__debug__" : Str)) = false := by decide)
    (hst : starEach [e, e2] X.env = (false, eval e X.env) :: starEach [e2] X.env := by rfl) (hst2 : starEach [e2] X.env = (false, eval e2 X.env) :: starEach [] X.env := by rfl)
    (hpl : (backTo pos (starEach [e2] X.env)).any (·.1) = false := by rfl) :
    PS X (.Raise (some (.Call (.Name x p) [e, e2] [] pos)) none pos')
      (fun _ σ H => te σ H fun v H1 => te2 σ H1 fun u H2 => ∀ d, H2 d = none → W (.ref C) (some d) σ (upd H2 d (.xd [(g, u), (f, v)]))) := by
  have mk := pmk_oex (dvs := []) (pos := pos) (p := p) T iC tI F hr hb .nil (fun _ _ _ _ _ _ _ z => z.elim) hg hm (pa_weak (pa_cons he (pa_cons he2 pa_nil (hs := hst2)) (hs := hst))) hdb hst hpl
  refine ⟨fun pins s σ H D I h => (ps_raise (pos := pos') hc tk mk).run pins s σ H D I ?_⟩
  refine ⟨fun vs H2 => match vs with | [v, u] => ∀ d, H2 d = none → W (.ref C) (some d) σ (upd H2 d (.xd [(g, u), (f, v)])) | _ => False, h, fun vs H2 q => ?_⟩
  match vs, q with
  | [v, u], q =>
    refine ⟨Nat.le_of_ble_eq_true rfl, fun a na => ⟨a, v, u, rfl, upd_same, fun dx nd ne => ⟨rfl, dx, [(g, u), (f, v)], upd_same, ?_, ?_, ?_⟩⟩⟩
    · rw [upd_ne ne, upd_same]
    · rw [upd_ne ne] at nd
      exact nd
    · have nd' : H2 dx = none := by
        rw [upd_ne ne] at nd
        exact nd
      rw [del_eq na ne _ (fun b h1 h2 => by rw [upd_ne h1, upd_ne h2, upd_ne h1])]
      exact q dx nd'
end
/-! the defs __init__ themselves -/
section
variable {P : Program} {w : World} {K : PySem.W.Frag} {mg : Str → Option Value} {base : Heap} {fI C : Addr} {fd : FuncData} {qual f g : Str} {params : Arguments} {scope : Scope} {dvs : List V} {kws : List (Str × V)}
  {p1 p2 p3 p4 p5 p6 p7 p8 : Pos}
theorem ok_ini1 (F : FunD K "__init__" qual params [.Assign [.Attribute (.Name "self" p1) f p2] (.Name f p3) p4] scope dvs kws fI fd) (S : FnScope ["self", f] ["self", f] scope) (T : OexC K C)
    (no : PySem.W.findIn K (.ref C) f = some none) (h0 : scope.names.lookup ("self" : Str) = some .local) (h1 : scope.names.lookup f = some .local) (hd : (f == ("__debug__" : Str)) = false) (hcd : (f == ("__classdict__" : Str)) = false) (hsw : ∀ env : Env, swapsWith (.Name f p3) (some (.Attribute (.Name "self" p1) f p2)) p4.line env = pure false) :
    FnOk P w K mg base CX0 1 fI fd ["self", f] (spIni1 C f) := by
  refine F.ok S (fun vs H Q E h => ?_) (fun cdv A outer s H vs Q E hr h => ?_)
  · obtain ⟨_, _, rfl, _⟩ := h
    rfl
  · obtain ⟨a, v, rfl, ea, k⟩ := h
    refine ⟨_, PSs.nox (pss_one (ps_ost (pe_var (i := 0) rfl (.inl h0)) (pe_var (i := 1) rfl (.inl h1) hd hcd) (hsw _))), ?_⟩
    exact ⟨v, rfl, .ref a, rfl, a, C, rfl, T, no, .inl ⟨ea, k⟩⟩
theorem ok_ini2 (F : FunD K "__init__" qual params [.Assign [.Attribute (.Name "self" p1) f p2] (.Name f p3) p4, .Assign [.Attribute (.Name "self" p5) g p6] (.Name g p7) p8] scope dvs kws fI fd)
    (S : FnScope ["self", f, g] ["self", f, g] scope) (T : OexC K C)
    (no : PySem.W.findIn K (.ref C) f = some none) (no2 : PySem.W.findIn K (.ref C) g = some none) (h0 : scope.names.lookup ("self" : Str) = some .local) (h1 : scope.names.lookup f = some .local) (h2 : scope.names.lookup g = some .local)
    (hd : (f == ("__debug__" : Str)) = false) (hcd : (f == ("__classdict__" : Str)) = false) (hd2 : (g == ("__debug__" : Str)) = false) (hcd2 : (g == ("__classdict__" : Str)) = false)
    (hsw : ∀ env : Env, swapsWith (.Name f p3) (some (.Attribute (.Name "self" p1) f p2)) p4.line env = pure false) (hsw2 : ∀ env : Env, swapsWith (.Name g p7) (some (.Attribute (.Name "self" p5) g p6)) p8.line env = pure false) :
    FnOk P w K mg base CX0 1 fI fd ["self", f, g] (spIni2 C f g) := by
  refine F.ok S (fun vs H Q E h => ?_) (fun cdv A outer s H vs Q E hr h => ?_)
  · obtain ⟨_, _, _, rfl, _⟩ := h
    rfl
  · obtain ⟨a, v, u, rfl, ea, k⟩ := h
    refine ⟨_, PSs.nox (pss_cons (ps_ost (pe_var (i := 0) rfl (.inl h0)) (pe_var (i := 1) rfl (.inl h1) hd hcd) (hsw _)) (pss_one (ps_ost (pe_var (i := 0) rfl (.inl h0)) (pe_var (i := 2) rfl (.inl h2) hd2 hcd2) (hsw2 _)))), ?_⟩
    refine ⟨v, rfl, .ref a, rfl, a, C, rfl, T, no, .inl ⟨ea, fun dx nd ne => ?_⟩⟩
    refine ⟨u, rfl, .ref a, rfl, a, C, rfl, T, no2, .inr ⟨dx, [(f, v)], upd_same, by rw [upd_ne ne, upd_same], Nat.le_of_ble_eq_true rfl, ?_⟩⟩
    have e : upd (upd (upd H dx (exd dx [(f, v)])) a (exo a C (some dx))) dx (exd dx [(g, u), (f, v)]) = upd (upd H dx (exd dx [(g, u), (f, v)])) a (exo a C (some dx)) := by
      funext b
      by_cases h1 : b = dx
      · subst h1
        rw [upd_same, upd_ne ne, upd_same]
      · rw [upd_ne h1]
        by_cases h2 : b = a
        · subst h2
          rw [upd_same, upd_same]
        · rw [upd_ne h2, upd_ne h1, upd_ne h2, upd_ne h1]
    rw [e]
    exact k dx nd ne
end
end Ers
set_option Elab.async false
set_option linter.all false
set_option maxRecDepth 100000
set_option maxHeartbeats 2000000
/-! Defs that show data (repr): called where nothing is being shown. -/
namespace Shw
open PySem PySem.Spec PyProof.Rows L2
/-- a def that keeps its promise where no repr is under way -/
structure FnG (P : Program) (w : World) (K : PySem.W.Frag) (mg : Str → Option Value) (base : Heap) (CX : CXT) (k : Nat) (f : Addr) (fd : FuncData) (ps : List Str) (sp : Sp) : Prop where
  many : ∀ vs H Q E, sp vs H Q E → vs.length = ps.length
  go : ∀ (A : Around) (up : List Env) (s : Shared) (H : Hp) (args : Args) (us : List Value) (vs : List V) (Q : VK) (E : XK), Room k A → A.guards = some [] →
    Env0 P w K mg base A up s H → BindsTo s fd args (ps.zip us) → Vals vs us → sp vs H Q E → codeAny (model P w) A (.call (.ref f) args) (CR CX up P w H s Q E) s
section
variable {P : Program} {w : World} {K : PySem.W.Frag} {mg : Str → Option Value} {base : Heap} {CX : CXT} {k j : Nat} {f : Addr} {fd : FuncData} {ps : List Str} {sp : Sp}
theorem FnG.of (F : FnOk P w K mg base CX k f fd ps sp) : FnG P w K mg base CX k f fd ps sp :=
  ⟨F.len, fun A up s H args us vs Q E hr _ => F.run A up s H args us vs Q E hr⟩
theorem FnG.mono (F : FnG P w K mg base CX j f fd ps sp) (h : j ≤ k) : FnG P w K mg base CX k f fd ps sp :=
  ⟨F.many, fun A up s H args us vs Q E hr => F.go A up s H args us vs Q E (hr.mono h)⟩
/-- the def by its body, nothing being shown -/
theorem fnG_of {name qual : Str} {params : Arguments} {body : List Stmt} {scope : Scope} {dV kV doc pm cdv ct oc : Value} {an od : Option Addr} {osl : Array (Option Value)} {N : List Str}
    (lk : K.lookup f = some ⟨oc, od, .func (PySem.W.fnOf name qual params body scope dV kV doc pm an cdv ct), osl⟩)
    (hcd : PySem.W.codeIn K cdv qual = true) (S : FnScope N ps scope) (many : ∀ vs H Q E, sp vs H Q E → vs.length = ps.length)
    (walk : ∀ (A : Around) (up : List Env) (s : Shared) (H : Hp) (vs : List V) (Q : VK) (E : XK), Room k (A.deeper (envOfC qual scope s.heap.objs.size f cdv)) →
      (A.deeper (envOfC qual scope s.heap.objs.size f cdv)).guards = some [] → sp vs H Q E →
      ∃ t, PSs (cxOf CX P w K mg base N qual scope f cdv A up s H E) body t ∧ t { nx := fun _ H' => Q .non H', rt := Q } (start N vs) H) :
    FnG P w K mg base CX (k + 1) f (PySem.W.fnOf name qual params body scope dV kV doc pm an cdv ct) ps sp := by
  refine ⟨many, ?_⟩
  intro A up s H args us vs Q E room still e0 bind rv hsp
  have nv := many _ _ _ _ hsp
  have stays : ∀ b o, base.get? b = some o → s.heap.get? b = some o := fun b o e => (e0.bs b o e).1
  have KX := e0.mod.kin.keeps stays
  have places : ∀ y ∈ ps.zip us, scope.names.lookup y.1 = some .local ∨
      (scope.names.lookup y.1 = some .cell ∧ ((cellsFrom (s.heap.objs.size + 1) scope.names []).lookup y.1).isSome = true) := by
    rintro ⟨n, v⟩ hy
    exact (S.par n (List.of_mem_zip hy).1).imp id fun q => ⟨q, PySem.W.cellsFrom_some _ _ _ (.inl q)⟩
  refine codeAny_call_function room.depth (KX _ _ lk) rfl S.co S.gen rfl (PySem.W.codeRec_of KX hcd) (bind _ _ _ _ ?_)
  refine wpAny_newFunctionEnv_cells S.kind places fun env he s1 x => ?_
  subst he
  refine ⟨(e0.mod.nolimit.keeps stays).keeps x.toInCall.keep, codeAny_func ?_⟩
  obtain ⟨t, ht, hq⟩ := walk A up s H vs Q E (room.deeper _) still hsp
  refine wpAny_mono (ht.run [] s1 (start N vs) H _ (inv_start S room.hd e0 nv rv x) hq) ?_ fun _ _ z => z
  intro fl s' out
  cases fl with
  | next =>
    obtain ⟨σ', H', J, q⟩ := out
    exact ⟨V.non, H', J.os, J.bare, J.base, J.hok, rfl, q⟩
  | ret u =>
    obtain ⟨v, σ', H', J, ru, q⟩ := out
    exact ⟨v, H', J.os, J.bare, J.base, J.hok, ru, q⟩
  | brk =>
    obtain ⟨_, _, _, q⟩ := out
    exact q.elim
  | cont =>
    obtain ⟨_, _, _, q⟩ := out
    exact q.elim
theorem okG {x qual : Str} {params : Arguments} {body : List Stmt} {scope : Scope} {dvs : List V} {kws : List (Str × V)} {N : List Str}
    (F : FunD K x qual params body scope dvs kws f fd) (S : FnScope N ps scope) (many : ∀ vs H Q E, sp vs H Q E → vs.length = ps.length)
    (walk : ∀ (cdv : Value) (A : Around) (up : List Env) (s : Shared) (H : Hp) (vs : List V) (Q : VK) (E : XK), Room k (A.deeper (envOfC qual scope s.heap.objs.size f cdv)) →
      (A.deeper (envOfC qual scope s.heap.objs.size f cdv)).guards = some [] → sp vs H Q E →
      ∃ t, PSs (cxOf CX P w K mg base N qual scope f cdv A up s H E) body t ∧ t { nx := fun _ H' => Q .non H', rt := Q } (start N vs) H) :
    FnG P w K mg base CX (k + 1) f fd ps sp := by
  obtain ⟨oc, od, dV, kV, doc, pm, an, cdv, ct, osl, rfl, lk, hcd, _, _⟩ := F.ex
  exact fnG_of lk hcd S many fun A up s H vs Q E hr hg hsp => walk cdv A up s H vs Q E hr hg hsp
end
section
variable {X : Cx} {CX : CXT} {k : Nat} {f : Addr} {fd : FuncData} {ps : List Str} {sp : Sp} {dvs : List V} {ds : List Value} {E : XK}
/-- the callee runs, nothing being shown -/
theorem run_G {pins : List (Addr × Obj)} {σ : L2.St} {H : Hp} {s : Shared} {Q : VK} {us : List Value} {vs : List V} (F : FnG X.prog X.w X.K X.mg X.base CX k f fd ps sp) (hr : Room k X.A)
    (still : X.A.guards = some []) (hb : Binds X.K fd ps ds) (hd : Vals dvs ds) (hx : Passes CX X E) (I : Inv X pins σ H s) (r : Vals vs us) (h : sp (vs ++ dvs) H Q E) :
    wpAny (model X.prog X.w) X.A (call (.ref f) us) (EP X pins σ Q) X.xe s := by
  have both : Vals (vs ++ dvs) (us ++ ds) := r.append hd
  have fits : (us ++ ds).length = ps.length := both.length.symm.trans (F.many _ _ _ _ h)
  refine wpAny_call (codeAny_mono (F.go X.A X.stack s H ⟨us, []⟩ (us ++ ds) (vs ++ dvs) Q E hr still I.env0 (hb s us I.kIn fits) both h) ?_)
  intro out s' hq
  cases out with
  | error e => exact hx pins σ H s e s' I hq
  | ok fl =>
    cases fl with
    | ret u => exact I.after hq
    | next => exact hq.elim
    | brk => exact hq.elim
    | cont => exact hq.elim
theorem pe_callG {x : Str} {p pos : Pos} {e : Expr} {es : List Expr} {t : TA} (F : FnG X.prog X.w X.K X.mg X.base CX k f fd ps sp) (hr : Room k X.A) (still : X.A.guards = some []) (hg : Gl X x)
    (hm : X.mg x = some (.ref f)) (hk : PySem.W.keepIn X.K (.ref f) = true) (hb : Binds X.K fd ps ds) (hd : Vals dvs ds) (hx : Passes CX X E) (ha : PA X (e :: es) t)
    (hdb : (x == ("__debug__" : Str)) = false := by decide) (he : starEach (e :: es) X.env = (false, eval e X.env) :: starEach es X.env := by rfl)
    (hpl : (backTo pos (starEach es X.env)).any (·.1) = false := by rfl) : PE X (.Call (.Name x p) (e :: es) [] pos) (tCall sp dvs E t) := by
  refine ⟨fun pins s σ H Q I h => wpAny_Call_Name_kw (ld_glob I hg hm ?_ hdb)⟩
  refine PySem.W.callWith_K (h₀ := X.base) I.ok.mod.kin hk (thn (ha.run pos pins s σ H _ I h) ?_) he hpl
  rintro us s1 ⟨vs, H1, I1, r, q⟩
  exact ⟨I1.kIn, run_G F hr still hb hd hx I1 r q⟩
end
/-- repr(x), x data without dicts, nothing being shown -/
def rRepr (K : PySem.W.Frag) : List V → Hp → VK → Prop := fun xs H Q =>
  ∃ (x : V) (d : PyData), xs = [x] ∧ Dp K H x d ∧ d.showable = true ∧ d.hasDict = false ∧ d.depth ≤ 60 ∧ d.shown.length ≤ sizeLine ∧ Q (.str d.shown) H
theorem call_repr {X : Cx} {k : Nat} (hr : Room k X.A) (still : X.A.guards = some []) : CallR X (.builtin "repr") (rRepr X.K) := by
  intro pins s σ H xs us Q I r h
  obtain ⟨x, d, rfl, dp, h1, h2, h3, h4, q⟩ := h
  obtain ⟨u, rfl, ru⟩ : ∃ u, us = [u] ∧ RelV x u := by
    cases r with
    | cons a b =>
      cases b
      exact ⟨_, rfl, a⟩
  obtain ⟨as, rd⟩ := Dp.reads I d x u dp ru
  have un := hr.un
  cases dp with
  | non =>
    cases (show u = Value.none from ru)
    refine PySem.P.repr_of_none ⟨.str _, H, I.tok _, ⟨_, rfl⟩, ?_⟩
    rw [PyData.shown_none] at q
    exact q
  | bl b =>
    cases (show u = Value.bool b from ru)
    refine PySem.P.repr_of_bool ⟨.str _, H, I.tok _, ⟨_, rfl⟩, ?_⟩
    rw [PyData.shown_bool] at q
    exact q
  | int i =>
    obtain ⟨t, rfl⟩ := (show ∃ t, u = Value.int i t from ru)
    have small : i.natAbs.log2 < 1920 := by
      simp only [PyData.showable, decide_eq_true_eq] at h1
      exact h1
    refine PySem.P.repr_of_int small ⟨.str _, H, I.tok _, ⟨_, rfl⟩, ?_⟩
    rw [PyData.shown_int] at q
    exact q
  | str y =>
    obtain ⟨t, rfl⟩ := (show ∃ t, u = Value.str y t from ru)
    rw [PyData.shown_str] at q h4
    exact PySem.P.repr_of_str ⟨.str _, H, I.tok _, ⟨_, rfl⟩, q⟩ h4
  | lst sq all_ =>
    cases ru
    exact repr_of_reads' rd h1 (PyData.noDict_hsm h2) still (by omega) (fun _ _ z => z) (fun h' u tk hk => ⟨.str _, H, I.kept hk, ⟨_, rfl⟩, q⟩) h4
  | tup sq all_ =>
    cases ru
    exact repr_of_reads' rd h1 (PyData.noDict_hsm h2) still (by omega) (fun _ _ z => z) (fun h' u tk hk => ⟨.str _, H, I.kept hk, ⟨_, rfl⟩, q⟩) h4
end Shw

/-! ### the end of a law whose defs show data -/
namespace Shw
open PySem PySem.Spec PyProof.Rows L2 LamX
/-- what is tracked at the law's entry: the tables T, empty; the script at a, if the written part does not hold it -/
def atLaw (K : PySem.W.Frag) (T : List Addr) (a : Addr) (ob : Obj) (xs : List V) : Hp := fun b =>
  if b ∈ T then some (.tbl #[]) else if b = a ∧ (K.lookup a).isNone = true then some (.frz ob (.lst xs)) else none
section
variable {K : PySem.W.Frag} {T : List Addr} {a b : Addr} {ob : Obj} {xs : List V} {u : HO}
theorem atLaw_tab (h : b ∈ T) : atLaw K T a ob xs b = some (.tbl #[]) := if_pos h
theorem atLaw_cases (h : atLaw K T a ob xs b = some u) : (b ∈ T ∧ u = .tbl #[]) ∨ (b ∉ T ∧ b = a ∧ K.lookup a = none ∧ u = .frz ob (.lst xs)) := by
  unfold atLaw at h
  by_cases h1 : b ∈ T
  · rw [if_pos h1] at h
    exact .inl ⟨h1, (Option.some.inj h).symm⟩
  · rw [if_neg h1] at h
    by_cases h2 : b = a ∧ (K.lookup a).isNone = true
    · rw [if_pos h2] at h
      exact .inr ⟨h1, h2.1, Option.isNone_iff_eq_none.mp h2.2, (Option.some.inj h).symm⟩
    · rw [if_neg h2] at h
      cases h
end
theorem endG {P : Program} {w : World} {K : PySem.W.Frag} {mg mb : Str → Option Value} {CX : CXT} {k : Nat} {fa a : Addr} {cs : List (Addr × Addr)} {fd : FuncData} {x : Str} {sp : Sp} {s1 : Shared} {vs : List Value} {ns : List Int}
    (KX : K.In s1.heap) (hns : s1.heap.Ns mainGlobals mg) (hb : s1.heap.Ns builtinsNs mb) (hbb : ∀ y : Str, y ≠ "__name__" → mb y = bootBuiltins y) (hlim : s1.heap.NoLimit) (hg : s1.gens = #[])
    (hT : ∀ p ∈ cs, s1.heap.get? p.2 = some { cls := .none, data := .fields #[] }) (nT : ∀ p ∈ cs, K.lookup p.2 = none) (hC : ∀ p ∈ cs, PySem.W.codeHdIn K p.1 p.2 = true)
    (hbm : ∃ (bm : Addr) (ob : Obj), mg "__builtins__" = some (.ref bm) ∧ bm ≠ builtinsNs ∧ s1.heap.get? bm = some ob ∧ ob.cls = .type "module" ∧ ob.dict = some builtinsNs ∧ ob.data = .plain)
    (ha : s1.heap.get? a = some { cls := .type "list", data := .seq vs.toArray }) (hi : IntsAre vs ns) (hl : ns.length ≤ sizeLine) (hr : Room k callerA)
    (F : ∀ base : Heap, K.In base → base.Ns mainGlobals mg → (∀ p ∈ cs, TabB base mg p.1 p.2) → FnG P w K mg base CX k fa fd [x] sp)
    (hbind : ∀ (s : Shared) (u : Value), BindsTo s fd ⟨[u], []⟩ [(x, u)])
    (hsp : ∀ H : Hp, (∀ p ∈ cs, H p.2 = some (.tbl #[])) → SqL K H a (ns.map V.int) → sp [.ref a] H (fun v _ => v = .bl true) fun _ _ _ => False)
    (hCX : ∀ H e s', CX [] H s1 (fun _ _ _ => False) e s' → False) :
    codeAny (model P w) callerA (.call (.ref fa) ⟨[.ref a], []⟩) (fun r s' => r = .ok (.ret (.bool true)) ∧ OldK s1.heap s'.heap ∧ s'.os = s1.os ∧ AllBare s'.gens) s1 := by
  let T := cs.map (·.2)
  let H := atLaw K T a { cls := .type "list", data := .seq vs.toArray } (ns.map V.int)
  have tabs : ∀ b ∈ T, s1.heap.get? b = some { cls := .none, data := .fields #[] } := fun b m => by
    obtain ⟨p, hp, rfl⟩ := List.mem_map.mp m
    exact hT p hp
  have tabK : ∀ b ∈ T, K.lookup b = none := fun b m => by
    obtain ⟨p, hp, rfl⟩ := List.mem_map.mp m
    exact nT p hp
  have aT : a ∉ T := fun m => by
    have q := tabs a m
    rw [ha] at q
    exact nomatch congrArg Obj.data (Option.some.inj q)
  have rv : Vals (ns.map V.int) vs := vals_ints hi
  have seen : SqL K H a (ns.map V.int) := by
    cases q : K.lookup a with
    | none =>
      refine .inl (.inr ⟨{ cls := .type "list", data := .seq vs.toArray }, ?_⟩)
      show atLaw K T a { cls := .type "list", data := .seq vs.toArray } (ns.map V.int) a = _
      unfold atLaw
      rw [if_neg aT, if_pos ⟨rfl, by rw [q]; rfl⟩]
    | some o =>
      have e := KX a o q
      rw [ha] at e
      cases e
      refine .inr ⟨_, vs.toArray, _, q, rfl, rfl, rfl, ?_, by simpa using rv⟩
      rw [List.size_toArray, hi.length]
      exact hl
  have ok : HOk P w H s1.heap := fun b u z => by
    rcases atLaw_cases z with ⟨m, rfl⟩ | ⟨_, rfl, _, rfl⟩
    · exact tabs b m
    · exact ⟨ha, by rw [List.length_map]; exact hl, vs, _, rv, ha⟩
  have stay : ∀ {b : Addr} {o : Obj}, s1.heap.get? b = some o → (∀ l n, o.data ≠ .seq l n) → o.data ≠ .fields #[] → (hidT s1.heap H).get? b = some o := fun {b o} e h1 h2 => by
    refine hidT_get e ?_
    cases q : H b with
    | none => rfl
    | some u =>
      rcases atLaw_cases q with ⟨m, _⟩ | ⟨_, rfl, _, _⟩
      · rw [tabs b m] at e
        cases e
        exact absurd rfl h2
      · rw [ha] at e
        cases e
        exact absurd rfl (h1 _ _)
  have nss : ∀ {b : Addr} {m : Str → Option Value}, s1.heap.Ns b m → (hidT s1.heap H).Ns b m := by
    rintro b m ⟨o, es, ep, e, d, r⟩
    exact ⟨o, es, ep, stay e (fun l n z => by rw [d] at z; cases z) (fun z => by rw [d] at z; cases z), d, r⟩
  have KB : K.In (hidT s1.heap H) := fun b o e => by
    refine hidT_get (KX b o e) ?_
    cases q : H b with
    | none => rfl
    | some u =>
      rcases atLaw_cases q with ⟨m, _⟩ | ⟨_, rfl, n, _⟩
      · rw [tabK b m] at e
        cases e
      · rw [n] at e
        cases e
  have MB : L2.Mod K mg (hidT s1.heap H) := ⟨KB, nss hns, ⟨mb, nss hb, hbb⟩, by
    obtain ⟨mc, z1, z2⟩ := hlim
    exact ⟨mc, nss z1, z2⟩⟩
  have notDict : ∀ {b : Addr} {m : Str → Option Value} {o : Obj}, s1.heap.Ns b m → s1.heap.get? b = some o → ∃ es ep, o.data = .dict es ep := by
    rintro b m o ⟨o', es, ep, e, d, _⟩ z
    rw [z] at e
    cases e
    exact ⟨es, ep, d⟩
  have TB : ∀ p ∈ cs, TabB (hidT s1.heap H) mg p.1 p.2 := fun p hp => by
    have gP : mainGlobals ≠ p.2 := fun z => by
      obtain ⟨es, ep, q⟩ := notDict hns (z ▸ hT p hp)
      cases q
    obtain ⟨bm, ob, b1, b2, b3, b4, b5, b6⟩ := hbm
    refine ⟨PySem.W.codeHd_of_K KB (hC p hp), ⟨bm, ob, b1, b2, fun z => ?_, fun z => ?_, stay b3 (fun l n z => by rw [b6] at z; cases z) (fun z => by rw [b6] at z; cases z), b4, b5, b6⟩, gP⟩
    · obtain ⟨es, ep, q⟩ := notDict hns (z ▸ b3)
      rw [b6] at q
      cases q
    · have q := hT p hp
      rw [← z, b3] at q
      cases q
      cases b6
  have e0 : Env0 P w K mg (hidT s1.heap H) callerA [] s1 H :=
    ⟨rfl, MB, fun b o e => of_hidT e, Nat.le_of_eq (hidT_size _ _), trivial, fun b hb => absurd (show b ∈ ([] : List Addr) from hb) (by simp), ok, .of_eq hg⟩
  have tracked : ∀ p ∈ cs, H p.2 = some (.tbl #[]) := fun p hp => atLaw_tab (List.mem_map.mpr ⟨p, hp, rfl⟩)
  refine codeAny_mono ((F _ KB (nss hns) TB).go callerA [] s1 H ⟨[.ref a], []⟩ [.ref a] [.ref a] _ _ hr rfl e0 (hbind s1 (.ref a)) (.cons rfl .nil) (hsp H tracked seen)) ?_
  intro r s' out
  cases r with
  | error e => exact (hCX H e s' out).elim
  | ok fl =>
    cases fl with
    | next => exact False.elim out
    | brk => exact False.elim out
    | cont => exact False.elim out
    | ret u =>
      obtain ⟨v, H', os', bare, un, ok', ru, ev⟩ := out
      cases (show v = .bl true from ev)
      cases (show u = Value.bool true from ru)
      refine ⟨rfl, ⟨fun b o e => ?_, fun b o e => ?_⟩, os', bare⟩
      · by_cases m : b ∈ T
        · obtain ⟨p, hp, rfl⟩ := List.mem_map.mp m
          rw [hT p hp] at e
          cases e
          obtain ⟨more, z⟩ := un.tbls p.2 #[] (tracked p hp)
          have z2 : s'.heap.get? p.2 = some { cls := .none, data := .fields (#[] ++ more) } := ok' p.2 _ z
          exact .inr (.inl ⟨((PySem.W.codeHd_of_K KX (hC p hp)).tab (hT p hp)).isCodeTable, rfl, #[], more, rfl, z2⟩)
        · cases q : H b with
          | none => exact .inl (un.keep b o e q (by simp [frs]) (by simp))
          | some u =>
            rcases atLaw_cases q with ⟨m', _⟩ | ⟨_, rfl, _, rfl⟩
            · exact absurd m' m
            · obtain ⟨z, _⟩ := ok' b _ (un.frzs b _ _ q)
              rw [ha] at e
              cases e
              exact .inl z
      · obtain ⟨o', z⟩ := un.there b o e (by simp)
        exact ⟨o', z⟩
end Shw

namespace Shw
open PySem PySem.Spec PyProof.Rows L2 LamX
/-- what is known of the law's def at the heap h behind the head -/
structure LawG (l : PySem.W.OpenLaw) (w : World) (K : PySem.W.Frag) (CX : CXT) (k n : Nat) (x : Str) (mg : Str → Option Value) (fa : Addr) (h : Heap) (fd : FuncData) (cs : List (Addr × Addr)) (sp : Sp) : Prop where
  laid : ∀ p ∈ cs, h.get? p.2 = some { cls := .none, data := .fields #[] }
  out : ∀ p ∈ cs, K.lookup p.2 = none
  code : ∀ p ∈ cs, PySem.W.codeHdIn K p.1 p.2 = true
  binds : ∀ (s : Shared) (u : Value), BindsTo s fd ⟨[u], []⟩ [(x, u)]
  asks : ∀ (H : Hp) (a : Addr) (ns : List Int), ns.length ≤ n → (∀ z ∈ ns, Builtin.Int.intBits z ≤ 1048576) → (∀ p ∈ cs, H p.2 = some (.tbl #[])) → SqL K H a (ns.map V.int) →
    sp [.ref a] H (fun v _ => v = .bl true) fun _ _ _ => False
  keeps : ∀ base : Heap, K.In base → base.Ns mainGlobals mg → (∀ p ∈ cs, TabB base mg p.1 p.2) → FnG l.prog w K mg base CX k fa fd [x] sp
theorem walkG {l : PySem.W.OpenLaw} {n k : Nat} {q : Program} {loose : List Str} {XP : (Str → Option Value) → Heap → Prop} {YP : World → Heap → Prop} {d : DefRec} {CX : World → CXT} {x : Str}
    (hn : l.most = some n) (hn2 : n ≤ sizeLine) (hdf : d.params.defaults = []) (hr : Room k callerA)
    (F : ∀ (w : World) (mg : Str → Option Value) (fa : Addr) (h : Heap), YP w h → h.Ns mainGlobals mg → mg d.name = some (.ref fa) →
      ∃ K : PySem.W.Frag, K.In h ∧ ∃ fd cs sp, LawG l w K (CX w) k n x mg fa h fd cs sp)
    (hCX : ∀ (w : World) (H : Hp) (s : Shared) (e : Value) (s' : Shared), CX w [] H s (fun _ _ _ => False) e s' → False) :
    PySem.W.WalkO q loose XP YP l.row.toRowW d [] (fun f vs => PySem.call f vs) := by
  refine Att.attach_callB hn hdf ?_
  intro w s0 s1 mg mb fa o pm cd doc a vs ns G Y ho hd hcd hmg hobj hints hlen hbits hg
  obtain ⟨K, KX, fd, cs, sp, L⟩ := F w mg fa _ Y G.T.g hmg
  exact endG KX G.T.g G.T.b G.T.builtins G.T.nolimit hg L.laid L.out L.code G.T.bmain hobj hints (Nat.le_trans hlen hn2) hr L.keeps L.binds
    (fun H hH hS => L.asks H a ns hlen hbits hH hS) fun H e s' => hCX w H s1 e s'
end Shw
set_option Elab.async false
set_option linter.all false
set_option maxRecDepth 100000
set_option maxHeartbeats 2000000
namespace Dfs
open PySem PySem.Spec PyProof.Rows L2 Pre
/-- a def of the module, by its name -/
structure Dfn (P : Program) (w : World) (K : PySem.W.Frag) (mg : Str → Option Value) (base : Heap) (CX : CXT) (k : Nat) (x : Str) (ps : List Str) (sp : Sp) : Prop where
  at_ : mg x = some (.ref (He.ga K x))
  kp : PySem.W.keepIn K (.ref (He.ga K x)) = true
  ok : ∃ fd, FnOk P w K mg base CX k (He.ga K x) fd ps sp ∧ Binds K fd ps []
/-- a method of a class of the module -/
structure Mfn (P : Program) (w : World) (K : PySem.W.Frag) (mg : Str → Option Value) (base : Heap) (CX : CXT) (k : Nat) (C : Addr) (m : Str) (ps : List Str) (sp : Sp) : Prop where
  cl : Cls K C
  mt : Meth K C m (He.ma K C m)
  ok : ∃ fd, FnOk P w K mg base CX k (He.ma K C m) fd ps sp ∧ Binds K fd ps []
section
variable {X : Cx} {CX : CXT} {k : Nat} {x m : Str} {C : Addr} {ps : List Str} {sp : Sp} {E : XK} {t : TA} {ta : TE} {e o : Expr} {es : List Expr} {p pos apos : Pos}
theorem pe_d (D : Dfn X.prog X.w X.K X.mg X.base CX k x ps sp) (hr : Room k X.A) (hg : Gl X x) (hx : Passes CX X E) (ha : PA X (e :: es) t) (hdb : (x == ("__debug__" : Str)) = false := by decide)
    (he : starEach (e :: es) X.env = (false, eval e X.env) :: starEach es X.env := by rfl) (hpl : (backTo pos (starEach es X.env)).any (·.1) = false := by rfl) :
    PE X (.Call (.Name x p) (e :: es) [] pos) (tCall sp [] E t) := by
  obtain ⟨fd, F, b⟩ := D.ok
  exact pe_call F hr hg D.at_ D.kp b .nil hx ha hdb he hpl
theorem pe_m {pl : Sem Bool} (he : PE X o ta) (D : Mfn X.prog X.w X.K X.mg X.base CX k C m ps sp) (hr : Room k X.A) (hx : Passes CX X E) (ha : PA X (e :: es) t)
    (hst : starEach (e :: es) X.env = (false, eval e X.env) :: starEach es X.env := by rfl) (hpl : (backTo pos (starEach es X.env)).any (·.1) = false := by rfl)
    (ht : eval (.Call (.Attribute o m apos) (e :: es) [] pos) X.env = (do
      let ov ← eval o X.env
      standAt apos.atName
      let (f, first) ← holding [ov] (getMethod ov m pl)
      callWith pos f first (backTo pos (starEach (e :: es) X.env)) (backToKw pos (keywordEach [] X.env))) := by rfl) :
    PE X (.Call (.Attribute o m apos) (e :: es) [] pos) (tMeth C m sp [] E ta t) := by
  obtain ⟨fd, F, b⟩ := D.ok
  exact pe_meth he D.cl D.mt F hr b .nil hx ha hst hpl ht
theorem pe_m0 {pl : Sem Bool} (he : PE X o ta) (D : Mfn X.prog X.w X.K X.mg X.base CX k C m ps sp) (hr : Room k X.A) (hx : Passes CX X E)
    (ht : eval (.Call (.Attribute o m apos) [] [] pos) X.env = (do
      let ov ← eval o X.env
      standAt apos.atName
      let (f, first) ← holding [ov] (getMethod ov m pl)
      callWith pos f first [] (backToKw pos (keywordEach [] X.env))) := by rfl) :
    PE X (.Call (.Attribute o m apos) [] [] pos) (tMeth C m sp [] E ta tNil) := by
  obtain ⟨fd, F, b⟩ := D.ok
  exact pe_meth0 he D.cl D.mt F hr b .nil hx ht
end
/-- an exception of a callee that this def lets out -/
theorem lets {P : Program} {w : World} {X : Cx} {E : XK} {W : WX} (tk : Takes X W) (h : ∀ cls d σ H, E cls d H → W cls d σ H) (eP : X.prog = P) (ew : X.w = w) : Passes (L2.CX P w) X E := by
  subst eP
  subst ew
  exact passes_call tk h
end Dfs
set_option Elab.async false
set_option linter.all false
set_option maxRecDepth 100000
set_option maxHeartbeats 2000000
/-! super().__init__(..) of an own class, in a def that closes over its class. -/
namespace Sup
open PySem PySem.Spec PyProof.Rows L2 Pre NdefX StX
/-- f's def closes over its class D by the cell cc; its code object stands at c -/
structure FunS (P : Program) (K : PySem.W.Frag) (x qual : Str) (params : Arguments) (body : List Stmt) (scope : Scope) (D cc c f : Addr) (fd : FuncData) : Prop where
  ex : ∃ (oc : Value) (od : Option Addr) (kV doc pm : Value) (an : Option Addr) (ct : Value) (osl : Array (Option Value)),
    fd = PySem.W.fnX x qual params body scope [("__class__", cc)] .none kV doc pm an (.ref c) ct ∧ K.lookup f = some ⟨oc, od, .func fd, osl⟩
  cod : PySem.W.codeIn K (.ref c) qual = true
  file : ∃ (ccl : Value) (cdd : Option Addr) (vs : Array Value) (ccs : Array (Option Value)) (file : Str) (tf : Tok), K.lookup c = some ⟨ccl, cdd, .fields vs, ccs⟩ ∧ vs[2]? = some (.str file tf) ∧ ((P.main.file : Str) == file) = true
  cell : ∃ (cl : Value) (cld : Option Addr) (csl : Array (Option Value)), K.lookup cc = some ⟨cl, cld, .cell (some (.ref D)), csl⟩
  cls : ∃ cd, PySem.W.clsIn K D = some cd
  sub : PySem.W.mroIn K D (.ref D) = some true
  sup : PySem.W.nsIn K mainGlobals "super" = some none
  top : (P.main.scope.names.lookup ("super" : Str)).isSome = false
/-- no class of another party is known in the heap -/
def Opq (h : Heap) : Prop := ∃ o, h.get? cStatics = some o ∧ PySem.W.nsIn [(cStatics, o)] cStatics "thirdparty.any" = some none
theorem Opq.looks {h h' : Heap} {M : Model} {C : Addr} (q : Opq h) (k : ∀ b o, h.get? b = some o → h'.get? b = some o) : PySem.W.Looks M h' (opaqueClassAbove (.ref C)) none := by
  obtain ⟨o, e1, e2⟩ := q
  refine PySem.W.looks_opaque (K := [(cStatics, o)]) (fun a u z => ?_) e2
  have z2 : (match a == cStatics with | true => some o | false => none) = some u := z
  cases hh : (a == cStatics) with
  | true =>
    rw [hh] at z2
    rw [beq_iff_eq.mp hh, ← Option.some.inj z2]
    exact k _ _ e1
  | false =>
    rw [hh] at z2
    cases z2
/-- statements that run as the def's own activation -/
structure PSa (X : Cx) (c : Code) (st : List Stmt) (t : TS) : Prop where
  run : ∀ (pins : List (Addr × Obj)) (s : Shared) (σ : L2.St) (H : Hp) (D : Ends), Inv X pins σ H s → t D σ H → _root_.PySem.wpAt (model X.prog X.w) X.A c (execs st X.env) (SP X pins D) X.xe s
section
variable {X : Cx} {c : Code} {st : Stmt} {sts : List Stmt} {t u : TS}
theorem psa_of (h : PSs X sts t) : PSa X c sts t := ⟨fun pins s σ H D I q => wpAt_of_wpAny (h.run pins s σ H D I q)⟩
theorem psa_cons (h : PS X st t) (r : PSa X c sts u) : PSa X c (st :: sts) (tSeq t u) := ⟨fun pins s σ H D I q => by
  refine ks_wpAt_execs_cons (wpAt_of_wpAny (thn (h.run pins s σ H { D with nx := u D } I q) fun fl s1 z => ?_))
  cases fl with
  | next =>
    obtain ⟨σ1, H1, I1, z1⟩ := z
    exact r.run pins s1 σ1 H1 D I1 z1
  | ret v => exact z
  | brk => exact z
  | cont => exact z⟩
end
/-- super().__init__(..): self stands in the first slot -/
def tSup (C : Addr) (sp : Sp) (E : XK) (t : TA) (u : TS) : TS := fun D σ H => ∃ a dx fs, σ[0]? = some (some (.ref a)) ∧ H a = some (.ins C dx fs) ∧
  t σ H fun vs H1 => H1 a = some (.ins C dx fs) ∧ sp (.ref a :: vs) H1 (fun _ H2 => u D σ H2) E
section
variable {CX CX' : CXT} {P : Program} {w : World} {K : PySem.W.Frag} {mg : Str → Option Value} {base : Heap} {N : List Str} {x qual : Str} {params : Arguments} {body : List Stmt} {scope : Scope} {D cc c f g : Addr} {fd gd : FuncData} {A : Around} {outer : List Env} {s0 : Shared} {H0 : Hp} {E0 E : XK}
  {k : Nat} {ps : List Str} {sp : Sp} {t : TA} {u : TS} {sts : List Stmt} {e : Expr} {p0 p1 p2 p3 p4 : Pos} {ar : Arg} {pl : Sem Bool}
abbrev nfS (x qual : Str) (params : Arguments) (body : List Stmt) (scope : Scope) (cc c : Addr) : NF := ⟨x, qual, params, body, scope, [("__class__", cc)], c⟩
theorem psa_super (S : FunS P K x qual params body scope D cc c f fd) (hopq : Opq base) (hp : (params.posonlyargs ++ params.args).head? = some ar) (hN : N[0]? = some ar.arg)
    (hks : scope.names.lookup ("super" : Str) = some .globalImplicit) (hkc : scope.names.lookup ("__class__" : Str) = some .free) (hka : scope.names.lookup ar.arg = some .local)
    (hm : PySem.W.ks_superIn K D D "__init__" = some (some (.ref g))) (ht : PySem.W.typeIn K (.ref g) = some (.type "function")) (hf : PySem.W.fnIn K g = true)
    (F : FnOk P w K mg base CX' k g gd ps sp) (hr : Room k (A.deeper (envF (nfS x qual params body scope cc c) f s0.heap.objs.size))) (hb : Binds K gd ps [])
    (hx : Passes CX' (ncx CX P w K mg base N (nfS x qual params body scope cc c) f A outer s0 H0 E0) E)
    (ha : PA (ncx CX P w K mg base N (nfS x qual params body scope cc c) f A outer s0 H0 E0) [e] t)
    (r : PSa (ncx CX P w K mg base N (nfS x qual params body scope cc c) f A outer s0 H0 E0) (.func body (envF (nfS x qual params body scope cc c) f s0.heap.objs.size)) sts u)
    (hst : starEach [e] (envF (nfS x qual params body scope cc c) f s0.heap.objs.size) = (false, eval e (envF (nfS x qual params body scope cc c) f s0.heap.objs.size)) :: starEach [] (envF (nfS x qual params body scope cc c) f s0.heap.objs.size) := by rfl)
    (hi : interactive (envF (nfS x qual params body scope cc c) f s0.heap.objs.size) = false := by rfl)
    (hs : swapsWith (.Call (.Attribute (.Call (.Name "super" p0) [] [] p1) "__init__" p2) [e] [] p3) none p4.line (envF (nfS x qual params body scope cc c) f s0.heap.objs.size) = pure false := by rfl)
    (he : eval (.Call (.Attribute (.Call (.Name "super" p0) [] [] p1) "__init__" p2) [e] [] p3) (envF (nfS x qual params body scope cc c) f s0.heap.objs.size) = (do
      let ov ← attributeBase (.Call (.Name "super" p0) [] [] p1) "__init__" (envF (nfS x qual params body scope cc c) f s0.heap.objs.size) (eval (.Call (.Name "super" p0) [] [] p1) (envF (nfS x qual params body scope cc c) f s0.heap.objs.size))
      standAt p2.atName
      let (h, first) ← holding [ov] (getMethod ov "__init__" pl)
      callWith p3 h first (backTo p3 (starEach [e] (envF (nfS x qual params body scope cc c) f s0.heap.objs.size))) []) := by rfl) :
    PSa (ncx CX P w K mg base N (nfS x qual params body scope cc c) f A outer s0 H0 E0) (.func body (envF (nfS x qual params body scope cc c) f s0.heap.objs.size))
      (.Expr (.Call (.Attribute (.Call (.Name "super" p0) [] [] p1) "__init__" p2) [e] [] p3) p4 :: sts) (tSup D sp E t u) := ⟨fun pins s σ H En I q => by
  obtain ⟨a, dx, fs, ea, hins, q⟩ := q
  have KX : K.In s.heap := I.kIn
  obtain ⟨oc, od, kV, doc, pm, an, ct, osl, rfl, lk⟩ := S.ex
  obtain ⟨ccl, cdd, vs, ccs, file, tf, lc, hvs, hfile⟩ := S.file
  obtain ⟨cl, cld, csl, lcc⟩ := S.cell
  obtain ⟨cd, hcd⟩ := S.cls
  obtain ⟨mA, O, _, _, _, _⟩ := ins_get I.hok hins
  have hox := O.obj
  obtain ⟨oD, lD, hD2⟩ : ∃ oD, K.lookup D = some oD ∧ oD.data = .cls cd := by
    unfold PySem.W.clsIn at hcd
    split at hcd
    · rename_i c0 d0 cd' sl ho
      cases hcd
      exact ⟨_, ho, rfl⟩
    · cases hcd
  have hD1 := KX _ _ lD
  have aD : a ≠ D := by
    rintro rfl
    rw [(I.bs _ _ (I.mod.kin _ _ lD)).2] at hins
    cases hins
  obtain ⟨og, lg, hgc⟩ : ∃ og, K.lookup g = some og ∧ og.cls = .type "function" := by
    have ht' : (K.lookup g).map (·.cls) = some (.type "function") := ht
    cases z : K.lookup g with
    | none =>
      rw [z] at ht'
      cases ht'
    | some og =>
      rw [z] at ht'
      exact ⟨og, rfl, Option.some.inj ht'⟩
  have hm2 : PySem.W.alongIn K "__init__" ((cd.mro.dropWhile (· != .ref D)).drop 1) = some (some (.ref g)) := by
    unfold PySem.W.ks_superIn at hm
    rw [hcd] at hm
    exact hm
  obtain ⟨m, hns, hσ⟩ := I.loc
  obtain ⟨ua, rua, la⟩ := hσ 0 ar.arg (.ref a) hN ea (.inl hka)
  obtain rfl : ua = .ref a := rua
  have hself : m ar.arg = some (.ref a) := by
    rcases la with ⟨_, e1⟩ | ⟨e1, _⟩
    · exact e1
    · rw [show (ncx CX P w K mg base N (nfS x qual params body scope cc c) f A outer s0 H0 E0).env.kindOf ar.arg = some .local from hka] at e1
      rcases e1 with e1 | e1 <;> cases e1
  obtain ⟨mb, b1, b2⟩ := I.mod.blt
  have hsup : mg "super" = none := PySem.W.mg_none_of I.mod.kin I.mod.glob S.sup
  have hboot : bootBuiltins "super" = some (.type "super") := by kernel_rfl
  obtain ⟨hh, gs, d, tk, os⟩ := s
  refine ks_wpAt_execs_cons (ks_wpAt_Expr_any (ks_wpAt_MethodCall (ks_wpAt_super_base (env := envF (nfS x qual params body scope cc c) f s0.heap.objs.size) hks hkc (by decide) rfl (KX _ _ lk) rfl hp rfl (KX _ _ lc) rfl hvs hfile S.top ?_) he) hi hs)
  refine PySem.W.ks_loadName_global I.ok.kind hks (Calls.loadGlobal_builtin (env := envF (nfS x qual params body scope cc c) f s0.heap.objs.size) (I.mod.glob.keeps I.bk) hsup (b1.keeps I.bk) ((b2 _ (by decide)).trans hboot) ⟨rfl, ?_⟩)
  refine wpAny_loadName_free I.ok.kind hkc rfl ⟨_, KX _ _ lcc, rfl⟩ ?_
  refine wpAny_loadName_local I.ok.kind hka hns hself ?_
  refine ks_wpAny_isType_cls hD1 hD2 ⟨rfl, ?_⟩
  refine ks_wpAny_call_super hD1 hD2 hox rfl (fun c e => by cases e) (PySem.W.looks_mroIn KX S.sub) (fun h' e1 k1 => ?_)
  have I1 : Inv _ ((hh.objs.size, PySem.W.ks_superObj D a D) :: pins) σ H ⟨h', gs, d, tk, os⟩ := ClX.pin_new (t' := tk) I k1 (Nat.le_refl _) e1 (fun v z => by cases z)
  have KX1 : K.In h' := I1.kIn
  refine ks_wpAny_getMethod_super e1 (hopq.looks I1.bk) (l₀ := cd.mro) (fun A Q E s k q => wpAny_bind ((PySem.W.looks_clsIn KX1 hcd) A _ E s k (wpAny_pure q))) rfl KX1 hm2 (KX1 _ _ lg) hgc aD (by decide) ?_
  have I2 : Inv _ ((h'.objs.size, PySem.W.methodObj (.ref g) (.ref a)) :: (hh.objs.size, PySem.W.ks_superObj D a D) :: pins) σ H ⟨h'.push (PySem.W.methodObj (.ref g) (.ref a)), gs, d, tk + 1, os⟩ :=
    ClX.pin_new (t' := tk + 1) I1 (fun b o z => Heap.get?_push_of_some _ z) (Nat.le_refl _) (Heap.get?_push_at rfl rfl) (fun v z => by cases z)
  show wpAny _ _ (callWith p3 (.ref h'.objs.size) [] (backTo p3 (starEach [e] (envF (nfS x qual params body scope cc c) f s0.heap.objs.size))) []) _ _ _
  have ev := ha.run p3 _ _ σ H _ I2 q
  have ev2 : wpAny (model P w) (A.deeper (envF (nfS x qual params body scope cc c) f s0.heap.objs.size)) (spliced (backTo p3 (starEach [e] (envF (nfS x qual params body scope cc c) f s0.heap.objs.size)))) _ _ _ := ev
  rw [hst] at ev2 ⊢
  refine PySem.W.callWith_of (P := PySem.W.MethP K h'.objs.size g (.ref a)) rfl (PySem.W.keeps_M hf) (Calls.evalArgs_plain (thn ev2 ?_))
  rintro us s1 ⟨vs1, H1, I3, rv, eh, q1⟩
  refine ⟨⟨ClX.pin_at I3, I3.kIn⟩, ?_⟩
  have r2 : Vals (V.ref a :: vs1) (Value.ref a :: us) := .cons rfl rv
  have hl : (Value.ref a :: us).length = ps.length := by
    rw [← r2.length]
    exact F.len _ _ _ _ q1
  have hb2 := hb s1 (Value.ref a :: us) I3.kIn (by rw [List.append_nil]; exact hl)
  rw [List.append_nil] at hb2
  refine wpAny_call (PySem.W.method_call (ClX.pin_at I3) (codeAny_mono (F.run _ _ s1 H1 ⟨Value.ref a :: us, []⟩ (Value.ref a :: us) (V.ref a :: vs1) _ E hr I3.env0 hb2 r2 q1) ?_))
  intro out s2 hq
  cases out with
  | error z => exact hx _ σ H1 s1 z s2 I3 hq
  | ok fl =>
    cases fl with
    | ret v =>
      obtain ⟨y, H2, I4, _, q2⟩ := I3.after hq
      exact r.run pins s2 σ H2 En (ClX.unpin (ClX.unpin I4)) q2
    | next => exact hq.elim
    | brk => exact hq.elim
    | cont => exact hq.elim⟩
theorem fnS_of (S : FunS P K x qual params body scope D cc c f fd) (NS : NScope N ps ["__class__"] scope) (len : ∀ vs H Q E, sp vs H Q E → vs.length = ps.length)
    (walk : ∀ (A : Around) (outer : List Env) (s : Shared) (H : Hp) (vs : List V) (Q : VK) (E : XK), Room k (A.deeper (envF (nfS x qual params body scope cc c) f s.heap.objs.size)) → sp vs H Q E →
      ∃ t, PSa (ncx CX P w K mg base N (nfS x qual params body scope cc c) f A outer s H E) (.func body (envF (nfS x qual params body scope cc c) f s.heap.objs.size)) body t ∧ t { nx := fun _ H' => Q .non H', rt := Q } (startF N vs [none]) H) :
    FnOk P w K mg base CX (k + 1) f fd ps sp := by
  refine ⟨len, fun A outer s H args us vs Q E hr e0 hbind rv hsp => ?_⟩
  have KX : K.In s.heap := e0.mod.kin.keeps fun b o e => (e0.bs b o e).1
  have hl := len _ _ _ _ hsp
  have lim : s.heap.NoLimit := e0.mod.nolimit.keeps fun b o e => (e0.bs b o e).1
  obtain ⟨oc, od, kV, doc, pm, an, ct, osl, rfl, lk⟩ := S.ex
  obtain ⟨cl, cld, csl, lcc⟩ := S.cell
  have one : ∀ (y : Str) (q : Addr), ([("__class__", cc)] : List (Str × Addr)).lookup y = some q → y = "__class__" ∧ q = cc := fun y q z => by
    simp only [List.lookup] at z
    split at z
    · rename_i h1
      exact ⟨beq_iff_eq.mp h1, (Option.some.inj z).symm⟩
    · cases z
  have C : CellsAt [("__class__", cc)] ["__class__"] [none] s.heap H := by
    refine ⟨rfl, fun y q z => ?_, fun y z q e1 e2 => (one _ _ e1).1.trans (one _ _ e2).1.symm, fun i y hy => ?_⟩
    · obtain ⟨rfl, rfl⟩ := one _ _ z
      exact ⟨(e0.bs _ _ (e0.mod.kin _ _ lcc)).2, _, _, KX _ _ lcc, rfl⟩
    · cases i with
      | zero =>
        obtain rfl : "__class__" = y := Option.some.inj hy
        exact ⟨cc, rfl, fun v z => by cases z⟩
      | succ n => cases hy
  refine ks_codeAny_call_defAt (body := body) (binds := ps.zip us) hr.depth (KX _ _ lk) rfl lim (PySem.W.codeRec_of KX S.cod) rfl hbind NS.nocell (fun ⟨n, _⟩ hy => NS.par n (List.of_mem_zip hy).1) (fun h₁ hns kp => ?_) NS.co NS.gen NS.kind
  obtain ⟨t, ht, hq⟩ := walk A outer s H vs Q E (hr.deeper _) hsp
  have I : Inv (ncx CX P w K mg base N (nfS x qual params body scope cc c) f A outer s H E) [] (startF N vs [none]) H { s with heap := h₁, toks := s.toks + (ps.zip us).length } := inv_startN NS hr.hd e0 hl rv C hns kp
  refine ks_wpAt_mono (ht.run [] _ (startF N vs [none]) H _ I hq) (fun fl s' hs => ?_) fun e s' hs => hs
  have fin : ∀ {σ' : L2.St} {H' : Hp} {v : V} {y : Value}, Inv (ncx CX P w K mg base N (nfS x qual params body scope cc c) f A outer s H E) [] σ' H' s' → L2.RelV v y → Q v H' → CE outer P w H s Q y s' :=
    fun {σ' H' v y} J r q => ⟨v, H', J.os, J.bare, J.base, J.hok, r, q⟩
  cases fl with
  | ret y =>
    obtain ⟨v, σ', H', J, r, q⟩ := hs
    exact fin J r q
  | next =>
    obtain ⟨σ', H', J, q⟩ := hs
    exact fin (v := V.non) (y := Value.none) J rfl q
  | brk =>
    obtain ⟨_, _, _, q⟩ := hs
    exact q.elim
  | cont =>
    obtain ⟨_, _, _, q⟩ := hs
    exact q.elim
/-- .. whose last parameter takes what is left over -/
theorem fnS_star {pv : Str} (S : FunS P K x qual params body scope D cc c f fd) (NS : NScope N (ps ++ [pv]) ["__class__"] scope) (hCX : CXUp CX)
    (hbd : ∀ (kV doc pm ct : Value) (an : Option Addr) (us rest : List Value), us.length = ps.length → bindArgs (PySem.W.fnX x qual params body scope [("__class__", cc)] .none kV doc pm an (.ref c) ct) ⟨us ++ rest, []⟩ = (newTuple rest >>= fun t => pure (ps.zip us ++ [(pv, t)])))
    (walk : ∀ (A : Around) (outer : List Env) (s : Shared) (H : Hp) (vs : List V) (Q : VK) (E : XK), Room k (A.deeper (envF (nfS x qual params body scope cc c) f s.heap.objs.size)) → sp vs H Q E →
      ∃ t, PSa (ncx CX P w K mg base N (nfS x qual params body scope cc c) f A outer s H E) (.func body (envF (nfS x qual params body scope cc c) f s.heap.objs.size)) body t ∧ t { nx := fun _ H' => Q .non H', rt := Q } (startF N vs [none]) H) :
    FnR P w K mg base CX (k + 1) f (fun vs H Q E => ∃ ws rest, vs = ws ++ rest ∧ ws.length = ps.length ∧ rest.length ≤ sizeLine ∧ ∀ p, H p = none → sp (ws ++ [V.ref p]) (upd H p (.tup rest)) Q E) := by
  intro A outer s H us vs Q E hr e0 r hsp
  obtain ⟨ws, rest, rfl, hl, hz, hq⟩ := hsp
  obtain ⟨u1, u2, rfl, r1, r2⟩ := vals_split r
  have KX : K.In s.heap := e0.mod.kin.keeps fun b o e => (e0.bs b o e).1
  have hn : H s.heap.objs.size = none := e0.hok.fresh (Nat.le_refl _)
  have hl1 : u1.length = ps.length := by
    rw [← r1.length]
    exact hl
  have hl2 : u2.length ≤ sizeLine := by
    rw [← r2.length]
    exact hz
  obtain ⟨oc, od, kV, doc, pm, an, ct, osl, rfl, lk⟩ := S.ex
  obtain ⟨cl, cld, csl, lcc⟩ := S.cell
  refine codeAny_call_function hr.depth (KX _ _ lk) rfl NS.co NS.gen rfl (PySem.W.codeRec_of KX S.cod) ?_
  rw [hbd kV doc pm ct an u1 u2 hl1]
  refine wpAny_bind (wpAny_newTuple (wpAny_pure ?_) hl2)
  have made : ObjOk P w (upd H s.heap.objs.size (.tup rest)) (s.heap.push ({ cls := .type "tuple", data := .seq u2.toArray } : Obj)) s.heap.objs.size (.tup rest) := ⟨hz, u2, r2, ⟨_, Heap.get?_push_size _ rfl, rfl, _, rfl⟩⟩
  have e2 := env0_laid e0 made
  have un := un_laid (fs := frs outer) (s := s) (o := ({ cls := .type "tuple", data := .seq u2.toArray } : Obj)) (u := .tup rest) hn
  have lim2 : (s.heap.push ({ cls := .type "tuple", data := .seq u2.toArray } : Obj)).NoLimit := e0.mod.nolimit.keeps fun b o e => (e2.bs b o e).1
  have one : ∀ (y : Str) (q : Addr), ([("__class__", cc)] : List (Str × Addr)).lookup y = some q → y = "__class__" ∧ q = cc := fun y q z => by
    simp only [List.lookup] at z
    split at z
    · rename_i h1
      exact ⟨beq_iff_eq.mp h1, (Option.some.inj z).symm⟩
    · cases z
  have CA : CellsAt [("__class__", cc)] ["__class__"] [none] (s.heap.push ({ cls := .type "tuple", data := .seq u2.toArray } : Obj)) (upd H s.heap.objs.size (.tup rest)) := by
    refine ⟨rfl, fun y q z => ?_, fun y z q e1 e2 => (one _ _ e1).1.trans (one _ _ e2).1.symm, fun i y hy => ?_⟩
    · obtain ⟨rfl, rfl⟩ := one _ _ z
      have z2 := e2.bs _ _ (e0.mod.kin _ _ lcc)
      exact ⟨z2.2, _, _, z2.1, rfl⟩
    · cases i with
      | zero =>
        obtain rfl : "__class__" = y := Option.some.inj hy
        exact ⟨cc, rfl, fun v z => by cases z⟩
      | succ n => cases hy
  have rv : Vals (ws ++ [V.ref s.heap.objs.size]) (u1 ++ [Value.ref s.heap.objs.size]) := r1.append (.cons rfl .nil)
  have hlen : (ws ++ [V.ref s.heap.objs.size]).length = (ps ++ [pv]).length := by
    rw [List.length_append, List.length_append, hl]
    rfl
  have hz2 : ps.zip u1 ++ [(pv, Value.ref s.heap.objs.size)] = (ps ++ [pv]).zip (u1 ++ [Value.ref s.heap.objs.size]) := by
    rw [List.zip_append hl1.symm]
    rfl
  rw [hz2]
  refine wpAny_newFunctionEnv (s := { s with heap := s.heap.push ({ cls := .type "tuple", data := .seq u2.toArray } : Obj) }) NS.nocell (fun ⟨n, _⟩ hy => NS.par n (List.of_mem_zip hy).1) (fun h₁ hns hsb => ⟨lim2.fresh _ hsb, ks_codeAny_funcAt ?_⟩) NS.kind
  have kp : ∀ b o, (s.heap.push ({ cls := .type "tuple", data := .seq u2.toArray } : Obj)).get? b = some o → h₁.get? b = some o := fun b o e => hsb.extBut b o (Nat.ne_of_lt (Heap.lt_size e)) (Heap.get?_push_of_some _ e)
  obtain ⟨t, ht, hq2⟩ := walk A outer { s with heap := s.heap.push ({ cls := .type "tuple", data := .seq u2.toArray } : Obj) } (upd H s.heap.objs.size (.tup rest)) (ws ++ [V.ref s.heap.objs.size]) Q E (hr.deeper _) (hq _ hn)
  have I := inv_startN (CX := CX) (P := P) (w := w) (F := nfS x qual params body scope cc c) (f := f) (E := E) (tk := s.toks + ((ps ++ [pv]).zip (u1 ++ [Value.ref s.heap.objs.size])).length) NS hr.hd e2 hlen rv CA hns kp
  refine ks_wpAt_mono (ht.run [] _ _ _ _ I hq2) (fun fl s' hs => ?_) fun e s' hs => ?_
  · have fin : ∀ {σ' : L2.St} {H' : Hp} {v : V} {y : Value}, Inv (ncx CX P w K mg base N (nfS x qual params body scope cc c) f A outer { s with heap := s.heap.push ({ cls := .type "tuple", data := .seq u2.toArray } : Obj) } (upd H s.heap.objs.size (.tup rest)) E) [] σ' H' s' → L2.RelV v y → Q v H' → CE outer P w H s Q y s' :=
      fun {σ' H' v y} J r q => ⟨v, H', J.os, J.bare, un.trans J.base, J.hok, r, q⟩
    cases fl with
    | ret y =>
      obtain ⟨v, σ', H', J, r, q⟩ := hs
      exact fin J r q
    | next =>
      obtain ⟨σ', H', J, q⟩ := hs
      exact fin (v := V.non) (y := Value.none) J rfl q
    | brk =>
      obtain ⟨_, _, _, q⟩ := hs
      exact q.elim
    | cont =>
      obtain ⟨_, _, _, q⟩ := hs
      exact q.elim
  · have up := hCX outer s H { s with heap := s.heap.push ({ cls := .type "tuple", data := .seq u2.toArray } : Obj) } (upd H s.heap.objs.size (.tup rest)) E
    exact wpAny_mono hs (fun _ s'' z => up _ s'' un (fun b o q => Heap.get?_push_of_some _ q) rfl z) fun e' s'' z => up e' s'' un (fun b o q => Heap.get?_push_of_some _ q) rfl z
end
end Sup
set_option Elab.async false
set_option linter.all false
set_option maxRecDepth 100000
set_option maxHeartbeats 2000000
/-! A Hook that tells, besides, the defs that no name of the module reaches at once: a classmethod's, one that closes over its class; and what is known of other parties' classes. -/
namespace Hkc
open PySem PySem.Spec PyProof.Rows L2 He
abbrev Fv : Type := Option (Str × Str × Arguments × FuncBody × Scope × Addr × List Str × Addr)
def fv (K : PySem.W.Frag) (a : Addr) : Fv := (K.lookup a).bind fun o => match o.data with
  | .func z => some (z.name, z.qualname, z.params, z.body, z.scope, z.globals, z.closure.map Prod.fst, z.builtins)
  | _ => none
structure Md where
  how : PySem.W.Frag → Addr
  name : Str
  qual : Str
  params : Arguments
  body : List Stmt
  scope : Scope
  cl : List Str
def Md.fv (m : Md) : Fv := some (m.name, m.qual, m.params, .stmts m.body, m.scope, mainGlobals, m.cl, builtinsNs)
/-- the code objects of the functions there -/
def codA (g : Addr → Option Obj) (a : Addr) : List Addr := match g a with
  | some ⟨_, _, .func z, _⟩ => refV z.code
  | _ => []
def asC (g : Addr → Option Obj) (n : Nat) : List Addr := cStatics :: asD g n ++ (asD g n).flatMap (codA g)
def opB (g : Addr → Option Obj) : Bool := match g cStatics with
  | some o => decide (PySem.W.nsIn [(cStatics, o)] cStatics "thirdparty.any" = some none)
  | none => false
abbrev AlC : Type := (AlX × List Fv) × Bool
/-- no class of another party is known in the written part -/
def opqB (K : PySem.W.Frag) : Bool := match K.lookup cStatics with
  | some o => decide (PySem.W.nsIn [(cStatics, o)] cStatics "thirdparty.any" = some none)
  | none => false
theorem opqB_ok {K : PySem.W.Frag} {h : Heap} (e : opqB K = true) (k : K.In h) : Sup.Opq h := by
  unfold opqB at e
  cases q : K.lookup cStatics with
  | none =>
    rw [q] at e
    cases e
  | some o =>
    rw [q] at e
    exact ⟨o, k _ _ q, of_decide_eq_true e⟩
def obsC (n : Nat) (fa : List Fa) (fn : List DefD) (tf : List Defn) (ex : PySem.W.Frag → Bool) (ms : List Md) (g : Addr → Option Obj) : AlC :=
  (((obsT fa fn [] (frT g (asC g n)), ex (frT g (asC g n)) && tabsB g tf (frT g (asC g n))), ms.map fun m => Hkc.fv (frT g (asC g n)) (m.how (frT g (asC g n)))), opB g)
def valC (fn : List DefD) (ms : List Md) (w : World) : AlC := ((valX fn [] w, ms.map Md.fv), true)
structure SaysC (fa : List Fa) (fn : List DefD) (tf : List Defn) (ex : PySem.W.Frag → Bool) (ms : List Md) (w : World) (h : Heap) (K : PySem.W.Frag) : Prop where
  x : SaysX fa fn [] tf ex w h K
  m : (ms.map fun m => Hkc.fv K (m.how K)) = ms.map Md.fv
  opq : Sup.Opq h
theorem saysC_of {fa : List Fa} {fn : List DefD} {tf : List Defn} {ex : PySem.W.Frag → Bool} {ms : List Md} {w : World} {h : Heap} {as : List Addr}
    (e : ((((obsT fa fn [] (frT h.get? as), ex (frT h.get? as) && tabsB h.get? tf (frT h.get? as)), ms.map fun m => Hkc.fv (frT h.get? as) (m.how (frT h.get? as))), opB h.get?) : AlC) = valC fn ms w) : SaysC fa fn tf ex ms w h (frT h.get? as) := by
  obtain ⟨e9, eo⟩ := Prod.mk.inj e
  obtain ⟨e0, em⟩ := Prod.mk.inj e9
  obtain ⟨et, eb⟩ := Prod.mk.inj e0
  obtain ⟨hx, hb⟩ := Bool.and_eq_true_iff.mp eb
  generalize hK : frT h.get? as = K at *
  have each : ∀ p ∈ tf, PySem.W.codeHdIn K (cT K p).1 (cT K p).2 = true ∧ ∃ o, h.get? (cT K p).2 = some o ∧ emptyTab o = true := by
    intro p hp
    obtain ⟨a1, a2⟩ := Bool.and_eq_true_iff.mp (List.all_eq_true.mp hb p hp)
    cases q : h.get? (cT K p).2 with
    | none =>
      simp only [q] at a2
      exact Bool.noConfusion a2
    | some o =>
      simp only [q] at a2
      exact ⟨a1, o, rfl, a2⟩
  refine ⟨⟨et, hx, fun p hp => (each p hp).1, fun p hp => ?_, fun p hp => ?_⟩, em, ?_⟩
  · obtain ⟨_, o, q, z⟩ := each p hp
    subst hK
    exact frT_none q z
  · obtain ⟨_, o, q, z⟩ := each p hp
    rw [q, emptyTab_eq z]
  · unfold opB at eo
    cases q : h.get? cStatics with
    | none =>
      rw [q] at eo
      cases eo
    | some o =>
      rw [q] at eo
      exact ⟨o, q, of_decide_eq_true eo⟩
def hookC (n : Nat) (fa : List Fa) (fn : List DefD) (tf : List Defn) (ex : PySem.W.Frag → Bool) (ms : List Md) : PySem.W.Hook where
  α := AlC
  obs := fun s => obsC n fa fn tf ex ms s.heap.get?
  val := fun w => valC fn ms w
  says := fun w h => ∃ K : PySem.W.Frag, K.In h ∧ SaysC fa fn tf ex ms w h K
  of := fun _ _ e => ⟨_, frT_in, saysC_of e⟩
  keeps := fun _ _ _ ⟨K, hK, c⟩ k => ⟨K, PySem.W.Frag.In.keeps hK k, ⟨⟨c.x.t, c.x.more, c.x.hd, c.x.out, fun p hp => k _ _ (c.x.empty p hp)⟩, c.m, let ⟨o, e1, e2⟩ := c.opq
    ⟨o, k _ _ e1, e2⟩⟩⟩
theorem obsC_eq {n : Nat} {fa : List Fa} {fn : List DefD} {tf : List Defn} {ex : PySem.W.Frag → Bool} {ms : List Md} {g : Addr → Option Obj} {s : Shared} (h : ∀ a, g a = s.heap.get? a) : obsC n fa fn tf ex ms g = (hookC n fa fn tf ex ms).obs s := by
  obtain rfl : g = s.heap.get? := funext h
  rfl
section
variable {K : PySem.W.Frag} {ms : List Md}
theorem md_at (e : (ms.map fun m => Hkc.fv K (m.how K)) = ms.map Md.fv) (i : Nat) {m : Md} (h : ms[i]? = some m) : Hkc.fv K (m.how K) = m.fv := by
  have e2 := congrArg (fun l : List Fv => l[i]?) e
  simp only [List.getElem?_map, h, Option.map_some] at e2
  exact Option.some.inj e2
/-- the function at a, its closure's names those of m -/
theorem fv_ok {a : Addr} {m : Md} (e : Hkc.fv K a = m.fv) : ∃ (oc : Value) (od : Option Addr) (cl : List (Str × Addr)) (dV kV doc pm : Value) (an : Option Addr) (cdv ct : Value) (osl : Array (Option Value)),
    cl.map Prod.fst = m.cl ∧ K.lookup a = some ⟨oc, od, .func (PySem.W.fnX m.name m.qual m.params m.body m.scope cl dV kV doc pm an cdv ct), osl⟩ := by
  unfold Hkc.fv at e
  cases q : K.lookup a with
  | none =>
    rw [q] at e
    cases e
  | some o =>
    obtain ⟨oc, od, dt, osl⟩ := o
    rw [q] at e
    cases dt with
    | func z =>
      obtain ⟨n1, n2, n3, n4, n5, n6, n7, n8, n9, n10, n11, n12, n13, n14, n15⟩ := z
      have e2 : (some (n1, n2, n3, n4, n5, n6, n7.map Prod.fst, n15) : Fv) = some (m.name, m.qual, m.params, .stmts m.body, m.scope, mainGlobals, m.cl, builtinsNs) := e
      simp only [Option.some.injEq, Prod.mk.injEq] at e2
      obtain ⟨rfl, rfl, rfl, rfl, rfl, rfl, h7, rfl⟩ := e2
      exact ⟨oc, od, n7, n8, n9, n10, n11, n12, n13, n14, osl, h7, rfl⟩
    | _ => cases e
/-! super -/
/-- what of the text is asked of a def of the class x that says super() -/
def supB (file qual x : Str) (K : PySem.W.Frag) : Bool := match K.lookup (ma K (ga K x) "__init__") with
  | some ⟨_, _, .func z, _⟩ => (match z.closure, z.code, z.defaults with
    | [(_, cc)], .ref c, .none => PySem.W.codeIn K (.ref c) qual && ((match K.lookup c with
        | some ⟨_, _, .fields vs, _⟩ => (match (vs[2]? : Option Value) with
          | some (.str y _) => decide (y = file)
          | _ => false)
        | _ => false) && (match K.lookup cc with
        | some ⟨_, _, .cell (some (.ref D)), _⟩ => decide (D = ga K x)
        | _ => false))
    | _, _, _ => false) && ((PySem.W.clsIn K (ga K x)).isSome && (decide (PySem.W.mroIn K (ga K x) (.ref (ga K x)) = some true) && decide (PySem.W.nsIn K mainGlobals "super" = some none)))
  | _ => false
theorem supB_ok {P : Program} {file x : Str} {m : Md} (h : supB file m.qual x K = true) (hm : m.cl = [("__class__" : Str)]) (e : Hkc.fv K (ma K (ga K x) "__init__") = m.fv) (hf : ((P.main.file : Str) == file) = true) (ht : (P.main.scope.names.lookup ("super" : Str)).isSome = false) :
    ∃ cc c fd, Sup.FunS P K m.name m.qual m.params m.body m.scope (ga K x) cc c (ma K (ga K x) "__init__") fd := by
  obtain ⟨oc, od, cl, dV, kV, doc, pm, an, cdv, ct, osl, hcl, lk⟩ := fv_ok e
  unfold supB at h
  rw [lk] at h
  rw [hm] at hcl
  cases cl with
  | nil => cases hcl
  | cons q r =>
    obtain ⟨qn, cc⟩ := q
    cases r with
    | cons q2 r2 => cases hcl
    | nil =>
      obtain rfl : qn = "__class__" := (List.cons.inj hcl).1
      cases cdv with
      | ref c =>
        cases dV with
        | none => ?_
        | _ => simp at h
        simp only [Bool.and_eq_true, decide_eq_true_eq] at h
        obtain ⟨⟨h1, h2, h3⟩, h4, h5, h6⟩ := h
        refine ⟨cc, c, _, ⟨⟨oc, od, kV, doc, pm, an, ct, osl, rfl, lk⟩, h1, ?_, ?_, Option.isSome_iff_exists.mp h4, h5, h6, ht⟩⟩
        · cases q1 : K.lookup c with
          | none =>
            rw [q1] at h2
            cases h2
          | some o =>
            obtain ⟨o1, o2, o3, o4⟩ := o
            rw [q1] at h2
            cases o3 with
            | fields vs =>
              dsimp only at h2
              cases q2 : vs[2]? with
              | none =>
                rw [q2] at h2
                cases h2
              | some v =>
                rw [q2] at h2
                cases v with
                | str y t =>
                  obtain rfl : y = file := of_decide_eq_true h2
                  exact ⟨o1, o2, vs, o4, y, t, rfl, q2, hf⟩
                | _ => cases h2
            | _ => cases h2
        · cases q1 : K.lookup cc with
          | none =>
            rw [q1] at h3
            cases h3
          | some o =>
            obtain ⟨o1, o2, o3, o4⟩ := o
            rw [q1] at h3
            cases o3 with
            | cell v =>
              cases v with
              | none => cases h3
              | some v =>
                cases v with
                | ref D =>
                  obtain rfl : D = ga K x := of_decide_eq_true h3
                  exact ⟨o1, o2, o4, rfl⟩
                | _ => cases h3
            | _ => cases h3
      | _ => simp at h
/-! classmethods -/
def gm (K : PySem.W.Frag) (C : Addr) (m : Str) : Addr := match PySem.W.recIn K (ma K C m) "classmethod" with
  | some (.ref g :: _) => g
  | _ => 0
/-- the function at g: no defaults, its code's name -/
def mdB (K : PySem.W.Frag) (g : Addr) (qual : Str) : Bool := match K.lookup g with
  | some ⟨_, _, .func z, _⟩ => PySem.W.codeIn K z.code qual && (match z.defaults with
    | .none => true
    | _ => false)
  | _ => false
theorem fn_md {g : Addr} {m : Md} (e : Hkc.fv K g = m.fv) (hm : m.cl = []) (h : mdB K g m.qual = true) : ∃ (oc : Value) (od : Option Addr) (kV doc pm : Value) (an : Option Addr) (cdv ct : Value) (osl : Array (Option Value)),
    K.lookup g = some ⟨oc, od, .func (PySem.W.fnOf m.name m.qual m.params m.body m.scope .none kV doc pm an cdv ct), osl⟩ ∧ PySem.W.codeIn K cdv m.qual = true := by
  obtain ⟨oc, od, cl, dV, kV, doc, pm, an, cdv, ct, osl, hcl, lk⟩ := fv_ok e
  rw [hm] at hcl
  obtain rfl : cl = [] := List.map_eq_nil_iff.mp hcl
  unfold mdB at h
  rw [lk] at h
  obtain ⟨h1, h2⟩ := Bool.and_eq_true_iff.mp h
  cases dV with
  | none => exact ⟨oc, od, kV, doc, pm, an, cdv, ct, osl, lk, h1⟩
  | _ => cases h2
def cmB (x m qual : Str) (K : PySem.W.Frag) : Bool := (match PySem.W.recIn K (ma K (ga K x) m) "classmethod" with
  | some (.ref _ :: _) => true
  | _ => false) && (PySem.W.fnIn K (gm K (ga K x) m) && (PySem.W.readsIn K (ga K x) (.type "type") && (decide (PySem.W.specialIn K (.ref (ga K x)) "__getattribute__" = some (some (.builtin "type.__getattribute__"))) &&
    ((match PySem.W.findCls K (.ref (ga K x)) (.type "type") m with
    | some (.get (.builtin n) (.ref p) .none (.ref C)) => decide (n = "classmethod.__get__") && (decide (p = ma K (ga K x) m) && decide (C = ga K x))
    | _ => false) && mdB K (gm K (ga K x) m) qual))))
theorem cmB_ok {x m qual : Str} (h : cmB x m qual K = true) : ClX.CRead K (ga K x) (.type "type") ∧ ClX.CMet K (ga K x) (.type "type") m (ma K (ga K x) m) (gm K (ga K x) m) ∧ mdB K (gm K (ga K x) m) qual = true := by
  unfold cmB at h
  simp only [Bool.and_eq_true, decide_eq_true_eq] at h
  obtain ⟨h1, h2, h3, h4, h5, h6⟩ := h
  refine ⟨⟨h3, h4⟩, ⟨?_, ?_, h2⟩, h6⟩
  · cases q : PySem.W.findCls K (.ref (ga K x)) (.type "type") m with
    | none =>
      rw [q] at h5
      cases h5
    | some u =>
      rw [q] at h5
      split at h5
      · rename_i n p C e
        cases e
        simp only [Bool.and_eq_true, decide_eq_true_eq] at h5
        obtain ⟨rfl, rfl, rfl⟩ := h5
        rfl
      · cases h5
  · unfold gm
    cases q : PySem.W.recIn K (ma K (ga K x) m) "classmethod" with
    | none =>
      rw [q] at h1
      cases h1
    | some l =>
      rw [q] at h1
      split at h1
      · rename_i g r e
        cases e
        exact ⟨r, rfl⟩
      · cases h1
end
end Hkc
set_option Elab.async false
set_option linter.all false
set_option maxRecDepth 100000
set_option maxHeartbeats 2000000
/-! Values of plain kinds, and what the programs ask of them: an int that is no bool, one within bounds. -/
namespace Vls
open PySem PySem.Spec PyProof.Rows L2 Pre
/-- a plain value -/
inductive Dat (H : Hp) : V → Prop where
  | non : Dat H .non
  | bl (b : Bool) : Dat H (.bl b)
  | int (i : Int) : Dat H (.int i)
  | str (x : Str) : Dat H (.str x)
  | lst {a : Addr} {xs : List V} (e : H a = some (.lst xs)) : Dat H (.ref a)
  | tup {a : Addr} {xs : List V} (e : H a = some (.tup xs)) : Dat H (.ref a)
  | dct {a : Addr} {kvs : List (Key × V)} (e : H a = some (.dK kvs)) : Dat H (.ref a)
theorem Dat.but {H H' : Hp} {x : V} (d : Dat H x) (s : Same H H') : Dat H' x := by
  cases d with
  | non => exact .non
  | bl b => exact .bl b
  | int i => exact .int i
  | str z => exact .str z
  | lst e => exact .lst (s _ _ e)
  | tup e => exact .tup (s _ _ e)
  | dct e => exact .dct (s _ _ e)
/-- the name of its type -/
def tyN (H : Hp) : V → String
  | .non => "NoneType"
  | .bl _ => "bool"
  | .int _ => "int"
  | .str _ => "str"
  | .ref a => (match H a with
    | some (.lst _) => "list"
    | some (.tup _) => "tuple"
    | _ => "dict")
  | _ => ""
theorem Dat.ty {K : PySem.W.Frag} {H : Hp} {x : V} (d : Dat H x) : TyX K H x (.type (tyN H x)) := by
  cases d with
  | non => exact .base .non
  | bl b => exact .base (.bl b)
  | int i => exact .base (.int i)
  | str z => exact .base (.str z)
  | lst e =>
    simp only [tyN, e]
    exact .base (.lst e)
  | tup e =>
    simp only [tyN, e]
    exact .base (.tup e)
  | dct e =>
    simp only [tyN, e]
    exact .base (.dK e)
def isT (H : Hp) (x : V) : Bool := match x with
  | .ref a => (match H a with
    | some (.tup _) => true
    | _ => false)
  | _ => false
def isL (H : Hp) (x : V) : Bool := match x with
  | .ref a => (match H a with
    | some (.lst _) => true
    | _ => false)
  | _ => false
def isB : V → Bool
  | .bl _ => true
  | _ => false
def isS : V → Bool
  | .str _ => true
  | _ => false
/-- an int, no bool -/
def isW : V → Bool
  | .int _ => true
  | _ => false
def isI : V → Bool
  | .int _ => true
  | .bl _ => true
  | _ => false
/-- .. within bounds -/
def inR (lo hi : Int) : V → Bool
  | .int i => decide (lo ≤ i) && decide (i ≤ hi)
  | _ => false
/-- .. and not below 0 -/
def isC : V → Bool
  | .int i => decide (0 ≤ i)
  | _ => false
theorem kit_of_ty {K : PySem.W.Frag} {T S : String} {b : Bool} (h : kitB T S = some b) : PySem.W.kitOne K (.type T) (.type S) = some b := h
theorem Dat.kInt {K : PySem.W.Frag} {H : Hp} {x : V} (d : Dat H x) : PySem.W.kitOne K (.type (tyN H x)) (.type "int") = some (isI x) := by
  cases d with
  | lst e =>
    simp only [tyN, e]
    exact kit_of_ty (by kernel_rfl)
  | tup e =>
    simp only [tyN, e]
    exact kit_of_ty (by kernel_rfl)
  | dct e =>
    simp only [tyN, e]
    exact kit_of_ty (by kernel_rfl)
  | _ => exact kit_of_ty (by kernel_rfl)
theorem Dat.kBool {K : PySem.W.Frag} {H : Hp} {x : V} (d : Dat H x) : PySem.W.kitOne K (.type (tyN H x)) (.type "bool") = some (isB x) := by
  cases d with
  | lst e =>
    simp only [tyN, e]
    exact kit_of_ty (by kernel_rfl)
  | tup e =>
    simp only [tyN, e]
    exact kit_of_ty (by kernel_rfl)
  | dct e =>
    simp only [tyN, e]
    exact kit_of_ty (by kernel_rfl)
  | _ => exact kit_of_ty (by kernel_rfl)
theorem Dat.kStr {K : PySem.W.Frag} {H : Hp} {x : V} (d : Dat H x) : PySem.W.kitOne K (.type (tyN H x)) (.type "str") = some (isS x) := by
  cases d with
  | lst e =>
    simp only [tyN, e]
    exact kit_of_ty (by kernel_rfl)
  | tup e =>
    simp only [tyN, e]
    exact kit_of_ty (by kernel_rfl)
  | dct e =>
    simp only [tyN, e]
    exact kit_of_ty (by kernel_rfl)
  | _ => exact kit_of_ty (by kernel_rfl)
theorem Dat.kTup {K : PySem.W.Frag} {H : Hp} {x : V} (d : Dat H x) : PySem.W.kitOne K (.type (tyN H x)) (.type "tuple") = some (isT H x) := by
  cases d with
  | lst e =>
    simp only [tyN, isT, e]
    exact kit_of_ty (by kernel_rfl)
  | tup e =>
    simp only [tyN, isT, e]
    exact kit_of_ty (by kernel_rfl)
  | dct e =>
    simp only [tyN, isT, e]
    exact kit_of_ty (by kernel_rfl)
  | _ => exact kit_of_ty (by kernel_rfl)
theorem Dat.kLst {K : PySem.W.Frag} {H : Hp} {x : V} (d : Dat H x) : PySem.W.kitOne K (.type (tyN H x)) (.type "list") = some (isL H x) := by
  cases d with
  | lst e =>
    simp only [tyN, isL, e]
    exact kit_of_ty (by kernel_rfl)
  | tup e =>
    simp only [tyN, isL, e]
    exact kit_of_ty (by kernel_rfl)
  | dct e =>
    simp only [tyN, isL, e]
    exact kit_of_ty (by kernel_rfl)
  | _ => exact kit_of_ty (by kernel_rfl)
/-- isinstance(x, (list, tuple)) -/
theorem Dat.kSeq {K : PySem.W.Frag} {H : Hp} {x : V} (d : Dat H x) : PySem.W.kitAny K (.type (tyN H x)) [.type "list", .type "tuple"] = some (isL H x || isT H x) := by
  refine kitAny_cons d.kLst (fun h => ?_) fun h => by rw [h]; rfl
  rw [h, Bool.false_or]
  refine kitAny_cons d.kTup (fun h2 => ?_) fun h2 => h2
  rw [h2]
  exact kitAny_nil
/-- what isinstance asks of an instance's class -/
structure Ins (K : PySem.W.Frag) (C : Addr) : Prop where
  a : PySem.W.findIn K (.ref C) "__class__" = some (some (.builtin "object.__class__"))
  g : PySem.W.specialIn K (.builtin "object.__class__") "__get__" = some (some (.builtin "getset_descriptor.__get__"))
  t : PySem.W.takesIn K (.builtin "object.__class__") = some true
  o : PySem.W.mroIn K C (.type "object") = some true
def insB (K : PySem.W.Frag) (C : Addr) : Bool := decide (PySem.W.findIn K (.ref C) "__class__" = some (some (.builtin "object.__class__"))) && (decide (PySem.W.specialIn K (.builtin "object.__class__") "__get__" = some (some (.builtin "getset_descriptor.__get__"))) &&
  (decide (PySem.W.takesIn K (.builtin "object.__class__") = some true) && decide (PySem.W.mroIn K C (.type "object") = some true)))
theorem insB_ok {K : PySem.W.Frag} {C : Addr} (h : insB K C = true) : Ins K C := by
  unfold insB at h
  simp only [Bool.and_eq_true, decide_eq_true_eq] at h
  exact ⟨h.1, h.2.1, h.2.2.1, h.2.2.2⟩
theorem Ins.ty {K : PySem.W.Frag} {H : Hp} {a C dx : Addr} {fs : List (Str × V)} (i : Ins K C) (c : Cls K C) (e : H a = some (.ins C dx fs)) : TyX K H (.ref a) (.ref C) := .base (.ins e c i.a i.g i.t i.o)
/-- a comprehension's own names -/
def blkB (N : List Str) (sc scope : Scope) (own : List (Str × Nat)) : Bool := decide (scope.kind = .function) && (scope.names.all (fun y => decide (scope.names.lookup y.1 = some y.2)) && (own.all (fun p => decide (N[p.2]? = some p.1)) &&
  (scope.names.all (fun y => !decide (y.2 = .free) || (decide (sc.names.lookup y.1 = some .cell) || decide (sc.names.lookup y.1 = some .free))) && scope.names.all (fun y => !(decide (y.2 = .local) || decide (y.2 = .cell)) || (decide (y.1 ∈ own.map (·.1)) || !decide (y.1 ∈ N))))))
theorem blk_by {N : List Str} {sc scope : Scope} {own : List (Str × Nat)} (h : blkB N sc scope own = true) : BlkOk N sc scope own := by
  unfold blkB at h
  simp only [Bool.and_eq_true, decide_eq_true_eq, List.all_eq_true, Bool.or_eq_true, Bool.not_eq_true', decide_eq_false_iff_not, Bool.or_eq_false_iff] at h
  obtain ⟨h1, h2, h3, h4, h5⟩ := h
  refine ⟨h1, h2, h3, fun y hy e => (h4 y hy).elim (fun z => absurd e z) id, fun y hy e => ?_⟩
  rcases h5 y hy with z | z
  · exact e.elim (fun q => absurd q z.1) fun q => absurd q z.2
  · exact z
/-- what a call's arguments bind, def by def -/
theorem bind1 {B : List Value → Sem (List (Str × Value))} {p1 : Str} (h : ∀ a, B [a] = pure [(p1, a)]) : ∀ us : List Value, us.length = [p1].length → B us = pure ([p1].zip us)
  | [a], _ => h a
theorem bind2 {B : List Value → Sem (List (Str × Value))} {p1 p2 : Str} (h : ∀ a b, B [a, b] = pure [(p1, a), (p2, b)]) : ∀ us : List Value, us.length = [p1, p2].length → B us = pure ([p1, p2].zip us)
  | [a, b], _ => h a b
theorem bind3 {B : List Value → Sem (List (Str × Value))} {p1 p2 p3 : Str} (h : ∀ a b c, B [a, b, c] = pure [(p1, a), (p2, b), (p3, c)]) : ∀ us : List Value, us.length = [p1, p2, p3].length → B us = pure ([p1, p2, p3].zip us)
  | [a, b, c], _ => h a b c
section
variable {P : Program} {w : World} {K : PySem.W.Frag} {mg : Str → Option Value} {base : Heap} {CX : CXT} {k : Nat} {x qual : Str} {params : Arguments} {body : List Stmt} {scope : Scope} {N ps : List Str} {sp : Sp}
/-- a def of the module without defaults -/
theorem dfn (q : ∃ fd, FunD K x qual params body scope [] [] (He.ga K x) fd) (g : mg x = some (.ref (He.ga K x))) (S : FnScope N ps scope) (len : ∀ vs H Q E, sp vs H Q E → vs.length = ps.length)
    (hb : ∀ (kV doc pm : Value) (an : Option Addr) (cdv ct : Value) (us : List Value), us.length = ps.length → bindArgs (PySem.W.fnOf x qual params body scope .none kV doc pm an cdv ct) ⟨us, []⟩ = pure (ps.zip us))
    (walk : ∀ (cdv : Value) (A : Around) (outer : List Env) (s : Shared) (H : Hp) (vs : List V) (Q : VK) (E : XK), Room k (A.deeper (envOfC qual scope s.heap.objs.size (He.ga K x) cdv)) → sp vs H Q E →
      ∃ t, PSs (cxOf CX P w K mg base N qual scope (He.ga K x) cdv A outer s H E) body t ∧ t { nx := fun _ H' => Q .non H', rt := Q } (start N vs) H) : Dfs.Dfn P w K mg base CX (k + 1) x ps sp := by
  obtain ⟨fd, F⟩ := q
  exact ⟨g, F.kp, fd, F.ok S len walk, F.bindsN hb⟩
/-- a method of a class of the module without defaults -/
theorem mfn {C : Addr} (q : ∃ fd, FunD K x qual params body scope [] [] (He.ma K C x) fd) (c : Cls K C) (m : Meth K C x (He.ma K C x)) (S : FnScope N ps scope) (len : ∀ vs H Q E, sp vs H Q E → vs.length = ps.length)
    (hb : ∀ (kV doc pm : Value) (an : Option Addr) (cdv ct : Value) (us : List Value), us.length = ps.length → bindArgs (PySem.W.fnOf x qual params body scope .none kV doc pm an cdv ct) ⟨us, []⟩ = pure (ps.zip us))
    (walk : ∀ (cdv : Value) (A : Around) (outer : List Env) (s : Shared) (H : Hp) (vs : List V) (Q : VK) (E : XK), Room k (A.deeper (envOfC qual scope s.heap.objs.size (He.ma K C x) cdv)) → sp vs H Q E →
      ∃ t, PSs (cxOf CX P w K mg base N qual scope (He.ma K C x) cdv A outer s H E) body t ∧ t { nx := fun _ H' => Q .non H', rt := Q } (start N vs) H) : Dfs.Mfn P w K mg base CX (k + 1) C x ps sp := by
  obtain ⟨fd, F⟩ := q
  exact ⟨c, m, fd, F.ok S len walk, F.bindsN hb⟩
end
end Vls
set_option Elab.async false
set_option linter.all false
set_option maxRecDepth 100000
set_option maxHeartbeats 2000000
/-! properties of own classes, told by the Hook -/
namespace Prp
open PySem PySem.Spec PyProof.Rows L2 He
/-- the getter -/
def gp (K : PySem.W.Frag) (C : Addr) (m : Str) : Addr := match PySem.W.recIn K (ma K C m) "property" with
  | some (.ref g :: _) => g
  | _ => 0
def propB (x m qual : Str) (K : PySem.W.Frag) : Bool := (match PySem.W.recIn K (ma K (ga K x) m) "property" with
  | some (.ref _ :: _) => true
  | _ => false) && (decide (PySem.W.findIn K (.ref (ga K x)) m = some (some (.ref (ma K (ga K x) m)))) && (decide (PySem.W.specialIn K (.ref (ma K (ga K x) m)) "__get__" = some (some (.builtin "property.__get__"))) &&
    (decide (PySem.W.takesIn K (.ref (ma K (ga K x) m)) = some true) && (PySem.W.keepIn K (.ref (gp K (ga K x) m)) && Hkc.mdB K (gp K (ga K x) m) qual))))
theorem propB_ok {K : PySem.W.Frag} {x m qual : Str} (h : propB x m qual K = true) : PropOf K (ga K x) m (ma K (ga K x) m) (gp K (ga K x) m) ∧ PySem.W.keepIn K (.ref (gp K (ga K x) m)) = true ∧ Hkc.mdB K (gp K (ga K x) m) qual = true := by
  unfold propB at h
  simp only [Bool.and_eq_true, decide_eq_true_eq] at h
  obtain ⟨h1, h2, h3, h4, h5, h6⟩ := h
  refine ⟨⟨h2, h3, h4, ?_⟩, h5, h6⟩
  unfold gp
  cases q : PySem.W.recIn K (ma K (ga K x) m) "property" with
  | none =>
    rw [q] at h1
    cases h1
  | some l =>
    rw [q] at h1
    split at h1
    · rename_i g r e
      cases e
      exact ⟨r, rfl⟩
    · cases h1
/-- the getter as a def -/
theorem funP {K : PySem.W.Frag} {x m name qual : Str} {ps : Arguments} {body : List Stmt} {sc : Scope} (e : Hkc.fv K (gp K (ga K x) m) = (Hkc.Md.mk (fun K => gp K (ga K x) m) name qual ps body sc []).fv) (h : PySem.W.keepIn K (.ref (gp K (ga K x) m)) = true) (h2 : Hkc.mdB K (gp K (ga K x) m) qual = true) :
    ∃ fd, FunD K name qual ps body sc [] [] (gp K (ga K x) m) fd := by
  obtain ⟨oc, od, kV, doc, pm, an, cdv, ct, osl, lk, hc⟩ := Hkc.fn_md e rfl h2
  exact ⟨_, ⟨oc, od, .none, kV, doc, pm, an, cdv, ct, osl, rfl, lk, hc, .inl ⟨rfl, rfl⟩, .inl rfl⟩, h⟩
end Prp
set_option Elab.async false
set_option linter.all false
set_option maxRecDepth 100000
set_option maxHeartbeats 2000000
/-! x == y, where the class of x answers by an own __eq__, whatever y is. -/
namespace Oeq
open PySem PySem.Spec PyProof.Rows L2 Pre
/-- the other operand: an instance, or a text -/
inductive Oth (H : Hp) : V → Value → Prop where
  | ins {b D dx : Addr} {fs : List (Str × V)} (e : H b = some (.ins D dx fs)) : Oth H (.ref b) (.ref D)
  | str (z : Str) : Oth H (.str z) (.type "str")
section
variable {X : Cx} {CX : CXT} {n : Nat} {f C : Addr} {fd : FuncData} {sp : Sp} {E : XK}
theorem Oth.looks {pins : List (Addr × Obj)} {σ : L2.St} {H : Hp} {s : Shared} {y : V} {u t : Value} {M : Model} (o : Oth H y t) (I : Inv X pins σ H s) (r : RelV y u) : PySem.W.Looks M s.heap (typeOf u) t := by
  cases o with
  | ins e =>
    cases (show u = Value.ref _ from r)
    obtain ⟨mB, J, _⟩ := ins_get I.hok e
    obtain ⟨od, J2, _⟩ := J.look
    exact J2.type
  | str z =>
    obtain ⟨k, rfl⟩ := (show ∃ k, u = Value.str z k from r)
    exact .of_pure rfl
def rEqO (K : PySem.W.Frag) (C : Addr) (sp : Sp) (E : XK) : R2 := fun x y H Q => ∃ a dx fs t, x = .ref a ∧ H a = some (.ins C dx fs) ∧ Oth H y t ∧ PySem.W.notFirst K C t = true ∧ sp [x, y] H (fun v H' => ∃ b, v = .bl b ∧ Q (.bl b) H') E
/-- the call of the own method, and what comes back -/
theorem ask {pins : List (Addr × Obj)} {σ : L2.St} {H : Hp} {s : Shared} {a : Addr} {y : V} {u : Value} {Q : VK} {A : Around} (F : FnOk X.prog X.w X.K X.mg X.base CX n f fd ["self", "other"] sp) (hb : Binds X.K fd ["self", "other"] []) (hr : Room n A) (hA : Env0 X.prog X.w X.K X.mg X.base A X.stack s H) (hx : Passes CX X E)
    (I : Inv X pins σ H s) (ry : RelV y u) (q : sp [.ref a, y] H (fun v H' => ∃ b, v = .bl b ∧ Q (.bl b) H') E) :
    wpAny (model X.prog X.w) A (call (.ref f) [.ref a, u]) (fun v s' => ∃ b, v = Value.bool b ∧ EP X pins σ Q (.bool b) s') X.xe s := by
  have hb2 := hb s [Value.ref a, u] I.kIn rfl
  refine wpAny_call (codeAny_mono (F.run A X.stack s H ⟨[Value.ref a, u], []⟩ [Value.ref a, u] [V.ref a, y] _ E hr hA hb2 (.cons rfl (.cons ry .nil)) q) ?_)
  intro out s' back
  cases out with
  | error z => exact hx pins σ H s z s' I back
  | ok fl =>
    cases fl with
    | ret w =>
      obtain ⟨v, H2, I2, rv, b, rfl, q2⟩ := I.after back
      cases (show w = Value.bool b from rv)
      exact ⟨b, rfl, .bl b, H2, I2, rfl, q2⟩
    | next => exact back.elim
    | brk => exact back.elim
    | cont => exact back.elim
theorem op_eqO (m : Meth X.K C "__eq__" f) (F : FnOk X.prog X.w X.K X.mg X.base CX n f fd ["self", "other"] sp) (hb : Binds X.K fd ["self", "other"] []) (hr : Room n X.A) (hx : Passes CX X E) : OpR X (compareOp .Eq) (rEqO X.K C sp E) := by
  intro pins s σ H x y v u Q I rx ry h
  obtain ⟨a, dx, fs, t, rfl, ea, ot, nf, q⟩ := h
  cases (show v = Value.ref a from rx)
  obtain ⟨mA, J, _⟩ := ins_get I.hok ea
  obtain ⟨od, J2, _⟩ := J.look
  obtain ⟨mF, hF⟩ := I.fr
  show wpAny _ _ (richCompare .Eq (.ref a) u) _ _ _
  refine PySem.W.cmp_K (op := .Eq) (tb := t) hr.units0 hF I.ok.mod.kin J2 (ot.looks I ry) nf m.at_ m.fn ?_
  refine wpAny_mono (ask F hb hr I.env0 hx I ry q) ?_ fun _ _ z => z
  rintro w s' ⟨b, rfl, q2⟩
  exact q2
/-- the other operand is of a class below, which answers first -/
theorem below {M : Program} {w : World} {A : Around} {E0 : Value → Shared → Prop} {K : PySem.W.Frag} {s : Shared} {a b D : Addr} {oa ob : Obj} {ca cb : Option Obj} {R : Value → Shared → Prop} (hu : A.units < cLine) (kin : K.In s.heap)
    (ha : PySem.W.InstAt s.heap a oa C ca) (hb : PySem.W.InstAt s.heap b ob D cb) (hn : (Value.ref C != Value.ref D) = true) (hs : PySem.W.subIn K (.ref D) (.ref C) = some true)
    (e1 : PySem.W.findIn K (.ref D) "__eq__" = some (some (.ref f))) (e2 : PySem.W.isFn K (.ref f) = true)
    (go : wpAny (model M w) A (call (.ref f) [.ref b, .ref a]) (fun v s' => ∃ c, v = Value.bool c ∧ R (.bool c) s') E0 s) : wpAny (model M w) A (richCompare .Eq (.ref a) (.ref b)) R E0 s := by
  have tried : wpAny (model M w) A (tryCompare (.ref b) "__eq__" (.ref a)) (fun r s' => ∃ c, r = some (Value.bool c) ∧ R (.bool c) s') E0 s := by
    unfold tryCompare
    refine wpAny_bind (PySem.W.ifBound_K kin hb e1 e2 (wpAny_mono go ?_ fun _ _ z => z))
    rintro v s' ⟨c, rfl, q⟩
    exact wpAny_pure ⟨c, rfl, q⟩
  unfold richCompare
  simp only [oneThing_ref, cmpInfo]
  refine wpAny_holding (wpAny_bind (wpAny_cRoomFor hu (wpAny_bind (ha.type.here (wpAny_bind (hb.type.here ?_))))))
  rw [if_pos hn]
  refine wpAny_bind ((PySem.W.looks_subIn kin hs).here ?_)
  rw [if_pos rfl]
  refine wpAny_bind (wpAny_mono tried ?_ fun _ _ z => z)
  rintro r s' ⟨c, rfl, q⟩
  exact wpAny_bind (wpAny_rule (wpAny_pure q))
/-- x == y, y of a class D below that of x -/
def rEqB (C D : Addr) (sp : Sp) (E : XK) : R2 := fun x y H Q => ∃ a dx fs b dy gs, x = .ref a ∧ H a = some (.ins C dx fs) ∧ y = .ref b ∧ H b = some (.ins D dy gs) ∧ sp [y, x] H (fun v H' => ∃ c, v = .bl c ∧ Q (.bl c) H') E
theorem op_eqB {D : Addr} (m : Meth X.K D "__eq__" f) (F : FnOk X.prog X.w X.K X.mg X.base CX n f fd ["self", "other"] sp) (hb : Binds X.K fd ["self", "other"] []) (hr : Room n X.A) (hx : Passes CX X E) (hn : (Value.ref C != Value.ref D) = true) (hs : PySem.W.subIn X.K (.ref D) (.ref C) = some true) :
    OpR X (compareOp .Eq) (rEqB C D sp E) := by
  intro pins s σ H x y v u Q I rx ry h
  obtain ⟨a, dx, fs, b, dy, gs, rfl, ea, rfl, eb, q⟩ := h
  cases (show v = Value.ref a from rx)
  cases (show u = Value.ref b from ry)
  obtain ⟨mA, J, _⟩ := ins_get I.hok ea
  obtain ⟨oa, J1, _⟩ := J.look
  obtain ⟨mB, J, _⟩ := ins_get I.hok eb
  obtain ⟨ob, J2, _⟩ := J.look
  show wpAny _ _ (richCompare .Eq (.ref a) (.ref b)) _ _ _
  exact below hr.units0 I.kIn J1 J2 hn hs m.at_ m.fn (ask (y := .ref a) (u := Value.ref a) F hb hr I.env0 hx I rfl q)
end
end Oeq
set_option Elab.async false
set_option linter.all false
set_option maxRecDepth 100000
set_option maxHeartbeats 2000000
/-! x != y, where the class of x says only ==. -/
namespace Oeq
open PySem PySem.Spec PyProof.Rows L2 Pre
section
variable {X : Cx} {CX : CXT} {n : Nat} {f C : Addr} {fd : FuncData} {sp : Sp} {E : XK}
/-- object's own != : the other way about of what == says -/
theorem other_way {P : Program} {w : World} {A : Around} {E0 : Value → Shared → Prop} {K : PySem.W.Frag} {s : Shared} {a : Addr} {oa : Obj} {ca : Option Obj} {u : Value} {R : Fin → Shared → Prop} (hu : A.units < cLine) (kin : K.In s.heap)
    (ha : PySem.W.InstAt s.heap a oa C ca) (e1 : PySem.W.findIn K (.ref C) "__eq__" = some (some (.ref f))) (e2 : PySem.W.isFn K (.ref f) = true)
    (go : wpAny (model P w) A (call (.ref f) [.ref a, u]) (fun v s' => ∃ b, v = Value.bool b ∧ R (.done (.ret (.bool (!b)))) s') E0 s) :
    wpAny (model P w) A (Builtin.«object.__ne__» ⟨[.ref a, u], []⟩) R E0 s := by
  have said : wpAny (model P w) A (callSpecialIfBound? (.ref a) "__eq__" [u]) (fun r s' => ∃ b, r = some (Value.bool b) ∧ R (.done (.ret (.bool (!b)))) s') E0 s := by
    refine PySem.W.ifBound_K kin ha e1 e2 (wpAny_mono go ?_ fun _ _ z => z)
    rintro v s' ⟨b, rfl, q⟩
    exact ⟨b, rfl, q⟩
  unfold Builtin.«object.__ne__»
  show wpAny _ _ (slotArgs "__ne__" 1 ⟨[.ref a, u], []⟩ >>= _) _ _ _
  rw [show slotArgs "__ne__" 1 ⟨[.ref a, u], []⟩ = pure (.ref a, [u]) from rfl]
  refine wpAny_bind (wpAny_pure ?_)
  refine wpAny_bind (wpAny_cRoomFor hu ?_)
  refine wpAny_bind (wpAny_mono said ?_ fun _ _ z => z)
  rintro r s' ⟨b, rfl, q⟩
  refine wpAny_bind (wpAny_truthy_bool ?_)
  exact wpAny_pure q
theorem slot_ok {P : Program} {w : World} {A : Around} {E0 : Value → Shared → Prop} {K : PySem.W.Frag} {s : Shared} {a : Addr} {oa : Obj} {ca : Option Obj} {u : Value} {R : Unit → Shared → Prop} (kin : K.In s.heap)
    (ha : PySem.W.InstAt s.heap a oa C ca) (ho : PySem.W.mroIn K C (.type "object") = some true) (q : R () s) : wpAny (model P w) A (checkBuiltinCall "object.__ne__" ⟨[.ref a, u], []⟩) R E0 s := by
  have L : PySem.W.Looks (model P w) s.heap (isInstance (.ref a) (.type "object")) true := ha.type.andThen (PySem.W.looks_mroIn kin ho)
  have args := F.cmpArgs_ne (.ref a) u
  simp only [checkBuiltinCall, F.cmpKind_ne, F.cmpSplit_ne]
  refine wpAny_bind (L.here ?_)
  unfold argsOk at args
  cases hs : Manifest.signature? "object.__ne__" with
  | none => exact wpAny_pure q
  | some sig =>
    rw [hs] at args
    have e : Bind.checkArgs "object.__ne__" sig ⟨[.ref a, u], []⟩ = pure () := args
    show wpAny _ _ (Bind.checkArgs "object.__ne__" sig ⟨[.ref a, u], []⟩) _ _ _
    rw [e]
    exact wpAny_pure q
def rNeO (K : PySem.W.Frag) (C : Addr) (sp : Sp) (E : XK) : R2 := fun x y H Q => ∃ a dx fs t, x = .ref a ∧ H a = some (.ins C dx fs) ∧ Oth H y t ∧ PySem.W.notFirst K C t = true ∧ sp [x, y] H (fun v H' => ∃ b, v = .bl b ∧ Q (.bl (!b)) H') E
theorem op_neO (m : Meth X.K C "__eq__" f) (FO : FnOk X.prog X.w X.K X.mg X.base CX n f fd ["self", "other"] sp) (hb : Binds X.K fd ["self", "other"] []) (hr : Room (n + 2) X.A) (hx : Passes CX X E)
    (hne : PySem.W.findIn X.K (.ref C) "__ne__" = some (some (.builtin "object.__ne__"))) (ho : PySem.W.mroIn X.K C (.type "object") = some true) : OpR X (compareOp .NotEq) (rNeO X.K C sp E) := by
  intro pins s σ H x y v u Q I rx ry h
  obtain ⟨a, dx, fs, t, rfl, ea, ot, nf, q⟩ := h
  cases (show v = Value.ref a from rx)
  obtain ⟨mA, J, _⟩ := ins_get I.hok ea
  obtain ⟨od, J2, _⟩ := J.look
  have kin := I.kIn
  have slot := F.cmp_object.ne
  have asked : wpAny (model X.prog X.w) X.A (tryCompare (.ref a) "__ne__" u) (fun r s' => ∃ b, r = some (Value.bool b) ∧ EP X pins σ Q (.bool b) s') X.xe s := by
    have rung : wpAny (model X.prog X.w) X.A (call (.builtin "object.__ne__") [.ref a, u]) (fun v s' => ∃ b, v = Value.bool b ∧ EP X pins σ Q (.bool b) s') X.xe s := by
      refine wpAny_call (codeAny_call_builtin slot.plain F.cmpEntry_ne (slot_ok kin J2 ho ?_))
      refine other_way (A := X.A.in1) hr.in1.units0 kin J2 m.at_ m.fn ?_
      have same : (fun v H' => ∃ b, v = V.bl b ∧ (fun v H' => ∃ b, v = V.bl b ∧ Q (.bl (!b)) H') (.bl b) H') = (fun v H' => ∃ b, v = V.bl b ∧ Q (.bl (!b)) H' : VK) := by
        funext v H'
        refine propext ⟨?_, ?_⟩
        · rintro ⟨b, rfl, c, e, q⟩
          obtain rfl : b = c := V.bl.inj e
          exact ⟨b, rfl, q⟩
        · rintro ⟨b, rfl, q⟩
          exact ⟨b, rfl, b, rfl, q⟩
      refine wpAny_mono (ask (A := X.A.in1) (Q := fun v H' => ∃ b, v = V.bl b ∧ Q (.bl (!b)) H') FO hb (hr.in1.mono (by omega)) I.env0.in1 hx I ry (by rw [same]; exact q)) ?_ fun _ _ z => z
      rintro v s' ⟨b, rfl, w, H2, I2, rw2, c, rfl, q2⟩
      cases (show Value.bool b = Value.bool c from rw2)
      exact ⟨b, rfl, !b, rfl, .bl (!b), H2, I2, rfl, q2⟩
    unfold tryCompare
    refine wpAny_bind ?_
    simp only [callSpecialIfBound?, bindSpecialIfBound?, specialOf]
    refine wpAny_holding (wpAny_bind (wpAny_bind (wpAny_bind (J2.type.here ((PySem.W.looks_findIn kin hne).here ?_)))))
    simp only [slot.bind]
    have fin : wpAny (model X.prog X.w) X.A (call (.builtin "object.__ne__") ([.ref a] ++ [u]) >>= fun v => pure (some v)) (fun r s' => wpAny (model X.prog X.w) X.A (match r with | some .notImplemented | none => pure none | some v => pure (some v)) (fun r s' => ∃ b, r = some (Value.bool b) ∧ EP X pins σ Q (.bool b) s') X.xe s') X.xe s := by
      refine wpAny_bind (wpAny_mono rung ?_ fun _ _ z => z)
      rintro v s' ⟨b, rfl, q⟩
      exact wpAny_pure (wpAny_pure ⟨b, rfl, q⟩)
    refine wpAny_bind (wpAny_askSetting (wpAny_ite ?_))
    split
    · exact wpAny_bind (wpAny_pure (wpAny_pure fin))
    · exact wpAny_tryCatch (wpAny_bind (wpAny_pure (wpAny_pure fin)))
  show wpAny _ _ (richCompare .NotEq (.ref a) u) _ _ _
  have last : wpAny (model X.prog X.w) X.A (tryCompare (.ref a) "__ne__" u) (fun r s' => ∃ b, r = some (Value.bool b) ∧ EP X pins σ Q (.bool b) s') X.xe s := asked
  unfold richCompare
  simp only [oneThing_ref, cmpInfo]
  refine wpAny_holding (wpAny_bind (wpAny_cRoomFor hr.units0 (wpAny_bind (J2.type.here (wpAny_bind ((ot.looks I ry).here ?_))))))
  have rest : wpAny (model X.prog X.w) X.A (tryCompare (.ref a) "__ne__" u) (fun r s' => ∃ b, r = some (Value.bool b) ∧ EP X pins σ Q (.bool b) s') X.xe s := last
  by_cases c : (Value.ref C != t) = true
  · rw [if_pos c]
    have e : PySem.W.subIn X.K t (.ref C) = some false := by
      rcases Bool.or_eq_true_iff.mp nf with z | z
      · rw [beq_iff_eq.mp z] at c
        simp at c
      · exact beq_iff_eq.mp z
    refine wpAny_bind ((PySem.W.looks_subIn kin e).here ?_)
    rw [if_neg (by decide)]
    refine wpAny_bind (wpAny_mono rest ?_ fun _ _ z => z)
    rintro r s' ⟨b, rfl, q⟩
    exact wpAny_pure q
  · rw [if_neg c]
    refine wpAny_bind (wpAny_pure ?_)
    rw [if_neg (by decide)]
    refine wpAny_bind (wpAny_mono rest ?_ fun _ _ z => z)
    rintro r s' ⟨b, rfl, q⟩
    exact wpAny_pure q
end
end Oeq
set_option Elab.async false
set_option linter.all false
set_option maxRecDepth 100000
set_option maxHeartbeats 2000000
/-! x == y and x != y by an own __eq__, y of any kind whose type is known. -/
namespace Oeq
open PySem PySem.Spec PyProof.Rows L2 Pre
section
variable {X : Cx} {CX : CXT} {n : Nat} {f C : Addr} {fd : FuncData} {sp : Sp} {E : XK}
theorem looksX {pins : List (Addr × Obj)} {σ : L2.St} {H : Hp} {s : Shared} {y : V} {u t : Value} {M : Model} (I : Inv X pins σ H s) (r : RelV y u) (o : TyX X.K H y t) : PySem.W.Looks M s.heap (typeOf u) t := by
  obtain ⟨P, k, hp, _⟩ := kit_of I r o
  exact k.ty M s.heap I.kIn hp
def rEqX (K : PySem.W.Frag) (C : Addr) (sp : Sp) (E : XK) : R2 := fun x y H Q => ∃ a dx fs t, x = .ref a ∧ H a = some (.ins C dx fs) ∧ TyX K H y t ∧ PySem.W.notFirst K C t = true ∧ sp [x, y] H (fun v H' => ∃ b, v = .bl b ∧ Q (.bl b) H') E
theorem op_eqX (m : Meth X.K C "__eq__" f) (F : FnOk X.prog X.w X.K X.mg X.base CX n f fd ["self", "other"] sp) (hb : Binds X.K fd ["self", "other"] []) (hr : Room n X.A) (hx : Passes CX X E) : OpR X (compareOp .Eq) (rEqX X.K C sp E) := by
  intro pins s σ H x y v u Q I rx ry h
  obtain ⟨a, dx, fs, t, rfl, ea, ot, nf, q⟩ := h
  cases (show v = Value.ref a from rx)
  obtain ⟨mA, J, _⟩ := ins_get I.hok ea
  obtain ⟨od, J2, _⟩ := J.look
  obtain ⟨mF, hF⟩ := I.fr
  show wpAny _ _ (richCompare .Eq (.ref a) u) _ _ _
  refine PySem.W.cmp_K (op := .Eq) (tb := t) hr.units0 hF I.ok.mod.kin J2 (looksX I ry ot) nf m.at_ m.fn ?_
  refine wpAny_mono (ask F hb hr I.env0 hx I ry q) ?_ fun _ _ z => z
  rintro w s' ⟨b, rfl, q2⟩
  exact q2
def rNeX (K : PySem.W.Frag) (C : Addr) (sp : Sp) (E : XK) : R2 := fun x y H Q => ∃ a dx fs t, x = .ref a ∧ H a = some (.ins C dx fs) ∧ TyX K H y t ∧ PySem.W.notFirst K C t = true ∧ sp [x, y] H (fun v H' => ∃ b, v = .bl b ∧ Q (.bl (!b)) H') E
theorem op_neX (m : Meth X.K C "__eq__" f) (FO : FnOk X.prog X.w X.K X.mg X.base CX n f fd ["self", "other"] sp) (hb : Binds X.K fd ["self", "other"] []) (hr : Room (n + 2) X.A) (hx : Passes CX X E)
    (hne : PySem.W.findIn X.K (.ref C) "__ne__" = some (some (.builtin "object.__ne__"))) (ho : PySem.W.mroIn X.K C (.type "object") = some true) : OpR X (compareOp .NotEq) (rNeX X.K C sp E) := by
  intro pins s σ H x y v u Q I rx ry h
  obtain ⟨a, dx, fs, t, rfl, ea, ot, nf, q⟩ := h
  cases (show v = Value.ref a from rx)
  obtain ⟨mA, J, _⟩ := ins_get I.hok ea
  obtain ⟨od, J2, _⟩ := J.look
  have kin := I.kIn
  have slot := F.cmp_object.ne
  have asked : wpAny (model X.prog X.w) X.A (tryCompare (.ref a) "__ne__" u) (fun r s' => ∃ b, r = some (Value.bool b) ∧ EP X pins σ Q (.bool b) s') X.xe s := by
    have rung : wpAny (model X.prog X.w) X.A (call (.builtin "object.__ne__") [.ref a, u]) (fun v s' => ∃ b, v = Value.bool b ∧ EP X pins σ Q (.bool b) s') X.xe s := by
      refine wpAny_call (codeAny_call_builtin slot.plain F.cmpEntry_ne (slot_ok kin J2 ho ?_))
      refine other_way (A := X.A.in1) hr.in1.units0 kin J2 m.at_ m.fn ?_
      have same : (fun v H' => ∃ b, v = V.bl b ∧ (fun v H' => ∃ b, v = V.bl b ∧ Q (.bl (!b)) H') (.bl b) H') = (fun v H' => ∃ b, v = V.bl b ∧ Q (.bl (!b)) H' : VK) := by
        funext v H'
        refine propext ⟨?_, ?_⟩
        · rintro ⟨b, rfl, c, e, q⟩
          obtain rfl : b = c := V.bl.inj e
          exact ⟨b, rfl, q⟩
        · rintro ⟨b, rfl, q⟩
          exact ⟨b, rfl, b, rfl, q⟩
      refine wpAny_mono (ask (A := X.A.in1) (Q := fun v H' => ∃ b, v = V.bl b ∧ Q (.bl (!b)) H') FO hb (hr.in1.mono (by omega)) I.env0.in1 hx I ry (by rw [same]; exact q)) ?_ fun _ _ z => z
      rintro v s' ⟨b, rfl, w, H2, I2, rw2, c, rfl, q2⟩
      cases (show Value.bool b = Value.bool c from rw2)
      exact ⟨b, rfl, !b, rfl, .bl (!b), H2, I2, rfl, q2⟩
    unfold tryCompare
    refine wpAny_bind ?_
    simp only [callSpecialIfBound?, bindSpecialIfBound?, specialOf]
    refine wpAny_holding (wpAny_bind (wpAny_bind (wpAny_bind (J2.type.here ((PySem.W.looks_findIn kin hne).here ?_)))))
    simp only [slot.bind]
    have fin : wpAny (model X.prog X.w) X.A (call (.builtin "object.__ne__") ([.ref a] ++ [u]) >>= fun v => pure (some v)) (fun r s' => wpAny (model X.prog X.w) X.A (match r with | some .notImplemented | none => pure none | some v => pure (some v)) (fun r s' => ∃ b, r = some (Value.bool b) ∧ EP X pins σ Q (.bool b) s') X.xe s') X.xe s := by
      refine wpAny_bind (wpAny_mono rung ?_ fun _ _ z => z)
      rintro v s' ⟨b, rfl, q⟩
      exact wpAny_pure (wpAny_pure ⟨b, rfl, q⟩)
    refine wpAny_bind (wpAny_askSetting (wpAny_ite ?_))
    split
    · exact wpAny_bind (wpAny_pure (wpAny_pure fin))
    · exact wpAny_tryCatch (wpAny_bind (wpAny_pure (wpAny_pure fin)))
  show wpAny _ _ (richCompare .NotEq (.ref a) u) _ _ _
  have last : wpAny (model X.prog X.w) X.A (tryCompare (.ref a) "__ne__" u) (fun r s' => ∃ b, r = some (Value.bool b) ∧ EP X pins σ Q (.bool b) s') X.xe s := asked
  unfold richCompare
  simp only [oneThing_ref, cmpInfo]
  refine wpAny_holding (wpAny_bind (wpAny_cRoomFor hr.units0 (wpAny_bind (J2.type.here (wpAny_bind ((looksX I ry ot).here ?_))))))
  have rest : wpAny (model X.prog X.w) X.A (tryCompare (.ref a) "__ne__" u) (fun r s' => ∃ b, r = some (Value.bool b) ∧ EP X pins σ Q (.bool b) s') X.xe s := last
  by_cases c : (Value.ref C != t) = true
  · rw [if_pos c]
    have e : PySem.W.subIn X.K t (.ref C) = some false := by
      rcases Bool.or_eq_true_iff.mp nf with z | z
      · rw [beq_iff_eq.mp z] at c
        simp at c
      · exact beq_iff_eq.mp z
    refine wpAny_bind ((PySem.W.looks_subIn kin e).here ?_)
    rw [if_neg (by decide)]
    refine wpAny_bind (wpAny_mono rest ?_ fun _ _ z => z)
    rintro r s' ⟨b, rfl, q⟩
    exact wpAny_pure q
  · rw [if_neg c]
    refine wpAny_bind (wpAny_pure ?_)
    rw [if_neg (by decide)]
    refine wpAny_bind (wpAny_mono rest ?_ fun _ _ z => z)
    rintro r s' ⟨b, rfl, q⟩
    exact wpAny_pure q
end
end Oeq
set_option Elab.async false
set_option linter.all false
set_option maxRecDepth 100000
set_option maxHeartbeats 2000000
namespace PySem.W
open PySem PySem.Calls PyProof.Rows
section
variable {prog : Program} {w : World} {M : Model} {A : Around} {E : Value → Shared → Prop} {s : Shared} {K : Frag} {x C L f : Addr} {h₀ : Heap} {m : Str → Option Value} {ox : Obj} {od : Option Obj} {nm T : String}
/-- len of an own instance -/
theorem own_len {n : Int} {Q : Value → Shared → Prop} (X : K.In s.heap) (I : InstAt s.heap x ox C od) (hs : findIn K (.ref C) "__len__" = some (some (.ref f))) (hf : typeIn K (.ref f) = some (.type "function"))
    (h : wpAny (model prog w) A.in1 (call (.ref f) [.ref x]) (fun v s' => ∃ (n : Int) (t : Tok), v = .int n t ∧ 0 ≤ n ∧ n < 2 ^ 63 ∧ ∀ t tk, Q (.int n t) { s' with toks := tk }) E s) : wpAny (model prog w) A (call (.builtin "len") [.ref x]) Q E s := by
  refine Calls.call_function_entry kind_len plain_len entry_len (args_len1 _) ?_
  unfold Builtin.«len»
  refine wpAny_bind (m := oneArg "len" _) (wpAny_pure ?_)
  refine wpAny_bind (m := callSpecial? (.ref x) (Str.ofString "__len__")) (special_fn X I hs hf (wpAny_mono h ?_ fun _ _ z => z))
  rintro v s' ⟨n, t, rfl, h0, h1, hq⟩
  refine wpAny_bind (wpAny_holding (wpAny_pure ?_))
  refine wpAny_bind (wpAny_letGo ?_)
  show wpAny _ _ (if n < 0 then _ else _) _ _ _
  rw [if_neg (by omega)]
  show wpAny _ _ (if n ≥ 2 ^ 63 then _ else _) _ _ _
  rw [if_neg (by omega)]
  exact wpAny_bind (wpAny_mkInt (wpAny_pure ⟨_, rfl, hq _ _⟩))
end
end PySem.W
namespace Owp
open PySem PySem.Spec PyProof.Rows L2 Pre
section
variable {X : Cx} {CX : CXT} {n : Nat} {f C : Addr} {fd : FuncData} {sp : Sp} {E : XK}
/-- a method of one argument beside self, called; what it gives -/
theorem ask2 {ps : List Str} {pins : List (Addr × Obj)} {σ : L2.St} {H : Hp} {s : Shared} {Q : VK} {A : Around} {us : List Value} {vs : List V} (F : FnOk X.prog X.w X.K X.mg X.base CX n f fd ps sp) (hb : Binds X.K fd ps []) (hr : Room n A) (hA : Env0 X.prog X.w X.K X.mg X.base A X.stack s H) (hx : Passes CX X E)
    (I : Inv X pins σ H s) (rv : Vals vs us) (q : sp vs H Q E) : wpAny (model X.prog X.w) A (call (.ref f) us) (EP X pins σ Q) X.xe s := by
  have hl : us.length = ps.length := rv.length.symm.trans (F.len _ _ _ _ q)
  have hb2 := hb s us I.kIn (by rw [List.append_nil]; exact hl)
  rw [List.append_nil] at hb2
  refine wpAny_call (codeAny_mono (F.run A X.stack s H ⟨us, []⟩ us vs _ E hr hA hb2 rv q) ?_)
  intro out s' back
  cases out with
  | error z => exact hx pins σ H s z s' I back
  | ok fl =>
    cases fl with
    | ret w => exact I.after back
    | next => exact back.elim
    | brk => exact back.elim
    | cont => exact back.elim
theorem relNI {z : V} (r : RelV z Value.notImplemented) : False := by
  cases z with
  | non => cases (show Value.notImplemented = Value.none from r)
  | bl b => cases (show Value.notImplemented = Value.bool b from r)
  | int i => obtain ⟨_, h⟩ := (show ∃ t, Value.notImplemented = Value.int i t from r); cases h
  | str i => obtain ⟨_, h⟩ := (show ∃ t, Value.notImplemented = Value.str i t from r); cases h
  | byt i => obtain ⟨_, h⟩ := (show ∃ t, Value.notImplemented = Value.bytes i t from r); cases h
  | flt i => obtain ⟨_, h⟩ := (show ∃ t, Value.notImplemented = Value.float i t from r); cases h
  | ref i => cases (show Value.notImplemented = Value.ref i from r)
  | ty i => cases (show Value.notImplemented = Value.type i from r)
/-- what an own operator asks of the classes -/
structure BinT (K : PySem.W.Frag) (C f : Addr) (op : Operator) (T : String) : Prop where
  first : PySem.W.selfFirst K C = true
  at_ : PySem.W.findIn K (.ref C) (PySem.dunder op.info.2) = some (some (.ref f))
  fn : PySem.W.isFn K (.ref f) = true
  rev : ∃ rc, PySem.W.findIn K (.ref C) (dunderR op.info.2) = some rc ∧ (rc = none ∨ ∃ g : Addr, rc = some (.ref g))
  t1 : ∃ fo, PySem.W.findIn K (.type T) (PySem.dunder op.info.2) = some fo
  t2 : ∃ ro, PySem.W.findIn K (.type T) (dunderR op.info.2) = some ro
  sub : PySem.W.subIn K (.type T) (.ref C) = some false
def binTB (K : PySem.W.Frag) (C f : Addr) (op : Operator) (T : String) : Bool :=
  PySem.W.selfFirst K C && (decide (PySem.W.findIn K (.ref C) (PySem.dunder op.info.2) = some (some (.ref f))) && (PySem.W.isFn K (.ref f) && ((match PySem.W.findIn K (.ref C) (dunderR op.info.2) with
    | some none => true
    | some (some (.ref _)) => true
    | _ => false) && ((PySem.W.findIn K (.type T) (PySem.dunder op.info.2)).isSome && ((PySem.W.findIn K (.type T) (dunderR op.info.2)).isSome && decide (PySem.W.subIn K (.type T) (.ref C) = some false))))))
theorem binTB_ok {K : PySem.W.Frag} {C f : Addr} {op : Operator} {T : String} (h : binTB K C f op T = true) : BinT K C f op T := by
  unfold binTB at h
  simp only [Bool.and_eq_true, decide_eq_true_eq] at h
  obtain ⟨h1, h2, h3, h4, h5, h6, h7⟩ := h
  refine ⟨h1, h2, h3, ?_, Option.isSome_iff_exists.mp h5, Option.isSome_iff_exists.mp h6, h7⟩
  cases q : PySem.W.findIn K (.ref C) (dunderR op.info.2) with
  | none => rw [q] at h4; cases h4
  | some r =>
    rw [q] at h4
    cases r with
    | none => exact ⟨_, rfl, .inl rfl⟩
    | some v =>
      cases v with
      | ref g => exact ⟨_, rfl, .inr ⟨g, rfl⟩⟩
      | _ => cases h4
/-- asked first, the left side's own method answers -/
theorem left_first {M : Model} {A : Around} {E : Value → Shared → Prop} {s : Shared} {nm T : String} {a b : Value} {C : Addr} {right : Bool} {ro : Option Value} {Q : Value → Shared → Prop}
    (la : PySem.W.Looks M s.heap (typeOf a) (.ref C)) (lb : PySem.W.Looks M s.heap (typeOf b) (.type T)) (fl : PySem.W.Looks M s.heap (fillsNumberSlot (.ref C) nm) true) (fr : PySem.W.Looks M s.heap (fillsNumberSlot (.type T) nm) right)
    (no : PySem.W.Looks M s.heap (isSubtype (.type T) (.ref C)) false) (py : PySem.W.Looks M s.heap (numberSlotInPython (.ref C) nm) true) (taken : PySem.W.Looks M s.heap (typeLookup (.type T) (dunderR nm)) ro)
    (asks : wpAny M A (tryMethod a (PySem.dunder nm) b) (fun r s' => ∃ v, r = some v ∧ Q v s') E s) : wpAny M A (binaryOp1 nm a b) (fun r s' => ∃ v, r = some v ∧ Q v s') E s := by
  obtain ⟨heap, gs, dd, tk, io⟩ := s
  have npy : PySem.W.Looks M heap (numberSlotInPython (.type T) nm) false := .of_pure rfl
  have diff : ((Value.ref C : Value) == .type T) = false := rfl
  unfold binaryOp1
  refine wpAny_bind (la.at (wpAny_bind (lb.at (wpAny_bind (fl.at ?_)))))
  rw [diff]
  cases right
  all_goals
    ksp_lk
    refine wpAny_mono asks ?_ fun _ _ e => e
    rintro _ s2 ⟨v, rfl, q⟩
    ksp_lk
    exact ⟨v, rfl, q⟩
theorem BinT.gives {P : Program} {w : World} {A : Around} {E : Value → Shared → Prop} {s : Shared} {K : PySem.W.Frag} {x C f : Addr} {ox : Obj} {od : Option Obj} {op : Operator} {b : Value} {T : String} {Q : Value → Shared → Prop} (B : BinT K C f op T) (KI : K.In s.heap)
    (I : PySem.W.InstAt s.heap x ox C od) (lb : PySem.W.Looks (model P w) s.heap (typeOf b) (.type T)) (q : wpAny (model P w) A (call (.ref f) [.ref x, b]) (PySem.W.CmpBack Q) E s) : wpAny (model P w) A (binaryOp op (.ref x) b) Q E s := by
  obtain ⟨cd, rest, c1, c2⟩ := PySem.W.ksp_first B.first
  obtain ⟨rc, r1, r2⟩ := B.rev
  obtain ⟨fo, t1⟩ := B.t1
  obtain ⟨ro, t2⟩ := B.t2
  unfold binaryOp
  refine wpAny_holding (wpAny_bind (wpAny_mono (left_first I.type lb (PySem.W.fills_K KI c1 c2 B.at_) (PySem.W.ksp_fillsT KI t1 t2) (PySem.W.looks_subIn KI B.sub) (PySem.W.ksp_inPy KI B.at_ r1 r2) (PySem.W.looks_findIn KI t2) (PySem.W.ksp_try KI I B.at_ B.fn q)) ?_ fun _ _ e => e))
  rintro _ s2 ⟨v, rfl, z⟩
  exact wpAny_pure z
def rBinO (K : PySem.W.Frag) (C : Addr) (T : String) (sp : Sp) (E : XK) : R2 := fun x y H Q => ∃ a dx fs, x = .ref a ∧ H a = some (.ins C dx fs) ∧ TyX K H y (.type T) ∧ sp [x, y] H Q E
theorem op_own {op : Operator} {T : String} {ps : List Str} (b : BinT X.K C f op T) (F : FnOk X.prog X.w X.K X.mg X.base CX n f fd ps sp) (hb : Binds X.K fd ps []) (hr : Room n X.A) (hx : Passes CX X E) : OpR X (binaryOp op) (rBinO X.K C T sp E) := by
  intro pins s σ H x y v u Q I rx ry h
  obtain ⟨a, dx, fs, rfl, ea, ot, q⟩ := h
  cases (show v = Value.ref a from rx)
  obtain ⟨mA, J, _⟩ := ins_get I.hok ea
  obtain ⟨od, J2, _⟩ := J.look
  refine b.gives I.kIn J2 (Oeq.looksX I ry ot) ?_
  refine wpAny_mono (ask2 F hb hr I.env0 hx I (show Vals [V.ref a, y] [Value.ref a, u] from .cons rfl (.cons ry .nil)) q) ?_ fun _ _ z => z
  rintro w s' ⟨z, H2, I2, rz, q2⟩
  have fin : EP X pins σ Q w s' := ⟨z, H2, I2, rz, q2⟩
  unfold PySem.W.CmpBack
  cases w <;> first | exact fin | exact (relNI rz).elim
/-- len(x) by an own __len__ -/
def rLenO (C : Addr) (sp : Sp) (E : XK) : List V → Hp → VK → Prop := fun xs H Q => ∃ a dx fs, xs = [.ref a] ∧ H a = some (.ins C dx fs) ∧ sp [.ref a] H (fun v H' => ∃ n : Int, v = .int n ∧ 0 ≤ n ∧ n < 2 ^ 63 ∧ Q (.int n) H') E
theorem call_lenO (m : Meth X.K C "__len__" f) (F : FnOk X.prog X.w X.K X.mg X.base CX n f fd ["self"] sp) (hb : Binds X.K fd ["self"] []) (hr : Room (n + 1) X.A) (hx : Passes CX X E) : CallR X (.builtin "len") (rLenO C sp E) := by
  intro pins s σ H xs us Q I r h
  obtain ⟨a, dx, fs, rfl, ea, q⟩ := h
  obtain ⟨u, rfl, rx⟩ := vals1 r
  cases (show u = Value.ref a from rx)
  obtain ⟨mA, J, _⟩ := ins_get I.hok ea
  obtain ⟨od, J2, _⟩ := J.look
  refine PySem.W.own_len (n := 0) I.kIn J2 m.at_ (beq_iff_eq.mp m.fn) ?_
  refine wpAny_mono (ask2 F hb hr.in1 I.env0.in1 hx I (show Vals [V.ref a] [Value.ref a] from .cons rfl .nil) q) ?_ fun _ _ z => z
  rintro w s' ⟨z, H2, I2, rz, k, rfl, h0, h1, q2⟩
  obtain ⟨t, rfl⟩ := rz
  exact ⟨k, t, rfl, h0, h1, fun t tk => ⟨.int k, H2, I2.tok _, ⟨_, rfl⟩, q2⟩⟩
/-! ### iter(t), a class that walks a tuple of its own -/
def TIt (it t : Addr) : HO := .ext fun h => h.IsTupleIter it t 0
def rIterT (N : Nat) (K : PySem.W.Frag) : List V → Hp → VK → Prop := fun xs H Q => ∃ t ys, xs = [.ref t] ∧ SqT K H t ys ∧ ∀ p, H p = none → N ≤ p → Q (.ref p) (upd H p (TIt p t))
theorem call_iterT : CallR X (.builtin "iter") (rIterT X.s_0.heap.objs.size X.K) := by
  intro pins s σ H xs us Q I r h
  obtain ⟨t, ys, rfl, hq, q⟩ := h
  obtain ⟨u, rfl, rx⟩ := vals1 r
  cases (show u = Value.ref t from rx)
  obtain ⟨its, rv, p, hz⟩ := I.tuple hq
  refine Calls.call_function_entry (by decide +kernel) (by decide +kernel) PySem.W.kdk_entry_iter (PySem.W.kdk_args_iter _) ?_
  show wpAny _ _ (pyIter (.ref t) >>= fun v => ret v) _ _ _
  refine wpAny_bind (wpAny_pyIter_tuple (show s.heap.IsTuple t its.toArray from p) ?_)
  refine wpAny_pure ⟨_, rfl, ?_⟩
  have I2 := I.laid (o := TIt s.heap.objs.size t) (t' := s.toks) (h' := s.heap.push { cls := .type "tuple_iterator", data := .fields #[.ref t, .int 0 0] }) (fun b o e => Heap.get?_push_of_some _ e) (Nat.le_refl _)
    ⟨⟨_, Heap.get?_push_size _ rfl, rfl, rfl⟩, ⟨_, Heap.get?_push_size _ rfl⟩, fun h1 h2 x st => x.at st⟩
  exact ⟨.ref s.heap.objs.size, _, I2, rfl, q _ (I.hok.fresh (Nat.le_refl _)) I.sz⟩
/-- an object of ours that was not there at the entry is tracked no more -/
theorem forget {pins : List (Addr × Obj)} {σ : L2.St} {H : Hp} {s : Shared} {a : Addr} {φ : Heap → Prop} (I : Inv X pins σ H s) (ha : H a = some (.ext φ)) (hN : X.s_0.heap.objs.size ≤ a) (hx : X.ex = []) :
    Inv X pins σ (L2.del H a) s ∧ FpOk X pins (L2.del H a) a := by
  have n0 : X.s_0.heap.get? a = none := by
    cases e : X.s_0.heap.get? a with
    | none => rfl
    | some o => exact absurd (Nat.lt_of_lt_of_le (Heap.lt_size e) hN) (Nat.lt_irrefl _)
  have dn : ∀ b, H b = none → L2.del H a b = none := fun b e => by
    unfold L2.del
    split
    · rfl
    · exact e
  have dk : ∀ b, b ≠ a → L2.del H a b = H b := fun b e => by
    unfold L2.del
    rw [if_neg e]
  have neo : ∀ b o, H b = some o → (∀ φ, o ≠ .ext φ) → L2.del H a b = some o := fun b o e q => by
    rw [dk b (fun z => by rw [z, ha] at e; exact q φ (Option.some.inj e).symm)]
    exact e
  have ne0 : ∀ b o, X.s_0.heap.get? b = some o → b ≠ a := fun b o e z => by
    rw [z, n0] at e
    cases e
  have J : Inv X pins σ (L2.del H a) s := by
    refine ⟨I.ok, I.os, I.bare, ⟨I.base.keep, I.base.slot, fun b o e n hb => dn b (I.base.free b o e n hb), I.base.there, fun b xs e => neo b _ (I.base.tups b xs e) (fun φ z => by cases z), fun b o u e => neo b _ (I.base.frzs b o u e) (fun φ z => by cases z), fun b ps e => ?_⟩,
      I.loc, I.cell, dn _ I.free, fun x c e => dn _ (I.freeC x c e), fun p hp => ?_, fun b u e => ?_, I.len⟩
    · obtain ⟨m, z⟩ := I.base.tbls b ps e
      exact ⟨m, neo b _ z (fun φ z => by cases z)⟩
    · obtain ⟨e, n, r⟩ := I.pin p hp
      exact ⟨e, dn _ n, r⟩
    · have hb : b ≠ a := fun z => by
        rw [z] at e
        unfold L2.del at e
        rw [if_pos rfl] at e
        cases e
      rw [dk b hb] at e
      exact (I.hok b u e).stay (fun c v _ q => q) (fun c q => neo c _ q (fun φ z => by cases z)) fun c xs q => neo c _ q (fun φ z => by cases z)
  refine ⟨J, by unfold L2.del; rw [if_pos rfl], fun z => ?_, fun hb => ?_, .inr ?_, fun x c e z => ?_, fun p hp z => ?_⟩
  · have := I.free
    rw [← z, ha] at this
    cases this
  · obtain ⟨_, o, ho, _⟩ := I.ok.funs.mem hb
    exact ne0 _ o ho rfl
  · exact hN
  · have := I.freeC x c e
    rw [z, ha] at this
    cases this
  · have := (I.pin p hp).2.1
    rw [z, ha] at this
    cases this
/-- a def whose promise may speak of the heap's size at its entry -/
def FnN (P : Program) (w : World) (K : PySem.W.Frag) (mg : Str → Option Value) (base : Heap) (CX : CXT) (k : Nat) (f : Addr) (fd : FuncData) (ps : List Str) (sp : Nat → Sp) : Prop :=
  ∀ (A : Around) (up : List Env) (s : Shared) (H : Hp) (args : Args) (us : List Value) (vs : List V) (Q : VK) (E : XK) (N : Nat), N ≤ s.heap.objs.size → Room k A →
    Env0 P w K mg base A up s H → BindsTo s fd args (ps.zip us) → Vals vs us → vs.length = ps.length → sp N vs H Q E → codeAny (model P w) A (.call (.ref f) args) (CR CX up P w H s Q E) s
theorem fnN_of {P : Program} {w : World} {K : PySem.W.Frag} {mg : Str → Option Value} {base : Heap} {k : Nat} {f : Addr} {fd : FuncData} {ps N : List Str} {sp : Nat → Sp} {x qual : Str} {params : Arguments} {body : List Stmt} {scope : Scope} {dvs : List V} {kws : List (Str × V)}
    (F : FunD K x qual params body scope dvs kws f fd) (S : FnScope N ps scope)
    (walk : ∀ (cdv : Value) (A : Around) (up : List Env) (s : Shared) (H : Hp) (vs : List V) (Q : VK) (E : XK) (n : Nat), n ≤ s.heap.objs.size → Room k (A.deeper (envOfC qual scope s.heap.objs.size f cdv)) → sp n vs H Q E →
      ∃ t, PSs (cxOf CX P w K mg base N qual scope f cdv A up s H E) body t ∧ t { nx := fun _ H' => Q .non H', rt := Q } (start N vs) H) : FnN P w K mg base CX (k + 1) f fd ps sp := by
  obtain ⟨oc, od, dV, kV, doc, pm, an, cdv, ct, osl, rfl, lk, hcd, _, _⟩ := F.ex
  intro A up s H args us vs Q E n hn room e0 bind rv nv hsp
  have stays : ∀ b o, base.get? b = some o → s.heap.get? b = some o := fun b o e => (e0.bs b o e).1
  have KX := e0.mod.kin.keeps stays
  have places : ∀ y ∈ ps.zip us, scope.names.lookup y.1 = some .local ∨
      (scope.names.lookup y.1 = some .cell ∧ ((cellsFrom (s.heap.objs.size + 1) scope.names []).lookup y.1).isSome = true) := by
    rintro ⟨n, v⟩ hy
    exact (S.par n (List.of_mem_zip hy).1).imp id fun q => ⟨q, PySem.W.cellsFrom_some _ _ _ (.inl q)⟩
  refine codeAny_call_function room.depth (KX _ _ lk) rfl S.co S.gen rfl (PySem.W.codeRec_of KX hcd) (bind _ _ _ _ ?_)
  refine wpAny_newFunctionEnv_cells S.kind places fun env he s1 x => ?_
  subst he
  refine ⟨(e0.mod.nolimit.keeps stays).keeps x.toInCall.keep, codeAny_func ?_⟩
  obtain ⟨t, ht, hq⟩ := walk cdv A up s H vs Q E n hn (room.deeper _) hsp
  refine wpAny_mono (ht.run [] s1 (start N vs) H _ (inv_start S room.hd e0 nv rv x) hq) ?_ fun _ _ z => z
  intro fl s' out
  cases fl with
  | next =>
    obtain ⟨σ', H', J, q⟩ := out
    exact ⟨V.non, H', J.os, J.bare, J.base, J.hok, rfl, q⟩
  | ret u =>
    obtain ⟨v, σ', H', J, ru, q⟩ := out
    exact ⟨v, H', J.os, J.bare, J.base, J.hok, ru, q⟩
  | brk =>
    obtain ⟨_, _, _, q⟩ := out
    exact q.elim
  | cont =>
    obtain ⟨_, _, _, q⟩ := out
    exact q.elim
/-- for .. in x, the class of x gives a tuple's iterator -/
def qIt (X : Cx) (R : It → Hp → Prop) : VK := fun v H2 => ∃ it t, v = .ref it ∧ H2 it = some (TIt it t) ∧ X.s_0.heap.objs.size ≤ it ∧ (∃ xs, SqT X.K (L2.del H2 it) t xs) ∧ R (Itt X.K t) (L2.del H2 it)
def iOwnT (X : Cx) (C : Addr) (sp : Nat → Sp) (E : XK) (te : TE) : TI := fun σ H R => te σ H fun x H1 => ∃ a dx fs, x = .ref a ∧ H1 a = some (.ins C dx fs) ∧
  sp X.s_0.heap.objs.size [.ref a] H1 (qIt X R) E
theorem pi_ownT {tg e : Expr} {te : TE} {sp : Nat → Sp} (hx0 : X.ex = []) (m : Meth X.K C "__iter__" f) (F : FnN X.prog X.w X.K X.mg X.base CX n f fd ["self"] sp) (hb : Binds X.K fd ["self"] []) (hr : Room n X.A) (hx : Passes CX X E) (he : PE X e te) : PI X tg e (iOwnT X C sp E te) := by
  refine ⟨fun pins s σ H R I h => ?_⟩
  refine thn (he.run pins s σ H _ I h) fun v s1 ⟨x, H1, I1, r1, q1⟩ => ?_
  obtain ⟨a, dx, fs, rfl, ea, q⟩ := q1
  cases (show v = Value.ref a from r1)
  obtain ⟨mA, J, _⟩ := ins_get I1.hok ea
  obtain ⟨od, J2, _⟩ := J.look
  obtain ⟨mF, hF⟩ := I1.fr
  refine PySem.W.owit_iter hF I1.ok.mod.kin J2 m.at_ m.fn ?_
  have hb2 := hb s1 [Value.ref a] I1.kIn rfl
  refine wpAny_call (codeAny_mono (F X.A X.stack s1 H1 ⟨[Value.ref a], []⟩ [Value.ref a] [V.ref a] _ E _ I1.sz hr I1.env0 hb2 (.cons rfl .nil) rfl q) ?_)
  intro out s2 back
  have go : ∀ u, CE X.stack X.prog X.w H1 s1 (qIt X R) u s2 → PySem.W.OwitIt (model X.prog X.w) X.A (PIE X pins σ tg R) X.xe u s2 := fun u back => by
    obtain ⟨z, H2, I2, rz, it, t, rfl, h1, h0, ht, q2⟩ := I1.after back
    cases (show u = Value.ref it from rz)
    obtain ⟨I3, fp⟩ := forget I2 h1 h0 hx0
    obtain ⟨i1, ⟨o1, i2⟩, i3⟩ := I2.hok it _ h1
    have ii : s2.heap.IsTupleIter it t 0 := i1
    unfold PySem.W.OwitIt
    refine wpAny_specialOf ii.typeIs PySem.F.slot_tuple_iterator_next.lookup ?_
    exact ⟨it, [it], _, _, _, rfl, I3, turn_tuple t it, ii, fun b hb => by
      have e : b = it := by simpa using hb
      subst e
      exact fp, q2⟩
  cases out with
  | error z => exact hx pins σ H1 s1 z s2 I1 back
  | ok fl =>
    cases fl with
    | ret w => exact go w back
    | next => exact back.elim
    | brk => exact back.elim
    | cont => exact back.elim
end
end Owp
set_option Elab.async false
set_option linter.all false
set_option maxRecDepth 100000
set_option maxHeartbeats 2000000
/-! a class's own int, told by the Hook -/
namespace Cvl
open PySem PySem.Spec PyProof.Rows L2 He
def cvB (x f : Str) (i : Int) (K : PySem.W.Frag) : Bool := match PySem.W.findCls K (.ref (ga K x)) (.type "type") f with
  | some (.val (.int j _)) => decide (j = i)
  | _ => false
theorem cvB_ok {x f : Str} {i : Int} {K : PySem.W.Frag} (h : cvB x f i K = true) : ∃ u, ClX.CVal K (ga K x) (.type "type") f (.int i) u := by
  unfold cvB at h
  split at h
  · rename_i j t e
    have h := of_decide_eq_true h
    subst h
    exact ⟨_, e, ⟨_, rfl⟩⟩
  · cases h
end Cvl
set_option Elab.async false
set_option linter.all false
set_option maxRecDepth 100000
set_option maxHeartbeats 4000000
namespace K24
open PySem PySem.Spec PyProof.Rows L2
def top (i : Nat) : Stmt := PySem.Challenge.pw_gaugeroad_k24_texts_of_registers.main.body.getD i (.Pass ⟨0, 0, 0, 0⟩)
abbrev s_BadNumber_init : Stmt := inClass (top 4) 0
def d_BadNumber_init : He.DefD := ⟨("BadNumber", some "__init__"), "__init__", "BadNumber.__init__", defArgs s_BadNumber_init, defBody s_BadNumber_init, defScope s_BadNumber_init, [], []⟩
abbrev s_BadRegister_init : Stmt := inClass (top 5) 0
def d_BadRegister_init : He.DefD := ⟨("BadRegister", some "__init__"), "__init__", "BadRegister.__init__", defArgs s_BadRegister_init, defBody s_BadRegister_init, defScope s_BadRegister_init, [], []⟩
abbrev s_BadReading_init : Stmt := inClass (top 6) 0
def d_BadReading_init : He.DefD := ⟨("BadReading", some "__init__"), "__init__", "BadReading.__init__", defArgs s_BadReading_init, defBody s_BadReading_init, defScope s_BadReading_init, [], []⟩
abbrev s_BadText_init : Stmt := inClass (top 7) 0
def d_BadText_init : He.DefD := ⟨("BadText", some "__init__"), "__init__", "BadText.__init__", defArgs s_BadText_init, defBody s_BadText_init, defScope s_BadText_init, [], []⟩
abbrev s_is_whole : Stmt := top 9
def d_is_whole : He.DefD := ⟨("is_whole", none), "is_whole", "is_whole", defArgs s_is_whole, defBody s_is_whole, defScope s_is_whole, [], []⟩
abbrev s_is_within : Stmt := top 10
def d_is_within : He.DefD := ⟨("is_within", none), "is_within", "is_within", defArgs s_is_within, defBody s_is_within, defScope s_is_within, [], []⟩
abbrev s_check_number : Stmt := top 11
def d_check_number : He.DefD := ⟨("check_number", none), "check_number", "check_number", defArgs s_check_number, defBody s_check_number, defScope s_check_number, [], []⟩
abbrev s_is_number_word : Stmt := top 14
def d_is_number_word : He.DefD := ⟨("is_number_word", none), "is_number_word", "is_number_word", defArgs s_is_number_word, defBody s_is_number_word, defScope s_is_number_word, [], []⟩
abbrev s_Words_init : Stmt := inClass (top 15) 0
def d_Words_init : He.DefD := ⟨("Words", some "__init__"), "__init__", "Words.__init__", defArgs s_Words_init, defBody s_Words_init, defScope s_Words_init, [.int 0], []⟩
abbrev s_Words_is_done : Stmt := inClass (top 15) 1
def d_Words_is_done : He.DefD := ⟨("Words", some "is_done"), "is_done", "Words.is_done", defArgs s_Words_is_done, defBody s_Words_is_done, defScope s_Words_is_done, [], []⟩
abbrev s_Words_ahead : Stmt := inClass (top 15) 3
def d_Words_ahead : He.DefD := ⟨("Words", some "ahead"), "ahead", "Words.ahead", defArgs s_Words_ahead, defBody s_Words_ahead, defScope s_Words_ahead, [], []⟩
abbrev s_Words_refuse : Stmt := inClass (top 15) 5
def d_Words_refuse : He.DefD := ⟨("Words", some "refuse"), "refuse", "Words.refuse", defArgs s_Words_refuse, defBody s_Words_refuse, defScope s_Words_refuse, [], []⟩
abbrev s_Words_take : Stmt := inClass (top 15) 6
def d_Words_take : He.DefD := ⟨("Words", some "take"), "take", "Words.take", defArgs s_Words_take, defBody s_Words_take, defScope s_Words_take, [], []⟩
abbrev s_Words_take_integer : Stmt := inClass (top 15) 7
def d_Words_take_integer : He.DefD := ⟨("Words", some "take_integer"), "take_integer", "Words.take_integer", defArgs s_Words_take_integer, defBody s_Words_take_integer, defScope s_Words_take_integer, [], []⟩
abbrev s_Words_has_number : Stmt := inClass (top 15) 8
def d_Words_has_number : He.DefD := ⟨("Words", some "has_number"), "has_number", "Words.has_number", defArgs s_Words_has_number, defBody s_Words_has_number, defScope s_Words_has_number, [], []⟩
abbrev s_Words_take_number : Stmt := inClass (top 15) 9
def d_Words_take_number : He.DefD := ⟨("Words", some "take_number"), "take_number", "Words.take_number", defArgs s_Words_take_number, defBody s_Words_take_number, defScope s_Words_take_number, [], []⟩
abbrev s_Words_finish : Stmt := inClass (top 15) 13
def d_Words_finish : He.DefD := ⟨("Words", some "finish"), "finish", "Words.finish", defArgs s_Words_finish, defBody s_Words_finish, defScope s_Words_finish, [], []⟩
abbrev s_Register_read : Stmt := inClass (top 21) 0
abbrev s_Register_shows : Stmt := inClass (top 21) 1
def d_Register_shows : He.DefD := ⟨("Register", some "shows"), "shows", "Register.shows", defArgs s_Register_shows, defBody s_Register_shows, defScope s_Register_shows, [.int 0], []⟩
abbrev s_Register_is_reading : Stmt := inClass (top 21) 2
def d_Register_is_reading : He.DefD := ⟨("Register", some "is_reading"), "is_reading", "Register.is_reading", defArgs s_Register_is_reading, defBody s_Register_is_reading, defScope s_Register_is_reading, [], []⟩
abbrev s_Register_total_of : Stmt := inClass (top 21) 3
def d_Register_total_of : He.DefD := ⟨("Register", some "total_of"), "total_of", "Register.total_of", defArgs s_Register_total_of, defBody s_Register_total_of, defScope s_Register_total_of, [], []⟩
abbrev s_Register_between : Stmt := inClass (top 21) 4
def d_Register_between : He.DefD := ⟨("Register", some "between"), "between", "Register.between", defArgs s_Register_between, defBody s_Register_between, defScope s_Register_between, [], []⟩
abbrev s_Plain_init : Stmt := inClass (top 22) 0
def d_Plain_init : He.DefD := ⟨("Plain", some "__init__"), "__init__", "Plain.__init__", defArgs s_Plain_init, defBody s_Plain_init, defScope s_Plain_init, [], []⟩
abbrev s_Plain_shows : Stmt := inClass (top 22) 1
def d_Plain_shows : He.DefD := ⟨("Plain", some "shows"), "shows", "Plain.shows", defArgs s_Plain_shows, defBody s_Plain_shows, defScope s_Plain_shows, [.int 0], []⟩
abbrev s_Plain_is_reading : Stmt := inClass (top 22) 2
def d_Plain_is_reading : He.DefD := ⟨("Plain", some "is_reading"), "is_reading", "Plain.is_reading", defArgs s_Plain_is_reading, defBody s_Plain_is_reading, defScope s_Plain_is_reading, [], []⟩
abbrev s_Plain_total_of : Stmt := inClass (top 22) 3
def d_Plain_total_of : He.DefD := ⟨("Plain", some "total_of"), "total_of", "Plain.total_of", defArgs s_Plain_total_of, defBody s_Plain_total_of, defScope s_Plain_total_of, [], []⟩
abbrev s_Plain_between : Stmt := inClass (top 22) 4
def d_Plain_between : He.DefD := ⟨("Plain", some "between"), "between", "Plain.between", defArgs s_Plain_between, defBody s_Plain_between, defScope s_Plain_between, [], []⟩
abbrev s_Plain_eq : Stmt := inClass (top 22) 5
def d_Plain_eq : He.DefD := ⟨("Plain", some "__eq__"), "__eq__", "Plain.__eq__", defArgs s_Plain_eq, defBody s_Plain_eq, defScope s_Plain_eq, [], []⟩
abbrev s_Plain_str : Stmt := inClass (top 22) 6
def d_Plain_str : He.DefD := ⟨("Plain", some "__str__"), "__str__", "Plain.__str__", defArgs s_Plain_str, defBody s_Plain_str, defScope s_Plain_str, [], []⟩
abbrev s_Wrapping_init : Stmt := inClass (top 23) 0
def d_Wrapping_init : He.DefD := ⟨("Wrapping", some "__init__"), "__init__", "Wrapping.__init__", defArgs s_Wrapping_init, defBody s_Wrapping_init, defScope s_Wrapping_init, [], []⟩
abbrev s_Wrapping_shows : Stmt := inClass (top 23) 1
def d_Wrapping_shows : He.DefD := ⟨("Wrapping", some "shows"), "shows", "Wrapping.shows", defArgs s_Wrapping_shows, defBody s_Wrapping_shows, defScope s_Wrapping_shows, [.int 0], []⟩
abbrev s_Wrapping_is_reading : Stmt := inClass (top 23) 2
def d_Wrapping_is_reading : He.DefD := ⟨("Wrapping", some "is_reading"), "is_reading", "Wrapping.is_reading", defArgs s_Wrapping_is_reading, defBody s_Wrapping_is_reading, defScope s_Wrapping_is_reading, [], []⟩
abbrev s_Wrapping_total_of : Stmt := inClass (top 23) 3
def d_Wrapping_total_of : He.DefD := ⟨("Wrapping", some "total_of"), "total_of", "Wrapping.total_of", defArgs s_Wrapping_total_of, defBody s_Wrapping_total_of, defScope s_Wrapping_total_of, [], []⟩
abbrev s_Wrapping_between : Stmt := inClass (top 23) 4
def d_Wrapping_between : He.DefD := ⟨("Wrapping", some "between"), "between", "Wrapping.between", defArgs s_Wrapping_between, defBody s_Wrapping_between, defScope s_Wrapping_between, [], []⟩
abbrev s_Wrapping_eq : Stmt := inClass (top 23) 5
def d_Wrapping_eq : He.DefD := ⟨("Wrapping", some "__eq__"), "__eq__", "Wrapping.__eq__", defArgs s_Wrapping_eq, defBody s_Wrapping_eq, defScope s_Wrapping_eq, [], []⟩
abbrev s_Wrapping_str : Stmt := inClass (top 23) 6
def d_Wrapping_str : He.DefD := ⟨("Wrapping", some "__str__"), "__str__", "Wrapping.__str__", defArgs s_Wrapping_str, defBody s_Wrapping_str, defScope s_Wrapping_str, [], []⟩
abbrev s_Dials_init : Stmt := inClass (top 24) 0
abbrev s_Dials_shows : Stmt := inClass (top 24) 1
def d_Dials_shows : He.DefD := ⟨("Dials", some "shows"), "shows", "Dials.shows", defArgs s_Dials_shows, defBody s_Dials_shows, defScope s_Dials_shows, [.int 0], []⟩
abbrev s_Dials_is_reading : Stmt := inClass (top 24) 2
def d_Dials_is_reading : He.DefD := ⟨("Dials", some "is_reading"), "is_reading", "Dials.is_reading", defArgs s_Dials_is_reading, defBody s_Dials_is_reading, defScope s_Dials_is_reading, [], []⟩
abbrev s_Dials_total_of : Stmt := inClass (top 24) 3
def d_Dials_total_of : He.DefD := ⟨("Dials", some "total_of"), "total_of", "Dials.total_of", defArgs s_Dials_total_of, defBody s_Dials_total_of, defScope s_Dials_total_of, [], []⟩
abbrev s_Dials_between : Stmt := inClass (top 24) 4
def d_Dials_between : He.DefD := ⟨("Dials", some "between"), "between", "Dials.between", defArgs s_Dials_between, defBody s_Dials_between, defScope s_Dials_between, [], []⟩
abbrev s_Dials_eq : Stmt := inClass (top 24) 5
def d_Dials_eq : He.DefD := ⟨("Dials", some "__eq__"), "__eq__", "Dials.__eq__", defArgs s_Dials_eq, defBody s_Dials_eq, defScope s_Dials_eq, [], []⟩
abbrev s_Dials_str : Stmt := inClass (top 24) 6
def d_Dials_str : He.DefD := ⟨("Dials", some "__str__"), "__str__", "Dials.__str__", defArgs s_Dials_str, defBody s_Dials_str, defScope s_Dials_str, [], []⟩
abbrev s_Restarting_init : Stmt := inClass (top 25) 0
def d_Restarting_init : He.DefD := ⟨("Restarting", some "__init__"), "__init__", "Restarting.__init__", defArgs s_Restarting_init, defBody s_Restarting_init, defScope s_Restarting_init, [], []⟩
abbrev s_Restarting_shows : Stmt := inClass (top 25) 1
def d_Restarting_shows : He.DefD := ⟨("Restarting", some "shows"), "shows", "Restarting.shows", defArgs s_Restarting_shows, defBody s_Restarting_shows, defScope s_Restarting_shows, [.int 0], []⟩
abbrev s_Restarting_is_reading : Stmt := inClass (top 25) 2
def d_Restarting_is_reading : He.DefD := ⟨("Restarting", some "is_reading"), "is_reading", "Restarting.is_reading", defArgs s_Restarting_is_reading, defBody s_Restarting_is_reading, defScope s_Restarting_is_reading, [], []⟩
abbrev s_Restarting_total_of : Stmt := inClass (top 25) 3
def d_Restarting_total_of : He.DefD := ⟨("Restarting", some "total_of"), "total_of", "Restarting.total_of", defArgs s_Restarting_total_of, defBody s_Restarting_total_of, defScope s_Restarting_total_of, [], []⟩
abbrev s_Restarting_between : Stmt := inClass (top 25) 4
def d_Restarting_between : He.DefD := ⟨("Restarting", some "between"), "between", "Restarting.between", defArgs s_Restarting_between, defBody s_Restarting_between, defScope s_Restarting_between, [], []⟩
abbrev s_Restarting_eq : Stmt := inClass (top 25) 5
def d_Restarting_eq : He.DefD := ⟨("Restarting", some "__eq__"), "__eq__", "Restarting.__eq__", defArgs s_Restarting_eq, defBody s_Restarting_eq, defScope s_Restarting_eq, [], []⟩
abbrev s_Restarting_str : Stmt := inClass (top 25) 6
def d_Restarting_str : He.DefD := ⟨("Restarting", some "__str__"), "__str__", "Restarting.__str__", defArgs s_Restarting_str, defBody s_Restarting_str, defScope s_Restarting_str, [], []⟩
abbrev s_check_shown : Stmt := top 26
def d_check_shown : He.DefD := ⟨("check_shown", none), "check_shown", "check_shown", defArgs s_check_shown, defBody s_check_shown, defScope s_check_shown, [], []⟩
abbrev s_check_reading : Stmt := top 27
def d_check_reading : He.DefD := ⟨("check_reading", none), "check_reading", "check_reading", defArgs s_check_reading, defBody s_check_reading, defScope s_check_reading, [], []⟩
abbrev s_check_readings : Stmt := top 28
def d_check_readings : He.DefD := ⟨("check_readings", none), "check_readings", "check_readings", defArgs s_check_readings, defBody s_check_readings, defScope s_check_readings, [], []⟩
abbrev s_is_count : Stmt := top 29
def d_is_count : He.DefD := ⟨("is_count", none), "is_count", "is_count", defArgs s_is_count, defBody s_is_count, defScope s_is_count, [], []⟩
abbrev s_least_total : Stmt := top 30
def d_least_total : He.DefD := ⟨("least_total", none), "least_total", "least_total", defArgs s_least_total, defBody s_least_total, defScope s_least_total, [], []⟩
abbrev s_take_display : Stmt := top 31
def d_take_display : He.DefD := ⟨("take_display", none), "take_display", "take_display", defArgs s_take_display, defBody s_take_display, defScope s_take_display, [], []⟩
abbrev s_display_of : Stmt := top 32
def d_display_of : He.DefD := ⟨("display_of", none), "display_of", "display_of", defArgs s_display_of, defBody s_display_of, defScope s_display_of, [], []⟩
abbrev s_take_numbers : Stmt := top 33
def d_take_numbers : He.DefD := ⟨("take_numbers", none), "take_numbers", "take_numbers", defArgs s_take_numbers, defBody s_take_numbers, defScope s_take_numbers, [], []⟩
abbrev s_law_pen : Stmt := top 35
def d_law_pen : He.DefD := ⟨("_law_pen", none), "_law_pen", "_law_pen", defArgs s_law_pen, defBody s_law_pen, defScope s_law_pen, [], []⟩
abbrev s_law_draw : Stmt := top 36
def d_law_draw : He.DefD := ⟨("_law_draw", none), "_law_draw", "_law_draw", defArgs s_law_draw, defBody s_law_draw, defScope s_law_draw, [], []⟩
abbrev s_law_pick : Stmt := top 37
def d_law_pick : He.DefD := ⟨("_law_pick", none), "_law_pick", "_law_pick", defArgs s_law_pick, defBody s_law_pick, defScope s_law_pick, [], []⟩
abbrev s_law_register : Stmt := top 38
def d_law_register : He.DefD := ⟨("_law_register", none), "_law_register", "_law_register", defArgs s_law_register, defBody s_law_register, defScope s_law_register, [], []⟩
abbrev s_law_heard : Stmt := top 39
def d_law_heard : He.DefD := ⟨("_law_heard", none), "_law_heard", "_law_heard", defArgs s_law_heard, defBody s_law_heard, defScope s_law_heard, [], []⟩
abbrev s_law_is_number : Stmt := top 40
def d_law_is_number : He.DefD := ⟨("_law_is_number", none), "_law_is_number", "_law_is_number", defArgs s_law_is_number, defBody s_law_is_number, defScope s_law_is_number, [], []⟩
abbrev s_law_due : Stmt := top 41
def d_law_due : He.DefD := ⟨("_law_due", none), "_law_due", "_law_due", defArgs s_law_due, defBody s_law_due, defScope s_law_due, [], []⟩
abbrev s_law_bent : Stmt := top 42
def d_law_bent : He.DefD := ⟨("_law_bent", none), "_law_bent", "_law_bent", defArgs s_law_bent, defBody s_law_bent, defScope s_law_bent, [], []⟩
abbrev s_law_read_right : Stmt := top 43
def d_law_read_right : He.DefD := ⟨("_law_read_right", none), "_law_read_right", "_law_read_right", defArgs s_law_read_right, defBody s_law_read_right, defScope s_law_read_right, [], []⟩
abbrev s_law_refused_right : Stmt := top 44
def d_law_refused_right : He.DefD := ⟨("_law_refused_right", none), "_law_refused_right", "_law_refused_right", defArgs s_law_refused_right, defBody s_law_refused_right, defScope s_law_refused_right, [], []⟩
abbrev s_law : Stmt := top 45
def d_law : He.DefD := ⟨("law", none), "law", "law", defArgs s_law, defBody s_law, defScope s_law, [], []⟩
def fn0 : List He.DefD := [d_BadNumber_init, d_BadRegister_init, d_BadReading_init, d_BadText_init, d_is_whole, d_is_within, d_check_number, d_is_number_word, d_Words_init, d_Words_is_done, d_Words_ahead, d_Words_refuse, d_Words_take, d_Words_take_integer, d_Words_has_number, d_Words_take_number, d_Words_finish, d_Register_shows, d_Register_is_reading, d_Register_total_of, d_Register_between, d_Plain_init, d_Plain_shows, d_Plain_is_reading]
def fn1 : List He.DefD := [d_Plain_total_of, d_Plain_between, d_Plain_eq, d_Plain_str, d_Wrapping_init, d_Wrapping_shows, d_Wrapping_is_reading, d_Wrapping_total_of, d_Wrapping_between, d_Wrapping_eq, d_Wrapping_str, d_Dials_shows, d_Dials_is_reading, d_Dials_total_of, d_Dials_between, d_Dials_eq, d_Dials_str, d_Restarting_init, d_Restarting_shows, d_Restarting_is_reading, d_Restarting_total_of, d_Restarting_between, d_Restarting_eq, d_Restarting_str]
def fn2 : List He.DefD := [d_check_shown, d_check_reading, d_check_readings, d_is_count, d_least_total, d_take_display, d_display_of, d_take_numbers, d_law_pen, d_law_draw, d_law_pick, d_law_register, d_law_heard, d_law_is_number, d_law_due, d_law_bent, d_law_read_right, d_law_refused_right, d_law]
def fn : List He.DefD := fn0 ++ fn1 ++ fn2
def fa0 : List He.Fa := [.free "isinstance", .free "int", .free "bool", .free "str", .free "tuple", .free "len", .free "range", .free "list", .free "enumerate", .free "zip", .free "all", .free "abs", .free "repr", .free "super", .glo "is_whole", .glo "is_within", .glo "check_number", .glo "is_number_word", .glo "check_shown", .glo "check_reading", .glo "check_readings", .glo "is_count", .glo "least_total", .glo "take_display"]
def fa1 : List He.Fa := [.glo "display_of", .glo "take_numbers", .glo "_law_pen", .glo "_law_draw", .glo "_law_pick", .glo "_law_register", .glo "_law_heard", .glo "_law_is_number", .glo "_law_due", .glo "_law_bent", .glo "_law_read_right", .glo "_law_refused_right", .glo "law", .glo "RoadError", .glo "BadNumber", .glo "BadRegister", .glo "BadReading", .glo "BadText", .glo "Words", .glo "Register", .glo "Plain", .glo "Wrapping", .glo "Dials", .glo "Restarting"]
def fa2 : List He.Fa := [.int "DIGITS" (40), .int "FAR" (10 ^ 40), .int "MOST_MODULUS" (10 ^ 18), .int "MOST_PERIODS" (6), .int "MOST_PERIOD" (1000), .cls "Words", .noat "Words" "line", .noat "Words" "words", .noat "Words" "place", .meth "Words" "is_done", .meth "Words" "ahead", .meth "Words" "refuse", .meth "Words" "take", .meth "Words" "take_integer", .meth "Words" "has_number", .meth "Words" "take_number", .meth "Words" "finish", .mkr "Words", .cls "Plain", .noat "Plain" "modulus", .meth "Plain" "shows", .meth "Plain" "is_reading", .meth "Plain" "total_of", .meth "Plain" "between"]
def fa3 : List He.Fa := [.meth "Plain" "__str__", .mkr "Plain", .cls "Wrapping", .noat "Wrapping" "modulus", .meth "Wrapping" "shows", .meth "Wrapping" "is_reading", .meth "Wrapping" "total_of", .meth "Wrapping" "between", .meth "Wrapping" "__str__", .mkr "Wrapping", .cls "Dials", .noat "Dials" "modulus", .noat "Dials" "periods", .meth "Dials" "shows", .meth "Dials" "is_reading", .meth "Dials" "total_of", .meth "Dials" "between", .meth "Dials" "__str__", .mkr "Dials", .cls "Restarting", .noat "Restarting" "modulus", .meth "Restarting" "shows", .meth "Restarting" "is_reading", .meth "Restarting" "total_of"]
def fa4 : List He.Fa := [.meth "Restarting" "between", .meth "Restarting" "__str__", .mkr "Restarting", .noat "BadNumber" "value", .meth "BadNumber" "__init__", .noat "BadRegister" "part", .meth "BadRegister" "__init__", .noat "BadReading" "at", .meth "BadReading" "__init__", .noat "BadText" "line", .noat "BadText" "word", .meth "BadText" "__init__"]
def fa : List He.Fa := fa0 ++ fa1 ++ fa2 ++ fa3 ++ fa4
def m_Register_read : Hkc.Md := ⟨fun K => Hkc.gm K (He.ga K "Register") "read", "read", "Register.read", defArgs s_Register_read, defBody s_Register_read, defScope s_Register_read, []⟩
def m_Dials_init : Hkc.Md := ⟨fun K => He.ma K (He.ga K "Dials") "__init__", "__init__", "Dials.__init__", defArgs s_Dials_init, defBody s_Dials_init, defScope s_Dials_init, ["__class__"]⟩
def ms : List Hkc.Md := [m_Register_read, m_Dials_init]
def ex0 (K : PySem.W.Frag) : Bool := Vls.insB K (He.ga K "Plain")
def ex1 (K : PySem.W.Frag) : Bool := Vls.insB K (He.ga K "Wrapping")
def ex2 (K : PySem.W.Frag) : Bool := Vls.insB K (He.ga K "Dials")
def ex3 (K : PySem.W.Frag) : Bool := Vls.insB K (He.ga K "Restarting")
def ex4 (K : PySem.W.Frag) : Bool := decide (PySem.W.kitOne K (.ref (He.ga K "Plain")) (.type "str") = some false)
def ex5 (K : PySem.W.Frag) : Bool := decide (PySem.W.exmOne K (.ref (He.ga K "BadNumber")) (.ref (He.ga K "RoadError")) = some true)
def ex6 (K : PySem.W.Frag) : Bool := decide (PySem.W.exmOne K (.ref (He.ga K "BadRegister")) (.ref (He.ga K "RoadError")) = some true)
def ex7 (K : PySem.W.Frag) : Bool := decide (PySem.W.exmOne K (.ref (He.ga K "BadReading")) (.ref (He.ga K "RoadError")) = some true)
def ex8 (K : PySem.W.Frag) : Bool := decide (PySem.W.exmOne K (.ref (He.ga K "BadText")) (.ref (He.ga K "RoadError")) = some true)
def ex9 (K : PySem.W.Frag) : Bool := decide (PySem.W.kitOne K (.ref (He.ga K "BadText")) (.ref (He.ga K "BadText")) = some true)
def ex10 (K : PySem.W.Frag) : Bool := decide (PySem.W.kitOne K (.ref (He.ga K "BadRegister")) (.ref (He.ga K "BadText")) = some false)
def ex11 (K : PySem.W.Frag) : Bool := decide (PySem.W.kitOne K (.ref (He.ga K "BadReading")) (.ref (He.ga K "BadText")) = some false)
def ex12 (K : PySem.W.Frag) : Bool := decide (PySem.W.kitOne K (.ref (He.ga K "BadNumber")) (.ref (He.ga K "BadText")) = some false)
def ex13 (K : PySem.W.Frag) : Bool := decide (PySem.W.kitOne K (.ref (He.ga K "BadRegister")) (.ref (He.ga K "BadRegister")) = some true)
def ex14 (K : PySem.W.Frag) : Bool := decide (PySem.W.kitOne K (.ref (He.ga K "BadReading")) (.ref (He.ga K "BadRegister")) = some false)
def ex15 (K : PySem.W.Frag) : Bool := decide (PySem.W.kitOne K (.ref (He.ga K "BadNumber")) (.ref (He.ga K "BadNumber")) = some true)
def ex16 (K : PySem.W.Frag) : Bool := decide (PySem.W.kitAny K (.ref (He.ga K "BadRegister")) [.ref (He.ga K "BadRegister"), .ref (He.ga K "BadReading")] = some true)
def ex17 (K : PySem.W.Frag) : Bool := decide (PySem.W.kitAny K (.ref (He.ga K "BadReading")) [.ref (He.ga K "BadRegister"), .ref (He.ga K "BadReading")] = some true)
def ex18 (K : PySem.W.Frag) : Bool := decide (PySem.W.kitAny K (.ref (He.ga K "BadNumber")) [.ref (He.ga K "BadRegister"), .ref (He.ga K "BadReading")] = some false)
def ex19 (K : PySem.W.Frag) : Bool := decide (PySem.W.nsIn K mainGlobals "lcm" = some (some (.builtin "math.lcm")))
def ex20 (K : PySem.W.Frag) : Bool := Hkc.opqB K
def ex21 (K : PySem.W.Frag) : Bool := decide ((He.cT K ("_law_read_right", none)).2 ≠ (He.cT K ("_law_refused_right", none)).2)
def ex22 (K : PySem.W.Frag) : Bool := decide ((He.cT K ("_law_read_right", none)).2 ≠ (He.cT K ("law", none)).2)
def ex23 (K : PySem.W.Frag) : Bool := decide ((He.cT K ("_law_refused_right", none)).2 ≠ (He.cT K ("law", none)).2)
def ex24 (K : PySem.W.Frag) : Bool := Ers.oexB K (He.ga K "BadNumber")
def ex25 (K : PySem.W.Frag) : Bool := Kept.errB K (He.ga K "BadNumber")
def ex26 (K : PySem.W.Frag) : Bool := decide (PySem.W.typeIn K (.ref (He.ma K (He.ga K "BadNumber") "__init__")) = some (.type "function"))
def ex27 (K : PySem.W.Frag) : Bool := Ers.oexB K (He.ga K "BadRegister")
def ex28 (K : PySem.W.Frag) : Bool := Kept.errB K (He.ga K "BadRegister")
def ex29 (K : PySem.W.Frag) : Bool := decide (PySem.W.typeIn K (.ref (He.ma K (He.ga K "BadRegister") "__init__")) = some (.type "function"))
def ex30 (K : PySem.W.Frag) : Bool := Ers.oexB K (He.ga K "BadReading")
def ex31 (K : PySem.W.Frag) : Bool := Kept.errB K (He.ga K "BadReading")
def ex32 (K : PySem.W.Frag) : Bool := decide (PySem.W.typeIn K (.ref (He.ma K (He.ga K "BadReading") "__init__")) = some (.type "function"))
def ex33 (K : PySem.W.Frag) : Bool := Ers.oexB K (He.ga K "BadText")
def ex34 (K : PySem.W.Frag) : Bool := Kept.errB K (He.ga K "BadText")
def ex35 (K : PySem.W.Frag) : Bool := decide (PySem.W.typeIn K (.ref (He.ma K (He.ga K "BadText") "__init__")) = some (.type "function"))
def ex36 (K : PySem.W.Frag) : Bool := Hkc.cmB "Register" "read" "Register.read" K
def ex37 (K : PySem.W.Frag) : Bool := Hkc.supB PySem.Challenge.pw_gaugeroad_k24_texts_of_registers.main.file "Dials.__init__" "Dials" K
def ex38 (K : PySem.W.Frag) : Bool := decide (PySem.W.ks_superIn K (He.ga K "Dials") (He.ga K "Dials") "__init__" = some (some (.ref (He.ma K (He.ga K "Wrapping") "__init__"))))
def ex39 (K : PySem.W.Frag) : Bool := decide (PySem.W.typeIn K (.ref (He.ma K (He.ga K "Wrapping") "__init__")) = some (.type "function"))
def ex40 (K : PySem.W.Frag) : Bool := PySem.W.fnIn K (He.ma K (He.ga K "Wrapping") "__init__")
def exs0 : List (PySem.W.Frag → Bool) := [ex0, ex1, ex2, ex3, ex4, ex5, ex6, ex7, ex8, ex9, ex10, ex11, ex12, ex13, ex14, ex15, ex16, ex17, ex18, ex19, ex20, ex21, ex22, ex23]
def exs1 : List (PySem.W.Frag → Bool) := [ex24, ex25, ex26, ex27, ex28, ex29, ex30, ex31, ex32, ex33, ex34, ex35, ex36, ex37, ex38, ex39, ex40]
def exs : List (PySem.W.Frag → Bool) := exs0 ++ exs1
def ex (K : PySem.W.Frag) : Bool := exs.all fun f => f K
structure Tx (K : PySem.W.Frag) (mg : Str → Option Value) : Prop where
  says : He.SaysD fa fn K
  more : ex K = true
  md : (ms.map fun m => Hkc.fv K (m.how K)) = ms.map Hkc.Md.fv
  at_ : ∃ h : Heap, K.In h ∧ h.Ns mainGlobals mg
section
variable {K : PySem.W.Frag} {mg : Str → Option Value}
theorem Tx.ex_at (T : Tx K mg) (i : Nat) {f : PySem.W.Frag → Bool} (h : exs[i]? = some f) : f K = true := List.all_eq_true.mp T.more f (List.mem_of_getElem? h)
theorem Tx.q_BadNumber_init (T : Tx K mg) : ∃ fd, FunD K "__init__" "BadNumber.__init__" (defArgs s_BadNumber_init) (defBody s_BadNumber_init) (defScope s_BadNumber_init) [] [] (He.ma K (He.ga K "BadNumber") "__init__") fd := T.says.def_ 0 (d := d_BadNumber_init) rfl
theorem Tx.q_BadRegister_init (T : Tx K mg) : ∃ fd, FunD K "__init__" "BadRegister.__init__" (defArgs s_BadRegister_init) (defBody s_BadRegister_init) (defScope s_BadRegister_init) [] [] (He.ma K (He.ga K "BadRegister") "__init__") fd := T.says.def_ 1 (d := d_BadRegister_init) rfl
theorem Tx.q_BadReading_init (T : Tx K mg) : ∃ fd, FunD K "__init__" "BadReading.__init__" (defArgs s_BadReading_init) (defBody s_BadReading_init) (defScope s_BadReading_init) [] [] (He.ma K (He.ga K "BadReading") "__init__") fd := T.says.def_ 2 (d := d_BadReading_init) rfl
theorem Tx.q_BadText_init (T : Tx K mg) : ∃ fd, FunD K "__init__" "BadText.__init__" (defArgs s_BadText_init) (defBody s_BadText_init) (defScope s_BadText_init) [] [] (He.ma K (He.ga K "BadText") "__init__") fd := T.says.def_ 3 (d := d_BadText_init) rfl
theorem Tx.q_is_whole (T : Tx K mg) : ∃ fd, FunD K "is_whole" "is_whole" (defArgs s_is_whole) (defBody s_is_whole) (defScope s_is_whole) [] [] (He.ga K "is_whole") fd := T.says.def_ 4 (d := d_is_whole) rfl
theorem Tx.q_is_within (T : Tx K mg) : ∃ fd, FunD K "is_within" "is_within" (defArgs s_is_within) (defBody s_is_within) (defScope s_is_within) [] [] (He.ga K "is_within") fd := T.says.def_ 5 (d := d_is_within) rfl
theorem Tx.q_check_number (T : Tx K mg) : ∃ fd, FunD K "check_number" "check_number" (defArgs s_check_number) (defBody s_check_number) (defScope s_check_number) [] [] (He.ga K "check_number") fd := T.says.def_ 6 (d := d_check_number) rfl
theorem Tx.q_is_number_word (T : Tx K mg) : ∃ fd, FunD K "is_number_word" "is_number_word" (defArgs s_is_number_word) (defBody s_is_number_word) (defScope s_is_number_word) [] [] (He.ga K "is_number_word") fd := T.says.def_ 7 (d := d_is_number_word) rfl
theorem Tx.q_Words_init (T : Tx K mg) : ∃ fd, FunD K "__init__" "Words.__init__" (defArgs s_Words_init) (defBody s_Words_init) (defScope s_Words_init) [.int 0] [] (He.ma K (He.ga K "Words") "__init__") fd := T.says.def_ 8 (d := d_Words_init) rfl
theorem Tx.q_Words_is_done (T : Tx K mg) : ∃ fd, FunD K "is_done" "Words.is_done" (defArgs s_Words_is_done) (defBody s_Words_is_done) (defScope s_Words_is_done) [] [] (He.ma K (He.ga K "Words") "is_done") fd := T.says.def_ 9 (d := d_Words_is_done) rfl
theorem Tx.q_Words_ahead (T : Tx K mg) : ∃ fd, FunD K "ahead" "Words.ahead" (defArgs s_Words_ahead) (defBody s_Words_ahead) (defScope s_Words_ahead) [] [] (He.ma K (He.ga K "Words") "ahead") fd := T.says.def_ 10 (d := d_Words_ahead) rfl
theorem Tx.q_Words_refuse (T : Tx K mg) : ∃ fd, FunD K "refuse" "Words.refuse" (defArgs s_Words_refuse) (defBody s_Words_refuse) (defScope s_Words_refuse) [] [] (He.ma K (He.ga K "Words") "refuse") fd := T.says.def_ 11 (d := d_Words_refuse) rfl
theorem Tx.q_Words_take (T : Tx K mg) : ∃ fd, FunD K "take" "Words.take" (defArgs s_Words_take) (defBody s_Words_take) (defScope s_Words_take) [] [] (He.ma K (He.ga K "Words") "take") fd := T.says.def_ 12 (d := d_Words_take) rfl
theorem Tx.q_Words_take_integer (T : Tx K mg) : ∃ fd, FunD K "take_integer" "Words.take_integer" (defArgs s_Words_take_integer) (defBody s_Words_take_integer) (defScope s_Words_take_integer) [] [] (He.ma K (He.ga K "Words") "take_integer") fd := T.says.def_ 13 (d := d_Words_take_integer) rfl
theorem Tx.q_Words_has_number (T : Tx K mg) : ∃ fd, FunD K "has_number" "Words.has_number" (defArgs s_Words_has_number) (defBody s_Words_has_number) (defScope s_Words_has_number) [] [] (He.ma K (He.ga K "Words") "has_number") fd := T.says.def_ 14 (d := d_Words_has_number) rfl
theorem Tx.q_Words_take_number (T : Tx K mg) : ∃ fd, FunD K "take_number" "Words.take_number" (defArgs s_Words_take_number) (defBody s_Words_take_number) (defScope s_Words_take_number) [] [] (He.ma K (He.ga K "Words") "take_number") fd := T.says.def_ 15 (d := d_Words_take_number) rfl
theorem Tx.q_Words_finish (T : Tx K mg) : ∃ fd, FunD K "finish" "Words.finish" (defArgs s_Words_finish) (defBody s_Words_finish) (defScope s_Words_finish) [] [] (He.ma K (He.ga K "Words") "finish") fd := T.says.def_ 16 (d := d_Words_finish) rfl
theorem Tx.q_Register_shows (T : Tx K mg) : ∃ fd, FunD K "shows" "Register.shows" (defArgs s_Register_shows) (defBody s_Register_shows) (defScope s_Register_shows) [.int 0] [] (He.ma K (He.ga K "Register") "shows") fd := T.says.def_ 17 (d := d_Register_shows) rfl
theorem Tx.q_Register_is_reading (T : Tx K mg) : ∃ fd, FunD K "is_reading" "Register.is_reading" (defArgs s_Register_is_reading) (defBody s_Register_is_reading) (defScope s_Register_is_reading) [] [] (He.ma K (He.ga K "Register") "is_reading") fd := T.says.def_ 18 (d := d_Register_is_reading) rfl
theorem Tx.q_Register_total_of (T : Tx K mg) : ∃ fd, FunD K "total_of" "Register.total_of" (defArgs s_Register_total_of) (defBody s_Register_total_of) (defScope s_Register_total_of) [] [] (He.ma K (He.ga K "Register") "total_of") fd := T.says.def_ 19 (d := d_Register_total_of) rfl
theorem Tx.q_Register_between (T : Tx K mg) : ∃ fd, FunD K "between" "Register.between" (defArgs s_Register_between) (defBody s_Register_between) (defScope s_Register_between) [] [] (He.ma K (He.ga K "Register") "between") fd := T.says.def_ 20 (d := d_Register_between) rfl
theorem Tx.q_Plain_init (T : Tx K mg) : ∃ fd, FunD K "__init__" "Plain.__init__" (defArgs s_Plain_init) (defBody s_Plain_init) (defScope s_Plain_init) [] [] (He.ma K (He.ga K "Plain") "__init__") fd := T.says.def_ 21 (d := d_Plain_init) rfl
theorem Tx.q_Plain_shows (T : Tx K mg) : ∃ fd, FunD K "shows" "Plain.shows" (defArgs s_Plain_shows) (defBody s_Plain_shows) (defScope s_Plain_shows) [.int 0] [] (He.ma K (He.ga K "Plain") "shows") fd := T.says.def_ 22 (d := d_Plain_shows) rfl
theorem Tx.q_Plain_is_reading (T : Tx K mg) : ∃ fd, FunD K "is_reading" "Plain.is_reading" (defArgs s_Plain_is_reading) (defBody s_Plain_is_reading) (defScope s_Plain_is_reading) [] [] (He.ma K (He.ga K "Plain") "is_reading") fd := T.says.def_ 23 (d := d_Plain_is_reading) rfl
theorem Tx.q_Plain_total_of (T : Tx K mg) : ∃ fd, FunD K "total_of" "Plain.total_of" (defArgs s_Plain_total_of) (defBody s_Plain_total_of) (defScope s_Plain_total_of) [] [] (He.ma K (He.ga K "Plain") "total_of") fd := T.says.def_ 24 (d := d_Plain_total_of) rfl
theorem Tx.q_Plain_between (T : Tx K mg) : ∃ fd, FunD K "between" "Plain.between" (defArgs s_Plain_between) (defBody s_Plain_between) (defScope s_Plain_between) [] [] (He.ma K (He.ga K "Plain") "between") fd := T.says.def_ 25 (d := d_Plain_between) rfl
theorem Tx.q_Plain_eq (T : Tx K mg) : ∃ fd, FunD K "__eq__" "Plain.__eq__" (defArgs s_Plain_eq) (defBody s_Plain_eq) (defScope s_Plain_eq) [] [] (He.ma K (He.ga K "Plain") "__eq__") fd := T.says.def_ 26 (d := d_Plain_eq) rfl
theorem Tx.q_Plain_str (T : Tx K mg) : ∃ fd, FunD K "__str__" "Plain.__str__" (defArgs s_Plain_str) (defBody s_Plain_str) (defScope s_Plain_str) [] [] (He.ma K (He.ga K "Plain") "__str__") fd := T.says.def_ 27 (d := d_Plain_str) rfl
theorem Tx.q_Wrapping_init (T : Tx K mg) : ∃ fd, FunD K "__init__" "Wrapping.__init__" (defArgs s_Wrapping_init) (defBody s_Wrapping_init) (defScope s_Wrapping_init) [] [] (He.ma K (He.ga K "Wrapping") "__init__") fd := T.says.def_ 28 (d := d_Wrapping_init) rfl
theorem Tx.q_Wrapping_shows (T : Tx K mg) : ∃ fd, FunD K "shows" "Wrapping.shows" (defArgs s_Wrapping_shows) (defBody s_Wrapping_shows) (defScope s_Wrapping_shows) [.int 0] [] (He.ma K (He.ga K "Wrapping") "shows") fd := T.says.def_ 29 (d := d_Wrapping_shows) rfl
theorem Tx.q_Wrapping_is_reading (T : Tx K mg) : ∃ fd, FunD K "is_reading" "Wrapping.is_reading" (defArgs s_Wrapping_is_reading) (defBody s_Wrapping_is_reading) (defScope s_Wrapping_is_reading) [] [] (He.ma K (He.ga K "Wrapping") "is_reading") fd := T.says.def_ 30 (d := d_Wrapping_is_reading) rfl
theorem Tx.q_Wrapping_total_of (T : Tx K mg) : ∃ fd, FunD K "total_of" "Wrapping.total_of" (defArgs s_Wrapping_total_of) (defBody s_Wrapping_total_of) (defScope s_Wrapping_total_of) [] [] (He.ma K (He.ga K "Wrapping") "total_of") fd := T.says.def_ 31 (d := d_Wrapping_total_of) rfl
theorem Tx.q_Wrapping_between (T : Tx K mg) : ∃ fd, FunD K "between" "Wrapping.between" (defArgs s_Wrapping_between) (defBody s_Wrapping_between) (defScope s_Wrapping_between) [] [] (He.ma K (He.ga K "Wrapping") "between") fd := T.says.def_ 32 (d := d_Wrapping_between) rfl
theorem Tx.q_Wrapping_eq (T : Tx K mg) : ∃ fd, FunD K "__eq__" "Wrapping.__eq__" (defArgs s_Wrapping_eq) (defBody s_Wrapping_eq) (defScope s_Wrapping_eq) [] [] (He.ma K (He.ga K "Wrapping") "__eq__") fd := T.says.def_ 33 (d := d_Wrapping_eq) rfl
theorem Tx.q_Wrapping_str (T : Tx K mg) : ∃ fd, FunD K "__str__" "Wrapping.__str__" (defArgs s_Wrapping_str) (defBody s_Wrapping_str) (defScope s_Wrapping_str) [] [] (He.ma K (He.ga K "Wrapping") "__str__") fd := T.says.def_ 34 (d := d_Wrapping_str) rfl
theorem Tx.q_Dials_shows (T : Tx K mg) : ∃ fd, FunD K "shows" "Dials.shows" (defArgs s_Dials_shows) (defBody s_Dials_shows) (defScope s_Dials_shows) [.int 0] [] (He.ma K (He.ga K "Dials") "shows") fd := T.says.def_ 35 (d := d_Dials_shows) rfl
theorem Tx.q_Dials_is_reading (T : Tx K mg) : ∃ fd, FunD K "is_reading" "Dials.is_reading" (defArgs s_Dials_is_reading) (defBody s_Dials_is_reading) (defScope s_Dials_is_reading) [] [] (He.ma K (He.ga K "Dials") "is_reading") fd := T.says.def_ 36 (d := d_Dials_is_reading) rfl
theorem Tx.q_Dials_total_of (T : Tx K mg) : ∃ fd, FunD K "total_of" "Dials.total_of" (defArgs s_Dials_total_of) (defBody s_Dials_total_of) (defScope s_Dials_total_of) [] [] (He.ma K (He.ga K "Dials") "total_of") fd := T.says.def_ 37 (d := d_Dials_total_of) rfl
theorem Tx.q_Dials_between (T : Tx K mg) : ∃ fd, FunD K "between" "Dials.between" (defArgs s_Dials_between) (defBody s_Dials_between) (defScope s_Dials_between) [] [] (He.ma K (He.ga K "Dials") "between") fd := T.says.def_ 38 (d := d_Dials_between) rfl
theorem Tx.q_Dials_eq (T : Tx K mg) : ∃ fd, FunD K "__eq__" "Dials.__eq__" (defArgs s_Dials_eq) (defBody s_Dials_eq) (defScope s_Dials_eq) [] [] (He.ma K (He.ga K "Dials") "__eq__") fd := T.says.def_ 39 (d := d_Dials_eq) rfl
theorem Tx.q_Dials_str (T : Tx K mg) : ∃ fd, FunD K "__str__" "Dials.__str__" (defArgs s_Dials_str) (defBody s_Dials_str) (defScope s_Dials_str) [] [] (He.ma K (He.ga K "Dials") "__str__") fd := T.says.def_ 40 (d := d_Dials_str) rfl
theorem Tx.q_Restarting_init (T : Tx K mg) : ∃ fd, FunD K "__init__" "Restarting.__init__" (defArgs s_Restarting_init) (defBody s_Restarting_init) (defScope s_Restarting_init) [] [] (He.ma K (He.ga K "Restarting") "__init__") fd := T.says.def_ 41 (d := d_Restarting_init) rfl
theorem Tx.q_Restarting_shows (T : Tx K mg) : ∃ fd, FunD K "shows" "Restarting.shows" (defArgs s_Restarting_shows) (defBody s_Restarting_shows) (defScope s_Restarting_shows) [.int 0] [] (He.ma K (He.ga K "Restarting") "shows") fd := T.says.def_ 42 (d := d_Restarting_shows) rfl
theorem Tx.q_Restarting_is_reading (T : Tx K mg) : ∃ fd, FunD K "is_reading" "Restarting.is_reading" (defArgs s_Restarting_is_reading) (defBody s_Restarting_is_reading) (defScope s_Restarting_is_reading) [] [] (He.ma K (He.ga K "Restarting") "is_reading") fd := T.says.def_ 43 (d := d_Restarting_is_reading) rfl
theorem Tx.q_Restarting_total_of (T : Tx K mg) : ∃ fd, FunD K "total_of" "Restarting.total_of" (defArgs s_Restarting_total_of) (defBody s_Restarting_total_of) (defScope s_Restarting_total_of) [] [] (He.ma K (He.ga K "Restarting") "total_of") fd := T.says.def_ 44 (d := d_Restarting_total_of) rfl
theorem Tx.q_Restarting_between (T : Tx K mg) : ∃ fd, FunD K "between" "Restarting.between" (defArgs s_Restarting_between) (defBody s_Restarting_between) (defScope s_Restarting_between) [] [] (He.ma K (He.ga K "Restarting") "between") fd := T.says.def_ 45 (d := d_Restarting_between) rfl
theorem Tx.q_Restarting_eq (T : Tx K mg) : ∃ fd, FunD K "__eq__" "Restarting.__eq__" (defArgs s_Restarting_eq) (defBody s_Restarting_eq) (defScope s_Restarting_eq) [] [] (He.ma K (He.ga K "Restarting") "__eq__") fd := T.says.def_ 46 (d := d_Restarting_eq) rfl
theorem Tx.q_Restarting_str (T : Tx K mg) : ∃ fd, FunD K "__str__" "Restarting.__str__" (defArgs s_Restarting_str) (defBody s_Restarting_str) (defScope s_Restarting_str) [] [] (He.ma K (He.ga K "Restarting") "__str__") fd := T.says.def_ 47 (d := d_Restarting_str) rfl
theorem Tx.q_check_shown (T : Tx K mg) : ∃ fd, FunD K "check_shown" "check_shown" (defArgs s_check_shown) (defBody s_check_shown) (defScope s_check_shown) [] [] (He.ga K "check_shown") fd := T.says.def_ 48 (d := d_check_shown) rfl
theorem Tx.q_check_reading (T : Tx K mg) : ∃ fd, FunD K "check_reading" "check_reading" (defArgs s_check_reading) (defBody s_check_reading) (defScope s_check_reading) [] [] (He.ga K "check_reading") fd := T.says.def_ 49 (d := d_check_reading) rfl
theorem Tx.q_check_readings (T : Tx K mg) : ∃ fd, FunD K "check_readings" "check_readings" (defArgs s_check_readings) (defBody s_check_readings) (defScope s_check_readings) [] [] (He.ga K "check_readings") fd := T.says.def_ 50 (d := d_check_readings) rfl
theorem Tx.q_is_count (T : Tx K mg) : ∃ fd, FunD K "is_count" "is_count" (defArgs s_is_count) (defBody s_is_count) (defScope s_is_count) [] [] (He.ga K "is_count") fd := T.says.def_ 51 (d := d_is_count) rfl
theorem Tx.q_least_total (T : Tx K mg) : ∃ fd, FunD K "least_total" "least_total" (defArgs s_least_total) (defBody s_least_total) (defScope s_least_total) [] [] (He.ga K "least_total") fd := T.says.def_ 52 (d := d_least_total) rfl
theorem Tx.q_take_display (T : Tx K mg) : ∃ fd, FunD K "take_display" "take_display" (defArgs s_take_display) (defBody s_take_display) (defScope s_take_display) [] [] (He.ga K "take_display") fd := T.says.def_ 53 (d := d_take_display) rfl
theorem Tx.q_display_of (T : Tx K mg) : ∃ fd, FunD K "display_of" "display_of" (defArgs s_display_of) (defBody s_display_of) (defScope s_display_of) [] [] (He.ga K "display_of") fd := T.says.def_ 54 (d := d_display_of) rfl
theorem Tx.q_take_numbers (T : Tx K mg) : ∃ fd, FunD K "take_numbers" "take_numbers" (defArgs s_take_numbers) (defBody s_take_numbers) (defScope s_take_numbers) [] [] (He.ga K "take_numbers") fd := T.says.def_ 55 (d := d_take_numbers) rfl
theorem Tx.q_law_pen (T : Tx K mg) : ∃ fd, FunD K "_law_pen" "_law_pen" (defArgs s_law_pen) (defBody s_law_pen) (defScope s_law_pen) [] [] (He.ga K "_law_pen") fd := T.says.def_ 56 (d := d_law_pen) rfl
theorem Tx.q_law_draw (T : Tx K mg) : ∃ fd, FunD K "_law_draw" "_law_draw" (defArgs s_law_draw) (defBody s_law_draw) (defScope s_law_draw) [] [] (He.ga K "_law_draw") fd := T.says.def_ 57 (d := d_law_draw) rfl
theorem Tx.q_law_pick (T : Tx K mg) : ∃ fd, FunD K "_law_pick" "_law_pick" (defArgs s_law_pick) (defBody s_law_pick) (defScope s_law_pick) [] [] (He.ga K "_law_pick") fd := T.says.def_ 58 (d := d_law_pick) rfl
theorem Tx.q_law_register (T : Tx K mg) : ∃ fd, FunD K "_law_register" "_law_register" (defArgs s_law_register) (defBody s_law_register) (defScope s_law_register) [] [] (He.ga K "_law_register") fd := T.says.def_ 59 (d := d_law_register) rfl
theorem Tx.q_law_heard (T : Tx K mg) : ∃ fd, FunD K "_law_heard" "_law_heard" (defArgs s_law_heard) (defBody s_law_heard) (defScope s_law_heard) [] [] (He.ga K "_law_heard") fd := T.says.def_ 60 (d := d_law_heard) rfl
theorem Tx.q_law_is_number (T : Tx K mg) : ∃ fd, FunD K "_law_is_number" "_law_is_number" (defArgs s_law_is_number) (defBody s_law_is_number) (defScope s_law_is_number) [] [] (He.ga K "_law_is_number") fd := T.says.def_ 61 (d := d_law_is_number) rfl
theorem Tx.q_law_due (T : Tx K mg) : ∃ fd, FunD K "_law_due" "_law_due" (defArgs s_law_due) (defBody s_law_due) (defScope s_law_due) [] [] (He.ga K "_law_due") fd := T.says.def_ 62 (d := d_law_due) rfl
theorem Tx.q_law_bent (T : Tx K mg) : ∃ fd, FunD K "_law_bent" "_law_bent" (defArgs s_law_bent) (defBody s_law_bent) (defScope s_law_bent) [] [] (He.ga K "_law_bent") fd := T.says.def_ 63 (d := d_law_bent) rfl
theorem Tx.q_law_read_right (T : Tx K mg) : ∃ fd, FunD K "_law_read_right" "_law_read_right" (defArgs s_law_read_right) (defBody s_law_read_right) (defScope s_law_read_right) [] [] (He.ga K "_law_read_right") fd := T.says.def_ 64 (d := d_law_read_right) rfl
theorem Tx.q_law_refused_right (T : Tx K mg) : ∃ fd, FunD K "_law_refused_right" "_law_refused_right" (defArgs s_law_refused_right) (defBody s_law_refused_right) (defScope s_law_refused_right) [] [] (He.ga K "_law_refused_right") fd := T.says.def_ 65 (d := d_law_refused_right) rfl
theorem Tx.q_law (T : Tx K mg) : ∃ fd, FunD K "law" "law" (defArgs s_law) (defBody s_law) (defScope s_law) [] [] (He.ga K "law") fd := T.says.def_ 66 (d := d_law) rfl
theorem Tx.f_isinstance (T : Tx K mg) : mg "isinstance" = none := by
  obtain ⟨h, X, G⟩ := T.at_
  exact He.free_ok X G (T.says.fact 0 (f := .free "isinstance") rfl)
theorem Tx.f_int (T : Tx K mg) : mg "int" = none := by
  obtain ⟨h, X, G⟩ := T.at_
  exact He.free_ok X G (T.says.fact 1 (f := .free "int") rfl)
theorem Tx.f_bool (T : Tx K mg) : mg "bool" = none := by
  obtain ⟨h, X, G⟩ := T.at_
  exact He.free_ok X G (T.says.fact 2 (f := .free "bool") rfl)
theorem Tx.f_str (T : Tx K mg) : mg "str" = none := by
  obtain ⟨h, X, G⟩ := T.at_
  exact He.free_ok X G (T.says.fact 3 (f := .free "str") rfl)
theorem Tx.f_tuple (T : Tx K mg) : mg "tuple" = none := by
  obtain ⟨h, X, G⟩ := T.at_
  exact He.free_ok X G (T.says.fact 4 (f := .free "tuple") rfl)
theorem Tx.f_len (T : Tx K mg) : mg "len" = none := by
  obtain ⟨h, X, G⟩ := T.at_
  exact He.free_ok X G (T.says.fact 5 (f := .free "len") rfl)
theorem Tx.f_range (T : Tx K mg) : mg "range" = none := by
  obtain ⟨h, X, G⟩ := T.at_
  exact He.free_ok X G (T.says.fact 6 (f := .free "range") rfl)
theorem Tx.f_list (T : Tx K mg) : mg "list" = none := by
  obtain ⟨h, X, G⟩ := T.at_
  exact He.free_ok X G (T.says.fact 7 (f := .free "list") rfl)
theorem Tx.f_enumerate (T : Tx K mg) : mg "enumerate" = none := by
  obtain ⟨h, X, G⟩ := T.at_
  exact He.free_ok X G (T.says.fact 8 (f := .free "enumerate") rfl)
theorem Tx.f_zip (T : Tx K mg) : mg "zip" = none := by
  obtain ⟨h, X, G⟩ := T.at_
  exact He.free_ok X G (T.says.fact 9 (f := .free "zip") rfl)
theorem Tx.f_all (T : Tx K mg) : mg "all" = none := by
  obtain ⟨h, X, G⟩ := T.at_
  exact He.free_ok X G (T.says.fact 10 (f := .free "all") rfl)
theorem Tx.f_abs (T : Tx K mg) : mg "abs" = none := by
  obtain ⟨h, X, G⟩ := T.at_
  exact He.free_ok X G (T.says.fact 11 (f := .free "abs") rfl)
theorem Tx.f_repr (T : Tx K mg) : mg "repr" = none := by
  obtain ⟨h, X, G⟩ := T.at_
  exact He.free_ok X G (T.says.fact 12 (f := .free "repr") rfl)
theorem Tx.f_super (T : Tx K mg) : mg "super" = none := by
  obtain ⟨h, X, G⟩ := T.at_
  exact He.free_ok X G (T.says.fact 13 (f := .free "super") rfl)
theorem Tx.g_is_whole (T : Tx K mg) : mg "is_whole" = some (.ref (He.ga K "is_whole")) := by
  obtain ⟨h, X, G⟩ := T.at_
  exact He.glo_ok X G (T.says.fact 14 (f := .glo "is_whole") rfl)
theorem Tx.g_is_within (T : Tx K mg) : mg "is_within" = some (.ref (He.ga K "is_within")) := by
  obtain ⟨h, X, G⟩ := T.at_
  exact He.glo_ok X G (T.says.fact 15 (f := .glo "is_within") rfl)
theorem Tx.g_check_number (T : Tx K mg) : mg "check_number" = some (.ref (He.ga K "check_number")) := by
  obtain ⟨h, X, G⟩ := T.at_
  exact He.glo_ok X G (T.says.fact 16 (f := .glo "check_number") rfl)
theorem Tx.g_is_number_word (T : Tx K mg) : mg "is_number_word" = some (.ref (He.ga K "is_number_word")) := by
  obtain ⟨h, X, G⟩ := T.at_
  exact He.glo_ok X G (T.says.fact 17 (f := .glo "is_number_word") rfl)
theorem Tx.g_check_shown (T : Tx K mg) : mg "check_shown" = some (.ref (He.ga K "check_shown")) := by
  obtain ⟨h, X, G⟩ := T.at_
  exact He.glo_ok X G (T.says.fact 18 (f := .glo "check_shown") rfl)
theorem Tx.g_check_reading (T : Tx K mg) : mg "check_reading" = some (.ref (He.ga K "check_reading")) := by
  obtain ⟨h, X, G⟩ := T.at_
  exact He.glo_ok X G (T.says.fact 19 (f := .glo "check_reading") rfl)
theorem Tx.g_check_readings (T : Tx K mg) : mg "check_readings" = some (.ref (He.ga K "check_readings")) := by
  obtain ⟨h, X, G⟩ := T.at_
  exact He.glo_ok X G (T.says.fact 20 (f := .glo "check_readings") rfl)
theorem Tx.g_is_count (T : Tx K mg) : mg "is_count" = some (.ref (He.ga K "is_count")) := by
  obtain ⟨h, X, G⟩ := T.at_
  exact He.glo_ok X G (T.says.fact 21 (f := .glo "is_count") rfl)
theorem Tx.g_least_total (T : Tx K mg) : mg "least_total" = some (.ref (He.ga K "least_total")) := by
  obtain ⟨h, X, G⟩ := T.at_
  exact He.glo_ok X G (T.says.fact 22 (f := .glo "least_total") rfl)
theorem Tx.g_take_display (T : Tx K mg) : mg "take_display" = some (.ref (He.ga K "take_display")) := by
  obtain ⟨h, X, G⟩ := T.at_
  exact He.glo_ok X G (T.says.fact 23 (f := .glo "take_display") rfl)
theorem Tx.g_display_of (T : Tx K mg) : mg "display_of" = some (.ref (He.ga K "display_of")) := by
  obtain ⟨h, X, G⟩ := T.at_
  exact He.glo_ok X G (T.says.fact 24 (f := .glo "display_of") rfl)
theorem Tx.g_take_numbers (T : Tx K mg) : mg "take_numbers" = some (.ref (He.ga K "take_numbers")) := by
  obtain ⟨h, X, G⟩ := T.at_
  exact He.glo_ok X G (T.says.fact 25 (f := .glo "take_numbers") rfl)
theorem Tx.g_law_pen (T : Tx K mg) : mg "_law_pen" = some (.ref (He.ga K "_law_pen")) := by
  obtain ⟨h, X, G⟩ := T.at_
  exact He.glo_ok X G (T.says.fact 26 (f := .glo "_law_pen") rfl)
theorem Tx.g_law_draw (T : Tx K mg) : mg "_law_draw" = some (.ref (He.ga K "_law_draw")) := by
  obtain ⟨h, X, G⟩ := T.at_
  exact He.glo_ok X G (T.says.fact 27 (f := .glo "_law_draw") rfl)
theorem Tx.g_law_pick (T : Tx K mg) : mg "_law_pick" = some (.ref (He.ga K "_law_pick")) := by
  obtain ⟨h, X, G⟩ := T.at_
  exact He.glo_ok X G (T.says.fact 28 (f := .glo "_law_pick") rfl)
theorem Tx.g_law_register (T : Tx K mg) : mg "_law_register" = some (.ref (He.ga K "_law_register")) := by
  obtain ⟨h, X, G⟩ := T.at_
  exact He.glo_ok X G (T.says.fact 29 (f := .glo "_law_register") rfl)
theorem Tx.g_law_heard (T : Tx K mg) : mg "_law_heard" = some (.ref (He.ga K "_law_heard")) := by
  obtain ⟨h, X, G⟩ := T.at_
  exact He.glo_ok X G (T.says.fact 30 (f := .glo "_law_heard") rfl)
theorem Tx.g_law_is_number (T : Tx K mg) : mg "_law_is_number" = some (.ref (He.ga K "_law_is_number")) := by
  obtain ⟨h, X, G⟩ := T.at_
  exact He.glo_ok X G (T.says.fact 31 (f := .glo "_law_is_number") rfl)
theorem Tx.g_law_due (T : Tx K mg) : mg "_law_due" = some (.ref (He.ga K "_law_due")) := by
  obtain ⟨h, X, G⟩ := T.at_
  exact He.glo_ok X G (T.says.fact 32 (f := .glo "_law_due") rfl)
theorem Tx.g_law_bent (T : Tx K mg) : mg "_law_bent" = some (.ref (He.ga K "_law_bent")) := by
  obtain ⟨h, X, G⟩ := T.at_
  exact He.glo_ok X G (T.says.fact 33 (f := .glo "_law_bent") rfl)
theorem Tx.g_law_read_right (T : Tx K mg) : mg "_law_read_right" = some (.ref (He.ga K "_law_read_right")) := by
  obtain ⟨h, X, G⟩ := T.at_
  exact He.glo_ok X G (T.says.fact 34 (f := .glo "_law_read_right") rfl)
theorem Tx.g_law_refused_right (T : Tx K mg) : mg "_law_refused_right" = some (.ref (He.ga K "_law_refused_right")) := by
  obtain ⟨h, X, G⟩ := T.at_
  exact He.glo_ok X G (T.says.fact 35 (f := .glo "_law_refused_right") rfl)
theorem Tx.g_law (T : Tx K mg) : mg "law" = some (.ref (He.ga K "law")) := by
  obtain ⟨h, X, G⟩ := T.at_
  exact He.glo_ok X G (T.says.fact 36 (f := .glo "law") rfl)
theorem Tx.g_RoadError (T : Tx K mg) : mg "RoadError" = some (.ref (He.ga K "RoadError")) := by
  obtain ⟨h, X, G⟩ := T.at_
  exact He.glo_ok X G (T.says.fact 37 (f := .glo "RoadError") rfl)
theorem Tx.g_BadNumber (T : Tx K mg) : mg "BadNumber" = some (.ref (He.ga K "BadNumber")) := by
  obtain ⟨h, X, G⟩ := T.at_
  exact He.glo_ok X G (T.says.fact 38 (f := .glo "BadNumber") rfl)
theorem Tx.g_BadRegister (T : Tx K mg) : mg "BadRegister" = some (.ref (He.ga K "BadRegister")) := by
  obtain ⟨h, X, G⟩ := T.at_
  exact He.glo_ok X G (T.says.fact 39 (f := .glo "BadRegister") rfl)
theorem Tx.g_BadReading (T : Tx K mg) : mg "BadReading" = some (.ref (He.ga K "BadReading")) := by
  obtain ⟨h, X, G⟩ := T.at_
  exact He.glo_ok X G (T.says.fact 40 (f := .glo "BadReading") rfl)
theorem Tx.g_BadText (T : Tx K mg) : mg "BadText" = some (.ref (He.ga K "BadText")) := by
  obtain ⟨h, X, G⟩ := T.at_
  exact He.glo_ok X G (T.says.fact 41 (f := .glo "BadText") rfl)
theorem Tx.g_Words (T : Tx K mg) : mg "Words" = some (.ref (He.ga K "Words")) := by
  obtain ⟨h, X, G⟩ := T.at_
  exact He.glo_ok X G (T.says.fact 42 (f := .glo "Words") rfl)
theorem Tx.g_Register (T : Tx K mg) : mg "Register" = some (.ref (He.ga K "Register")) := by
  obtain ⟨h, X, G⟩ := T.at_
  exact He.glo_ok X G (T.says.fact 43 (f := .glo "Register") rfl)
theorem Tx.g_Plain (T : Tx K mg) : mg "Plain" = some (.ref (He.ga K "Plain")) := by
  obtain ⟨h, X, G⟩ := T.at_
  exact He.glo_ok X G (T.says.fact 44 (f := .glo "Plain") rfl)
theorem Tx.g_Wrapping (T : Tx K mg) : mg "Wrapping" = some (.ref (He.ga K "Wrapping")) := by
  obtain ⟨h, X, G⟩ := T.at_
  exact He.glo_ok X G (T.says.fact 45 (f := .glo "Wrapping") rfl)
theorem Tx.g_Dials (T : Tx K mg) : mg "Dials" = some (.ref (He.ga K "Dials")) := by
  obtain ⟨h, X, G⟩ := T.at_
  exact He.glo_ok X G (T.says.fact 46 (f := .glo "Dials") rfl)
theorem Tx.g_Restarting (T : Tx K mg) : mg "Restarting" = some (.ref (He.ga K "Restarting")) := by
  obtain ⟨h, X, G⟩ := T.at_
  exact He.glo_ok X G (T.says.fact 47 (f := .glo "Restarting") rfl)
theorem Tx.i_DIGITS (T : Tx K mg) : ∃ t, mg "DIGITS" = some (.int (40) t) := by
  obtain ⟨h, X, G⟩ := T.at_
  exact He.int_ok X G (T.says.fact 48 (f := .int "DIGITS" (40)) rfl)
theorem Tx.i_FAR (T : Tx K mg) : ∃ t, mg "FAR" = some (.int (10 ^ 40) t) := by
  obtain ⟨h, X, G⟩ := T.at_
  exact He.int_ok X G (T.says.fact 49 (f := .int "FAR" (10 ^ 40)) rfl)
theorem Tx.i_MOST_MODULUS (T : Tx K mg) : ∃ t, mg "MOST_MODULUS" = some (.int (10 ^ 18) t) := by
  obtain ⟨h, X, G⟩ := T.at_
  exact He.int_ok X G (T.says.fact 50 (f := .int "MOST_MODULUS" (10 ^ 18)) rfl)
theorem Tx.i_MOST_PERIODS (T : Tx K mg) : ∃ t, mg "MOST_PERIODS" = some (.int (6) t) := by
  obtain ⟨h, X, G⟩ := T.at_
  exact He.int_ok X G (T.says.fact 51 (f := .int "MOST_PERIODS" (6)) rfl)
theorem Tx.i_MOST_PERIOD (T : Tx K mg) : ∃ t, mg "MOST_PERIOD" = some (.int (1000) t) := by
  obtain ⟨h, X, G⟩ := T.at_
  exact He.int_ok X G (T.says.fact 52 (f := .int "MOST_PERIOD" (1000)) rfl)
theorem Tx.c_Words (T : Tx K mg) : Cls K (He.ga K "Words") := He.cls_ok (T.says.fact 53 (f := .cls "Words") rfl)
theorem Tx.n_Words_line (T : Tx K mg) : NoAttr K (He.ga K "Words") "line" := He.noat_ok (T.says.fact 54 (f := .noat "Words" "line") rfl)
theorem Tx.n_Words_words (T : Tx K mg) : NoAttr K (He.ga K "Words") "words" := He.noat_ok (T.says.fact 55 (f := .noat "Words" "words") rfl)
theorem Tx.n_Words_place (T : Tx K mg) : NoAttr K (He.ga K "Words") "place" := He.noat_ok (T.says.fact 56 (f := .noat "Words" "place") rfl)
theorem Tx.m_Words_is_done (T : Tx K mg) : Meth K (He.ga K "Words") "is_done" (He.ma K (He.ga K "Words") "is_done") := He.meth_ok (T.says.fact 57 (f := .meth "Words" "is_done") rfl)
theorem Tx.m_Words_ahead (T : Tx K mg) : Meth K (He.ga K "Words") "ahead" (He.ma K (He.ga K "Words") "ahead") := He.meth_ok (T.says.fact 58 (f := .meth "Words" "ahead") rfl)
theorem Tx.m_Words_refuse (T : Tx K mg) : Meth K (He.ga K "Words") "refuse" (He.ma K (He.ga K "Words") "refuse") := He.meth_ok (T.says.fact 59 (f := .meth "Words" "refuse") rfl)
theorem Tx.m_Words_take (T : Tx K mg) : Meth K (He.ga K "Words") "take" (He.ma K (He.ga K "Words") "take") := He.meth_ok (T.says.fact 60 (f := .meth "Words" "take") rfl)
theorem Tx.m_Words_take_integer (T : Tx K mg) : Meth K (He.ga K "Words") "take_integer" (He.ma K (He.ga K "Words") "take_integer") := He.meth_ok (T.says.fact 61 (f := .meth "Words" "take_integer") rfl)
theorem Tx.m_Words_has_number (T : Tx K mg) : Meth K (He.ga K "Words") "has_number" (He.ma K (He.ga K "Words") "has_number") := He.meth_ok (T.says.fact 62 (f := .meth "Words" "has_number") rfl)
theorem Tx.m_Words_take_number (T : Tx K mg) : Meth K (He.ga K "Words") "take_number" (He.ma K (He.ga K "Words") "take_number") := He.meth_ok (T.says.fact 63 (f := .meth "Words" "take_number") rfl)
theorem Tx.m_Words_finish (T : Tx K mg) : Meth K (He.ga K "Words") "finish" (He.ma K (He.ga K "Words") "finish") := He.meth_ok (T.says.fact 64 (f := .meth "Words" "finish") rfl)
theorem Tx.k_Words (T : Tx K mg) : Mk K (He.ga K "Words") (He.ma K (He.ga K "Words") "__init__") := He.mkr_ok (T.says.fact 65 (f := .mkr "Words") rfl)
theorem Tx.c_Plain (T : Tx K mg) : Cls K (He.ga K "Plain") := He.cls_ok (T.says.fact 66 (f := .cls "Plain") rfl)
theorem Tx.n_Plain_modulus (T : Tx K mg) : NoAttr K (He.ga K "Plain") "modulus" := He.noat_ok (T.says.fact 67 (f := .noat "Plain" "modulus") rfl)
theorem Tx.m_Plain_shows (T : Tx K mg) : Meth K (He.ga K "Plain") "shows" (He.ma K (He.ga K "Plain") "shows") := He.meth_ok (T.says.fact 68 (f := .meth "Plain" "shows") rfl)
theorem Tx.m_Plain_is_reading (T : Tx K mg) : Meth K (He.ga K "Plain") "is_reading" (He.ma K (He.ga K "Plain") "is_reading") := He.meth_ok (T.says.fact 69 (f := .meth "Plain" "is_reading") rfl)
theorem Tx.m_Plain_total_of (T : Tx K mg) : Meth K (He.ga K "Plain") "total_of" (He.ma K (He.ga K "Plain") "total_of") := He.meth_ok (T.says.fact 70 (f := .meth "Plain" "total_of") rfl)
theorem Tx.m_Plain_between (T : Tx K mg) : Meth K (He.ga K "Plain") "between" (He.ma K (He.ga K "Plain") "between") := He.meth_ok (T.says.fact 71 (f := .meth "Plain" "between") rfl)
theorem Tx.m_Plain_str (T : Tx K mg) : Meth K (He.ga K "Plain") "__str__" (He.ma K (He.ga K "Plain") "__str__") := He.meth_ok (T.says.fact 72 (f := .meth "Plain" "__str__") rfl)
theorem Tx.k_Plain (T : Tx K mg) : Mk K (He.ga K "Plain") (He.ma K (He.ga K "Plain") "__init__") := He.mkr_ok (T.says.fact 73 (f := .mkr "Plain") rfl)
theorem Tx.c_Wrapping (T : Tx K mg) : Cls K (He.ga K "Wrapping") := He.cls_ok (T.says.fact 74 (f := .cls "Wrapping") rfl)
theorem Tx.n_Wrapping_modulus (T : Tx K mg) : NoAttr K (He.ga K "Wrapping") "modulus" := He.noat_ok (T.says.fact 75 (f := .noat "Wrapping" "modulus") rfl)
theorem Tx.m_Wrapping_shows (T : Tx K mg) : Meth K (He.ga K "Wrapping") "shows" (He.ma K (He.ga K "Wrapping") "shows") := He.meth_ok (T.says.fact 76 (f := .meth "Wrapping" "shows") rfl)
theorem Tx.m_Wrapping_is_reading (T : Tx K mg) : Meth K (He.ga K "Wrapping") "is_reading" (He.ma K (He.ga K "Wrapping") "is_reading") := He.meth_ok (T.says.fact 77 (f := .meth "Wrapping" "is_reading") rfl)
theorem Tx.m_Wrapping_total_of (T : Tx K mg) : Meth K (He.ga K "Wrapping") "total_of" (He.ma K (He.ga K "Wrapping") "total_of") := He.meth_ok (T.says.fact 78 (f := .meth "Wrapping" "total_of") rfl)
theorem Tx.m_Wrapping_between (T : Tx K mg) : Meth K (He.ga K "Wrapping") "between" (He.ma K (He.ga K "Wrapping") "between") := He.meth_ok (T.says.fact 79 (f := .meth "Wrapping" "between") rfl)
theorem Tx.m_Wrapping_str (T : Tx K mg) : Meth K (He.ga K "Wrapping") "__str__" (He.ma K (He.ga K "Wrapping") "__str__") := He.meth_ok (T.says.fact 80 (f := .meth "Wrapping" "__str__") rfl)
theorem Tx.k_Wrapping (T : Tx K mg) : Mk K (He.ga K "Wrapping") (He.ma K (He.ga K "Wrapping") "__init__") := He.mkr_ok (T.says.fact 81 (f := .mkr "Wrapping") rfl)
theorem Tx.c_Dials (T : Tx K mg) : Cls K (He.ga K "Dials") := He.cls_ok (T.says.fact 82 (f := .cls "Dials") rfl)
theorem Tx.n_Dials_modulus (T : Tx K mg) : NoAttr K (He.ga K "Dials") "modulus" := He.noat_ok (T.says.fact 83 (f := .noat "Dials" "modulus") rfl)
theorem Tx.n_Dials_periods (T : Tx K mg) : NoAttr K (He.ga K "Dials") "periods" := He.noat_ok (T.says.fact 84 (f := .noat "Dials" "periods") rfl)
theorem Tx.m_Dials_shows (T : Tx K mg) : Meth K (He.ga K "Dials") "shows" (He.ma K (He.ga K "Dials") "shows") := He.meth_ok (T.says.fact 85 (f := .meth "Dials" "shows") rfl)
theorem Tx.m_Dials_is_reading (T : Tx K mg) : Meth K (He.ga K "Dials") "is_reading" (He.ma K (He.ga K "Dials") "is_reading") := He.meth_ok (T.says.fact 86 (f := .meth "Dials" "is_reading") rfl)
theorem Tx.m_Dials_total_of (T : Tx K mg) : Meth K (He.ga K "Dials") "total_of" (He.ma K (He.ga K "Dials") "total_of") := He.meth_ok (T.says.fact 87 (f := .meth "Dials" "total_of") rfl)
theorem Tx.m_Dials_between (T : Tx K mg) : Meth K (He.ga K "Dials") "between" (He.ma K (He.ga K "Dials") "between") := He.meth_ok (T.says.fact 88 (f := .meth "Dials" "between") rfl)
theorem Tx.m_Dials_str (T : Tx K mg) : Meth K (He.ga K "Dials") "__str__" (He.ma K (He.ga K "Dials") "__str__") := He.meth_ok (T.says.fact 89 (f := .meth "Dials" "__str__") rfl)
theorem Tx.k_Dials (T : Tx K mg) : Mk K (He.ga K "Dials") (He.ma K (He.ga K "Dials") "__init__") := He.mkr_ok (T.says.fact 90 (f := .mkr "Dials") rfl)
theorem Tx.c_Restarting (T : Tx K mg) : Cls K (He.ga K "Restarting") := He.cls_ok (T.says.fact 91 (f := .cls "Restarting") rfl)
theorem Tx.n_Restarting_modulus (T : Tx K mg) : NoAttr K (He.ga K "Restarting") "modulus" := He.noat_ok (T.says.fact 92 (f := .noat "Restarting" "modulus") rfl)
theorem Tx.m_Restarting_shows (T : Tx K mg) : Meth K (He.ga K "Restarting") "shows" (He.ma K (He.ga K "Restarting") "shows") := He.meth_ok (T.says.fact 93 (f := .meth "Restarting" "shows") rfl)
theorem Tx.m_Restarting_is_reading (T : Tx K mg) : Meth K (He.ga K "Restarting") "is_reading" (He.ma K (He.ga K "Restarting") "is_reading") := He.meth_ok (T.says.fact 94 (f := .meth "Restarting" "is_reading") rfl)
theorem Tx.m_Restarting_total_of (T : Tx K mg) : Meth K (He.ga K "Restarting") "total_of" (He.ma K (He.ga K "Restarting") "total_of") := He.meth_ok (T.says.fact 95 (f := .meth "Restarting" "total_of") rfl)
theorem Tx.m_Restarting_between (T : Tx K mg) : Meth K (He.ga K "Restarting") "between" (He.ma K (He.ga K "Restarting") "between") := He.meth_ok (T.says.fact 96 (f := .meth "Restarting" "between") rfl)
theorem Tx.m_Restarting_str (T : Tx K mg) : Meth K (He.ga K "Restarting") "__str__" (He.ma K (He.ga K "Restarting") "__str__") := He.meth_ok (T.says.fact 97 (f := .meth "Restarting" "__str__") rfl)
theorem Tx.k_Restarting (T : Tx K mg) : Mk K (He.ga K "Restarting") (He.ma K (He.ga K "Restarting") "__init__") := He.mkr_ok (T.says.fact 98 (f := .mkr "Restarting") rfl)
theorem Tx.n_BadNumber_value (T : Tx K mg) : NoAttr K (He.ga K "BadNumber") "value" := He.noat_ok (T.says.fact 99 (f := .noat "BadNumber" "value") rfl)
theorem Tx.m_BadNumber_init (T : Tx K mg) : Meth K (He.ga K "BadNumber") "__init__" (He.ma K (He.ga K "BadNumber") "__init__") := He.meth_ok (T.says.fact 100 (f := .meth "BadNumber" "__init__") rfl)
theorem Tx.n_BadRegister_part (T : Tx K mg) : NoAttr K (He.ga K "BadRegister") "part" := He.noat_ok (T.says.fact 101 (f := .noat "BadRegister" "part") rfl)
theorem Tx.m_BadRegister_init (T : Tx K mg) : Meth K (He.ga K "BadRegister") "__init__" (He.ma K (He.ga K "BadRegister") "__init__") := He.meth_ok (T.says.fact 102 (f := .meth "BadRegister" "__init__") rfl)
theorem Tx.n_BadReading_at (T : Tx K mg) : NoAttr K (He.ga K "BadReading") "at" := He.noat_ok (T.says.fact 103 (f := .noat "BadReading" "at") rfl)
theorem Tx.m_BadReading_init (T : Tx K mg) : Meth K (He.ga K "BadReading") "__init__" (He.ma K (He.ga K "BadReading") "__init__") := He.meth_ok (T.says.fact 104 (f := .meth "BadReading" "__init__") rfl)
theorem Tx.n_BadText_line (T : Tx K mg) : NoAttr K (He.ga K "BadText") "line" := He.noat_ok (T.says.fact 105 (f := .noat "BadText" "line") rfl)
theorem Tx.n_BadText_word (T : Tx K mg) : NoAttr K (He.ga K "BadText") "word" := He.noat_ok (T.says.fact 106 (f := .noat "BadText" "word") rfl)
theorem Tx.m_BadText_init (T : Tx K mg) : Meth K (He.ga K "BadText") "__init__" (He.ma K (He.ga K "BadText") "__init__") := He.meth_ok (T.says.fact 107 (f := .meth "BadText" "__init__") rfl)
theorem Tx.v_Register_read (T : Tx K mg) : Hkc.fv K (Hkc.gm K (He.ga K "Register") "read") = m_Register_read.fv := Hkc.md_at T.md 0 (m := m_Register_read) rfl
theorem Tx.v_Dials_init (T : Tx K mg) : Hkc.fv K (He.ma K (He.ga K "Dials") "__init__") = m_Dials_init.fv := Hkc.md_at T.md 1 (m := m_Dials_init) rfl
theorem Tx.is_Plain (T : Tx K mg) : Vls.Ins K (He.ga K "Plain") := Vls.insB_ok (T.ex_at 0 (f := ex0) rfl)
theorem Tx.is_Wrapping (T : Tx K mg) : Vls.Ins K (He.ga K "Wrapping") := Vls.insB_ok (T.ex_at 1 (f := ex1) rfl)
theorem Tx.is_Dials (T : Tx K mg) : Vls.Ins K (He.ga K "Dials") := Vls.insB_ok (T.ex_at 2 (f := ex2) rfl)
theorem Tx.is_Restarting (T : Tx K mg) : Vls.Ins K (He.ga K "Restarting") := Vls.insB_ok (T.ex_at 3 (f := ex3) rfl)
theorem Tx.k_Plain_str (T : Tx K mg) : PySem.W.kitOne K (.ref (He.ga K "Plain")) (.type "str") = some false := of_decide_eq_true (T.ex_at 4 (f := ex4) rfl)
theorem Tx.xm_BadNumber (T : Tx K mg) : PySem.W.exmOne K (.ref (He.ga K "BadNumber")) (.ref (He.ga K "RoadError")) = some true := of_decide_eq_true (T.ex_at 5 (f := ex5) rfl)
theorem Tx.xm_BadRegister (T : Tx K mg) : PySem.W.exmOne K (.ref (He.ga K "BadRegister")) (.ref (He.ga K "RoadError")) = some true := of_decide_eq_true (T.ex_at 6 (f := ex6) rfl)
theorem Tx.xm_BadReading (T : Tx K mg) : PySem.W.exmOne K (.ref (He.ga K "BadReading")) (.ref (He.ga K "RoadError")) = some true := of_decide_eq_true (T.ex_at 7 (f := ex7) rfl)
theorem Tx.xm_BadText (T : Tx K mg) : PySem.W.exmOne K (.ref (He.ga K "BadText")) (.ref (He.ga K "RoadError")) = some true := of_decide_eq_true (T.ex_at 8 (f := ex8) rfl)
theorem Tx.ki_BadText_BadText (T : Tx K mg) : PySem.W.kitOne K (.ref (He.ga K "BadText")) (.ref (He.ga K "BadText")) = some true := of_decide_eq_true (T.ex_at 9 (f := ex9) rfl)
theorem Tx.ki_BadRegister_BadText (T : Tx K mg) : PySem.W.kitOne K (.ref (He.ga K "BadRegister")) (.ref (He.ga K "BadText")) = some false := of_decide_eq_true (T.ex_at 10 (f := ex10) rfl)
theorem Tx.ki_BadReading_BadText (T : Tx K mg) : PySem.W.kitOne K (.ref (He.ga K "BadReading")) (.ref (He.ga K "BadText")) = some false := of_decide_eq_true (T.ex_at 11 (f := ex11) rfl)
theorem Tx.ki_BadNumber_BadText (T : Tx K mg) : PySem.W.kitOne K (.ref (He.ga K "BadNumber")) (.ref (He.ga K "BadText")) = some false := of_decide_eq_true (T.ex_at 12 (f := ex12) rfl)
theorem Tx.ki_BadRegister_BadRegister (T : Tx K mg) : PySem.W.kitOne K (.ref (He.ga K "BadRegister")) (.ref (He.ga K "BadRegister")) = some true := of_decide_eq_true (T.ex_at 13 (f := ex13) rfl)
theorem Tx.ki_BadReading_BadRegister (T : Tx K mg) : PySem.W.kitOne K (.ref (He.ga K "BadReading")) (.ref (He.ga K "BadRegister")) = some false := of_decide_eq_true (T.ex_at 14 (f := ex14) rfl)
theorem Tx.ki_BadNumber_BadNumber (T : Tx K mg) : PySem.W.kitOne K (.ref (He.ga K "BadNumber")) (.ref (He.ga K "BadNumber")) = some true := of_decide_eq_true (T.ex_at 15 (f := ex15) rfl)
theorem Tx.ka_BadRegister (T : Tx K mg) : PySem.W.kitAny K (.ref (He.ga K "BadRegister")) [.ref (He.ga K "BadRegister"), .ref (He.ga K "BadReading")] = some true := of_decide_eq_true (T.ex_at 16 (f := ex16) rfl)
theorem Tx.ka_BadReading (T : Tx K mg) : PySem.W.kitAny K (.ref (He.ga K "BadReading")) [.ref (He.ga K "BadRegister"), .ref (He.ga K "BadReading")] = some true := of_decide_eq_true (T.ex_at 17 (f := ex17) rfl)
theorem Tx.ka_BadNumber (T : Tx K mg) : PySem.W.kitAny K (.ref (He.ga K "BadNumber")) [.ref (He.ga K "BadRegister"), .ref (He.ga K "BadReading")] = some false := of_decide_eq_true (T.ex_at 18 (f := ex18) rfl)
theorem Tx.lcm (T : Tx K mg) : PySem.W.nsIn K mainGlobals "lcm" = some (some (.builtin "math.lcm")) := of_decide_eq_true (T.ex_at 19 (f := ex19) rfl)
theorem Tx.opq (T : Tx K mg) : Hkc.opqB K = true := id (T.ex_at 20 (f := ex20) rfl)
theorem Tx.apart0 (T : Tx K mg) : (He.cT K ("_law_read_right", none)).2 ≠ (He.cT K ("_law_refused_right", none)).2 := of_decide_eq_true (T.ex_at 21 (f := ex21) rfl)
theorem Tx.apart1 (T : Tx K mg) : (He.cT K ("_law_read_right", none)).2 ≠ (He.cT K ("law", none)).2 := of_decide_eq_true (T.ex_at 22 (f := ex22) rfl)
theorem Tx.apart2 (T : Tx K mg) : (He.cT K ("_law_refused_right", none)).2 ≠ (He.cT K ("law", none)).2 := of_decide_eq_true (T.ex_at 23 (f := ex23) rfl)
theorem Tx.o_BadNumber (T : Tx K mg) : OexC K (He.ga K "BadNumber") := Ers.oexB_ok (T.ex_at 24 (f := ex24) rfl)
theorem Tx.e_BadNumber (T : Tx K mg) : Kept.ErrC K (He.ga K "BadNumber") := Kept.errB_ok (T.ex_at 25 (f := ex25) rfl)
theorem Tx.t_BadNumber (T : Tx K mg) : PySem.W.typeIn K (.ref (He.ma K (He.ga K "BadNumber") "__init__")) = some (.type "function") := of_decide_eq_true (T.ex_at 26 (f := ex26) rfl)
theorem Tx.o_BadRegister (T : Tx K mg) : OexC K (He.ga K "BadRegister") := Ers.oexB_ok (T.ex_at 27 (f := ex27) rfl)
theorem Tx.e_BadRegister (T : Tx K mg) : Kept.ErrC K (He.ga K "BadRegister") := Kept.errB_ok (T.ex_at 28 (f := ex28) rfl)
theorem Tx.t_BadRegister (T : Tx K mg) : PySem.W.typeIn K (.ref (He.ma K (He.ga K "BadRegister") "__init__")) = some (.type "function") := of_decide_eq_true (T.ex_at 29 (f := ex29) rfl)
theorem Tx.o_BadReading (T : Tx K mg) : OexC K (He.ga K "BadReading") := Ers.oexB_ok (T.ex_at 30 (f := ex30) rfl)
theorem Tx.e_BadReading (T : Tx K mg) : Kept.ErrC K (He.ga K "BadReading") := Kept.errB_ok (T.ex_at 31 (f := ex31) rfl)
theorem Tx.t_BadReading (T : Tx K mg) : PySem.W.typeIn K (.ref (He.ma K (He.ga K "BadReading") "__init__")) = some (.type "function") := of_decide_eq_true (T.ex_at 32 (f := ex32) rfl)
theorem Tx.o_BadText (T : Tx K mg) : OexC K (He.ga K "BadText") := Ers.oexB_ok (T.ex_at 33 (f := ex33) rfl)
theorem Tx.e_BadText (T : Tx K mg) : Kept.ErrC K (He.ga K "BadText") := Kept.errB_ok (T.ex_at 34 (f := ex34) rfl)
theorem Tx.t_BadText (T : Tx K mg) : PySem.W.typeIn K (.ref (He.ma K (He.ga K "BadText") "__init__")) = some (.type "function") := of_decide_eq_true (T.ex_at 35 (f := ex35) rfl)
theorem Tx.cm_Register_read (T : Tx K mg) : ClX.CRead K (He.ga K "Register") (.type "type") ∧ ClX.CMet K (He.ga K "Register") (.type "type") "read" (He.ma K (He.ga K "Register") "read") (Hkc.gm K (He.ga K "Register") "read") ∧ Hkc.mdB K (Hkc.gm K (He.ga K "Register") "read") "Register.read" = true := Hkc.cmB_ok (T.ex_at 36 (f := ex36) rfl)
theorem Tx.su_Dials (T : Tx K mg) : Hkc.supB PySem.Challenge.pw_gaugeroad_k24_texts_of_registers.main.file "Dials.__init__" "Dials" K = true := id (T.ex_at 37 (f := ex37) rfl)
theorem Tx.su1_Dials (T : Tx K mg) : PySem.W.ks_superIn K (He.ga K "Dials") (He.ga K "Dials") "__init__" = some (some (.ref (He.ma K (He.ga K "Wrapping") "__init__"))) := of_decide_eq_true (T.ex_at 38 (f := ex38) rfl)
theorem Tx.su2_Dials (T : Tx K mg) : PySem.W.typeIn K (.ref (He.ma K (He.ga K "Wrapping") "__init__")) = some (.type "function") := of_decide_eq_true (T.ex_at 39 (f := ex39) rfl)
theorem Tx.su3_Dials (T : Tx K mg) : PySem.W.fnIn K (He.ma K (He.ga K "Wrapping") "__init__") = true := id (T.ex_at 40 (f := ex40) rfl)
end
def tf : List He.Defn := [("_law_read_right", none), ("_law_refused_right", none), ("law", none)]
end K24
set_option Elab.async false
set_option linter.all false
set_option maxRecDepth 100000
set_option maxHeartbeats 0
namespace K24
open PySem PySem.Spec PyProof.Rows L2
abbrev R : PySem.W.OpenRow := PySem.W.OpenLaw.row PySem.Challenge.rw_gaugeroad_k24_texts_of_registers
abbrev hk : PySem.W.Hook := Hkc.hookC 5 fa fn tf ex ms
def ob (s : PySem.W.SharedT) : Hkc.AlC := Hkc.obsC 5 fa fn tf ex ms (HandSHeadRun.getT s)
theorem ob_eq (s : PySem.W.SharedT) : ob s = hk.obs s.abs := Hkc.obsC_eq (HandSHeadRun.getT_eq s)
def names0 : List PySem.Str := ["_wall", "RoadError", "BadNumber", "BadRegister", "BadReading", "BadText", "is_whole", "is_within", "check_number", "DIGITS", "is_number_word", "Words", "FAR", "MOST_MODULUS", "MOST_PERIODS", "MOST_PERIOD", "Register", "Plain", "Wrapping", "Dials", "Restarting", "check_shown", "check_reading", "check_readings"]
def names1 : List PySem.Str := ["is_count", "least_total", "take_display", "display_of", "take_numbers", "_law_pen", "_law_draw", "_law_pick", "_law_register", "_law_heard", "_law_is_number", "_law_due", "_law_bent", "_law_read_right", "_law_refused_right"]
def names : List PySem.Str := names0 ++ names1
theorem run (w : World) : HandSHeadRun.RunEqI R (PySem.W.view R.prog [0, 45]) hk ob 8000 names w := by
  unfold HandSHeadRun.RunEqI
  kernel_rfl
end K24
set_option Elab.async false
set_option linter.all false
set_option maxRecDepth 100000
set_option maxHeartbeats 2000000
/-! Steps over data: an expression, a statement is run from a state that names data, not addresses. What stands unchanged is data; what may change is a cell, by its address. -/
namespace Sx
open PySem PySem.Spec PyProof.Rows L2
inductive D where
  | non
  | bl (b : Bool)
  | int (i : Int)
  | str (x : Str)
  | lst (xs : List D)
  | tup (xs : List D)
  | obj (C : Addr) (fs : List (Str × D))
  | exc (C : Addr) (fs : List (Str × D))
  | dct0
  | own (a : Addr)
  | raw (v : V)
inductive Cell where
  | lst (xs : List D)
  | ins (C : Addr) (fs : List (Str × D))
  | pen (ns : List Int) (k : Int)
  | tab (q : Str)
abbrev Cs := List (Addr × Cell)
def ow (cs : Cs) (a : Addr) : Prop := a ∈ cs.map Prod.fst
mutual
inductive Vl (H : Hp) (M : Addr → Prop) : V → D → Prop where
  | non : Vl H M .non .non
  | bl (b : Bool) : Vl H M (.bl b) (.bl b)
  | int (i : Int) : Vl H M (.int i) (.int i)
  | str (x : Str) : Vl H M (.str x) (.str x)
  | lst {a : Addr} {xs : List V} {ds : List D} (e : H a = some (.lst xs)) (n : ¬ M a) (r : VlL H M xs ds) : Vl H M (.ref a) (.lst ds)
  | tup {a : Addr} {xs : List V} {ds : List D} (e : H a = some (.tup xs)) (n : ¬ M a) (r : VlL H M xs ds) : Vl H M (.ref a) (.tup ds)
  | obj {a C dx : Addr} {fs : List (Str × V)} {ds : List (Str × D)} (e : H a = some (.ins C dx fs)) (n : ¬ M a) (r : VlF H M fs ds) : Vl H M (.ref a) (.obj C ds)
  | exc {a C x : Addr} {fs : List (Str × V)} {ds : List (Str × D)} (e : H a = some (Kept.errO a (.ref C) (some x))) (n : ¬ M a) (e2 : H x = some (.xd fs)) (n2 : ¬ M x) (r : VlF H M fs ds) : Vl H M (.ref a) (.exc C ds)
  | dct0 {a : Addr} (e : H a = some (.dK [])) (n : ¬ M a) : Vl H M (.ref a) .dct0
  | own (a : Addr) : Vl H M (.ref a) (.own a)
  | raw (v : V) : Vl H M v (.raw v)
inductive VlL (H : Hp) (M : Addr → Prop) : List V → List D → Prop where
  | nil : VlL H M [] []
  | cons {v : V} {d : D} {vs : List V} {ds : List D} (h : Vl H M v d) (r : VlL H M vs ds) : VlL H M (v :: vs) (d :: ds)
inductive VlF (H : Hp) (M : Addr → Prop) : List (Str × V) → List (Str × D) → Prop where
  | nil : VlF H M [] []
  | cons {f : Str} {v : V} {d : D} {vs : List (Str × V)} {ds : List (Str × D)} (h : Vl H M v d) (r : VlF H M vs ds) : VlF H M ((f, v) :: vs) ((f, d) :: ds)
end
/-- all but what M tells stays (tables may grow); what M' tells besides is new -/
structure Ext (M : Addr → Prop) (H : Hp) (M' : Addr → Prop) (H' : Hp) : Prop where
  kp : ∀ b o, ¬ M b → (∀ ps, o ≠ .tbl ps) → H b = some o → H' b = some o
  nw : ∀ b, M' b → M b ∨ ∀ o, H b = some o → ∃ ps, o = .tbl ps
section
variable {M M1 M2 M' : Addr → Prop} {H H1 H2 H' : Hp}
theorem nwN {b : Addr} (h : H b = none) : ∀ o, H b = some o → ∃ ps, o = HO.tbl ps := fun o e => by
  rw [h] at e
  cases e
theorem Ext.refl : Ext M H M H := ⟨fun _ _ _ _ h => h, fun _ h => .inl h⟩
theorem Ext.trans (a : Ext M H M1 H1) (b : Ext M1 H1 M2 H2) : Ext M H M2 H2 := by
  refine ⟨fun c o n nt h => ?_, fun c h => ?_⟩
  · have h1 := a.kp c o n nt h
    exact b.kp c o (fun m => (a.nw c m).elim n (fun z => by
      obtain ⟨ps, e⟩ := z o h
      exact nt ps e)) nt h1
  · rcases b.nw c h with m | z
    · exact a.nw c m
    · by_cases m : M c
      · exact .inl m
      · refine .inr fun o q => ?_
        by_cases nt : ∃ ps, o = .tbl ps
        · exact nt
        · exact z o (a.kp c o m (fun ps e => nt ⟨ps, e⟩) q)
theorem Ext.same (S : Same H H') : Ext M H M H' := ⟨fun b o _ _ h => S b o h, fun _ h => .inl h⟩
theorem Ext.tabs (S : LamX.ExtN H H') : Ext M H M H' := ⟨fun b o _ nt h => S b o h nt, fun _ h => .inl h⟩
theorem Ext.less (h : ∀ a, M' a → M a) : Ext M H M' H := ⟨fun _ _ _ _ h => h, fun a m => .inl (h a m)⟩
theorem Ext.out (e : Ext M H M' H') {a : Addr} {o : HO} (h : H a = some o) (n : ¬ M a) (nt : ∀ ps, o ≠ .tbl ps) : ¬ M' a := fun z => (e.nw a z).elim n fun q => by
  obtain ⟨ps, e⟩ := q o h
  exact nt ps e
theorem ntL {xs : List V} (ps : Array Value) : HO.lst xs ≠ .tbl ps := fun z => by cases z
theorem ntT {xs : List V} (ps : Array Value) : HO.tup xs ≠ .tbl ps := fun z => by cases z
theorem ntI {C dx : Addr} {fs : List (Str × V)} (ps : Array Value) : HO.ins C dx fs ≠ .tbl ps := fun z => by cases z
theorem ntD (ps : Array Value) : HO.dK [] ≠ .tbl ps := fun z => by cases z
theorem ntX {fs : List (Str × V)} (ps : Array Value) : HO.xd fs ≠ .tbl ps := fun z => by cases z
theorem ntE {a : Addr} {c : Value} {d : Option Addr} (ps : Array Value) : Kept.errO a c d ≠ .tbl ps := fun z => by
  unfold Kept.errO at z
  cases z
mutual
theorem Vl.ext (e : Ext M H M' H') : ∀ {v : V} {d : D}, Vl H M v d → Vl H' M' v d
  | _, _, .non => .non
  | _, _, .bl b => .bl b
  | _, _, .int i => .int i
  | _, _, .str x => .str x
  | _, _, .lst h n r => .lst (e.kp _ _ n ntL h) (e.out h n ntL) (VlL.ext e r)
  | _, _, .tup h n r => .tup (e.kp _ _ n ntT h) (e.out h n ntT) (VlL.ext e r)
  | _, _, .obj h n r => .obj (e.kp _ _ n ntI h) (e.out h n ntI) (VlF.ext e r)
  | _, _, .exc h n h2 n2 r => .exc (e.kp _ _ n ntE h) (e.out h n ntE) (e.kp _ _ n2 ntX h2) (e.out h2 n2 ntX) (VlF.ext e r)
  | _, _, .dct0 h n => .dct0 (e.kp _ _ n ntD h) (e.out h n ntD)
  | _, _, .own a => .own a
  | _, _, .raw v => .raw v
theorem VlL.ext (e : Ext M H M' H') : ∀ {vs : List V} {ds : List D}, VlL H M vs ds → VlL H' M' vs ds
  | _, _, .nil => .nil
  | _, _, .cons h r => .cons (Vl.ext e h) (VlL.ext e r)
theorem VlF.ext (e : Ext M H M' H') : ∀ {vs : List (Str × V)} {ds : List (Str × D)}, VlF H M vs ds → VlF H' M' vs ds
  | _, _, .nil => .nil
  | _, _, .cons h r => .cons (Vl.ext e h) (VlF.ext e r)
end
theorem VlL.len {vs : List V} {ds : List D} (r : VlL H M vs ds) : vs.length = ds.length := by
  induction ds generalizing vs with
  | nil => cases r; rfl
  | cons d ds ih =>
    cases r with
    | cons h r => rw [List.length_cons, List.length_cons, ih r]
theorem VlL.at_ {vs : List V} {ds : List D} (r : VlL H M vs ds) {i : Nat} {d : D} (h : ds[i]? = some d) : ∃ v, vs[i]? = some v ∧ Vl H M v d := by
  induction ds generalizing vs i with
  | nil => simp at h
  | cons d0 ds ih =>
    cases r with
    | cons h0 r =>
      cases i with
      | zero =>
        simp only [List.getElem?_cons_zero, Option.some.injEq] at h
        subst h
        exact ⟨_, rfl, h0⟩
      | succ j => exact ih r (i := j) (by simpa using h)
theorem VlL.back {vs : List V} {ds : List D} (r : VlL H M vs ds) {i : Nat} {v : V} (h : vs[i]? = some v) : ∃ d, ds[i]? = some d ∧ Vl H M v d := by
  induction ds generalizing vs i with
  | nil => cases r; simp at h
  | cons d0 ds ih =>
    cases r with
    | cons h0 r =>
      cases i with
      | zero =>
        simp only [List.getElem?_cons_zero, Option.some.injEq] at h
        subst h
        exact ⟨_, rfl, h0⟩
      | succ j => exact ih r (i := j) (by simpa using h)
theorem VlL.app {vs us : List V} {ds es : List D} (r : VlL H M vs ds) (q : VlL H M us es) : VlL H M (vs ++ us) (ds ++ es) := by
  induction ds generalizing vs with
  | nil => cases r; exact q
  | cons d ds ih =>
    cases r with
    | cons h r => exact .cons h (ih r)
theorem VlL.drop {vs : List V} {ds : List D} (r : VlL H M vs ds) (n : Nat) : VlL H M (vs.drop n) (ds.drop n) := by
  induction n generalizing vs ds with
  | zero => exact r
  | succ n ih =>
    cases r with
    | nil => exact .nil
    | cons h r => exact ih r
theorem VlL.take {vs : List V} {ds : List D} (r : VlL H M vs ds) (n : Nat) : VlL H M (vs.take n) (ds.take n) := by
  induction n generalizing vs ds with
  | zero => exact .nil
  | succ n ih =>
    cases r with
    | nil => exact .nil
    | cons h r => exact .cons h (ih r)
theorem VlF.lookup {vs : List (Str × V)} {ds : List (Str × D)} (r : VlF H M vs ds) {f : Str} {d : D} (h : ds.lookup f = some d) : ∃ v, vs.lookup f = some v ∧ Vl H M v d := by
  induction ds generalizing vs with
  | nil => simp at h
  | cons d0 ds ih =>
    cases r with
    | cons h0 r =>
      rw [List.lookup_cons] at h ⊢
      split at h
      · cases h
        exact ⟨_, rfl, h0⟩
      · exact ih r h
theorem VlF.lookup_none {vs : List (Str × V)} {ds : List (Str × D)} (r : VlF H M vs ds) {f : Str} (h : ds.lookup f = none) : vs.lookup f = none := by
  induction ds generalizing vs with
  | nil => cases r; rfl
  | cons d0 ds ih =>
    cases r with
    | cons h0 r =>
      rw [List.lookup_cons] at h ⊢
      split at h
      · cases h
      · exact ih r h
theorem VlF.len {vs : List (Str × V)} {ds : List (Str × D)} (r : VlF H M vs ds) : vs.length = ds.length := by
  induction ds generalizing vs with
  | nil => cases r; rfl
  | cons d ds ih =>
    cases r with
    | cons h r => rw [List.length_cons, List.length_cons, ih r]
end
def CellOk (H : Hp) (M : Addr → Prop) (a : Addr) : Cell → Prop
  | .lst ds => ∃ xs, H a = some (.lst xs) ∧ VlL H M xs ds
  | .ins C fs => ∃ dx vs, H a = some (.ins C dx vs) ∧ VlF H M vs fs
  | .pen ns k => ∃ b s g, H a = some (.lst [.ref b, .int s, .int g]) ∧ H b = some (.lst (ns.map V.int)) ∧ ¬ M b ∧ ns.length ≤ 63 ∧ 0 ≤ s ∧ s ≤ k ∧ 0 ≤ g
  | .tab q => ∃ ps : Array Value, H a = some (.tbl ps) ∧ TriplesOk ps.toList ∧ ∀ (pos : Pos) (cv : Value), codeAmong pos ps.toList = some cv → ∃ c, cv = .ref c ∧ H c = some (LamX.CodeO c q) ∧ ¬ M c
structure CsOk (H : Hp) (cs : Cs) : Prop where
  ok : ∀ a c, (a, c) ∈ cs → CellOk H (ow cs) a c
  nd : (cs.map Prod.fst).Nodup
structure SS where
  sl : List (Option D)
  cs : Cs
structure Bs where
  H : Hp
  cs : Cs
  E : XK
  Ex : Addr → List (Str × D) → Cs → Prop
def BOk (B : Bs) : Prop := ∀ C fs cs x vs H', B.Ex C fs cs → Ext (ow B.cs) B.H (ow cs) H' → CsOk H' cs → H' x = some (.xd vs) → VlF H' (ow cs) vs fs → B.E (.ref C) (some x) H'
structure Sat (B : Bs) (ss : SS) (σ : L2.St) (H : Hp) : Prop where
  len : σ.length = ss.sl.length
  sl : ∀ (i : Nat) (d : D), ss.sl[i]? = some (some d) → ∃ v : V, (σ[i]? : Option (Option V)) = some (some v) ∧ Vl H (ow ss.cs) v d
  ok : CsOk H ss.cs
  ext : Ext (ow B.cs) B.H (ow ss.cs) H
  bok : BOk B
theorem CellOk.there {H : Hp} {M : Addr → Prop} {a : Addr} {c : Cell} (h : CellOk H M a c) : ∃ o, H a = some o := by
  cases c with
  | lst ds => obtain ⟨_, e, _⟩ := h; exact ⟨_, e⟩
  | ins C fs => obtain ⟨_, _, e, _⟩ := h; exact ⟨_, e⟩
  | pen ns k => obtain ⟨_, _, _, e, _⟩ := h; exact ⟨_, e⟩
  | tab q => obtain ⟨_, e, _⟩ := h; exact ⟨_, e⟩
theorem CsOk.there {H : Hp} {cs : Cs} (h : CsOk H cs) {a : Addr} (m : ow cs a) : ∃ o, H a = some o := by
  obtain ⟨⟨b, c⟩, hb, rfl⟩ := List.mem_map.mp m
  exact (h.ok _ _ hb).there
theorem CellOk.ext {H H' : Hp} {M M' : Addr → Prop} {a : Addr} {c : Cell} (h : CellOk H M a c) (e : Ext M H M' H') (k : ∀ o, H a = some o → H' a = some o) : CellOk H' M' a c := by
  cases c with
  | lst ds =>
    obtain ⟨xs, h1, h2⟩ := h
    exact ⟨xs, k _ h1, h2.ext e⟩
  | ins C fs =>
    obtain ⟨dx, vs, h1, h2⟩ := h
    exact ⟨dx, vs, k _ h1, h2.ext e⟩
  | pen ns n =>
    obtain ⟨b, s, g, h1, h2, h3, h4⟩ := h
    exact ⟨b, s, g, k _ h1, e.kp _ _ h3 ntL h2, e.out h2 h3 ntL, h4⟩
  | tab q =>
    obtain ⟨ps, h1, h2, h3⟩ := h
    refine ⟨ps, k _ h1, h2, fun pos cv hc => ?_⟩
    obtain ⟨c, e1, e2, e3⟩ := h3 pos cv hc
    exact ⟨c, e1, e.kp _ _ e3 LamX.codeO_ne e2, e.out e2 e3 LamX.codeO_ne⟩
theorem CsOk.same {H H' : Hp} {cs : Cs} (h : CsOk H cs) (S : Same H H') : CsOk H' cs := ⟨fun a c m => (h.ok a c m).ext (Ext.same S) fun o e => S _ _ e, h.nd⟩
/-- all is kept -/
theorem Sat.same {B : Bs} {ss : SS} {σ : L2.St} {H H' : Hp} (s : Sat B ss σ H) (S : Same H H') : Sat B ss σ H' :=
  ⟨s.len, fun i d e => by
    obtain ⟨v, e1, r⟩ := s.sl i d e
    exact ⟨v, e1, r.ext (Ext.same S)⟩, s.ok.same S, s.ext.trans (Ext.same S), s.bok⟩
/-- a new object is no cell -/
theorem Sat.new {B : Bs} {ss : SS} {σ : L2.St} {H : Hp} (s : Sat B ss σ H) {p : Addr} (n : H p = none) : ¬ ow ss.cs p := fun m => by
  obtain ⟨o, e⟩ := s.ok.there m
  rw [n] at e
  cases e
/-! ### the judgements -/
def tE (B : Bs) (ss : SS) (Q : D → SS → Prop) : TE := fun σ H QQ => Sat B ss σ H ∧ ∀ v d ss' H', Q d ss' → Sat B ss' σ H' → Ext (ow ss.cs) H (ow ss'.cs) H' → Vl H' (ow ss'.cs) v d → QQ v H'
def tT (B : Bs) (ss : SS) (Q : Bool → SS → Prop) : TT := fun σ H QQ => Sat B ss σ H ∧ ∀ b ss' H', Q b ss' → Sat B ss' σ H' → Ext (ow ss.cs) H (ow ss'.cs) H' → QQ b H'
def tA (B : Bs) (ss : SS) (Q : List D → SS → Prop) : TA := fun σ H QQ => Sat B ss σ H ∧ ∀ vs ds ss' H', Q ds ss' → Sat B ss' σ H' → Ext (ow ss.cs) H (ow ss'.cs) H' → VlL H' (ow ss'.cs) vs ds → QQ vs H'
structure Kt where
  nx : SS → Prop
  rt : D → SS → Prop
  bk : SS → Prop := fun _ => False
  ct : SS → Prop := fun _ => False
def tS (B : Bs) (ss : SS) (k : Kt) : TS := fun D σ H => Sat B ss σ H ∧ (∀ ss' σ' H', k.nx ss' → Sat B ss' σ' H' → Ext (ow ss.cs) H (ow ss'.cs) H' → D.nx σ' H') ∧
  (∀ v d ss' σ' H', k.rt d ss' → Sat B ss' σ' H' → Ext (ow ss.cs) H (ow ss'.cs) H' → Vl H' (ow ss'.cs) v d → D.rt v H') ∧
  (∀ ss' σ' H', k.bk ss' → Sat B ss' σ' H' → Ext (ow ss.cs) H (ow ss'.cs) H' → D.bk σ' H') ∧ (∀ ss' σ' H', k.ct ss' → Sat B ss' σ' H' → Ext (ow ss.cs) H (ow ss'.cs) H' → D.ct σ' H')
structure EW (X : Cx) (B : Bs) (e : Expr) (ss : SS) (Q : D → SS → Prop) : Prop where
  p : PE X e (tE B ss Q)
structure TW (X : Cx) (B : Bs) (e : Expr) (ss : SS) (Q : Bool → SS → Prop) : Prop where
  p : PT X e (tT B ss Q)
structure WW (X : Cx) (B : Bs) (e : Expr) (ss : SS) (Q : Bool → SS → Prop) : Prop where
  p : PW X e (tT B ss Q)
structure AW (X : Cx) (B : Bs) (es : List Expr) (ss : SS) (Q : List D → SS → Prop) : Prop where
  p : PA X es (tA B ss Q)
structure S1 (X : Cx) (B : Bs) (st : Stmt) (ss : SS) (k : Kt) : Prop where
  p : PS X st (tS B ss k)
structure SW (X : Cx) (B : Bs) (sts : List Stmt) (ss : SS) (k : Kt) : Prop where
  p : PSs X sts (tS B ss k)
def tAny (X : Cx) (e : Expr) : TE := fun σ H Q => ∃ t, PE X e t ∧ t σ H Q
theorem pe_any {X : Cx} {e : Expr} : PE X e (tAny X e) := ⟨fun pins s σ H Q I ⟨_, h, q⟩ => h.run pins s σ H Q I q⟩
def ttAny (X : Cx) (e : Expr) : TT := fun σ H Q => ∃ t, PT X e t ∧ t σ H Q
theorem pt_any {X : Cx} {e : Expr} : PT X e (ttAny X e) := ⟨fun pins s σ H Q I ⟨_, h, q⟩ => h.run pins s σ H Q I q⟩
def twAny (X : Cx) (e : Expr) : TT := fun σ H Q => ∃ t, PW X e t ∧ t σ H Q
theorem pw_any {X : Cx} {e : Expr} : PW X e (twAny X e) := ⟨fun w pins s σ H Q I ⟨_, h, q⟩ => h.run w pins s σ H Q I q⟩
def taAny (X : Cx) (es : List Expr) : TA := fun σ H Q => ∃ t, PA X es t ∧ t σ H Q
theorem pa_any {X : Cx} {es : List Expr} : PA X es (taAny X es) := ⟨fun pos pins s σ H Q I ⟨_, h, q⟩ => h.run pos pins s σ H Q I q⟩
def tsAny (X : Cx) (st : Stmt) : TS := fun D σ H => ∃ t, PS X st t ∧ t D σ H
theorem ps_any {X : Cx} {st : Stmt} : PS X st (tsAny X st) := ⟨fun pins s σ H D I ⟨_, h, q⟩ => h.run pins s σ H D I q⟩
def tssAny (X : Cx) (sts : List Stmt) : TS := fun D σ H => ∃ t, PSs X sts t ∧ t D σ H
theorem pss_any {X : Cx} {sts : List Stmt} : PSs X sts (tssAny X sts) := ⟨fun pins s σ H D I ⟨_, h, q⟩ => h.run pins s σ H D I q⟩
theorem PEimp {X : Cx} {e : Expr} {t t' : TE} (h : PE X e t) (i : ∀ σ H Q, t' σ H Q → t σ H Q) : PE X e t' := ⟨fun pins s σ H Q I q => h.run pins s σ H Q I (i σ H Q q)⟩
theorem PTimp {X : Cx} {e : Expr} {t t' : TT} (h : PT X e t) (i : ∀ σ H Q, t' σ H Q → t σ H Q) : PT X e t' := ⟨fun pins s σ H Q I q => h.run pins s σ H Q I (i σ H Q q)⟩
theorem PWimp {X : Cx} {e : Expr} {t t' : TT} (h : PW X e t) (i : ∀ σ H Q, t' σ H Q → t σ H Q) : PW X e t' := ⟨fun w pins s σ H Q I q => h.run w pins s σ H Q I (i σ H Q q)⟩
theorem PAimp {X : Cx} {e : List Expr} {t t' : TA} (h : PA X e t) (i : ∀ σ H Q, t' σ H Q → t σ H Q) : PA X e t' := ⟨fun pos pins s σ H Q I q => h.run pos pins s σ H Q I (i σ H Q q)⟩
theorem PSimp {X : Cx} {e : Stmt} {t t' : TS} (h : PS X e t) (i : ∀ D σ H, t' D σ H → t D σ H) : PS X e t' := ⟨fun pins s σ H D I q => h.run pins s σ H D I (i D σ H q)⟩
theorem PSsimp {X : Cx} {e : List Stmt} {t t' : TS} (h : PSs X e t) (i : ∀ D σ H, t' D σ H → t D σ H) : PSs X e t' := ⟨fun pins s σ H D I q => h.run pins s σ H D I (i D σ H q)⟩
def Br (k : Bool) (p q : Prop) : Prop := (k = true → p) ∧ (k = false → q)
theorem Br.go {k : Bool} {p q : Prop} (h : Br k p q) : if k = true then p else q := by
  cases k with
  | true => exact h.1 rfl
  | false => exact h.2 rfl
theorem br_t {p q : Prop} (h : p) : Br true p q := ⟨fun _ => h, fun z => Bool.noConfusion z⟩
theorem br_f {p q : Prop} (h : q) : Br false p q := ⟨fun z => Bool.noConfusion z, fun _ => h⟩
def IsB (d : D) (Q : Bool → Prop) : Prop := ∃ k, d = .bl k ∧ Q k
theorem isB {k : Bool} {Q : Bool → Prop} (h : Q k) : IsB (.bl k) Q := ⟨k, rfl, h⟩
section
variable {X : Cx} {B : Bs} {ss : SS} {Q : D → SS → Prop} {T : Bool → SS → Prop} {L : List D → SS → Prop} {k : Kt} {a b c e : Expr} {es : List Expr} {pos : Pos}
/-! ### names, constants -/
theorem ew_c {v : V} {d : D} (h : PE X e (tC v)) (hv : ∀ H M, Vl H M v d) (q : Q d ss) : EW X B e ss Q := ⟨PEimp h fun _ H _ ⟨s, k⟩ => k _ _ _ _ q s Ext.refl (hv _ _)⟩
theorem ew_int {i : Int} {j : Nat} (q : Q (.int i) ss) : EW X B (.Constant (.int i) j pos) ss Q := ew_c pe_int (fun _ _ => .int _) q
theorem ew_bl {i : Bool} {j : Nat} (q : Q (.bl i) ss) : EW X B (.Constant (.bool i) j pos) ss Q := ew_c pe_bl (fun _ _ => .bl _) q
theorem ew_non {j : Nat} (q : Q .non ss) : EW X B (.Constant .none j pos) ss Q := ew_c pe_non (fun _ _ => .non) q
theorem ew_str {x : Str} {j : Nat} (q : Q (.str x) ss) : EW X B (.Constant (.str x) j pos) ss Q := ew_c pe_str (fun _ _ => .str _) q
theorem ew_name (i : Nat) {x : Str} {d : D} (hN : X.N[i]? = some x) (hv : Vis X.env.scope x) (hs : ss.sl[i]? = some (some d)) (q : Q d ss) (hd : (x == ("__debug__" : Str)) = false := by decide) (hcd : (x == ("__classdict__" : Str)) = false := by decide) : EW X B (.Name x pos) ss Q :=
  ⟨PEimp (pe_var hN hv hd hcd) fun _ H _ ⟨s, k⟩ => by
    obtain ⟨v, e, r⟩ := s.sl i d hs
    exact ⟨v, e, k _ _ _ _ q s Ext.refl r⟩⟩
theorem ew_glob {x : Str} {v : V} {u : Value} {d : D} (hg : Gl X x) (hm : X.mg x = some u) (r : RelV v u) (hv : ∀ H M, Vl H M v d) (q : Q d ss) (hd : (x == ("__debug__" : Str)) = false := by decide) : EW X B (.Name x pos) ss Q := ew_c (pe_glob hg hm r hd) hv q
/-- a module's class, a def -/
theorem ew_gref {x : Str} {p : Addr} (hm : X.mg x = some (.ref p)) (hg : Gl X x) (q : Q (.raw (.ref p)) ss) (hd : (x == ("__debug__" : Str)) = false := by decide) : EW X B (.Name x pos) ss Q := ew_glob (v := .ref p) hg hm rfl (fun _ _ => .raw _) q hd
/-- a module's int -/
theorem ew_gint {x : Str} {i : Int} (hm : ∃ t, X.mg x = some (.int i t)) (hg : Gl X x) (q : Q (.int i) ss) (hd : (x == ("__debug__" : Str)) = false := by decide) : EW X B (.Name x pos) ss Q := by
  obtain ⟨t, h⟩ := hm
  exact ew_glob (v := .int i) hg h ⟨t, rfl⟩ (fun _ _ => .int _) q hd
theorem ew_bltn {x : Str} {v : V} {u : Value} (hm : X.mg x = none) (hg : Gl X x) (hv : bootBuiltins x = some u) (r : RelV v u) (q : Q (.raw v) ss) (hn : x ≠ "__name__" := by decide) (hd : (x == ("__debug__" : Str)) = false := by decide) : EW X B (.Name x pos) ss Q := ew_c (pe_bltn hg hm hv r hn hd) (fun _ _ => .raw _) q
/-! ### operators -/
def OpD (X : Cx) (B : Bs) (f : Value → Value → Sem Value) (d1 d2 : D) (ss : SS) (Q : D → SS → Prop) : Prop :=
  ∀ v1 v2 σ H QQ, Sat B ss σ H → Vl H (ow ss.cs) v1 d1 → Vl H (ow ss.cs) v2 d2 → (∀ v d ss' H', Q d ss' → Sat B ss' σ H' → Ext (ow ss.cs) H (ow ss'.cs) H' → Vl H' (ow ss'.cs) v d → QQ v H') → ∃ r, OpR X f r ∧ r v1 v2 H QQ
def rAny (X : Cx) (f : Value → Value → Sem Value) : R2 := fun x y H Q => ∃ r, OpR X f r ∧ r x y H Q
theorem or_any {f : Value → Value → Sem Value} : OpR X f (rAny X f) := fun pins s σ H x y v u Q I r1 r2 ⟨_, h, q⟩ => h pins s σ H x y v u Q I r1 r2 q
theorem op_go {f : Value → Value → Sem Value} (h : EW X B a ss fun d1 s1 => EW X B b s1 fun d2 s2 => OpD X B f d1 d2 s2 Q) {σ : L2.St} {H : Hp} {QQ : VK} (q : tE B ss Q σ H QQ) :
    tOp (rAny X f) (tE B ss fun d1 s1 => EW X B b s1 fun d2 s2 => OpD X B f d1 d2 s2 Q) (tAny X b) σ H QQ := by
  obtain ⟨s, k⟩ := q
  exact ⟨s, fun v1 d1 s1 H1 q1 sat1 e1 r1 => ⟨_, q1.p, sat1, fun v2 d2 s2 H2 q2 sat2 e2 r2 => (show OpD X B f d1 d2 s2 Q from q2) v1 v2 σ H2 QQ sat2 (r1.ext e2) r2 fun v d s3 H3 q3 sat3 e3 r3 => k v d s3 H3 q3 sat3 ((e1.trans e2).trans e3) r3⟩⟩
theorem ew_bin {op : Operator} (h : EW X B a ss fun d1 s1 => EW X B b s1 fun d2 s2 => OpD X B (binaryOp op) d1 d2 s2 Q) : EW X B (.BinOp a op b pos) ss Q := ⟨PEimp (pe_op or_any h.p pe_any) fun _ _ _ q => op_go h q⟩
theorem ew_cmp {op : CmpOp} (h : EW X B a ss fun d1 s1 => EW X B b s1 fun d2 s2 => OpD X B (compareOp op) d1 d2 s2 Q) (hm : behindInMarks op b = false := by first | exact nomark _ | rfl) : EW X B (.Compare a [op] [b] pos) ss Q := ⟨PEimp (pe_cmpR or_any h.p pe_any hm) fun _ _ _ q => op_go h q⟩
theorem tw_cmp {op : CmpOp} (h : EW X B a ss fun d1 s1 => EW X B b s1 fun d2 s2 => OpD X B (compareOp op) d1 d2 s2 fun d s => IsB d fun k => T k s) (hm : behindInMarks op b = false := by first | exact nomark _ | rfl) : TW X B (.Compare a [op] [b] pos) ss T :=
  ⟨PTimp (pt_cmpR or_any h.p pe_any hm) fun σ H QQ ⟨s, k⟩ => op_go h ⟨s, fun v d s1 H1 q1 sat1 e1 r1 => by
    obtain ⟨b, rfl, q⟩ := q1
    cases r1
    exact ⟨b, rfl, k b s1 H1 q sat1 e1⟩⟩⟩
theorem od_c {f : Value → Value → Sem Value} {d1 d2 d : D} (q : Q d ss) (h : ∀ H M v1 v2, Vl H M v1 d1 → Vl H M v2 d2 → ∃ r v, OpR X f r ∧ Vl H M v d ∧ ∀ QQ : VK, QQ v H → r v1 v2 H QQ) : OpD X B f d1 d2 ss Q := fun v1 v2 σ H QQ s r1 r2 k => by
  obtain ⟨r, v, ho, hv, hq⟩ := h H _ v1 v2 r1 r2
  exact ⟨r, ho, hq QQ (k _ _ _ _ q s Ext.refl hv)⟩
theorem od_add {i j : Int} (q : Q (.int (i + j)) ss) : OpD X B (binaryOp .Add) (.int i) (.int j) ss Q := od_c q fun H M v1 v2 r1 r2 => by
  cases r1; cases r2; exact ⟨_, _, op_add, .int _, fun QQ q => ⟨i, j, rfl, rfl, q⟩⟩
theorem od_sub {i j : Int} (q : Q (.int (i - j)) ss) : OpD X B (binaryOp .Sub) (.int i) (.int j) ss Q := od_c q fun H M v1 v2 r1 r2 => by
  cases r1; cases r2; exact ⟨_, _, op_sub, .int _, fun QQ q => ⟨i, j, rfl, rfl, q⟩⟩
theorem od_mul {i j : Int} (h : CMul i j) (q : Q (.int (i * j)) ss) : OpD X B (binaryOp .Mult) (.int i) (.int j) ss Q := od_c q fun H M v1 v2 r1 r2 => by
  cases r1; cases r2; exact ⟨_, _, op_mul, .int _, fun QQ q => ⟨i, j, rfl, rfl, h, q⟩⟩
theorem od_mod {i j : Int} (h : 0 < j) (q : Q (.int (i % j)) ss) : OpD X B (binaryOp .Mod) (.int i) (.int j) ss Q := od_c q fun H M v1 v2 r1 r2 => by
  cases r1; cases r2; exact ⟨_, _, op_mod, .int _, fun QQ q => ⟨i, j, rfl, rfl, h, q⟩⟩
theorem od_div {i j : Int} (h : CDivW i j) (q : Q (.int (i / j)) ss) : OpD X B (binaryOp .FloorDiv) (.int i) (.int j) ss Q := od_c q fun H M v1 v2 r1 r2 => by
  cases r1; cases r2; exact ⟨_, _, op_fdivW, .int _, fun QQ q => ⟨i, j, rfl, rfl, h, q⟩⟩
theorem od_pow {i j : Int} (h : CPow i j) (q : Q (.int (i ^ j.toNat)) ss) : OpD X B (binaryOp .Pow) (.int i) (.int j) ss Q := od_c q fun H M v1 v2 r1 r2 => by
  cases r1; cases r2; exact ⟨_, _, op_pow, .int _, fun QQ q => ⟨i, j, rfl, rfl, h, q⟩⟩
theorem od_lt {i j : Int} (q : Q (.bl (decide (i < j))) ss) : OpD X B (compareOp .Lt) (.int i) (.int j) ss Q := od_c q fun H M v1 v2 r1 r2 => by
  cases r1; cases r2; exact ⟨_, _, op_lt, .bl _, fun QQ q => ⟨i, j, rfl, rfl, q⟩⟩
theorem od_le {i j : Int} (q : Q (.bl (decide (i ≤ j))) ss) : OpD X B (compareOp .LtE) (.int i) (.int j) ss Q := od_c q fun H M v1 v2 r1 r2 => by
  cases r1; cases r2; exact ⟨_, _, op_le, .bl _, fun QQ q => ⟨i, j, rfl, rfl, q⟩⟩
theorem od_gt {i j : Int} (q : Q (.bl (decide (j < i))) ss) : OpD X B (compareOp .Gt) (.int i) (.int j) ss Q := od_c q fun H M v1 v2 r1 r2 => by
  cases r1; cases r2; exact ⟨_, _, op_gt, .bl _, fun QQ q => ⟨i, j, rfl, rfl, q⟩⟩
theorem od_ge {i j : Int} (q : Q (.bl (decide (j ≤ i))) ss) : OpD X B (compareOp .GtE) (.int i) (.int j) ss Q := od_c q fun H M v1 v2 r1 r2 => by
  cases r1; cases r2; exact ⟨_, _, op_ge, .bl _, fun QQ q => ⟨i, j, rfl, rfl, q⟩⟩
def D.isN : D → Bool
  | .non => true
  | .raw _ => false
  | _ => false
theorem vl_isN {H : Hp} {M : Addr → Prop} {v : V} {d : D} (r : Vl H M v d) (h : ∀ v, d ≠ .raw v) : decide (v = .non) = d.isN := by
  cases r <;> first | rfl | exact absurd rfl (h _)
theorem od_is {d : D} (h : ∀ v, d ≠ .raw v := by intro _ h; cases h) (q : Q (.bl d.isN) ss) : OpD X B (compareOp .Is) d .non ss Q := od_c q fun H M v1 v2 r1 r2 => by
  cases r2; exact ⟨_, _, op_isN, .bl _, fun QQ q => ⟨rfl, by rw [vl_isN r1 h]; exact q⟩⟩
theorem od_isnot {d : D} (h : ∀ v, d ≠ .raw v := by intro _ h; cases h) (q : Q (.bl (!d.isN)) ss) : OpD X B (compareOp .IsNot) d .non ss Q := od_c q fun H M v1 v2 r1 r2 => by
  cases r2; exact ⟨_, _, op_notN, .bl _, fun QQ q => ⟨rfl, by rw [vl_isN r1 h]; exact q⟩⟩
/-! ### tests -/
theorem tw_val (h : EW X B e ss fun d s => IsB d fun k => T k s) (he : ∀ whole, isTrue e X.env whole = (do let v ← whole; standAt e.pos; holding [v] (truthy v)) := by intro _; rfl) : TW X B e ss T :=
  ⟨PTimp (pt_val h.p he) fun σ H QQ ⟨s, k⟩ => ⟨s, fun v d s1 H1 q1 sat1 e1 r1 => by
    obtain ⟨b, rfl, q⟩ := q1
    cases r1
    exact ⟨b, rfl, k b s1 H1 q sat1 e1⟩⟩⟩
theorem tw_not (h : TW X B a ss fun k s => T (!k) s) : TW X B (.UnaryOp .Not a pos) ss T := ⟨PTimp (pt_not h.p) fun σ H QQ ⟨s, k⟩ => ⟨s, fun b s1 H1 q1 sat1 e1 => k _ s1 H1 q1 sat1 e1⟩⟩
theorem tw_w (h : WW X B e ss T) : TW X B e ss T := ⟨PTimp h.p.pt fun _ _ _ q => q⟩
theorem ww_and1 (h : TW X B a ss T) : WW X B (.BoolOp .And [a] pos) ss T := ⟨pw_and1 h.p⟩
theorem ww_or1 (h : TW X B a ss T) : WW X B (.BoolOp .Or [a] pos) ss T := ⟨pw_or1 h.p⟩
theorem ww_and {rest : List Expr} (h : TW X B a ss fun k s => Br k (WW X B (.BoolOp .And (b :: rest) pos) s T) (T false s)) : WW X B (.BoolOp .And (a :: b :: rest) pos) ss T :=
  ⟨PWimp (pw_and h.p pw_any) fun σ H QQ ⟨s, k⟩ => ⟨s, fun c s1 H1 q1 sat1 e1 => by
    cases c with
    | true => exact ⟨_, (q1.1 rfl).p, sat1, fun b s2 H2 q2 sat2 e2 => k b s2 H2 q2 sat2 (e1.trans e2)⟩
    | false => exact k false s1 H1 (q1.2 rfl) sat1 e1⟩⟩
theorem ww_or {rest : List Expr} (h : TW X B a ss fun k s => Br k (T true s) (WW X B (.BoolOp .Or (b :: rest) pos) s T)) : WW X B (.BoolOp .Or (a :: b :: rest) pos) ss T :=
  ⟨PWimp (pw_or h.p pw_any) fun σ H QQ ⟨s, k⟩ => ⟨s, fun c s1 H1 q1 sat1 e1 => by
    cases c with
    | true => exact k true s1 H1 (q1.1 rfl) sat1 e1
    | false => exact ⟨_, (q1.2 rfl).p, sat1, fun b s2 H2 q2 sat2 e2 => k b s2 H2 q2 sat2 (e1.trans e2)⟩⟩⟩
theorem ew_not (h : EW X B a ss fun d s => IsB d fun k => Q (.bl (!k)) s) : EW X B (.UnaryOp .Not a pos) ss Q := ⟨PEimp (pe_not h.p) fun σ H QQ ⟨s, k⟩ => ⟨s, fun v d s1 H1 q1 sat1 e1 r1 => by
  obtain ⟨b, rfl, q⟩ := q1
  cases r1
  exact ⟨b, rfl, k _ _ s1 H1 q sat1 e1 (.bl _)⟩⟩⟩
theorem ew_one {op : BoolOp} (h : EW X B a ss Q) : EW X B (.BoolOp op [a] pos) ss Q := ⟨pe_one h.p⟩
theorem ew_and {rest : List Expr} (h : EW X B a ss fun d s => IsB d fun k => Br k (EW X B (.BoolOp .And (b :: rest) pos) s Q) (Q (.bl false) s)) : EW X B (.BoolOp .And (a :: b :: rest) pos) ss Q :=
  ⟨PEimp (pe_and h.p pe_any) fun σ H QQ ⟨s, k⟩ => ⟨s, fun v d s1 H1 q1 sat1 e1 r1 => by
    obtain ⟨c, rfl, q⟩ := q1
    cases r1
    refine ⟨c, rfl, ?_⟩
    cases c with
    | true => exact ⟨_, (q.1 rfl).p, sat1, fun v d s2 H2 q2 sat2 e2 r2 => k v d s2 H2 q2 sat2 (e1.trans e2) r2⟩
    | false => exact k _ _ s1 H1 (q.2 rfl) sat1 e1 (.bl _)⟩⟩
theorem ew_or {rest : List Expr} (h : EW X B a ss fun d s => IsB d fun k => Br k (Q (.bl true) s) (EW X B (.BoolOp .Or (b :: rest) pos) s Q)) : EW X B (.BoolOp .Or (a :: b :: rest) pos) ss Q :=
  ⟨PEimp (pe_or h.p pe_any) fun σ H QQ ⟨s, k⟩ => ⟨s, fun v d s1 H1 q1 sat1 e1 r1 => by
    obtain ⟨c, rfl, q⟩ := q1
    cases r1
    refine ⟨c, rfl, ?_⟩
    cases c with
    | true => exact k _ _ s1 H1 (q.1 rfl) sat1 e1 (.bl _)
    | false => exact ⟨_, (q.2 rfl).p, sat1, fun v d s2 H2 q2 sat2 e2 r2 => k v d s2 H2 q2 sat2 (e1.trans e2) r2⟩⟩⟩
theorem ew_if (h : TW X B c ss fun k s => Br k (EW X B a s Q) (EW X B b s Q)) : EW X B (.IfExp c a b pos) ss Q :=
  ⟨PEimp (pe_ifExp h.p pe_any pe_any) fun σ H QQ ⟨s, k⟩ => ⟨s, fun c s1 H1 q1 sat1 e1 => by
    cases c with
    | true => exact ⟨_, (q1.1 rfl).p, sat1, fun v d s2 H2 q2 sat2 e2 r2 => k v d s2 H2 q2 sat2 (e1.trans e2) r2⟩
    | false => exact ⟨_, (q1.2 rfl).p, sat1, fun v d s2 H2 q2 sat2 e2 r2 => k v d s2 H2 q2 sat2 (e1.trans e2) r2⟩⟩⟩
/-- a < b < c -/
theorem chain_go {op op' : CmpOp} (h : EW X B a ss fun d1 s1 => EW X B b s1 fun d2 s2 => OpD X B (compareOp op) d1 d2 s2 fun d s => IsB d fun k => Br k (EW X B c s fun d3 s3 => OpD X B (compareOp op') d2 d3 s3 Q) (Q (.bl false) s)) {σ : L2.St} {H : Hp} {QQ : VK} (q : tE B ss Q σ H QQ) :
    tChain (rAny X (compareOp op)) (rAny X (compareOp op')) (tE B ss fun d1 s1 => EW X B b s1 fun d2 s2 => OpD X B (compareOp op) d1 d2 s2 fun d s => IsB d fun k => Br k (EW X B c s fun d3 s3 => OpD X B (compareOp op') d2 d3 s3 Q) (Q (.bl false) s)) (tAny X b) (tAny X c) σ H QQ := by
  obtain ⟨s, k⟩ := q
  refine ⟨s, fun v1 d1 s1 H1 q1 sat1 e1 r1 => ⟨_, q1.p, sat1, fun v2 d2 s2 H2 q2 sat2 e2 r2 => (show OpD X B (compareOp op) d1 d2 s2 _ from q2) v1 v2 σ H2 _ sat2 (r1.ext e2) r2 fun v d s3 H3 q3 sat3 e3 r3 => ?_⟩⟩
  obtain ⟨z, rfl, q⟩ := q3
  cases r3
  refine ⟨z, rfl, ?_⟩
  cases z with
  | true => exact ⟨_, (q.1 rfl).p, sat3, fun v4 d4 s4 H4 q4 sat4 e4 r4 => (show OpD X B (compareOp op') d2 d4 s4 Q from q4) v2 v4 σ H4 QQ sat4 ((r2.ext e3).ext e4) r4 fun v d s5 H5 q5 sat5 e5 r5 => k v d s5 H5 q5 sat5 ((((e1.trans e2).trans e3).trans e4).trans e5) r5⟩
  | false => exact k _ _ s3 H3 (q.2 rfl) sat3 ((e1.trans e2).trans e3) (.bl _)
theorem ew_chain {op op' : CmpOp} (h : EW X B a ss fun d1 s1 => EW X B b s1 fun d2 s2 => OpD X B (compareOp op) d1 d2 s2 fun d s => IsB d fun k => Br k (EW X B c s fun d3 s3 => OpD X B (compareOp op') d2 d3 s3 Q) (Q (.bl false) s)) 
    (hm : lastMarks [op, op'] [b, c] = false := by with_unfolding_all rfl) : EW X B (.Compare a [op, op'] [b, c] pos) ss Q := ⟨PEimp (pe_chain or_any or_any h.p pe_any pe_any hm) fun _ _ _ q => chain_go h q⟩
theorem tw_chain {op op' : CmpOp} (h : EW X B a ss fun d1 s1 => EW X B b s1 fun d2 s2 => OpD X B (compareOp op) d1 d2 s2 fun d s => IsB d fun k => Br k (EW X B c s fun d3 s3 => OpD X B (compareOp op') d2 d3 s3 fun d s => IsB d fun k => T k s) (T false s)) 
    (hm : lastMarks [op, op'] [b, c] = false := by with_unfolding_all rfl) : TW X B (.Compare a [op, op'] [b, c] pos) ss T := by
  have h' : EW X B a ss fun d1 s1 => EW X B b s1 fun d2 s2 => OpD X B (compareOp op) d1 d2 s2 fun d s => IsB d fun k => Br k (EW X B c s fun d3 s3 => OpD X B (compareOp op') d2 d3 s3 fun d s => IsB d fun k => T k s) ((fun d s => IsB d fun k => T k s) (.bl false) s) := by
    refine ⟨PEimp h.p fun σ H QQ ⟨s, k⟩ => ⟨s, fun v1 d1 s1 H1 q1 sat1 e1 r1 => k v1 d1 s1 H1 ⟨PEimp q1.p fun σ H QQ ⟨s, k⟩ => ⟨s, fun v2 d2 s2 H2 q2 sat2 e2 r2 => k v2 d2 s2 H2 (fun w1 w2 σ H QQ s x1 x2 k => q2 w1 w2 σ H QQ s x1 x2 fun v d s3 H3 q3 sat3 e3 r3 => k v d s3 H3 ?_ sat3 e3 r3) sat2 e2 r2⟩⟩ sat1 e1 r1⟩⟩
    obtain ⟨z, rfl, q⟩ := q3
    exact ⟨z, rfl, q.1, fun e => ⟨false, rfl, q.2 e⟩⟩
  exact ⟨PTimp (pt_chain or_any or_any h'.p pe_any pe_any hm) fun σ H QQ ⟨s, k⟩ => chain_go (QQ := fun x H' => ∃ b, x = .bl b ∧ QQ b H') h' ⟨s, fun v d s1 H1 q1 sat1 e1 r1 => by
    obtain ⟨b, rfl, q⟩ := q1
    cases r1
    exact ⟨b, rfl, k b s1 H1 q sat1 e1⟩⟩⟩
/-! ### arguments, displays -/
theorem aw_nil (q : L [] ss) : AW X B [] ss L := ⟨PAimp pa_nil fun σ H QQ ⟨s, k⟩ => k [] [] ss H q s Ext.refl .nil⟩
theorem aw_cons (h : EW X B e ss fun d s => AW X B es s fun ds s' => L (d :: ds) s') (hs : starEach (e :: es) X.env = (false, eval e X.env) :: starEach es X.env := by rfl) : AW X B (e :: es) ss L :=
  ⟨PAimp (pa_cons h.p pa_any hs) fun σ H QQ ⟨s, k⟩ => ⟨s, fun v d s1 H1 q1 sat1 e1 r1 => ⟨_, q1.p, sat1, fun vs ds s2 H2 q2 sat2 e2 r2 => k (v :: vs) (d :: ds) s2 H2 q2 sat2 (e1.trans e2) (.cons (r1.ext e2) r2)⟩⟩⟩
theorem ew_tup {j : Nat} (h : AW X B es ss fun ds s => ds.length ≤ sizeLine ∧ Q (.tup ds) s) : EW X B (.Tuple es j pos) ss Q :=
  ⟨PEimp (pe_tup h.p) fun σ H QQ ⟨s, k⟩ => ⟨s, fun vs ds s1 H1 q1 sat1 e1 r1 => ⟨by rw [r1.len]; exact q1.1, fun p hp => by
    have S := Pre.Same.upd (o := .tup vs) hp
    exact k _ (.tup ds) s1 _ q1.2 (sat1.same S) (e1.trans (Ext.same S)) (.tup upd_same (sat1.new hp) (r1.ext (Ext.same S)))⟩⟩⟩
theorem ew_lst (h : AW X B es ss fun ds s => ds.length ≤ sizeLine ∧ Q (.lst ds) s) : EW X B (.List es pos) ss Q :=
  ⟨PEimp (pe_lst h.p) fun σ H QQ ⟨s, k⟩ => ⟨s, fun vs ds s1 H1 q1 sat1 e1 r1 => ⟨by rw [r1.len]; exact q1.1, fun p hp => by
    have S := Pre.Same.upd (o := .lst vs) hp
    exact k _ (.lst ds) s1 _ q1.2 (sat1.same S) (e1.trans (Ext.same S)) (.lst upd_same (sat1.new hp) (r1.ext (Ext.same S)))⟩⟩⟩
/-! ### statements -/
theorem sw_nil (q : k.nx ss) : SW X B [] ss k := ⟨PSsimp pss_nil fun D σ H ⟨s, h, _⟩ => h _ _ _ q s Ext.refl⟩
theorem sw_cons {st : Stmt} {sts : List Stmt} (h : S1 X B st ss { k with nx := fun s => SW X B sts s k }) : SW X B (st :: sts) ss k :=
  ⟨PSsimp (pss_cons h.p pss_any) fun D σ H ⟨s, h1, h2, h3, h4⟩ => ⟨s, fun s1 σ1 H1 q1 sat1 e1 => ⟨_, q1.p, sat1, fun s2 σ2 H2 q2 sat2 e2 => h1 s2 σ2 H2 q2 sat2 (e1.trans e2),
    fun v d s2 σ2 H2 q2 sat2 e2 r2 => h2 v d s2 σ2 H2 q2 sat2 (e1.trans e2) r2, fun s2 σ2 H2 q2 sat2 e2 => h3 s2 σ2 H2 q2 sat2 (e1.trans e2), fun s2 σ2 H2 q2 sat2 e2 => h4 s2 σ2 H2 q2 sat2 (e1.trans e2)⟩, h2, h3, h4⟩⟩
theorem Sat.set {σ : L2.St} {H : Hp} (s : Sat B ss σ H) {i : Nat} {v : V} {d : D} (r : Vl H (ow ss.cs) v d) : Sat B ⟨ss.sl.set i (some d), ss.cs⟩ (σ.set i (some v)) H := by
  refine ⟨by rw [List.length_set, List.length_set]; exact s.len, fun j d2 e => ?_, s.ok, s.ext, s.bok⟩
  by_cases hj : i = j
  · subst hj
    have hi : i < ss.sl.length := by
      have z := (List.getElem?_eq_some_iff.mp e).1
      rwa [List.length_set] at z
    rw [List.getElem?_set_self hi] at e
    cases e
    exact ⟨v, List.getElem?_set_self (by rw [s.len]; exact hi), r⟩
  · rw [List.getElem?_set_ne hj] at e
    obtain ⟨u, e1, r1⟩ := s.sl j d2 e
    exact ⟨u, by rw [List.getElem?_set_ne hj]; exact e1, r1⟩
theorem s1_set (i : Nat) {x : Str} {pos' : Pos} (hN : X.N.Nodup) (hi : X.N[i]? = some x) (hx : Loc X.env.scope x) (h : EW X B e ss fun d s => k.nx ⟨s.sl.set i (some d), s.cs⟩)
    (hs : swapsWith e (some (.Name x pos')) pos.line X.env = pure false := by rfl) (hf : X.fn x = true ∨ X.env.scope.names.lookup x = some .local := by first | exact .inl rfl | exact .inr rfl | assumption) : S1 X B (.Assign [.Name x pos'] e pos) ss k :=
  ⟨PSimp (ps_set (i := i) hN hi hx h.p hs hf) fun D σ H ⟨s, h1, _⟩ => ⟨s, fun v d s1 H1 q1 sat1 e1 r1 => h1 _ _ _ q1 (sat1.set r1) e1⟩⟩
theorem s1_ret (h : EW X B e ss k.rt) : S1 X B (.Return (some e) pos) ss k := ⟨PSimp (ps_ret h.p) fun D σ H ⟨s, _, h2, _⟩ => ⟨s, fun v d s1 H1 q1 sat1 e1 r1 => h2 v d s1 σ H1 q1 sat1 e1 r1⟩⟩
theorem s1_expr (h : EW X B e ss fun _ s => k.nx s) (hs : swapsWith e none pos.line X.env = pure false := by rfl) : S1 X B (.Expr e pos) ss k := ⟨PSimp (ps_expr h.p hs) fun D σ H ⟨s, h1, _⟩ => ⟨s, fun v d s1 H1 q1 sat1 e1 r1 => h1 s1 σ H1 q1 sat1 e1⟩⟩
theorem s1_if {A1 A2 : List Stmt} (h : TW X B c ss fun b s => Br b (SW X B A1 s k) (SW X B A2 s k)) : S1 X B (.If c A1 A2 pos) ss k :=
  ⟨PSimp (ps_if h.p pss_any pss_any) fun D σ H ⟨s, h1, h2, h3, h4⟩ => ⟨s, fun b s1 H1 q1 sat1 e1 => by
    cases b with
    | true => exact ⟨_, (q1.1 rfl).p, sat1, fun s2 σ2 H2 q2 sat2 e2 => h1 s2 σ2 H2 q2 sat2 (e1.trans e2), fun v d s2 σ2 H2 q2 sat2 e2 r2 => h2 v d s2 σ2 H2 q2 sat2 (e1.trans e2) r2, fun s2 σ2 H2 q2 sat2 e2 => h3 s2 σ2 H2 q2 sat2 (e1.trans e2), fun s2 σ2 H2 q2 sat2 e2 => h4 s2 σ2 H2 q2 sat2 (e1.trans e2)⟩
    | false => exact ⟨_, (q1.2 rfl).p, sat1, fun s2 σ2 H2 q2 sat2 e2 => h1 s2 σ2 H2 q2 sat2 (e1.trans e2), fun v d s2 σ2 H2 q2 sat2 e2 r2 => h2 v d s2 σ2 H2 q2 sat2 (e1.trans e2) r2, fun s2 σ2 H2 q2 sat2 e2 => h3 s2 σ2 H2 q2 sat2 (e1.trans e2), fun s2 σ2 H2 q2 sat2 e2 => h4 s2 σ2 H2 q2 sat2 (e1.trans e2)⟩⟩⟩
/-- the state told otherwise -/
theorem sw_re {sts : List Stmt} {s2 : SS} (hs : ∀ σ H, Sat B ss σ H → Sat B s2 σ H ∧ ∀ a, ow s2.cs a → ow ss.cs a) (h : SW X B sts s2 k) : SW X B sts ss k :=
  ⟨PSsimp h.p fun D σ H ⟨s, h1, h2, h3, h4⟩ => by
    obtain ⟨t, l⟩ := hs σ H s
    have e0 : Ext (ow ss.cs) H (ow s2.cs) H := Ext.less l
    exact ⟨t, fun s2 σ2 H2 q2 sat2 e2 => h1 s2 σ2 H2 q2 sat2 (e0.trans e2), fun v d s2 σ2 H2 q2 sat2 e2 r2 => h2 v d s2 σ2 H2 q2 sat2 (e0.trans e2) r2, fun s2 σ2 H2 q2 sat2 e2 => h3 s2 σ2 H2 q2 sat2 (e0.trans e2), fun s2 σ2 H2 q2 sat2 e2 => h4 s2 σ2 H2 q2 sat2 (e0.trans e2)⟩⟩
theorem s1_dead {st : Stmt} (h : False) : S1 X B st ss k := h.elim
end
end Sx
set_option Elab.async false
set_option linter.all false
set_option maxRecDepth 100000
set_option maxHeartbeats 2000000
namespace Sx
open PySem PySem.Spec PyProof.Rows L2
/-! ### what a def promises -/
abbrev FT := List D → Cs → (D → Cs → Prop) → (Addr → List (Str × D) → Cs → Prop) → Prop
def spF (F : FT) : Sp := fun vs H Q E => ∃ ds cs Kk KE, VlL H (ow cs) vs ds ∧ CsOk H cs ∧ F ds cs Kk KE ∧
  (∀ v d H' cs', Kk d cs' → Ext (ow cs) H (ow cs') H' → CsOk H' cs' → Vl H' (ow cs') v d → Q v H') ∧
  (∀ C fs cs' x vs H', KE C fs cs' → Ext (ow cs) H (ow cs') H' → CsOk H' cs' → H' x = some (.xd vs) → VlF H' (ow cs') vs fs → E (.ref C) (some x) H')
def startD (N : List Str) (ds : List D) : List (Option D) := ds.map some ++ List.replicate (N.length - ds.length) none
theorem sat_start {H : Hp} {cs : Cs} {vs : List V} {ds : List D} {N : List Str} {E : XK} {KE : Addr → List (Str × D) → Cs → Prop} (r : VlL H (ow cs) vs ds) (ok : CsOk H cs) (bok : BOk ⟨H, cs, E, KE⟩) : Sat ⟨H, cs, E, KE⟩ ⟨startD N ds, cs⟩ (L2.start N vs) H := by
  refine ⟨?_, fun i d e => ?_, ok, Ext.refl, bok⟩
  · unfold L2.start startD
    rw [List.length_append, List.length_append, List.length_map, List.length_map, List.length_replicate, List.length_replicate, r.len]
  · have e : (startD N ds)[i]? = some (some d) := e
    unfold startD at e
    unfold L2.start
    by_cases hi : i < ds.length
    · rw [List.getElem?_append_left (by rw [List.length_map]; exact hi), List.getElem?_map] at e
      obtain ⟨v, e1, r1⟩ := r.at_ (i := i) (d := d) (by
        cases q : ds[i]? with
        | none => rw [q] at e; cases e
        | some d0 => rw [q] at e; cases e; rfl)
      exact ⟨v, by rw [List.getElem?_append_left (by rw [List.length_map, r.len]; exact hi), List.getElem?_map, e1]; rfl, r1⟩
    · rw [List.getElem?_append_right (by rw [List.length_map]; omega), List.getElem?_replicate] at e
      split at e <;> cases e
section
variable {P : Program} {w : World} {K : PySem.W.Frag} {mg : Str → Option Value} {base : Heap} {CX : CXT} {k : Nat} {x qual : Str} {params : Arguments} {body : List Stmt} {scope : Scope} {N ps : List Str} {F : FT}
theorem body_go {X : Cx} {H : Hp} {cs : Cs} {vs : List V} {ds : List D} {E : XK} {Kk : D → Cs → Prop} {KE : Addr → List (Str × D) → Cs → Prop} {Q : VK} (r : VlL H (ow cs) vs ds) (ok : CsOk H cs)
    (q1 : ∀ v d H' cs', Kk d cs' → Ext (ow cs) H (ow cs') H' → CsOk H' cs' → Vl H' (ow cs') v d → Q v H')
    (q2 : ∀ C fs cs' x vs H', KE C fs cs' → Ext (ow cs) H (ow cs') H' → CsOk H' cs' → H' x = some (.xd vs) → VlF H' (ow cs') vs fs → E (.ref C) (some x) H')
    (h : SW X ⟨H, cs, E, KE⟩ body ⟨startD N ds, cs⟩ { nx := fun s => Kk .non s.cs, rt := fun d s => Kk d s.cs }) : ∃ t, PSs X body t ∧ t { nx := fun _ H' => Q .non H', rt := Q } (L2.start N vs) H :=
  ⟨_, h.p, sat_start r ok (fun C fs cs' x vs H' => q2 C fs cs' x vs H'), fun ss' σ' H' q sat e => q1 _ _ _ _ q e sat.ok .non, fun v d ss' σ' H' q sat e r => q1 _ _ _ _ q e sat.ok r, fun _ _ _ q => q.elim, fun _ _ _ q => q.elim⟩
theorem dfnF (q : ∃ fd, FunD K x qual params body scope [] [] (He.ga K x) fd) (g : mg x = some (.ref (He.ga K x))) (S : FnScope N ps scope)
    (hb : ∀ (kV doc pm : Value) (an : Option Addr) (cdv ct : Value) (us : List Value), us.length = ps.length → bindArgs (PySem.W.fnOf x qual params body scope .none kV doc pm an cdv ct) ⟨us, []⟩ = pure (ps.zip us))
    (len : ∀ ds cs Kk KE, F ds cs Kk KE → ds.length = ps.length)
    (walk : ∀ (cdv : Value) (A : Around) (outer : List Env) (s : Shared) (H : Hp) (E : XK) (ds : List D) (cs : Cs) (Kk : D → Cs → Prop) (KE : Addr → List (Str × D) → Cs → Prop), Room k (A.deeper (envOfC qual scope s.heap.objs.size (He.ga K x) cdv)) → F ds cs Kk KE →
      SW (cxOf CX P w K mg base N qual scope (He.ga K x) cdv A outer s H E) ⟨H, cs, E, KE⟩ body ⟨startD N ds, cs⟩ { nx := fun s => Kk .non s.cs, rt := fun d s => Kk d s.cs }) : Dfs.Dfn P w K mg base CX (k + 1) x ps (spF F) := by
  refine Vls.dfn q g S (fun vs H Q E h => ?_) hb (fun cdv A outer s H vs Q E hr h => ?_)
  · obtain ⟨ds, cs, Kk, KE, r, ok, f, _⟩ := h
    rw [r.len]
    exact len _ _ _ _ f
  · obtain ⟨ds, cs, Kk, KE, r, ok, f, q1, q2⟩ := h
    exact body_go r ok q1 q2 (walk cdv A outer s H E ds cs Kk KE hr f)
theorem mfnF {C : Addr} (q : ∃ fd, FunD K x qual params body scope [] [] (He.ma K C x) fd) (c : Cls K C) (m : Meth K C x (He.ma K C x)) (S : FnScope N ps scope)
    (hb : ∀ (kV doc pm : Value) (an : Option Addr) (cdv ct : Value) (us : List Value), us.length = ps.length → bindArgs (PySem.W.fnOf x qual params body scope .none kV doc pm an cdv ct) ⟨us, []⟩ = pure (ps.zip us))
    (len : ∀ ds cs Kk KE, F ds cs Kk KE → ds.length = ps.length)
    (walk : ∀ (cdv : Value) (A : Around) (outer : List Env) (s : Shared) (H : Hp) (E : XK) (ds : List D) (cs : Cs) (Kk : D → Cs → Prop) (KE : Addr → List (Str × D) → Cs → Prop), Room k (A.deeper (envOfC qual scope s.heap.objs.size (He.ma K C x) cdv)) → F ds cs Kk KE →
      SW (cxOf CX P w K mg base N qual scope (He.ma K C x) cdv A outer s H E) ⟨H, cs, E, KE⟩ body ⟨startD N ds, cs⟩ { nx := fun s => Kk .non s.cs, rt := fun d s => Kk d s.cs }) : Dfs.Mfn P w K mg base CX (k + 1) C x ps (spF F) := by
  refine Vls.mfn q c m S (fun vs H Q E h => ?_) hb (fun cdv A outer s H vs Q E hr h => ?_)
  · obtain ⟨ds, cs, Kk, KE, r, ok, f, _⟩ := h
    rw [r.len]
    exact len _ _ _ _ f
  · obtain ⟨ds, cs, Kk, KE, r, ok, f, q1, q2⟩ := h
    exact body_go r ok q1 q2 (walk cdv A outer s H E ds cs Kk KE hr f)
/-- a def by its FunD, any address (a method that no class tells by name, an __init__) -/
theorem okF {f : Addr} {fd : FuncData} {dvs : List V} {kws : List (Str × V)} (q : FunD K x qual params body scope dvs kws f fd) (S : FnScope N ps scope) (len : ∀ ds cs Kk KE, F ds cs Kk KE → ds.length = ps.length)
    (walk : ∀ (cdv : Value) (A : Around) (outer : List Env) (s : Shared) (H : Hp) (E : XK) (ds : List D) (cs : Cs) (Kk : D → Cs → Prop) (KE : Addr → List (Str × D) → Cs → Prop), Room k (A.deeper (envOfC qual scope s.heap.objs.size f cdv)) → F ds cs Kk KE →
      SW (cxOf CX P w K mg base N qual scope f cdv A outer s H E) ⟨H, cs, E, KE⟩ body ⟨startD N ds, cs⟩ { nx := fun s => Kk .non s.cs, rt := fun d s => Kk d s.cs }) : FnOk P w K mg base CX (k + 1) f fd ps (spF F) := by
  refine q.ok S (fun vs H Q E h => ?_) (fun cdv A outer s H vs Q E hr h => ?_)
  · obtain ⟨ds, cs, Kk, KE, r, ok, f, _⟩ := h
    rw [r.len]
    exact len _ _ _ _ f
  · obtain ⟨ds, cs, Kk, KE, r, ok, f, q1, q2⟩ := h
    exact body_go r ok q1 q2 (walk cdv A outer s H E ds cs Kk KE hr f)
end
section
variable {X : Cx} {B : Bs} {ss : SS} {Q : D → SS → Prop} {T : Bool → SS → Prop} {L : List D → SS → Prop} {k : Kt} {a b c e o : Expr} {es : List Expr} {pos p apos : Pos} {CX : CXT} {n : Nat} {x m : Str} {C : Addr} {ps : List Str} {F : FT}
theorem Sat.cs {σ : L2.St} {H H' : Hp} {cs' : Cs} (s : Sat B ss σ H) (e : Ext (ow ss.cs) H (ow cs') H') (ok : CsOk H' cs') : Sat B ⟨ss.sl, cs'⟩ σ H' :=
  ⟨s.len, fun i d h => by
    obtain ⟨v, e1, r⟩ := s.sl i d h
    exact ⟨v, e1, r.ext e⟩, ok, s.ext.trans e, s.bok⟩
/-- what is told of the callee's errors: as this def's own, or that there are none -/
inductive Exs (B : Bs) : XK → (Addr → List (Str × D) → Cs → Prop) → Prop where
  | same : Exs B B.E B.Ex
  | none (E : XK) : Exs B E fun _ _ _ => False
theorem Exs.go {E' : XK} {KE' : Addr → List (Str × D) → Cs → Prop} (x : Exs B E' KE') {σ : L2.St} {H : Hp} (s : Sat B ss σ H) {C : Addr} {fs : List (Str × D)} {cs' : Cs} {y : Addr} {vs : List (Str × V)} {H' : Hp} (q : KE' C fs cs') (e : Ext (ow ss.cs) H (ow cs') H') (ok : CsOk H' cs') (hx : H' y = some (.xd vs)) (rf : VlF H' (ow cs') vs fs) : E' (.ref C) (some y) H' := by
  cases x with
  | same => exact s.bok C fs cs' y vs H' q (s.ext.trans e) ok hx rf
  | none => exact q.elim
theorem pF {P : Program} {w : World} {X : Cx} : Passes (L2.CX P w) X (fun _ _ _ => False) := fun _ _ _ _ _ _ _ ⟨_, _, _, _, _, _, _, _, _, _, _, _, z⟩ => z.elim
theorem sp_go {E' : XK} {KE' : Addr → List (Str × D) → Cs → Prop} (xs : Exs B E' KE') {σ : L2.St} {H H1 : Hp} {QQ : VK} {s1 : SS} {vs : List V} {ds : List D} (sat1 : Sat B s1 σ H1) (e1 : Ext (ow ss.cs) H (ow s1.cs) H1) (r : VlL H1 (ow s1.cs) vs ds) (k : ∀ v d ss' H', Q d ss' → Sat B ss' σ H' → Ext (ow ss.cs) H (ow ss'.cs) H' → Vl H' (ow ss'.cs) v d → QQ v H')
    (f : F ds s1.cs (fun d cs => Q d ⟨s1.sl, cs⟩) KE') : spF F vs H1 QQ E' :=
  ⟨ds, s1.cs, _, _, r, sat1.ok, f, fun v d H' cs' q e ok rv => k v d _ H' q (sat1.cs e ok) (e1.trans e) rv, fun C fs cs' x vs H' q e ok hx rf => xs.go sat1 q e ok hx rf⟩
theorem ew_call {E' : XK} {KE' : Addr → List (Str × D) → Cs → Prop} (xs : Exs B E' KE') (Dd : Dfs.Dfn X.prog X.w X.K X.mg X.base CX n x ps (spF F)) (hr : Room n X.A) (hg : Gl X x) (hx : Passes CX X E') (h : AW X B (e :: es) ss fun ds s => F ds s.cs (fun d cs => Q d ⟨s.sl, cs⟩) KE')
    (hdb : (x == ("__debug__" : Str)) = false := by decide) (he : starEach (e :: es) X.env = (false, eval e X.env) :: starEach es X.env := by rfl) (hpl : (backTo pos (starEach es X.env)).any (·.1) = false := by rfl) : EW X B (.Call (.Name x p) (e :: es) [] pos) ss Q :=
  ⟨PEimp (Dfs.pe_d Dd hr hg hx h.p hdb he hpl) fun σ H QQ ⟨s, k⟩ => ⟨s, fun vs ds s1 H1 q1 sat1 e1 r1 => by
    show spF F (vs ++ []) H1 QQ E'
    rw [List.append_nil]
    exact sp_go xs sat1 e1 r1 k q1⟩⟩
/-- an instance, of its fields none is m -/
inductive IsI (C : Addr) (m : Str) : D → Cs → Prop where
  | obj {fs : List (Str × D)} {cs : Cs} (h : fs.lookup m = none) : IsI C m (.obj C fs) cs
  | own {a : Addr} {fs : List (Str × D)} {cs : Cs} (j : Nat) (e : cs[j]? = some (a, .ins C fs)) (h : fs.lookup m = none) : IsI C m (.own a) cs
theorem IsI.at_ {H : Hp} {cs : Cs} {v : V} {d : D} (i : IsI C m d cs) (ok : CsOk H cs) (r : Vl H (ow cs) v d) : ∃ a dx fs, v = .ref a ∧ H a = some (.ins C dx fs) ∧ fs.lookup m = none := by
  cases i with
  | obj h =>
    cases r with
    | obj e n r => exact ⟨_, _, _, rfl, e, r.lookup_none h⟩
  | own j e h =>
    cases r
    obtain ⟨dx, vs, e1, r1⟩ := ok.ok _ _ (List.mem_of_getElem? e)
    exact ⟨_, dx, vs, rfl, e1, r1.lookup_none h⟩
theorem ew_meth {E' : XK} {KE' : Addr → List (Str × D) → Cs → Prop} {pl : Sem Bool} (xs : Exs B E' KE') (Dd : Dfs.Mfn X.prog X.w X.K X.mg X.base CX n C m ps (spF F)) (hr : Room n X.A) (hx : Passes CX X E') (h : EW X B o ss fun d s => IsI C m d s.cs ∧ AW X B (e :: es) s fun ds s => F (d :: ds) s.cs (fun d cs => Q d ⟨s.sl, cs⟩) KE')
    (hst : starEach (e :: es) X.env = (false, eval e X.env) :: starEach es X.env := by rfl) (hpl : (backTo pos (starEach es X.env)).any (·.1) = false := by rfl)
    (ht : eval (.Call (.Attribute o m apos) (e :: es) [] pos) X.env = (do
      let ov ← eval o X.env
      standAt apos.atName
      let (f, first) ← holding [ov] (getMethod ov m pl)
      callWith pos f first (backTo pos (starEach (e :: es) X.env)) (backToKw pos (keywordEach [] X.env))) := by rfl) : EW X B (.Call (.Attribute o m apos) (e :: es) [] pos) ss Q :=
  ⟨PEimp (Dfs.pe_m h.p Dd hr hx (pa_any (es := e :: es)) hst hpl ht) fun σ H QQ ⟨s, k⟩ => ⟨s, fun v d s1 H1 ⟨i, q1⟩ sat1 e1 r1 => by
    obtain ⟨a, dx, fs, rfl, ea, hl⟩ := i.at_ sat1.ok r1
    exact ⟨a, dx, fs, rfl, ea, hl, _, q1.p, sat1, fun vs ds s2 H2 q2 sat2 e2 r2 => by
      show spF F (.ref a :: (vs ++ [])) H2 QQ E'
      rw [List.append_nil]
      exact sp_go xs sat2 (e1.trans e2) (.cons (r1.ext e2) r2) k q2⟩⟩⟩
theorem ew_meth0 {E' : XK} {KE' : Addr → List (Str × D) → Cs → Prop} {pl : Sem Bool} (xs : Exs B E' KE') (Dd : Dfs.Mfn X.prog X.w X.K X.mg X.base CX n C m ps (spF F)) (hr : Room n X.A) (hx : Passes CX X E') (h : EW X B o ss fun d s => IsI C m d s.cs ∧ F [d] s.cs (fun d cs => Q d ⟨s.sl, cs⟩) KE')
    (ht : eval (.Call (.Attribute o m apos) [] [] pos) X.env = (do
      let ov ← eval o X.env
      standAt apos.atName
      let (f, first) ← holding [ov] (getMethod ov m pl)
      callWith pos f first [] (backToKw pos (keywordEach [] X.env))) := by rfl) : EW X B (.Call (.Attribute o m apos) [] [] pos) ss Q :=
  ⟨PEimp (Dfs.pe_m0 h.p Dd hr hx ht) fun σ H QQ ⟨s, k⟩ => ⟨s, fun v d s1 H1 ⟨i, q1⟩ sat1 e1 r1 => by
    obtain ⟨a, dx, fs, rfl, ea, hl⟩ := i.at_ sat1.ok r1
    exact ⟨a, dx, fs, rfl, ea, hl, sp_go xs sat1 e1 (.cons r1 .nil) k q1⟩⟩⟩
/-! ### making -/
theorem ow_cons {cs : Cs} {x b : Addr} {c : Cell} : ow ((x, c) :: cs) b ↔ b = x ∨ ow cs b := by
  unfold ow
  rw [List.map_cons, List.mem_cons]
theorem made_ok {H : Hp} {cs : Cs} {x dx C : Addr} (ok : CsOk H cs) (nx : H x = none) (nd : H dx = none) (ne : dx ≠ x) : CsOk (upd (upd H dx (.own x)) x (.ins C dx [])) ((x, .ins C []) :: cs) ∧ Ext (ow cs) H (ow ((x, .ins C []) :: cs)) (upd (upd H dx (.own x)) x (.ins C dx [])) := by
  have S : Same H (upd (upd H dx (.own x)) x (.ins C dx [])) := Pre.Same.new (Pre.Same.upd nd) (by rw [upd_ne (fun z => ne z.symm)]; exact nx)
  have E : Ext (ow cs) H (ow ((x, .ins C []) :: cs)) (upd (upd H dx (.own x)) x (.ins C dx [])) := ⟨fun b o _ _ h => S b o h, fun b h => (ow_cons.mp h).elim (fun z => .inr (nwN (by rw [z]; exact nx))) .inl⟩
  refine ⟨⟨fun a c hm => ?_, ?_⟩, E⟩
  · rcases List.mem_cons.mp hm with z | z
    · cases z
      exact ⟨dx, [], upd_same, .nil⟩
    · exact (ok.ok a c z).ext E fun o e => S _ _ e
  · rw [List.map_cons, List.nodup_cons]
    refine ⟨fun z => ?_, ok.nd⟩
    obtain ⟨o, e⟩ := ok.there z
    rw [nx] at e
    cases e
theorem drop_ok {H : Hp} {cs : Cs} {x : Addr} {c : Cell} (ok : CsOk H ((x, c) :: cs)) : CsOk H cs ∧ Ext (ow ((x, c) :: cs)) H (ow cs) H ∧ ¬ ow cs x ∧ CellOk H (ow cs) x c := by
  have e : Ext (ow ((x, c) :: cs)) H (ow cs) H := Ext.less fun a h => ow_cons.mpr (.inr h)
  have nd := ok.nd
  rw [List.map_cons, List.nodup_cons] at nd
  exact ⟨⟨fun a c hm => (ok.ok a c (List.mem_cons_of_mem _ hm)).ext e fun _ h => h, nd.2⟩, e, nd.1, (ok.ok x c (List.mem_cons_self ..)).ext e fun _ h => h⟩
theorem ew_make {E' : XK} {KE' : Addr → List (Str × D) → Cs → Prop} {f : Addr} (xs : Exs B E' KE') {fd : FuncData} (M : Mk X.K C f) (G : FnOk X.prog X.w X.K X.mg X.base CX n f fd ps (spF F)) (hr : Room (n + 1) X.A) (hg : Gl X x) (hm : X.mg x = some (.ref C)) (hb : L2.Binds X.K fd ps []) (hx : Passes CX X E')
    (h : AW X B (e :: es) ss fun ds s => ∀ x, F (.own x :: ds) ((x, .ins C []) :: s.cs) (fun d cs => d = .non ∧ ∃ fs cs1, cs = (x, .ins C fs) :: cs1 ∧ Q (.obj C fs) ⟨s.sl, cs1⟩) (fun Ce fs cs => ∃ c cs1, cs = (x, c) :: cs1 ∧ KE' Ce fs cs1))
    (hdb : (x == ("__debug__" : Str)) = false := by decide) (he : starEach (e :: es) X.env = (false, eval e X.env) :: starEach es X.env := by rfl) (hpl : (backTo pos (starEach es X.env)).any (·.1) = false := by rfl) : EW X B (.Call (.Name x p) (e :: es) [] pos) ss Q :=
  ⟨PEimp (pe_make M G hr hg hm hb .nil hx h.p hdb he hpl) fun σ H QQ ⟨s, k⟩ => ⟨s, fun vs ds s1 H1 q1 sat1 e1 r1 y dy ny nd ne => by
    show spF F (.ref y :: (vs ++ [])) _ _ E'
    rw [List.append_nil]
    obtain ⟨ok2, e2⟩ := made_ok (C := C) sat1.ok ny nd ne
    refine ⟨_, _, _, _, .cons (.own y) (r1.ext e2), ok2, q1 y, fun v d H' cs' q e ok rv => ?_, fun C fs cs' z vs H' q e ok hz rf => ?_⟩
    · obtain ⟨rfl, fs, cs1, rfl, q⟩ := q
      cases rv
      obtain ⟨ok3, e3, n3, c3⟩ := drop_ok ok
      obtain ⟨dz, vz, h1, h2⟩ := c3
      exact ⟨rfl, k _ _ ⟨s1.sl, cs1⟩ H' q (sat1.cs ((e2.trans e).trans e3) ok3) (e1.trans ((e2.trans e).trans e3)) (.obj h1 n3 h2)⟩
    · obtain ⟨c, cs1, rfl, q⟩ := q
      obtain ⟨ok3, e3, n3, c3⟩ := drop_ok ok
      exact xs.go sat1 q ((e2.trans e).trans e3) ok3 hz (rf.ext e3)⟩⟩
/-! ### fields -/
inductive FldOf (C : Addr) (f : Str) : D → Cs → D → Prop where
  | obj {fs : List (Str × D)} {cs : Cs} {d : D} (h : fs.lookup f = some d) : FldOf C f (.obj C fs) cs d
  | own {a : Addr} {fs : List (Str × D)} {cs : Cs} {d : D} (j : Nat) (e : cs[j]? = some (a, .ins C fs)) (h : fs.lookup f = some d) : FldOf C f (.own a) cs d
theorem ew_fld {f : Str} (hc : Cls X.K C) (hn : NoAttr X.K C f) (h : EW X B a ss fun d s => ∃ d', FldOf C f d s.cs d' ∧ Q d' s) (hb : attributeBase a f X.env (eval a X.env) = eval a X.env := by rfl) : EW X B (.Attribute a f pos) ss Q :=
  ⟨PEimp (pe_fld h.p hb) fun σ H QQ ⟨s, k⟩ => ⟨s, fun v d s1 H1 ⟨d', i, q1⟩ sat1 e1 r1 => by
    cases i with
    | obj h =>
      cases r1 with
      | obj e n r =>
        obtain ⟨u, h1, h2⟩ := r.lookup h
        exact ⟨_, C, _, _, u, rfl, e, hc, hn, h1, k _ _ s1 H1 q1 sat1 e1 h2⟩
    | own j e h =>
      cases r1
      obtain ⟨dx, vs, h1, h2⟩ := sat1.ok.ok _ _ (List.mem_of_getElem? e)
      obtain ⟨u, h3, h4⟩ := h2.lookup h
      exact ⟨_, C, _, _, u, rfl, h1, hc, hn, h3, k _ _ s1 H1 q1 sat1 e1 h4⟩⟩⟩
def putD (f : Str) (d : D) : List (Str × D) → List (Str × D)
  | [] => [(f, d)]
  | (g, e) :: r => if g = f then (f, d) :: r else (g, e) :: putD f d r
theorem map_set {cs : Cs} {j : Nat} {a : Addr} {c c' : Cell} (h : cs[j]? = some (a, c)) : (cs.set j (a, c')).map Prod.fst = cs.map Prod.fst := by
  apply List.ext_getElem?
  intro i
  rw [List.getElem?_map, List.getElem?_map]
  by_cases e : j = i
  · subst e
    rw [List.getElem?_set_self (List.getElem?_eq_some_iff.mp h).1, h]
    rfl
  · rw [List.getElem?_set_ne e]
theorem ow_set {cs : Cs} {j : Nat} {a : Addr} {c c' : Cell} (h : cs[j]? = some (a, c)) : ow (cs.set j (a, c')) = ow cs := by
  funext b
  unfold ow
  rw [map_set h]
/-- a cell is changed -/
theorem Sat.mut {σ : L2.St} {H : Hp} (s : Sat B ss σ H) {j : Nat} {a : Addr} {c c' : Cell} {u : HO} (h : ss.cs[j]? = some (a, c)) (ok : ∀ {H' : Hp}, Ext (ow ss.cs) H (ow ss.cs) H' → H' a = some u → CellOk H' (ow ss.cs) a c') :
    Sat B ⟨ss.sl, ss.cs.set j (a, c')⟩ σ (upd H a u) ∧ Ext (ow ss.cs) H (ow (ss.cs.set j (a, c'))) (upd H a u) := by
  have ma : ow ss.cs a := List.mem_map.mpr ⟨_, List.mem_of_getElem? h, rfl⟩
  have e : Ext (ow ss.cs) H (ow ss.cs) (upd H a u) := ⟨fun b o n _ q => by
    rw [upd_ne (fun z => n (by rw [z]; exact ma))]
    exact q, fun b m => .inl m⟩
  have e2 : Ext (ow ss.cs) H (ow (ss.cs.set j (a, c'))) (upd H a u) := by
    rw [ow_set h]
    exact e
  refine ⟨s.cs e2 ⟨fun b d hm => ?_, by rw [map_set h]; exact s.ok.nd⟩, e2⟩
  rw [ow_set h]
  obtain ⟨i, hi⟩ := List.getElem?_of_mem hm
  by_cases z : j = i
  · subst z
    rw [List.getElem?_set_self (List.getElem?_eq_some_iff.mp h).1] at hi
    cases hi
    exact ok e upd_same
  · rw [List.getElem?_set_ne z] at hi
    have hb : b ≠ a := fun q => by
      have n1 : (ss.cs.map Prod.fst)[i]? = some b := by rw [List.getElem?_map, hi]; rfl
      have n2 : (ss.cs.map Prod.fst)[j]? = some b := by rw [List.getElem?_map, h, q]; rfl
      have l1 := (List.getElem?_eq_some_iff.mp n1)
      have l2 := (List.getElem?_eq_some_iff.mp n2)
      obtain ⟨b1, x1⟩ := l1
      obtain ⟨b2, x2⟩ := l2
      exact z ((List.getElem_inj s.ok.nd).mp (x2.trans x1.symm))
    exact (s.ok.ok b d (List.mem_of_getElem? hi)).ext e fun o q => by rw [upd_ne hb]; exact q
theorem putF_ok {H : Hp} {M : Addr → Prop} {f : Str} {v : V} {d : D} (r : Vl H M v d) : ∀ {vs : List (Str × V)} {ds : List (Str × D)}, VlF H M vs ds → VlF H M (putF f v vs) (putD f d ds)
  | [], [], .nil => .cons r .nil
  | (g, u) :: vs, (_, e) :: ds, .cons h q => by
    unfold putF putD
    split
    · subst_vars
      exact .cons r q
    · exact .cons h (putF_ok r q)
/-- o.f = e -/
theorem s1_fld {f : Str} {pos' : Pos} (hc : Cls X.K C) (hn : NoAttr X.K C f) (h : EW X B e ss fun d s => EW X B o s fun d2 s2 => ∃ a j fs, d2 = .own a ∧ s2.cs[j]? = some (a, .ins C fs) ∧ fs.length < 1000 ∧ k.nx ⟨s2.sl, s2.cs.set j (a, .ins C (putD f d fs))⟩)
    (hs : swapsWith e (some (.Attribute o f pos')) pos.line X.env = pure false := by rfl) : S1 X B (.Assign [.Attribute o f pos'] e pos) ss k :=
  ⟨PSimp (ps_fld pe_any h.p hs) fun D σ H ⟨s, h1, _⟩ => ⟨s, fun v d s1 H1 q1 sat1 e1 r1 => ⟨_, q1.p, sat1, fun v2 d2 s2 H2 ⟨a, j, fs, q2, hj, hl, q3⟩ sat2 e2 r2 => by
    subst q2
    cases r2
    obtain ⟨dx, vs, x1, x2⟩ := sat2.ok.ok _ _ (List.mem_of_getElem? hj)
    obtain ⟨sat3, e3⟩ := sat2.mut (c' := .ins C (putD f d fs)) (u := .ins C dx (putF f v vs)) hj fun e q => ⟨dx, _, q, putF_ok ((r1.ext e2).ext e) (x2.ext e)⟩
    exact ⟨a, C, dx, vs, rfl, x1, hc, hn, by rw [x2.len]; exact hl, h1 _ _ _ q3 sat3 ((e1.trans e2).trans e3)⟩⟩⟩⟩
/-! ### subscripts, slices -/
def ixAny (X : Cx) : R2 := fun x y H Q => ∃ r, IxR X r ∧ r x y H Q
theorem ix_any : IxR X (ixAny X) := fun a b pins s σ H x y v u Q I r1 r2 ⟨_, h, q⟩ hs => h a b pins s σ H x y v u Q I r1 r2 q hs
def IxD (X : Cx) (B : Bs) (d1 d2 : D) (ss : SS) (Q : D → SS → Prop) : Prop :=
  ∀ v1 v2 σ H QQ, Sat B ss σ H → Vl H (ow ss.cs) v1 d1 → Vl H (ow ss.cs) v2 d2 → (∀ v d ss' H', Q d ss' → Sat B ss' σ H' → Ext (ow ss.cs) H (ow ss'.cs) H' → Vl H' (ow ss'.cs) v d → QQ v H') → ∃ r, IxR X r ∧ r v1 v2 H QQ
theorem ew_ix (h : EW X B a ss fun d1 s1 => EW X B b s1 fun d2 s2 => IxD X B d1 d2 s2 Q) (hs : PlainIx b := by exact fun _ _ => rfl) : EW X B (.Subscript a b pos) ss Q :=
  ⟨PEimp (pe_ix ix_any h.p pe_any hs) fun σ H QQ ⟨s, k⟩ => ⟨s, fun v1 d1 s1 H1 q1 sat1 e1 r1 => ⟨_, q1.p, sat1, fun v2 d2 s2 H2 q2 sat2 e2 r2 => (show IxD X B d1 d2 s2 Q from q2) v1 v2 σ H2 QQ sat2 (r1.ext e2) r2 fun v d s3 H3 q3 sat3 e3 r3 => k v d s3 H3 q3 sat3 ((e1.trans e2).trans e3) r3⟩⟩⟩
theorem VlL.atI {H : Hp} {M : Addr → Prop} {vs : List V} {ds : List D} (r : VlL H M vs ds) {i : Int} {d : D} (h : atI ds i = some d) : ∃ v, L2.atI vs i = some v ∧ Vl H M v d := by
  unfold L2.atI at h ⊢
  rw [r.len]
  cases q : ixN ds.length i with
  | none => rw [q] at h; cases h
  | some j =>
    rw [q] at h
    exact r.at_ h
theorem ix_lst {ds : List D} {i : Int} {d : D} (h : atI ds i = some d) (q : Q d ss) : IxD X B (.lst ds) (.int i) ss Q := fun v1 v2 σ H QQ s r1 r2 k => by
  cases r2
  cases r1 with
  | lst e n r =>
    obtain ⟨v, h1, h2⟩ := r.atI h
    exact ⟨_, ix_list, _, _, _, v, rfl, rfl, SqL.of e, h1, k _ _ _ _ q s Ext.refl h2⟩
theorem ix_tpl {ds : List D} {i : Int} {d : D} (h : atI ds i = some d) (q : Q d ss) : IxD X B (.tup ds) (.int i) ss Q := fun v1 v2 σ H QQ s r1 r2 k => by
  cases r2
  cases r1 with
  | tup e n r =>
    obtain ⟨v, h1, h2⟩ := r.atI h
    exact ⟨_, L2.ix_tup, _, _, _, v, rfl, rfl, SqT.of e, h1, k _ _ _ _ q s Ext.refl h2⟩
theorem ix_own (j : Nat) {l : Addr} {ds : List D} {i : Int} {d : D} (hj : ss.cs[j]? = some (l, .lst ds)) (h : atI ds i = some d) (q : Q d ss) : IxD X B (.own l) (.int i) ss Q := fun v1 v2 σ H QQ s r1 r2 k => by
  cases r2
  cases r1
  obtain ⟨xs, e, r⟩ := s.ok.ok _ _ (List.mem_of_getElem? hj)
  obtain ⟨v, h1, h2⟩ := r.atI h
  exact ⟨_, ix_list, _, _, _, v, rfl, rfl, SqL.of e, h1, k _ _ _ _ q s Ext.refl h2⟩
def cutD (ds : List D) (lo hi : Option Int) : List D := (ds.drop (HT.sIx ds.length 0 lo)).take (HT.sIx ds.length ds.length hi - HT.sIx ds.length 0 lo)
theorem VlL.cut {H : Hp} {M : Addr → Prop} {vs : List V} {ds : List D} (r : VlL H M vs ds) (lo hi : Option Int) : VlL H M (cutV vs lo hi) (cutD ds lo hi) := by
  unfold cutV cutD
  rw [r.len]
  exact (r.drop _).take _
/-- a part of a slice -/
def PartW (X : Cx) (B : Bs) (e : Option Expr) (ss : SS) (R : Option Int → SS → Prop) : Prop := match e with
  | none => R none ss
  | some e => EW X B e ss fun d s => ∃ i, d = .int i ∧ R (some i) s
def tP (B : Bs) (ss : SS) (R : Option Int → SS → Prop) : TO := fun σ H QQ => Sat B ss σ H ∧ ∀ o ss' H', R o ss' → Sat B ss' σ H' → Ext (ow ss.cs) H (ow ss'.cs) H' → QQ o H'
theorem PartW.po {R : Option Int → SS → Prop} {e : Option Expr} (h : PartW X B e ss R) : PO X e (tP B ss R) := by
  cases e with
  | none => exact ⟨fun pins s σ H Q I ⟨sat, k⟩ => po_none.run pins s σ H Q I (k none ss H h sat Ext.refl)⟩
  | some e => exact ⟨fun pins s σ H Q I ⟨sat, k⟩ => (po_some h.p).run pins s σ H Q I ⟨sat, fun v d s1 H1 ⟨i, e1, q⟩ sat1 x1 r1 => by
      subst e1
      cases r1
      exact ⟨i, rfl, k _ _ _ q sat1 x1⟩⟩⟩
def toAny (X : Cx) (e : Option Expr) : TO := fun σ H Q => ∃ t, PO X e t ∧ t σ H Q
theorem po_any {e : Option Expr} : PO X e (toAny X e) := ⟨fun pins s σ H Q I ⟨_, h, q⟩ => h.run pins s σ H Q I q⟩
theorem ew_sl {lo hi : Option Expr} {p2 : Pos} (h : EW X B a ss fun d s => PartW X B lo s fun i s => PartW X B hi s fun j s => ∃ ds, d = .lst ds ∧ Q (.lst (cutD ds i j)) s) : EW X B (.Subscript a (.Slice lo hi none p2) pos) ss Q :=
  ⟨PEimp (pe_slice sl_list h.p po_any po_any) fun σ H QQ ⟨s, k⟩ => ⟨s, fun v d s1 H1 q1 sat1 e1 r1 => ⟨_, PartW.po q1, sat1, fun i s2 H2 q2 sat2 e2 => ⟨_, PartW.po q2, sat2, fun j s3 H3 ⟨ds, q3, q4⟩ sat3 e3 => by
    subst q3
    have r3 := r1.ext (e2.trans e3)
    cases r3 with
    | @lst _ xs _ e n r =>
      refine ⟨_, _, rfl, SqL.of e, fun p hp => ?_⟩
      have S := Pre.Same.upd (o := .lst (cutV xs i j)) hp
      exact k _ (.lst (cutD ds i j)) s3 _ q4 (sat3.same S) (((e1.trans e2).trans e3).trans (Ext.same S)) (.lst upd_same (sat3.new hp) ((r.cut i j).ext (Ext.same S)))⟩⟩⟩⟩
/-! ### built-ins -/
def ClD (X : Cx) (B : Bs) (f : Value) (ds : List D) (ss : SS) (Q : D → SS → Prop) : Prop :=
  ∀ vs σ H QQ, Sat B ss σ H → VlL H (ow ss.cs) vs ds → (∀ v d ss' H', Q d ss' → Sat B ss' σ H' → Ext (ow ss.cs) H (ow ss'.cs) H' → Vl H' (ow ss'.cs) v d → QQ v H') → ∃ r, CallR X f r ∧ r vs H QQ
def clAny (X : Cx) (f : Value) : List V → Hp → VK → Prop := fun vs H Q => ∃ r, CallR X f r ∧ r vs H Q
theorem cl_any {f : Value} : CallR X f (clAny X f) := fun pins s σ H xs us Q I r ⟨_, h, q⟩ => h pins s σ H xs us Q I r q
theorem cl_go {f : Value} (h : AW X B es ss fun ds s => ClD X B f ds s Q) {σ : L2.St} {H : Hp} {QQ : VK} (q : tE B ss Q σ H QQ) : tCB (clAny X f) (tA B ss fun ds s => ClD X B f ds s Q) σ H QQ := by
  obtain ⟨s, k⟩ := q
  exact ⟨s, fun vs ds s1 H1 q1 sat1 e1 r1 => (show ClD X B f ds s1 Q from q1) vs σ H1 QQ sat1 r1 fun v d s2 H2 q2 sat2 e2 r2 => k v d s2 H2 q2 sat2 (e1.trans e2) r2⟩
theorem ew_callB {id : String} (hm : X.mg x = none) (hg : Gl X x) (hv : bootBuiltins x = some (.builtin id)) (h : AW X B (e :: es) ss fun ds s => ClD X B (.builtin id) ds s Q) (hn : x ≠ "__name__" := by decide) (hdb : (x == ("__debug__" : Str)) = false := by decide)
    (he : starEach (e :: es) X.env = (false, eval e X.env) :: starEach es X.env := by rfl) (hpl : (backTo pos (starEach es X.env)).any (·.1) = false := by rfl) : EW X B (.Call (.Name x p) (e :: es) [] pos) ss Q :=
  ⟨PEimp (pe_callB cl_any hg hm hv h.p hn hdb he hpl) fun _ _ _ q => cl_go h q⟩
theorem ew_callT {T : String} (hm : X.mg x = none) (hg : Gl X x) (hv : bootBuiltins x = some (.type T)) (h : AW X B (e :: es) ss fun ds s => ClD X B (.type T) ds s Q) (hn : x ≠ "__name__" := by decide) (hdb : (x == ("__debug__" : Str)) = false := by decide)
    (he : starEach (e :: es) X.env = (false, eval e X.env) :: starEach es X.env := by rfl) (hpl : (backTo pos (starEach es X.env)).any (·.1) = false := by rfl) : EW X B (.Call (.Name x p) (e :: es) [] pos) ss Q :=
  ⟨PEimp (pe_callTy cl_any hg hm hv h.p hn hdb he hpl) fun _ _ _ q => cl_go h q⟩
theorem cl_c {f : Value} {ds : List D} {d : D} (q : Q d ss) (h : ∀ H M vs, VlL H M vs ds → ∃ r v, CallR X f r ∧ Vl H M v d ∧ ∀ QQ : VK, QQ v H → r vs H QQ) : ClD X B f ds ss Q := fun vs σ H QQ s r1 k => by
  obtain ⟨r, v, ho, hv, hq⟩ := h H _ vs r1
  exact ⟨r, ho, hq QQ (k _ _ _ _ q s Ext.refl hv)⟩
theorem vl1 {H : Hp} {M : Addr → Prop} {vs : List V} {d : D} (r : VlL H M vs [d]) : ∃ v, vs = [v] ∧ Vl H M v d := by
  cases r with
  | cons h r => cases r; exact ⟨_, rfl, h⟩
theorem vl2 {H : Hp} {M : Addr → Prop} {vs : List V} {d e : D} (r : VlL H M vs [d, e]) : ∃ v u, vs = [v, u] ∧ Vl H M v d ∧ Vl H M u e := by
  cases r with
  | cons h r =>
    obtain ⟨u, rfl, r2⟩ := vl1 r
    exact ⟨_, u, rfl, h, r2⟩
theorem cl_len {ds : List D} (q : Q (.int ds.length) ss) : ClD X B (.builtin "len") [.lst ds] ss Q := cl_c q fun H M vs r => by
  obtain ⟨v, rfl, r1⟩ := vl1 r
  cases r1 with
  | lst e n r => exact ⟨_, _, call_len_seq, .int _, fun QQ q => ⟨_, _, rfl, .inl (SqL.of e), by rw [r.len]; exact q⟩⟩
theorem cl_lenT {ds : List D} (q : Q (.int ds.length) ss) : ClD X B (.builtin "len") [.tup ds] ss Q := cl_c q fun H M vs r => by
  obtain ⟨v, rfl, r1⟩ := vl1 r
  cases r1 with
  | tup e n r => exact ⟨_, _, call_len_seq, .int _, fun QQ q => ⟨_, _, rfl, .inr (SqT.of e), by rw [r.len]; exact q⟩⟩
theorem cl_lenO (j : Nat) {l : Addr} {ds : List D} (hj : ss.cs[j]? = some (l, .lst ds)) (q : Q (.int ds.length) ss) : ClD X B (.builtin "len") [.own l] ss Q := fun vs σ H QQ s r k => by
  obtain ⟨v, rfl, r1⟩ := vl1 r
  cases r1
  obtain ⟨xs, e, r⟩ := s.ok.ok _ _ (List.mem_of_getElem? hj)
  exact ⟨_, call_len_seq, _, _, rfl, .inl (SqL.of e), k _ _ _ _ (by rw [r.len]; exact q) s Ext.refl (.int _)⟩
theorem cl_lenS {z : Str} (hz : z.length ≤ sizeLine) (q : Q (.int z.length) ss) : ClD X B (.builtin "len") [.str z] ss Q := cl_c q fun H M vs r => by
  obtain ⟨v, rfl, r1⟩ := vl1 r
  cases r1
  exact ⟨_, _, call_len, .int _, fun QQ q => ⟨_, _, rfl, ⟨hz, rfl⟩, q⟩⟩
theorem cl_abs {i : Int} (q : Q (.int (if i < 0 then -i else i)) ss) : ClD X B (.builtin "abs") [.int i] ss Q := cl_c q fun H M vs r => by
  obtain ⟨v, rfl, r1⟩ := vl1 r
  cases r1
  exact ⟨_, _, call_abs, .int _, fun QQ q => ⟨_, rfl, q⟩⟩
theorem cl_int {i : Int} (q : Q (.int i) ss) : ClD X B (.type "int") [.int i] ss Q := cl_c q fun H M vs r => by
  obtain ⟨v, rfl, r1⟩ := vl1 r
  cases r1
  exact ⟨_, _, call_int1, .int _, fun QQ q => .inl ⟨_, rfl, q⟩⟩
theorem cl_intB {i : Bool} (q : Q (.int (if i then 1 else 0)) ss) : ClD X B (.type "int") [.bl i] ss Q := cl_c q fun H M vs r => by
  obtain ⟨v, rfl, r1⟩ := vl1 r
  cases r1
  exact ⟨_, _, call_int1, .int _, fun QQ q => .inr ⟨_, rfl, q⟩⟩
theorem cl_new {f : Value} {ds : List D} {d : D} (q : Q d ss) (h : ∀ H (M : Addr → Prop) vs, VlL H M vs ds → ∃ r o, CallR X f r ∧ (∀ H' p, H' p = some o → ¬ M p → Same H H' → Vl H' M (.ref p) d) ∧ ∀ QQ : VK, (∀ p, H p = none → QQ (.ref p) (upd H p o)) → r vs H QQ) : ClD X B f ds ss Q := fun vs σ H QQ s r1 k => by
  obtain ⟨r, o, ho, hv, hq⟩ := h H _ vs r1
  refine ⟨r, ho, hq QQ fun p hp => ?_⟩
  have S := Pre.Same.upd (o := o) hp
  exact k _ _ ss _ q (s.same S) (Ext.same S) (hv _ p upd_same (s.new hp) S)
theorem cl_list {ds : List D} (q : Q (.lst ds) ss) : ClD X B (.type "list") [.lst ds] ss Q := cl_new q fun H M vs r => by
  obtain ⟨v, rfl, r1⟩ := vl1 r
  cases r1 with
  | lst e n r => exact ⟨_, .lst _, call_list_of, fun H' p h1 h2 S => .lst h1 h2 (r.ext (Ext.same S)), fun QQ q => ⟨_, _, rfl, .inl (SqL.of e), q⟩⟩
theorem cl_listT {ds : List D} (q : Q (.lst ds) ss) : ClD X B (.type "list") [.tup ds] ss Q := cl_new q fun H M vs r => by
  obtain ⟨v, rfl, r1⟩ := vl1 r
  cases r1 with
  | tup e n r => exact ⟨_, .lst _, call_list_of, fun H' p h1 h2 S => .lst h1 h2 (r.ext (Ext.same S)), fun QQ q => ⟨_, _, rfl, .inr (SqT.of e), q⟩⟩
theorem cl_tuple {ds : List D} (q : Q (.tup ds) ss) : ClD X B (.type "tuple") [.lst ds] ss Q := cl_new q fun H M vs r => by
  obtain ⟨v, rfl, r1⟩ := vl1 r
  cases r1 with
  | lst e n r => exact ⟨_, .tup _, call_tuple_of, fun H' p h1 h2 S => .tup h1 h2 (r.ext (Ext.same S)), fun QQ q => ⟨_, _, rfl, .inl ⟨SqL.of e, q⟩⟩⟩
theorem cl_tupleT {ds : List D} (q : Q (.tup ds) ss) : ClD X B (.type "tuple") [.tup ds] ss Q := cl_c q fun H M vs r => by
  obtain ⟨v, rfl, r1⟩ := vl1 r
  cases r1 with
  | tup e n r => exact ⟨_, _, call_tuple_of, .tup e n r, fun QQ q => ⟨_, _, rfl, .inr ⟨SqT.of e, q⟩⟩⟩
/-! ### operators over lists and tuples -/
theorem od_new {f : Value → Value → Sem Value} {d1 d2 d : D} (q : Q d ss) (h : ∀ H (M : Addr → Prop) v1 v2, Vl H M v1 d1 → Vl H M v2 d2 → ∃ r o, OpR X f r ∧ (∀ H' p, H' p = some o → ¬ M p → Same H H' → Vl H' M (.ref p) d) ∧ ∀ QQ : VK, (∀ p, H p = none → QQ (.ref p) (upd H p o)) → r v1 v2 H QQ) : OpD X B f d1 d2 ss Q := fun v1 v2 σ H QQ s r1 r2 k => by
  obtain ⟨r, o, ho, hv, hq⟩ := h H _ v1 v2 r1 r2
  refine ⟨r, ho, hq QQ fun p hp => ?_⟩
  have S := Pre.Same.upd (o := o) hp
  exact k _ _ ss _ q (s.same S) (Ext.same S) (hv _ p upd_same (s.new hp) S)
theorem od_cat {xs ys : List D} (h : xs.length + ys.length ≤ sizeLine) (q : Q (.lst (xs ++ ys)) ss) : OpD X B (binaryOp .Add) (.lst xs) (.lst ys) ss Q := od_new q fun H M v1 v2 r1 r2 => by
  cases r1 with
  | lst e n r =>
    cases r2 with
    | lst e2 n2 r2 => exact ⟨_, .lst _, op_cat, fun H' p h1 h2 S => .lst h1 h2 ((r.app r2).ext (Ext.same S)), fun QQ q => ⟨_, _, _, _, rfl, rfl, e, e2, by rw [r.len, r2.len]; exact h, q⟩⟩
end
end Sx
set_option Elab.async false
set_option linter.all false
set_option maxRecDepth 100000
set_option maxHeartbeats 2000000
namespace Sx
open PySem PySem.Spec PyProof.Rows L2
section
variable {X : Cx} {B : Bs} {ss : SS} {Q : D → SS → Prop} {T : Bool → SS → Prop} {L : List D → SS → Prop} {k : Kt} {a b c e o : Expr} {es : List Expr} {pos p apos : Pos} {CX : CXT} {n : Nat} {x m : Str} {C : Addr} {ps : List Str} {F : FT}
/-! ### equality of data -/
mutual
def D.py : D → PyData
  | .non => .none
  | .bl b => .bool b
  | .int i => .int i
  | .str x => .str x
  | .lst xs => .list (D.pyL xs)
  | .tup xs => .tuple (D.pyL xs)
  | .obj _ _ => .none
  | .exc _ _ => .none
  | .dct0 => .dict []
  | .own _ => .none
  | .raw _ => .none
def D.pyL : List D → List PyData
  | [] => []
  | d :: ds => D.py d :: D.pyL ds
end
mutual
def D.dat : D → Bool
  | .lst xs => D.datL xs
  | .tup xs => D.datL xs
  | .obj _ _ => false
  | .exc _ _ => false
  | .dct0 => false
  | .own _ => false
  | .raw _ => false
  | _ => true
def D.datL : List D → Bool
  | [] => true
  | d :: ds => D.dat d && D.datL ds
end
mutual
theorem Vl.dp {K : PySem.W.Frag} {H : Hp} {M : Addr → Prop} : ∀ {v : V} {d : D}, Vl H M v d → d.dat = true → Dp K H v d.py
  | _, _, .non, _ => .non
  | _, _, .bl b, _ => .bl b
  | _, _, .int i, _ => .int i
  | _, _, .str x, _ => .str x
  | _, _, .lst e n r, h => .lst (SqL.of e) (VlL.dp r (by simpa only [D.dat] using h))
  | _, _, .tup e n r, h => .tup (SqT.of e) (VlL.dp r (by simpa only [D.dat] using h))
  | _, _, .obj _ _ _, h => by simp only [D.dat] at h; cases h
  | _, _, .exc _ _ _ _ _, h => by simp only [D.dat] at h; cases h
  | _, _, .dct0 _ _, h => by simp only [D.dat] at h; cases h
  | _, _, .own _, h => by simp only [D.dat] at h; cases h
  | _, _, .raw _, h => by simp only [D.dat] at h; cases h
theorem VlL.dp {K : PySem.W.Frag} {H : Hp} {M : Addr → Prop} : ∀ {vs : List V} {ds : List D}, VlL H M vs ds → D.datL ds = true → DpAll K H vs (D.pyL ds)
  | _, _, .nil, _ => .nil
  | _, _, .cons h r, q => by
    simp only [D.datL, Bool.and_eq_true] at q
    exact .cons (Vl.dp h q.1) (VlL.dp r q.2)
end
def D.ok (d : D) : Bool := d.dat && SeqAt.shaped d.py
def D.eqv (d e : D) : Bool := PyData.eqv d.py e.py
theorem od_eq (hu : X.A.units + 64 < cLine) {d1 d2 : D} (h1 : d1.ok = true) (h2 : d2.ok = true) (q : Q (.bl (D.eqv d1 d2)) ss) : OpD X B (compareOp .Eq) d1 d2 ss Q := od_c q fun H M v1 v2 r1 r2 => by
  obtain ⟨a1, a2⟩ := Bool.and_eq_true_iff.mp h1
  obtain ⟨b1, b2⟩ := Bool.and_eq_true_iff.mp h2
  exact ⟨_, _, op_eqD hu, .bl _, fun QQ q => ⟨_, _, r1.dp a1, r2.dp b1, a2, b2, q⟩⟩
theorem od_ne (hu : X.A.units + 64 < cLine) {d1 d2 : D} (h1 : d1.ok = true) (h2 : d2.ok = true) (q : Q (.bl (!D.eqv d1 d2)) ss) : OpD X B (compareOp .NotEq) d1 d2 ss Q := od_c q fun H M v1 v2 r1 r2 => by
  obtain ⟨a1, a2⟩ := Bool.and_eq_true_iff.mp h1
  obtain ⟨b1, b2⟩ := Bool.and_eq_true_iff.mp h2
  exact ⟨_, _, op_neD hu, .bl _, fun QQ q => ⟨_, _, r1.dp a1, r2.dp b1, a2, b2, q⟩⟩
/-! ### lists that grow -/
def insAt : Nat → Cs → Addr × Cell → Cs
  | 0, cs, c => c :: cs
  | _ + 1, [], c => [c]
  | j + 1, a :: r, c => a :: insAt j r c
theorem mem_insAt {j : Nat} {cs : Cs} {c d : Addr × Cell} : d ∈ insAt j cs c ↔ d = c ∨ d ∈ cs := by
  induction j generalizing cs with
  | zero => simp [insAt]
  | succ j ih =>
    cases cs with
    | nil => simp [insAt]
    | cons a r =>
      simp only [insAt, List.mem_cons, ih]
      constructor
      · rintro (h | h | h)
        · exact .inr (.inl h)
        · exact .inl h
        · exact .inr (.inr h)
      · rintro (h | h | h)
        · exact .inr (.inl h)
        · exact .inl h
        · exact .inr (.inr h)
theorem ow_insAt {j : Nat} {cs : Cs} {x : Addr} {c : Cell} {b : Addr} : ow (insAt j cs (x, c)) b ↔ b = x ∨ ow cs b := by
  unfold ow
  simp only [List.mem_map]
  constructor
  · rintro ⟨d, hd, rfl⟩
    rcases mem_insAt.mp hd with rfl | h
    · exact .inl rfl
    · exact .inr ⟨d, h, rfl⟩
  · rintro (rfl | ⟨d, hd, rfl⟩)
    · exact ⟨_, mem_insAt.mpr (.inl rfl), rfl⟩
    · exact ⟨d, mem_insAt.mpr (.inr hd), rfl⟩
theorem nd_insAt {j : Nat} {cs : Cs} {x : Addr} {c : Cell} (h : (cs.map Prod.fst).Nodup) (n : ¬ ow cs x) : ((insAt j cs (x, c)).map Prod.fst).Nodup := by
  induction j generalizing cs with
  | zero =>
    show ((x, c) :: cs |>.map Prod.fst).Nodup
    rw [List.map_cons, List.nodup_cons]
    exact ⟨n, h⟩
  | succ j ih =>
    cases cs with
    | nil => exact List.nodup_cons.mpr ⟨by simp, List.nodup_nil⟩
    | cons a r =>
      obtain ⟨a, ca⟩ := a
      rw [List.map_cons, List.nodup_cons] at h
      show (List.map Prod.fst ((a, ca) :: insAt j r (x, c))).Nodup
      rw [List.map_cons, List.nodup_cons]
      refine ⟨fun z => ?_, ih h.2 fun z => n (ow_cons.mpr (.inr z))⟩
      rcases ow_insAt.mp (show ow (insAt j r (x, c)) a from z) with e | e
      · exact n (ow_cons.mpr (.inl e.symm))
      · exact h.1 e
/-- a new cell -/
theorem CsOk.ins {H H' : Hp} {cs : Cs} {x : Addr} {c : Cell} (ok : CsOk H cs) (j : Nat) (nx : H x = none) (S : Same H H') (hc : ∀ M, (∀ b, M b ↔ b = x ∨ ow cs b) → Ext (ow cs) H M H' → CellOk H' M x c) :
    CsOk H' (insAt j cs (x, c)) ∧ Ext (ow cs) H (ow (insAt j cs (x, c))) H' := by
  have e : Ext (ow cs) H (ow (insAt j cs (x, c))) H' := ⟨fun b o _ _ h => S b o h, fun b h => (ow_insAt.mp h).elim (fun z => .inr (nwN (by rw [z]; exact nx))) .inl⟩
  refine ⟨⟨fun a d hm => ?_, nd_insAt ok.nd fun z => ?_⟩, e⟩
  · rcases mem_insAt.mp hm with z | z
    · cases z
      exact hc _ (fun b => ow_insAt) e
    · exact (ok.ok a d z).ext e fun o q => S _ _ q
  · obtain ⟨o, q⟩ := ok.there z
    rw [nx] at q
    cases q
/-- [..], the list to be changed later: a cell, put in at j -/
theorem ew_lstO (j : Nat) (h : AW X B es ss fun ds s => ds.length ≤ sizeLine ∧ ∀ l, Q (.own l) ⟨s.sl, insAt j s.cs (l, Cell.lst ds)⟩) : EW X B (.List es pos) ss Q :=
  ⟨PEimp (pe_lst h.p) fun σ H QQ ⟨s, k⟩ => ⟨s, fun vs ds s1 H1 q1 sat1 e1 r1 => ⟨by rw [r1.len]; exact q1.1, fun p hp => by
    have S := Pre.Same.upd (o := .lst vs) hp
    obtain ⟨ok, e2⟩ := sat1.ok.ins (c := Cell.lst ds) j hp S fun M hM e => ⟨vs, upd_same, r1.ext e⟩
    exact k _ (.own p) ⟨s1.sl, _⟩ _ (q1.2 p) (sat1.cs e2 ok) (e1.trans e2) (.own p)⟩⟩⟩
/-- l.append(e) -/
theorem ew_append {apos : Pos} (h : EW X B o ss fun d s => ∃ (l : Addr) (j : Nat) (ds : List D), d = .own l ∧ s.cs[j]? = some (l, Cell.lst ds) ∧ EW X B e s fun d2 s2 => ∃ (j2 : Nat) (ds2 : List D), s2.cs[j2]? = some (l, Cell.lst ds2) ∧ ds2.length < sizeLine ∧ Q .non ⟨s2.sl, s2.cs.set j2 (l, Cell.lst (ds2 ++ [d2]))⟩)
    (hbase : attributeBase o ("append" : Str) X.env (eval o X.env) = eval o X.env := by rfl)
    (hfew : ((backTo pos (starEach [e] X.env)).all (fun x => !x.1) && (backToKw pos (keywordEach [] X.env)).all (fun x => x.1.isSome)
      && decide (([e] : List Expr).length + ([] : List Keyword).length + (if ([] : List Keyword).isEmpty then 0 else 1) < 30)) = true := by rfl)
    (hline : (apos.endLine == pos.line) = true := by rfl) (hs : starEach [e] X.env = (false, eval e X.env) :: starEach [] X.env := by rfl) (hplain : (backTo pos (starEach [] X.env)).any (·.1) = false := by rfl) :
    EW X B (.Call (.Attribute o "append" apos) [e] [] pos) ss Q := by
  refine ⟨PEimp (pe_bm PySem.F.plainAttrs_list PySem.F.slot_list_append PySem.F.type_list_append mt_append h.p (pa_cons (pe_any (e := e)) pa_nil hs) hbase hfew hline hs hplain) fun σ H QQ ⟨s, k⟩ => ⟨s, fun v d s1 H1 q1 sat1 e1 r1 => ?_⟩⟩
  obtain ⟨l, j, ds, rfl, hj, q2⟩ := q1
  cases r1
  obtain ⟨xs, x1, x2⟩ := sat1.ok.ok _ _ (List.mem_of_getElem? hj)
  refine ⟨.inl ⟨rfl, _, SqL.of x1⟩, _, q2.p, sat1, fun v2 d2 s2 H2 ⟨j2, ds2, h1, h2, h3⟩ sat2 e2 r2 => ?_⟩
  obtain ⟨ys, y1, y2⟩ := sat2.ok.ok _ _ (List.mem_of_getElem? h1)
  obtain ⟨sat3, e3⟩ := sat2.mut (c' := Cell.lst (ds2 ++ [d2])) (u := .lst (ys ++ [v2])) h1 fun e q => ⟨_, q, (y2.ext e).app (.cons (r2.ext e) .nil)⟩
  exact ⟨l, ys, v2, rfl, rfl, y1, by rw [y2.len]; exact h2, k _ _ _ _ h3 sat3 ((e1.trans e2).trans e3) .non⟩
/-- the cell at j changes no more: the name i holds the list itself -/
theorem eraseIdx_mem {cs : Cs} {j : Nat} {c : Addr × Cell} (h : c ∈ cs.eraseIdx j) : c ∈ cs := List.mem_of_mem_eraseIdx h
theorem map_erase : ∀ (cs : Cs) (j : Nat), (cs.eraseIdx j).map Prod.fst = (cs.map Prod.fst).eraseIdx j
  | [], _ => by simp
  | a :: r, 0 => by simp
  | a :: r, j + 1 => by
    rw [List.eraseIdx_cons_succ, List.map_cons, List.map_cons, List.eraseIdx_cons_succ, map_erase r j]
theorem nd_erase {cs : Cs} (h : (cs.map Prod.fst).Nodup) (j : Nat) : ((cs.eraseIdx j).map Prod.fst).Nodup := by
  rw [map_erase]
  exact h.sublist (List.eraseIdx_sublist ..)
theorem erase_ok {H : Hp} {cs : Cs} {j : Nat} {l : Addr} {c : Cell} (ok : CsOk H cs) (h : cs[j]? = some (l, c)) : CsOk H (cs.eraseIdx j) ∧ Ext (ow cs) H (ow (cs.eraseIdx j)) H ∧ ¬ ow (cs.eraseIdx j) l ∧ CellOk H (ow (cs.eraseIdx j)) l c := by
  have e : Ext (ow cs) H (ow (cs.eraseIdx j)) H := Ext.less fun a hm => by
    obtain ⟨d, hd, rfl⟩ := List.mem_map.mp hm
    exact List.mem_map.mpr ⟨d, eraseIdx_mem hd, rfl⟩
  refine ⟨⟨fun a c hm => (ok.ok a c (eraseIdx_mem hm)).ext e fun _ q => q, nd_erase ok.nd j⟩, e, fun z => ?_, (ok.ok _ _ (List.mem_of_getElem? h)).ext e fun _ q => q⟩
  obtain ⟨hj, hv⟩ := List.getElem?_eq_some_iff.mp h
  have n := ok.nd
  have z2 : l ∈ (cs.map Prod.fst).eraseIdx j := by
    rw [← map_erase]
    exact z
  obtain ⟨i, hi⟩ := List.mem_iff_getElem?.mp z2
  rw [List.getElem?_eraseIdx] at hi
  have hl : (cs.map Prod.fst)[j]? = some l := by rw [List.getElem?_map, h]; rfl
  obtain ⟨b1, x1⟩ := List.getElem?_eq_some_iff.mp hl
  split at hi
  · obtain ⟨b2, x2⟩ := List.getElem?_eq_some_iff.mp hi
    have := (List.getElem_inj n).mp (x2.trans x1.symm)
    omega
  · obtain ⟨b2, x2⟩ := List.getElem?_eq_some_iff.mp hi
    have := (List.getElem_inj n).mp (x2.trans x1.symm)
    omega
theorem sat_freeze {σ : L2.St} {H : Hp} (s : Sat B ss σ H) {j i : Nat} {l : Addr} {ds : List D} (h : ss.cs[j]? = some (l, Cell.lst ds)) (hi : ss.sl[i]? = some (some (.own l))) : Sat B ⟨ss.sl.set i (some (.lst ds)), ss.cs.eraseIdx j⟩ σ H := by
  obtain ⟨ok, e, n, xs, x1, x2⟩ := erase_ok s.ok h
  have s2 := s.cs e ok
  obtain ⟨v, v1, v2⟩ := s.sl _ _ hi
  cases v2
  have s3 := s2.set (i := i) (v := .ref l) (d := .lst ds) (.lst x1 n x2)
  have e2 : σ.set i (some (V.ref l)) = σ := by
    apply List.ext_getElem?
    intro t
    by_cases z : i = t
    · subst z
      rw [v1, List.getElem?_set_self (List.getElem?_eq_some_iff.mp v1).1]
    · rw [List.getElem?_set_ne z]
  rw [e2] at s3
  exact s3
theorem sw_freeze {sts : List Stmt} (j i : Nat) {l : Addr} {ds : List D} (h : ss.cs[j]? = some (l, Cell.lst ds)) (hi : ss.sl[i]? = some (some (.own l))) (w : SW X B sts ⟨ss.sl.set i (some (.lst ds)), ss.cs.eraseIdx j⟩ k) : SW X B sts ss k :=
  sw_re (fun σ H s => ⟨sat_freeze s h hi, fun a hm => by
    obtain ⟨d, hd, rfl⟩ := List.mem_map.mp hm
    exact List.mem_map.mpr ⟨d, eraseIdx_mem hd, rfl⟩⟩) w
/-- the state forgets: a slot's data that s2 tells, ss tells the same -/
theorem sat_less {σ : L2.St} {H : Hp} (s : Sat B ss σ H) {sl : List (Option D)} (hl : sl.length = ss.sl.length) (h : ∀ (i : Nat) (d : D), sl[i]? = some (some d) → ss.sl[i]? = some (some d)) : Sat B ⟨sl, ss.cs⟩ σ H :=
  ⟨by rw [hl]; exact s.len, fun i d e => s.sl i d (h i d e), s.ok, s.ext, s.bok⟩
/-- more draws may have been made -/
theorem sat_pen {σ : L2.St} {H : Hp} {sl : List (Option D)} {p : Addr} {ns : List Int} {k1 k2 : Int} {cs : Cs} (s : Sat B ⟨sl, (p, Cell.pen ns k1) :: cs⟩ σ H) (h : k1 ≤ k2) : Sat B ⟨sl, (p, Cell.pen ns k2) :: cs⟩ σ H := by
  have eo : ow ((p, Cell.pen ns k1) :: cs) = ow ((p, Cell.pen ns k2) :: cs) := by
    funext b
    unfold ow
    rfl
  have e : Ext (ow ((p, Cell.pen ns k1) :: cs)) H (ow ((p, Cell.pen ns k2) :: cs)) H := Ext.less fun a h => h
  refine ⟨s.len, fun i d h => s.sl i d h, ⟨fun a c hm => ?_, s.ok.nd⟩, s.ext, s.bok⟩
  rcases List.mem_cons.mp hm with z | z
  · cases z
    obtain ⟨b, t, g, h1, h2, h3, h4, h5, h6, h7⟩ := s.ok.ok p _ (List.mem_cons_self ..)
    exact ⟨b, t, g, h1, h2, h3, h4, h5, Int.le_trans h6 h, h7⟩
  · exact s.ok.ok a c (List.mem_cons_of_mem _ z)
theorem sw_pen {sts : List Stmt} {sl : List (Option D)} {p : Addr} {ns : List Int} {k1 k2 : Int} {cs : Cs} (h : k1 ≤ k2) (w : SW X B sts ⟨sl, (p, Cell.pen ns k2) :: cs⟩ k) : SW X B sts ⟨sl, (p, Cell.pen ns k1) :: cs⟩ k := sw_re (fun σ H s => ⟨sat_pen s h, fun a m => m⟩) w
/-! ### targets -/
def gAny (X : Cx) (t : Expr) : TG := fun v σ H Q => ∃ g, PG X t g ∧ g v σ H Q
theorem pg_any {t : Expr} : PG X t (gAny X t) := ⟨fun pins s σ H v u Q I r ⟨_, h, q⟩ => h.run pins s σ H v u Q I r q⟩
def gsAny (X : Cx) (t : List Expr) : TGs := fun v σ H Q => ∃ g, PGs X t g ∧ g v σ H Q
theorem pgs_any {t : List Expr} : PGs X t (gsAny X t) := ⟨fun pins s σ H v u Q I r ⟨_, h, q⟩ => h.run pins s σ H v u Q I r q⟩
/-- the slots but vs stay -/
def Outs (vs : List Nat) (σ σ' : L2.St) : Prop := σ'.length = σ.length ∧ ∀ i, i ∉ vs → σ'[i]? = σ[i]?
theorem Outs.refl {vs : List Nat} {σ : L2.St} : Outs vs σ σ := ⟨rfl, fun _ _ => rfl⟩
theorem Outs.trans {vs : List Nat} {σ σ1 σ2 : L2.St} (a : Outs vs σ σ1) (b : Outs vs σ1 σ2) : Outs vs σ σ2 := ⟨b.1.trans a.1, fun i h => (b.2 i h).trans (a.2 i h)⟩
def tG (B : Bs) (ss : SS) (d : D) (vs : List Nat) (R : SS → Prop) : TG := fun v σ H QQ => Sat B ss σ H ∧ Vl H (ow ss.cs) v d ∧ ∀ ss' σ', R ss' → ss'.cs = ss.cs → Sat B ss' σ' H → Outs vs σ σ' → QQ σ' H
def tGs (B : Bs) (ss : SS) (ds : List D) (vs : List Nat) (R : SS → Prop) : TGs := fun us σ H QQ => Sat B ss σ H ∧ VlL H (ow ss.cs) us ds ∧ ∀ ss' σ', R ss' → ss'.cs = ss.cs → Sat B ss' σ' H → Outs vs σ σ' → QQ σ' H
structure TgW (X : Cx) (B : Bs) (t : Expr) (d : D) (vs : List Nat) (ss : SS) (R : SS → Prop) : Prop where
  p : PG X t (tG B ss d vs R)
structure TgsW (X : Cx) (B : Bs) (t : List Expr) (ds : List D) (vs : List Nat) (ss : SS) (R : SS → Prop) : Prop where
  p : PGs X t (tGs B ss ds vs R)
theorem PGimp {t : Expr} {g g' : TG} (h : PG X t g) (i : ∀ v σ H Q, g' v σ H Q → g v σ H Q) : PG X t g' := ⟨fun pins s σ H v u Q I r q => h.run pins s σ H v u Q I r (i v σ H Q q)⟩
theorem PGsimp {t : List Expr} {g g' : TGs} (h : PGs X t g) (i : ∀ v σ H Q, g' v σ H Q → g v σ H Q) : PGs X t g' := ⟨fun pins s σ H v u Q I r q => h.run pins s σ H v u Q I r (i v σ H Q q)⟩
theorem outs_set {vs : List Nat} {σ : L2.St} {i : Nat} {v : Option V} (h : i ∈ vs) : Outs vs σ (σ.set i v) := ⟨List.length_set .., fun j hj => by rw [List.getElem?_set_ne (fun z => hj (by rw [← z]; exact h))]⟩
theorem tg_name (i : Nat) {d : D} {vs : List Nat} {R : SS → Prop} (hN : X.N.Nodup) (hi : X.N[i]? = some x) (hx : Loc X.env.scope x) (q : R ⟨ss.sl.set i (some d), ss.cs⟩) (hvs : i ∈ vs := by decide)
    (hf : X.fn x = true ∨ X.env.scope.names.lookup x = some .local := by first | exact .inl rfl | exact .inr rfl | assumption) : TgW X B (.Name x pos) d vs ss R :=
  ⟨PGimp (pg_name (i := i) hN hi hx hf) fun v σ H QQ ⟨s, r, k⟩ => k _ _ q rfl (s.set r) (outs_set hvs)⟩
theorem tgs_nil {vs : List Nat} {R : SS → Prop} (q : R ss) : TgsW X B [] [] vs ss R := ⟨PGsimp pgs_nil fun us σ H QQ ⟨s, r, k⟩ => by
  cases r
  exact ⟨rfl, k _ _ q rfl s .refl⟩⟩
theorem tgs_cons {t : Expr} {ts : List Expr} {d : D} {ds : List D} {vs : List Nat} {R : SS → Prop} (h : TgW X B t d vs ss fun s => TgsW X B ts ds vs s R) (hs : (assignEach (t :: ts) X.env).map (·.2) = assign t X.env :: (assignEach ts X.env).map (·.2) := by rfl) : TgsW X B (t :: ts) (d :: ds) vs ss R :=
  ⟨PGsimp (pgs_cons h.p pgs_any hs) fun us σ H QQ ⟨s, r, k⟩ => by
    cases r with
    | cons h1 r1 =>
      exact ⟨_, _, rfl, s, h1, fun ss1 σ1 q1 e1 sat1 o1 => ⟨_, q1.p, sat1, by rw [e1]; exact r1, fun ss2 σ2 q2 e2 sat2 o2 => k ss2 σ2 q2 (e2.trans e1) sat2 (o1.trans o2)⟩⟩⟩
theorem tg_tup {ts : List Expr} {j : Nat} {ds : List D} {vs : List Nat} {R : SS → Prop} (hc : X.calm = true) (h : TgsW X B ts ds vs ss R) (hn : ts.length = ds.length := by rfl) 
    (hl : ∀ g : TGs, PGs X ts g → PG X (.Tuple ts j pos) (gTup X.K ts.length g) := by exact fun _ h => pg_tup rfl h) : TgW X B (.Tuple ts j pos) (.tup ds) vs ss R :=
  ⟨PGimp (hl _ h.p) fun v σ H QQ ⟨s, r, k⟩ => by
    cases r with
    | tup e n r => exact ⟨_, _, rfl, SqT.of e, by rw [r.len, hn], s, r, k⟩⟩
/-- a, b = e -/
theorem s1_asg {tg : Expr} {vs : List Nat} (h : EW X B e ss fun d s => TgW X B tg d vs s k.nx) (hs : swapsWithSole [tg] e pos.line X.env = pure false := by rfl) (hw : swappedStores [tg] e X.env = pure none := by rfl) (ht : (assignEach [tg] X.env).map (·.2) = [assign tg X.env] := by rfl) : S1 X B (.Assign [tg] e pos) ss k :=
  ⟨PSimp (ps_asg h.p pg_any hs hw ht) fun D σ H ⟨s, h1, _⟩ => ⟨s, fun v d s1 H1 q1 sat1 e1 r1 => ⟨_, q1.p, sat1, r1, fun ss2 σ2 q2 e2 sat2 _ => h1 ss2 σ2 H1 q2 sat2 (by rw [e2]; exact e1)⟩⟩⟩
/-! ### loops -/
def piAny (X : Cx) (tg iter : Expr) : TI := fun σ H R => ∃ w, PI X tg iter w ∧ w σ H R
/-- what is walked: a list, a tuple of data, a range -/
inductive Walked (ds : List D) : D → Prop where
  | lst : Walked ds (.lst ds)
  | tup : Walked ds (.tup ds)
theorem s1_forL {tg it : Expr} {body : List Stmt} (vs : List Nat) (hp : PassesOwn (model X.prog X.w) X.A X.env X.xe) (hc : X.calm = true)
    (h : EW X B it ss fun d s => ∃ ds, d = .lst ds ∧ ∃ Iv : Nat → SS → Prop, Iv 0 s ∧ (∀ j dj s', ds[j]? = some dj → Iv j s' → TgW X B tg dj vs s' fun s2 => SW X B body s2 { nx := Iv (j + 1), rt := k.rt, bk := k.nx, ct := Iv (j + 1) }) ∧ ∀ s', Iv ds.length s' → k.nx s')
    (hs : ∀ x, foldedSetIterable it X.env x = pure x := by intro _; rfl) : S1 X B (.For tg it body [] pos) ss k :=
  ⟨PSimp (ps_for hp hc (pi_list h.p) pg_any pss_any hs) fun D σ H ⟨s, h1, h2, h3, h4⟩ => ⟨s, fun v d s1 H1 ⟨ds, q1, Iv, i0, i1, i2⟩ sat1 e1 r1 => by
    subst q1
    cases r1 with
    | @lst a xs _ ea n r =>
      refine ⟨a, rfl, ⟨xs, SqL.of ea⟩, for_list (xs := xs) (fun i σ' H' => ∃ s', Iv i s' ∧ Sat B s' σ' H' ∧ Ext (ow s1.cs) H1 (ow s'.cs) H') ⟨s1, i0, sat1, Ext.refl⟩ (fun i σ' H' _ ⟨s', _, _, e'⟩ => SqL.of (e'.kp _ _ n ntL ea)) (fun i y σ' H' hy ⟨s', q', sat', e'⟩ => ?_) fun σ' H' ⟨s', q', sat', e'⟩ => h1 s' σ' H' (i2 s' (by rw [r.len] at q'; exact q')) sat' (e1.trans e')⟩
      obtain ⟨dj, hd, rd⟩ := r.back hy
      refine ⟨_, (i1 i dj s' hd q').p, sat', rd.ext e', fun s2 σ2 q2 c2 sat2 _ => ⟨_, q2.p, sat2, fun s3 σ3 H3 q3 sat3 e3 => ?_, fun v d s3 σ3 H3 q3 sat3 e3 r3 => ?_, fun s3 σ3 H3 q3 sat3 e3 => ?_, fun s3 σ3 H3 q3 sat3 e3 => ?_⟩⟩
      · exact ⟨s3, q3, sat3, e'.trans (by rw [c2] at e3; exact e3)⟩
      · exact h2 v d s3 σ3 H3 q3 sat3 ((e1.trans e').trans (by rw [c2] at e3; exact e3)) r3
      · exact h1 s3 σ3 H3 q3 sat3 ((e1.trans e').trans (by rw [c2] at e3; exact e3))
      · exact ⟨s3, q3, sat3, e'.trans (by rw [c2] at e3; exact e3)⟩⟩⟩
theorem s1_forT {tg it : Expr} {body : List Stmt} (vs : List Nat) (hp : PassesOwn (model X.prog X.w) X.A X.env X.xe) (hc : X.calm = true)
    (h : EW X B it ss fun d s => ∃ ds, d = .tup ds ∧ ∃ Iv : Nat → SS → Prop, Iv 0 s ∧ (∀ j dj s', ds[j]? = some dj → Iv j s' → TgW X B tg dj vs s' fun s2 => SW X B body s2 { nx := Iv (j + 1), rt := k.rt, bk := k.nx, ct := Iv (j + 1) }) ∧ ∀ s', Iv ds.length s' → k.nx s')
    (hs : ∀ x, foldedSetIterable it X.env x = pure x := by intro _; rfl) : S1 X B (.For tg it body [] pos) ss k :=
  ⟨PSimp (ps_for hp hc (pi_tup h.p) pg_any pss_any hs) fun D σ H ⟨s, h1, h2, h3, h4⟩ => ⟨s, fun v d s1 H1 ⟨ds, q1, Iv, i0, i1, i2⟩ sat1 e1 r1 => by
    subst q1
    cases r1 with
    | @tup a xs _ ea n r =>
      refine ⟨a, rfl, ⟨xs, SqT.of ea⟩, for_tup (xs := xs) (fun i σ' H' => ∃ s', Iv i s' ∧ Sat B s' σ' H' ∧ Ext (ow s1.cs) H1 (ow s'.cs) H') ⟨s1, i0, sat1, Ext.refl⟩ (fun i σ' H' _ ⟨s', _, _, e'⟩ => SqT.of (e'.kp _ _ n ntT ea)) (fun i y σ' H' hy ⟨s', q', sat', e'⟩ => ?_) fun σ' H' ⟨s', q', sat', e'⟩ => h1 s' σ' H' (i2 s' (by rw [r.len] at q'; exact q')) sat' (e1.trans e')⟩
      obtain ⟨dj, hd, rd⟩ := r.back hy
      refine ⟨_, (i1 i dj s' hd q').p, sat', rd.ext e', fun s2 σ2 q2 c2 sat2 _ => ⟨_, q2.p, sat2, fun s3 σ3 H3 q3 sat3 e3 => ?_, fun v d s3 σ3 H3 q3 sat3 e3 r3 => ?_, fun s3 σ3 H3 q3 sat3 e3 => ?_, fun s3 σ3 H3 q3 sat3 e3 => ?_⟩⟩
      · exact ⟨s3, q3, sat3, e'.trans (by rw [c2] at e3; exact e3)⟩
      · exact h2 v d s3 σ3 H3 q3 sat3 ((e1.trans e').trans (by rw [c2] at e3; exact e3)) r3
      · exact h1 s3 σ3 H3 q3 sat3 ((e1.trans e').trans (by rw [c2] at e3; exact e3))
      · exact ⟨s3, q3, sat3, e'.trans (by rw [c2] at e3; exact e3)⟩⟩⟩
/-- for i in range(e) -/
theorem s1_forR {tg e : Expr} {body : List Stmt} {rp rpos : Pos} (vs : List Nat) (hp : PassesOwn (model X.prog X.w) X.A X.env X.xe) (hc : X.calm = true) (hg : Gl X "range") (hm : X.mg "range" = none)
    (h : EW X B e ss fun d s => ∃ n : Int, d = .int n ∧ (-(2 ^ 62) ≤ n ∧ n < 2 ^ 62) ∧ ∃ Iv : Nat → SS → Prop, Iv 0 s ∧ (∀ (j : Nat) s', (j : Int) < n → Iv j s' → TgW X B tg (.int (0 + j)) vs s' fun s2 => SW X B body s2 { nx := Iv (j + 1), rt := k.rt, bk := k.nx, ct := Iv (j + 1) }) ∧ ∀ s', Iv n.toNat s' → k.nx s')
    (hse : starEach [e] X.env = [(false, eval e X.env)] := by rfl)
    (hs : ∀ x, foldedSetIterable (.Call (.Name "range" rp) [e] [] rpos) X.env x = pure x := by intro _; rfl) : S1 X B (.For tg (.Call (.Name "range" rp) [e] [] rpos) body [] pos) ss k :=
  ⟨PSimp (ps_for hp hc (pi_range1 hg hm (pa_cons h.p pa_nil hse) hse) pg_any pss_any hs) fun D σ H ⟨s, h1, h2, h3, h4⟩ => ⟨s, fun v d s1 H1 ⟨n, q1, ⟨n1, n2⟩, Iv, i0, i1, i2⟩ sat1 e1 r1 => by
    subst q1
    cases r1
    refine ⟨n, rfl, n1, n2, for_range (lo := 0) (n := n.toNat) (fun i σ' H' => ∃ s', Iv i s' ∧ Sat B s' σ' H' ∧ Ext (ow s1.cs) H1 (ow s'.cs) H') ⟨s1, i0, sat1, Ext.refl⟩ (fun i σ' H' hi ⟨s', q', sat', e'⟩ => ?_) fun σ' H' ⟨s', q', sat', e'⟩ => h1 s' σ' H' (i2 s' q') sat' (e1.trans e')⟩
    refine ⟨_, (i1 i s' (by omega) q').p, sat', .int _, fun s2 σ2 q2 c2 sat2 _ => ⟨_, q2.p, sat2, fun s3 σ3 H3 q3 sat3 e3 => ?_, fun v d s3 σ3 H3 q3 sat3 e3 r3 => ?_, fun s3 σ3 H3 q3 sat3 e3 => ?_, fun s3 σ3 H3 q3 sat3 e3 => ?_⟩⟩
    · exact ⟨s3, q3, sat3, e'.trans (by rw [c2] at e3; exact e3)⟩
    · exact h2 v d s3 σ3 H3 q3 sat3 ((e1.trans e').trans (by rw [c2] at e3; exact e3)) r3
    · exact h1 s3 σ3 H3 q3 sat3 ((e1.trans e').trans (by rw [c2] at e3; exact e3))
    · exact ⟨s3, q3, sat3, e'.trans (by rw [c2] at e3; exact e3)⟩⟩⟩
end
end Sx
set_option Elab.async false
set_option linter.all false
set_option maxRecDepth 100000
set_option maxHeartbeats 2000000
/-! enumerate(t), t a tuple. -/
namespace Enu
open PySem
open AutoSeq1 (wpAny_loadPart')
theorem newT (l : Addr) (items : Array Value) (n : Nat) (dct : Option Addr) (sl : Array (Option Value)) :
    Meets (Builtin.«enumerate.__new__» ⟨[.type "enumerate", .ref l], []⟩) (fun _ R s => s.heap.get? l = some ({ cls := .type "tuple", dict := dct, data := .seq items n, slots := sl } : Obj) ∧
      R (.ok (.ret (.ref (s.heap.push ({ cls := .type "tuple_iterator", data := .fields #[.ref l, .int 0 0] } : Obj)).objs.size)))
        { s with heap := (s.heap.push ({ cls := .type "tuple_iterator", data := .fields #[.ref l, .int 0 0] } : Obj)).push ({ cls := .type "enumerate", data := .fields #[.none, .bool false, .ref s.heap.objs.size, rawInt 0, .none, .none] } : Obj) }) :=
  .of_wp fun prog w A R s h => by
    obtain ⟨hp, g, d, tk, os⟩ := s
    obtain ⟨hl, h⟩ := h
    have hsub := sub_enumerate
    have hL : Heap.IsTuple (Shared.heap ⟨hp, g, d, tk, os⟩) l items := ⟨_, hl, rfl, n, rfl⟩
    wp_walk using wpAny_loadPart' hl
    refine (wpAny_stack_any fun st => (wpAny_pure ?_))
    split
    · rename_i c _ _ _ _ _
      cases (c == Value.type "enumerate")
      · wp_walk using wpAny_loadPart' hl, wpAny_pyIter_tuple hL
        exact ⟨_, rfl, h⟩
      · wp_walk using wpAny_loadPart' hl, wpAny_pyIter_tuple hL
        exact ⟨_, rfl, h⟩
    · wp_walk using wpAny_loadPart' hl, wpAny_pyIter_tuple hL
      exact ⟨_, rfl, h⟩
theorem call_enumT {prog : Program} {w : World} {A : Around} {E : Value → Shared → Prop} {s : Shared} {l : Addr} {items : Array Value} {Q : Value → Shared → Prop} (hL : s.heap.IsTuple l items)
    (h : ∀ h', IsEnum h' (s.heap.objs.size + 1) s.heap.objs.size 0 .none → h'.IsTupleIter s.heap.objs.size l 0 → (∀ b o, s.heap.get? b = some o → h'.get? b = some o) → Q (.ref (s.heap.objs.size + 1)) { s with heap := h' }) :
    wpAny (model prog w) A (call (.type "enumerate") [.ref l]) Q E s := by
  obtain ⟨⟨c, dct, dt, sl⟩, hl, hc, n, hd⟩ := hL
  obtain rfl : c = .type "tuple" := hc
  obtain rfl : dt = .seq items n := hd
  refine callType_new F.called_enumerate (by decide) (F.typeCall_enumerate_1 _) (F.newCall_enumerate_1 _) (fun obj => F.args_object_init_2 obj _) F.entry_enumerate_new (newT l items n dct sl) ⟨hl, ?_⟩
  have hz : (s.heap.push ({ cls := .type "tuple_iterator", data := .fields #[.ref l, .int 0 0] } : Obj)).objs.size = s.heap.objs.size + 1 := Heap.size_push ..
  show _ ∧ _
  rw [hz]
  have he : IsEnum ((s.heap.push ({ cls := .type "tuple_iterator", data := .fields #[.ref l, .int 0 0] } : Obj)).push
      ({ cls := .type "enumerate", data := .fields #[.none, .bool false, .ref s.heap.objs.size, rawInt 0, .none, .none] } : Obj)) (s.heap.objs.size + 1) s.heap.objs.size 0 .none := by
    have z := Heap.get?_push_size (s.heap.push ({ cls := .type "tuple_iterator", data := .fields #[.ref l, .int 0 0] } : Obj))
      (o := ({ cls := .type "enumerate", data := .fields #[.none, .bool false, .ref s.heap.objs.size, rawInt 0, .none, .none] } : Obj)) rfl
    rw [hz] at z
    exact z
  exact ⟨⟨_, he, rfl⟩, h _ he ⟨_, Heap.get?_push_of_some _ (Heap.get?_push_size _ rfl), rfl, rfl⟩ fun b o x => Heap.get?_push_of_some _ (Heap.get?_push_of_some _ x)⟩
end Enu
namespace Enu
open PySem PySem.Spec PyProof.Rows L2
/-- the tuple at a, each item in a new pair with its place -/
def IteT (K : PySem.W.Frag) (a : Addr) : It :=
  ⟨fun i H => ∃ (xs : List V) (x : V), SqT K H a xs ∧ xs[i]? = some x, fun i H v H' => ∃ T x, v = .ref T ∧ H T = none ∧ H' = upd H T (.tup [.int (i : Nat), x]) ∧ ∀ xs, SqT K H a xs → xs[i]? = some x, fun i H => ∃ xs : List V, SqT K H a xs ∧ xs.length = i⟩
theorem apart {h : Heap} {a it e : Addr} {items : Array Value} {i : Nat} {j : Int} {old : Value} (p : h.IsTuple a items) (hit : h.IsTupleIter it a i) (he : IsEnum h e it j old) : a ≠ it ∧ e ∉ [it, a] ∧ e ≠ it := by
  obtain ⟨o1, e1, c1, _⟩ := p
  obtain ⟨o2, e2, c2, _⟩ := hit
  have n1 : a ≠ it := by
    rintro rfl
    rw [e1] at e2
    cases e2
    rw [c1] at c2
    injection c2 with z
    exact absurd z (by decide)
  have n2 : e ≠ it := by
    rintro rfl
    rw [show h.get? e = _ from he] at e2
    cases e2
    injection c2 with z
    exact absurd z (by decide)
  have n3 : e ≠ a := by
    rintro rfl
    rw [show h.get? e = _ from he] at e1
    cases e1
    injection c1 with z
    exact absurd z (by decide)
  exact ⟨n1, by simp [n2, n3], n2⟩
theorem turn_enumT {P : Program} {w : World} {K : PySem.W.Frag} {elts : List Expr} {kk : Nat} {tpos : Pos} (a e it : Addr) :
    Turn P w K (.Tuple elts kk tpos) (IteT K a) [e, it] e (fun i h => (∃ old, IsEnum h e it ((i : Nat) : Int) old) ∧ h.IsTupleIter it a i ∧ e ≠ it) where
  mem := by simp
  obj := fun i h st b hb => by
    obtain ⟨⟨old, he⟩, ⟨o, ho, hc, hd⟩, _⟩ := st
    rcases (show b = e ∨ b = it by simpa using hb) with rfl | rfl
    · exact ⟨_, he, fun v q => nomatch q⟩
    · exact ⟨o, ho, fun v q => by rw [hd] at q; cases q⟩
  keep := fun i h h' st k => by
    obtain ⟨⟨old, he⟩, hi, hne⟩ := st
    exact ⟨⟨old, k e (by simp) _ he⟩, hi.at fun o q => k it (by simp) o q, hne⟩
  item := by
    intro X hP hw hK hc i pins s σ H E I hf st hg
    subst hP hw hK
    obtain ⟨⟨old, he⟩, hit, hne⟩ := st
    obtain ⟨xs, x, hq, hx⟩ := hg
    obtain ⟨its, rv, p, hz⟩ := I.tuple hq
    obtain ⟨u, hu, ru⟩ := rv.get hx
    obtain ⟨n1, n2, n3⟩ := apart p hit he
    have hel : e < s.heap.objs.size := Heap.lt_size he
    have hil : it < s.heap.objs.size := by
      obtain ⟨_, q, _⟩ := hit
      exact Heap.lt_size q
    have hlt : i < its.toArray.size := by
      have z := (List.getElem?_eq_some_iff.mp hu).1
      simpa using z
    refine wpAny_pyNext_enum_itemD (Draws.tuple (prog := X.prog) (w := X.w) (A := X.A.in1) (I.ok.hd hc) it a n1 its.toArray) he ⟨hit, p⟩ hlt n3 n2 fun y h' tk hP ho hst hT hsz hk => ?_
    obtain rfl : y = u := by
      have z : its.toArray[i]? = some y := hP
      rw [List.getElem?_toArray, hu] at z
      exact (Option.some.inj z).symm
    refine ⟨_, rfl, wpAny_letOwnedTupleGo_enum (s := { s with heap := h', toks := tk + 1 }) ho fun h'' he' sb => ?_⟩
    have hT2 : h''.get? s.heap.objs.size = some ({ cls := .type "tuple", data := .seq #[.int i tk, y] } : Obj) := (sb.2 _ (Nat.ne_of_gt hel)).trans hT
    have made : ObjOk X.prog X.w (upd H s.heap.objs.size (.tup [.int (i : Nat), x])) h'' s.heap.objs.size (.tup [.int (i : Nat), x]) :=
      ⟨by show 2 ≤ sizeLine; decide, [.int i tk, y], .cons ⟨_, rfl⟩ (.cons ru .nil), ⟨_, hT2, rfl, _, rfl⟩⟩
    have I1 : Inv X pins σ (upd H s.heap.objs.size (.tup [.int (i : Nat), x])) { s with heap := h'', toks := tk + 1 } :=
      I.turnedNew (ch := [e, it]) (fun b ob hb q => (sb.2 b (fun z => hb (by simp [z]))).trans (hk b ob (fun z => hb (by simp [z])) (fun z => hb (by simp [z])) q)) hf (Nat.le_refl _) made
    refine ⟨.ref s.heap.objs.size, _, I1, rfl, ⟨_, x, rfl, I.hok.fresh (Nat.le_refl _), rfl, fun ys hy => by rw [I.tuple_inj hy hq]; exact hx⟩, ⟨⟨y, ?_⟩, hst.1.at fun o q => (sb.2 it (Ne.symm hne)).trans q, hne⟩, fun b hb => ?_⟩
    · have e1 : ((i + 1 : Nat) : Int) = (i : Int) + 1 := by omega
      rw [e1]
      exact he'
    · have hb' : b < s.heap.objs.size := by
        rcases (show b = e ∨ b = it by simpa using hb) with rfl | rfl
        · exact hel
        · exact hil
      rw [upd_ne (Nat.ne_of_lt hb')]
      exact (hf b hb).1
  done := by
    intro X hP hw hK hc i pins s σ H E I hf st hg
    subst hP hw hK
    obtain ⟨⟨old, he⟩, hit, hne⟩ := st
    obtain ⟨xs, hq, hx⟩ := hg
    obtain ⟨its, rv, p, hz⟩ := I.tuple hq
    obtain ⟨f0, f1, f2, f3, f4, f5⟩ := hf it (by simp)
    obtain ⟨n1, n2, n3⟩ := apart p hit he
    have hl : i = its.toArray.size := by
      have z := rv.length
      rw [hx] at z
      simpa using z
    subst hl
    exact wpAny_pyNext_enum_endD (Draws.tuple (prog := X.prog) (w := X.w) (A := X.A.in1) (I.ok.hd hc) it a n1 its.toArray) he ⟨hit, p⟩ fun h' eb => ⟨rfl, I.turned (t' := s.toks) (fun b o hb q => eb b o hb q) f0 f1 f3 f4 f5⟩
  self := fun A i s Q E st h => by
    obtain ⟨⟨_, he⟩, _⟩ := st
    exact wpAny_pyIter_enum he h
/-- enumerate of a list or a tuple -/
def iEnumA (K : PySem.W.Frag) (ta : TA) : TI := fun σ H R => ta σ H fun vs H1 => ∃ a xs, vs = [.ref a] ∧ ((SqL K H1 a xs ∧ R (Ite K a) H1) ∨ (SqT K H1 a xs ∧ R (IteT K a) H1))
theorem pi_enumA {X : Cx} {e : Expr} {ta : TA} {p pos tpos : Pos} {elts : List Expr} {kk : Nat} (hg : Gl X "enumerate") (hm : X.mg "enumerate" = none) (ha : PA X [e] ta) (hs : starEach [e] X.env = [(false, eval e X.env)] := by rfl) :
    PI X (.Tuple elts kk tpos) (.Call (.Name "enumerate" p) [e] [] pos) (iEnumA X.K ta) := by
  refine ⟨fun pins s σ H R I h => ?_⟩
  refine (Call_ (ld_blt I hg hm boot_enumerate (PyProof.Rows.callWith_type1 (thn (ha.run pos pins s σ H _ I h) fun us s1 q0 => ?_) hs rfl)))
  obtain ⟨vs, H1, I1, r1, a, xs, rfl, q⟩ := q0
  cases r1 with
  | cons r rr =>
    cases rr
    cases r
    have new2 : ∀ b, b ∈ [s1.heap.objs.size + 1, s1.heap.objs.size] → FpOk X pins H1 b := fun b hb => by
      have hle : s1.heap.objs.size ≤ b := by
        rcases (show b = s1.heap.objs.size + 1 ∨ b = s1.heap.objs.size by simpa using hb) with rfl | rfl
        · exact Nat.le_add_right _ _
        · exact Nat.le_refl _
      exact I1.fpOk hle (I1.hok.fresh hle)
    rcases q with ⟨hq, q⟩ | ⟨hq, q⟩
    · obtain ⟨its, rv, p', hz⟩ := I1.list hq
      refine call_enumerate_list p'.isList fun h' he hit hsz hk => wpAny_pyIter_enum he ?_
      have I2 : Inv X pins σ H1 { s1 with heap := h' } := I1.kept (t' := s1.toks) hk
      exact ⟨_, _, _, _, H1, rfl, I2, turn_enum a (s1.heap.objs.size + 1) s1.heap.objs.size, ⟨⟨.none, he⟩, hit, Nat.succ_ne_self _⟩, new2, q⟩
    · obtain ⟨its, rv, p', hz⟩ := I1.tuple hq
      refine call_enumT p' fun h' he hit hk => wpAny_pyIter_enum he ?_
      have I2 : Inv X pins σ H1 { s1 with heap := h' } := I1.kept (t' := s1.toks) hk
      exact ⟨_, _, _, _, H1, rfl, I2, turn_enumT a (s1.heap.objs.size + 1) s1.heap.objs.size, ⟨⟨.none, he⟩, hit, Nat.succ_ne_self _⟩, new2, q⟩
theorem walk_enumT {K : PySem.W.Frag} {a : Addr} {xs : List V} : Walk (IteT K a) xs.length (fun H => SqT K H a xs) (YPair (fun i => some (.int (i : Nat))) (fun i => xs[i]?)) := by
  refine ⟨fun i H hi q => ⟨xs, xs[i], q, by simp [hi]⟩, fun H q => ⟨xs, q, rfl⟩, fun i H v H' hi q y => ?_⟩
  obtain ⟨T, x, h1, h2, h3, h4⟩ := y
  exact ⟨T, _, x, h1, h2, h3, rfl, h4 xs q⟩
end Enu
set_option Elab.async false
set_option linter.all false
set_option maxRecDepth 100000
set_option maxHeartbeats 2000000
namespace Sx
open PySem PySem.Spec PyProof.Rows L2
theorem kit_NoneType_int {K : PySem.W.Frag} : PySem.W.kitOne K (.type "NoneType") (.type "int") = some false := kit_ty (by kernel_rfl)
theorem kit_NoneType_bool {K : PySem.W.Frag} : PySem.W.kitOne K (.type "NoneType") (.type "bool") = some false := kit_ty (by kernel_rfl)
theorem kit_NoneType_str {K : PySem.W.Frag} : PySem.W.kitOne K (.type "NoneType") (.type "str") = some false := kit_ty (by kernel_rfl)
theorem kit_NoneType_list {K : PySem.W.Frag} : PySem.W.kitOne K (.type "NoneType") (.type "list") = some false := kit_ty (by kernel_rfl)
theorem kit_NoneType_tuple {K : PySem.W.Frag} : PySem.W.kitOne K (.type "NoneType") (.type "tuple") = some false := kit_ty (by kernel_rfl)
theorem kit_NoneType_dict {K : PySem.W.Frag} : PySem.W.kitOne K (.type "NoneType") (.type "dict") = some false := kit_ty (by kernel_rfl)
theorem kit_bool_int {K : PySem.W.Frag} : PySem.W.kitOne K (.type "bool") (.type "int") = some true := kit_ty (by kernel_rfl)
theorem kit_bool_bool {K : PySem.W.Frag} : PySem.W.kitOne K (.type "bool") (.type "bool") = some true := kit_ty (by kernel_rfl)
theorem kit_bool_str {K : PySem.W.Frag} : PySem.W.kitOne K (.type "bool") (.type "str") = some false := kit_ty (by kernel_rfl)
theorem kit_bool_list {K : PySem.W.Frag} : PySem.W.kitOne K (.type "bool") (.type "list") = some false := kit_ty (by kernel_rfl)
theorem kit_bool_tuple {K : PySem.W.Frag} : PySem.W.kitOne K (.type "bool") (.type "tuple") = some false := kit_ty (by kernel_rfl)
theorem kit_bool_dict {K : PySem.W.Frag} : PySem.W.kitOne K (.type "bool") (.type "dict") = some false := kit_ty (by kernel_rfl)
theorem kit_int_int {K : PySem.W.Frag} : PySem.W.kitOne K (.type "int") (.type "int") = some true := kit_ty (by kernel_rfl)
theorem kit_int_bool {K : PySem.W.Frag} : PySem.W.kitOne K (.type "int") (.type "bool") = some false := kit_ty (by kernel_rfl)
theorem kit_int_str {K : PySem.W.Frag} : PySem.W.kitOne K (.type "int") (.type "str") = some false := kit_ty (by kernel_rfl)
theorem kit_int_list {K : PySem.W.Frag} : PySem.W.kitOne K (.type "int") (.type "list") = some false := kit_ty (by kernel_rfl)
theorem kit_int_tuple {K : PySem.W.Frag} : PySem.W.kitOne K (.type "int") (.type "tuple") = some false := kit_ty (by kernel_rfl)
theorem kit_int_dict {K : PySem.W.Frag} : PySem.W.kitOne K (.type "int") (.type "dict") = some false := kit_ty (by kernel_rfl)
theorem kit_str_int {K : PySem.W.Frag} : PySem.W.kitOne K (.type "str") (.type "int") = some false := kit_ty (by kernel_rfl)
theorem kit_str_bool {K : PySem.W.Frag} : PySem.W.kitOne K (.type "str") (.type "bool") = some false := kit_ty (by kernel_rfl)
theorem kit_str_str {K : PySem.W.Frag} : PySem.W.kitOne K (.type "str") (.type "str") = some true := kit_ty (by kernel_rfl)
theorem kit_str_list {K : PySem.W.Frag} : PySem.W.kitOne K (.type "str") (.type "list") = some false := kit_ty (by kernel_rfl)
theorem kit_str_tuple {K : PySem.W.Frag} : PySem.W.kitOne K (.type "str") (.type "tuple") = some false := kit_ty (by kernel_rfl)
theorem kit_str_dict {K : PySem.W.Frag} : PySem.W.kitOne K (.type "str") (.type "dict") = some false := kit_ty (by kernel_rfl)
theorem kit_list_int {K : PySem.W.Frag} : PySem.W.kitOne K (.type "list") (.type "int") = some false := kit_ty (by kernel_rfl)
theorem kit_list_bool {K : PySem.W.Frag} : PySem.W.kitOne K (.type "list") (.type "bool") = some false := kit_ty (by kernel_rfl)
theorem kit_list_str {K : PySem.W.Frag} : PySem.W.kitOne K (.type "list") (.type "str") = some false := kit_ty (by kernel_rfl)
theorem kit_list_list {K : PySem.W.Frag} : PySem.W.kitOne K (.type "list") (.type "list") = some true := kit_ty (by kernel_rfl)
theorem kit_list_tuple {K : PySem.W.Frag} : PySem.W.kitOne K (.type "list") (.type "tuple") = some false := kit_ty (by kernel_rfl)
theorem kit_list_dict {K : PySem.W.Frag} : PySem.W.kitOne K (.type "list") (.type "dict") = some false := kit_ty (by kernel_rfl)
theorem kit_tuple_int {K : PySem.W.Frag} : PySem.W.kitOne K (.type "tuple") (.type "int") = some false := kit_ty (by kernel_rfl)
theorem kit_tuple_bool {K : PySem.W.Frag} : PySem.W.kitOne K (.type "tuple") (.type "bool") = some false := kit_ty (by kernel_rfl)
theorem kit_tuple_str {K : PySem.W.Frag} : PySem.W.kitOne K (.type "tuple") (.type "str") = some false := kit_ty (by kernel_rfl)
theorem kit_tuple_list {K : PySem.W.Frag} : PySem.W.kitOne K (.type "tuple") (.type "list") = some false := kit_ty (by kernel_rfl)
theorem kit_tuple_tuple {K : PySem.W.Frag} : PySem.W.kitOne K (.type "tuple") (.type "tuple") = some true := kit_ty (by kernel_rfl)
theorem kit_tuple_dict {K : PySem.W.Frag} : PySem.W.kitOne K (.type "tuple") (.type "dict") = some false := kit_ty (by kernel_rfl)
theorem kit_dict_int {K : PySem.W.Frag} : PySem.W.kitOne K (.type "dict") (.type "int") = some false := kit_ty (by kernel_rfl)
theorem kit_dict_bool {K : PySem.W.Frag} : PySem.W.kitOne K (.type "dict") (.type "bool") = some false := kit_ty (by kernel_rfl)
theorem kit_dict_str {K : PySem.W.Frag} : PySem.W.kitOne K (.type "dict") (.type "str") = some false := kit_ty (by kernel_rfl)
theorem kit_dict_list {K : PySem.W.Frag} : PySem.W.kitOne K (.type "dict") (.type "list") = some false := kit_ty (by kernel_rfl)
theorem kit_dict_tuple {K : PySem.W.Frag} : PySem.W.kitOne K (.type "dict") (.type "tuple") = some false := kit_ty (by kernel_rfl)
theorem kit_dict_dict {K : PySem.W.Frag} : PySem.W.kitOne K (.type "dict") (.type "dict") = some true := kit_ty (by kernel_rfl)
section
variable {X : Cx} {B : Bs} {ss : SS} {Q : D → SS → Prop} {T : Bool → SS → Prop} {L : List D → SS → Prop} {k : Kt} {a b c e o : Expr} {es : List Expr} {pos p apos : Pos} {CX : CXT} {n : Nat} {x m : Str} {C : Addr} {ps : List Str} {F : FT}
/-! ### types -/
inductive TyD (K : PySem.W.Frag) : D → Cs → Value → Prop where
  | non {cs} : TyD K .non cs (.type "NoneType")
  | bl {b cs} : TyD K (.bl b) cs (.type "bool")
  | int {i cs} : TyD K (.int i) cs (.type "int")
  | str {x cs} : TyD K (.str x) cs (.type "str")
  | lst {ds cs} : TyD K (.lst ds) cs (.type "list")
  | tup {ds cs} : TyD K (.tup ds) cs (.type "tuple")
  | dct0 {cs} : TyD K .dct0 cs (.type "dict")
  | obj {C fs cs} (i : Vls.Ins K C) (c : Cls K C) : TyD K (.obj C fs) cs (.ref C)
  | ownI {a C fs cs} (j : Nat) (e : (cs : Cs)[j]? = some (a, .ins C fs)) (i : Vls.Ins K C) (c : Cls K C) : TyD K (.own a) cs (.ref C)
  | ownL {a ds cs} (j : Nat) (e : (cs : Cs)[j]? = some (a, Cell.lst ds)) : TyD K (.own a) cs (.type "list")
theorem TyD.ty {K : PySem.W.Frag} {H : Hp} {d : D} {cs : Cs} {t : Value} {v : V} (h : TyD K d cs t) (ok : CsOk H cs) (r : Vl H (ow cs) v d) : TyX K H v t := by
  cases h with
  | non => cases r; exact .base .non
  | bl => cases r; exact .base (.bl _)
  | int => cases r; exact .base (.int _)
  | str => cases r; exact .base (.str _)
  | lst => cases r with | lst e n r => exact .base (.lst e)
  | tup => cases r with | tup e n r => exact .base (.tup e)
  | dct0 => cases r with | dct0 e n => exact .base (.dK e)
  | obj i c => cases r with | obj e n r => exact i.ty c e
  | ownI j e i c =>
    cases r
    obtain ⟨dx, vs, h1, _⟩ := ok.ok _ _ (List.mem_of_getElem? e)
    exact i.ty c h1
  | ownL j e =>
    cases r
    obtain ⟨vs, h1, _⟩ := ok.ok _ _ (List.mem_of_getElem? e)
    exact .base (.lst h1)
theorem cl_isi {d : D} {v : V} {t u : Value} {b : Bool} (hc : ClsV v u) (ht : TyD X.K d ss.cs t) (he : PySem.W.kitOne X.K t u = some b) (q : Q (.bl b) ss) : ClD X B (.builtin "isinstance") [d, .raw v] ss Q := fun vs σ H QQ s r k => by
  obtain ⟨v1, v2, rfl, r1, r2⟩ := vl2 r
  cases r2
  exact ⟨_, call_isi, _, _, t, u, b, rfl, hc, ht.ty s.ok r1, he, k _ _ _ _ q s Ext.refl (.bl _)⟩
/-! ### own operators -/
/-- an instance unchanged, or a cell -/
inductive InsD (C : Addr) : D → Cs → Prop where
  | obj {fs cs} : InsD C (.obj C fs) cs
  | own {a fs cs} (j : Nat) (e : (cs : Cs)[j]? = some (a, .ins C fs)) : InsD C (.own a) cs
theorem InsD.at_ {H : Hp} {cs : Cs} {v : V} {d : D} (i : InsD C d cs) (ok : CsOk H cs) (r : Vl H (ow cs) v d) : ∃ a dx fs, v = .ref a ∧ H a = some (.ins C dx fs) := by
  cases i with
  | obj =>
    cases r with
    | obj e n r => exact ⟨_, _, _, rfl, e⟩
  | own j e =>
    cases r
    obtain ⟨dx, vs, e1, r1⟩ := ok.ok _ _ (List.mem_of_getElem? e)
    exact ⟨_, dx, vs, rfl, e1⟩
theorem op_spF {E' : XK} {KE' : Addr → List (Str × D) → Cs → Prop} (xs : Exs B E' KE') {f : Value → Value → Sem Value} {d1 d2 : D} (R : D → Cs → Prop) (h : F [d1, d2] ss.cs R KE') {v1 v2 : V} {σ : L2.St} {H : Hp} {QQ : VK} (s : Sat B ss σ H) (r1 : Vl H (ow ss.cs) v1 d1) (r2 : Vl H (ow ss.cs) v2 d2)
    (k : ∀ v d H' cs', R d cs' → Sat B ⟨ss.sl, cs'⟩ σ H' → Ext (ow ss.cs) H (ow cs') H' → Vl H' (ow cs') v d → QQ v H') : spF F [v1, v2] H QQ E' :=
  ⟨[d1, d2], ss.cs, R, _, .cons r1 (.cons r2 .nil), s.ok, h, fun v d H' cs' q e ok rv => k v d H' cs' q (s.cs e ok) e rv, fun C fs cs' x vs H' q e ok hx rf => xs.go s q e ok hx rf⟩
theorem od_eqO {E' : XK} {KE' : Addr → List (Str × D) → Cs → Prop} {f : Addr} (xs : Exs B E' KE') {fd : FuncData} {d1 d2 : D} {t : Value} (m : Meth X.K C "__eq__" f) (G : FnOk X.prog X.w X.K X.mg X.base CX n f fd ["self", "other"] (spF F)) (hb : L2.Binds X.K fd ["self", "other"] []) (hr : Room n X.A) (hx : Passes CX X E')
    (i : InsD C d1 ss.cs) (ht : TyD X.K d2 ss.cs t) (nf : PySem.W.notFirst X.K C t = true) (h : F [d1, d2] ss.cs (fun d cs => IsB d fun b => Q (.bl b) ⟨ss.sl, cs⟩) KE') : OpD X B (compareOp .Eq) d1 d2 ss Q := fun v1 v2 σ H QQ s r1 r2 k => by
  obtain ⟨a, dx, fs, rfl, ea⟩ := i.at_ s.ok r1
  refine ⟨_, Oeq.op_eqX m G hb hr hx, a, dx, fs, t, rfl, ea, ht.ty s.ok r2, nf, op_spF xs (f := compareOp .Eq) _ h s r1 r2 fun v d H' cs' q sat' e r => ?_⟩
  obtain ⟨b, rfl, q⟩ := q
  cases r
  exact ⟨b, rfl, k _ _ _ _ q sat' e (.bl _)⟩
theorem od_neO {E' : XK} {KE' : Addr → List (Str × D) → Cs → Prop} {f : Addr} (xs : Exs B E' KE') {fd : FuncData} {d1 d2 : D} {t : Value} (m : Meth X.K C "__eq__" f) (G : FnOk X.prog X.w X.K X.mg X.base CX n f fd ["self", "other"] (spF F)) (hb : L2.Binds X.K fd ["self", "other"] []) (hr : Room (n + 2) X.A) (hx : Passes CX X E')
    (hne : PySem.W.findIn X.K (.ref C) "__ne__" = some (some (.builtin "object.__ne__"))) (ho : PySem.W.mroIn X.K C (.type "object") = some true)
    (i : InsD C d1 ss.cs) (ht : TyD X.K d2 ss.cs t) (nf : PySem.W.notFirst X.K C t = true) (h : F [d1, d2] ss.cs (fun d cs => IsB d fun b => Q (.bl (!b)) ⟨ss.sl, cs⟩) KE') : OpD X B (compareOp .NotEq) d1 d2 ss Q := fun v1 v2 σ H QQ s r1 r2 k => by
  obtain ⟨a, dx, fs, rfl, ea⟩ := i.at_ s.ok r1
  refine ⟨_, Oeq.op_neX m G hb hr hx hne ho, a, dx, fs, t, rfl, ea, ht.ty s.ok r2, nf, op_spF xs (f := compareOp .NotEq) _ h s r1 r2 fun v d H' cs' q sat' e r => ?_⟩
  obtain ⟨b, rfl, q⟩ := q
  cases r
  exact ⟨b, rfl, k _ _ _ _ q sat' e (.bl _)⟩
/-! ### comprehensions -/
/-- in whatever block of the comprehension -/
def Blk (X : Cx) (scope : Scope) (P : Cx → Prop) : Prop := ∀ (s : Shared) (H : Hp) (D : Addr) (cl : List (Str × Addr)) (fp : List Addr), P (X.blk s H scope (compEnvC scope cl D X.env) fp)
def wipeD : List (Option D) → List Nat → List (Option D)
  | s, [] => s
  | s, v :: vs => (wipeD s vs).set v none
theorem wipeD_len (s : List (Option D)) : ∀ vs, (wipeD s vs).length = s.length
  | [] => rfl
  | v :: vs => by unfold wipeD; rw [List.length_set, wipeD_len s vs]
theorem wipeD_get {s : List (Option D)} {i : Nat} {d : D} : ∀ {vs : List Nat}, (wipeD s vs)[i]? = some (some d) → s[i]? = some (some d) ∧ i ∉ vs
  | [], h => ⟨h, by simp⟩
  | v :: vs, h => by
    unfold wipeD at h
    by_cases z : v = i
    · subst z
      rw [List.getElem?_set] at h
      split at h
      · split at h <;> cases h
      · exact absurd rfl ‹_›
    · rw [List.getElem?_set_ne z] at h
      obtain ⟨h1, h2⟩ := wipeD_get h
      exact ⟨h1, fun q => (List.mem_cons.mp q).elim (fun q => z q.symm) h2⟩
theorem sat_wipe {σ : L2.St} {H : Hp} {sl : List (Option D)} {cs : Cs} (s : Sat B ⟨sl, cs⟩ σ H) (vs : List Nat) : Sat B ⟨wipeD sl vs, cs⟩ (wipe σ vs) H := by
  refine ⟨by rw [wipe_length, s.len, wipeD_len], fun i d h => ?_, s.ok, s.ext, s.bok⟩
  obtain ⟨h1, h2⟩ := wipeD_get h
  obtain ⟨v, e, r⟩ := s.sl i d h1
  exact ⟨v, by rw [wipe_out h2]; exact e, r⟩
theorem sat_unwipe {σ : L2.St} {H : Hp} {sl s2 : List (Option D)} {cs cs2 : Cs} (s : Sat B ⟨sl, cs⟩ σ H) {H2 : Hp} (ok : CsOk H2 cs2) (e : Ext (ow cs) H (ow cs2) H2) : Sat B ⟨sl, cs2⟩ σ H2 := s.cs e ok
theorem wipe_outs {vs : List Nat} {σ σ2 : L2.St} (h : Outs vs σ σ2) : wipe σ2 vs = wipe σ vs := by
  apply List.ext_getElem?
  intro i
  by_cases z : i ∈ vs
  · have none_at : ∀ (τ : L2.St) (ws : List Nat), i ∈ ws → (wipe τ ws)[i]? = if i < τ.length then some none else none := by
      intro τ ws
      induction ws with
      | nil => intro h; cases h
      | cons w ws ih =>
        intro hm
        unfold wipe
        by_cases q : w = i
        · subst q
          rw [List.getElem?_set]
          simp [wipe_length]
        · rw [List.getElem?_set_ne q]
          exact ih ((List.mem_cons.mp hm).resolve_left fun e => q e.symm)
    rw [none_at _ _ z, none_at _ _ z, h.1]
  · rw [wipe_out z, wipe_out z]
    exact h.2 i z
theorem wipe_wipe {vs : List Nat} {σ : L2.St} : wipe (wipe σ vs) vs = wipe σ vs := by
  have h : Outs vs σ (wipe σ vs) := ⟨wipe_length σ vs, fun i z => wipe_out z⟩
  exact wipe_outs h
structure TsW (X : Cx) (B : Bs) (ifs : List Expr) (ss : SS) (Q : Bool → SS → Prop) : Prop where
  p : PTs X ifs (tT B ss Q)
theorem ts_nil (q : T true ss) : TsW X B [] ss T := ⟨fun pins s σ H Q I ⟨sat, k⟩ => pts_nil.run pins s σ H Q I (k _ _ _ q sat Ext.refl)⟩ |> fun h => ⟨h⟩
theorem ts_one (h : TW X B c ss T) : TsW X B [c] ss T := ⟨pts_one h.p⟩
end
end Sx
set_option Elab.async false
set_option linter.all false
set_option maxRecDepth 100000
set_option maxHeartbeats 2000000
namespace Sx
open PySem PySem.Spec PyProof.Rows L2
section
variable {X : Cx} {B : Bs} {ss : SS} {Q : D → SS → Prop} {T : Bool → SS → Prop} {L : List D → SS → Prop} {k : Kt} {a b c e o elt tg iter : Expr} {es ifs : List Expr} {pos p apos : Pos} {CX : CXT} {n : Nat} {x m : Str} {C : Addr} {ps : List Str} {F : FT} {scope : Scope}
/-- what a block's elt gives, in whatever block -/
def teB (X : Cx) (scope : Scope) (e : Expr) : TE := fun σ H Q => ∃ t, Blk X scope (fun X' => PE X' e t) ∧ t σ H Q
def ttB (X : Cx) (scope : Scope) (ifs : List Expr) : TT := fun σ H Q => ∃ t, Blk X scope (fun X' => PTs X' ifs t) ∧ t σ H Q
def tgB (X : Cx) (scope : Scope) (e : Expr) : TG := fun v σ H Q => ∃ t, Blk X scope (fun X' => PG X' e t) ∧ t v σ H Q
theorem pe_blk {e : Expr} : Blk X scope fun X' => PE X' e (teB X scope e) := fun s H D cl fp => ⟨fun pins s σ H Q I ⟨_, h, q⟩ => (h _ _ _ _ _).run pins s σ H Q I q⟩
theorem pt_blk {ifs : List Expr} : Blk X scope fun X' => PTs X' ifs (ttB X scope ifs) := fun s H D cl fp => ⟨fun pins s σ H Q I ⟨_, h, q⟩ => (h _ _ _ _ _).run pins s σ H Q I q⟩
theorem pg_blk {e : Expr} : Blk X scope fun X' => PG X' e (tgB X scope e) := fun s H D cl fp => ⟨fun pins s σ H v u Q I r ⟨_, h, q⟩ => (h _ _ _ _ _).run pins s σ H v u Q I r q⟩
/-- a turn: from the cells cs and what is made so far -/
def LcTurn (X : Cx) (B : Bs) (scope : Scope) (elt tg : Expr) (ifs : List Expr) (vs : List Nat) (jx : Nat) (sl : List (Option D)) (dj : D) (acc : List D) (cs : Cs) (Nx : List D → Cs → Prop) : Prop :=
  ∀ l, Blk X scope fun X' => TgW X' B tg dj vs ⟨wipeD sl vs, insAt jx cs (l, Cell.lst acc)⟩ fun s2 => Blk X scope fun X' => TsW X' B ifs s2 fun b s3 =>
    Br b (Blk X scope fun X' => EW X' B elt s3 fun r s4 => ∃ cs4, s4.cs = insAt jx cs4 (l, Cell.lst acc) ∧ Nx (acc ++ [r]) cs4) (∃ cs4, s3.cs = insAt jx cs4 (l, Cell.lst acc) ∧ Nx acc cs4)
/-- the state of a loop that makes a list at l -/
structure LcAt (B : Bs) (sl : List (Option D)) (cs1 : Cs) (H1 : Hp) (vs : List Nat) (σ : L2.St) (jx : Nat) (l : Addr) (acc : List D) (cs : Cs) (H : Hp) : Prop where
  sat : Sat B ⟨wipeD sl vs, insAt jx cs (l, Cell.lst acc)⟩ (wipe σ vs) H
  ext : Ext (ow cs1) H1 (ow (insAt jx cs (l, Cell.lst acc))) H
theorem nth_insAt : ∀ (j : Nat) (cs : Cs) (c : Addr × Cell), ∃ i : Nat, (insAt j cs c)[i]? = some c ∧ (insAt j cs c).eraseIdx i = cs ∧ ∀ c', (insAt j cs c).set i c' = insAt j cs c'
  | 0, cs, c => ⟨0, rfl, rfl, fun _ => rfl⟩
  | j + 1, [], c => ⟨0, rfl, rfl, fun _ => rfl⟩
  | j + 1, a :: r, c => by
    obtain ⟨i, h1, h2, h3⟩ := nth_insAt j r c
    refine ⟨i + 1, h1, ?_, fun c' => ?_⟩
    · show a :: (insAt j r c).eraseIdx i = a :: r
      rw [h2]
    · show a :: (insAt j r c).set i c' = a :: insAt j r c'
      rw [h3]
theorem drop_insAt {H : Hp} {j : Nat} {cs : Cs} {l : Addr} {c : Cell} (ok : CsOk H (insAt j cs (l, c))) : CsOk H cs ∧ Ext (ow (insAt j cs (l, c))) H (ow cs) H ∧ ¬ ow cs l ∧ CellOk H (ow cs) l c := by
  obtain ⟨i, h1, h2, _⟩ := nth_insAt j cs (l, c)
  have z := erase_ok ok h1
  rw [h2] at z
  exact z
theorem lc_go {vs : List Nat} {σ : L2.St} {H1 Hj : Hp} {sl : List (Option D)} {cs1 : Cs} {jx : Nat} {l : Addr} {dj : D} {v : V} {acc : List D} {cs : Cs} {Nx : List D → Cs → Prop} {NQ : Hp → Prop} (hlen : acc.length < sizeLine) (st : LcAt B sl cs1 H1 vs σ jx l acc cs Hj) (rv : Vl Hj (ow (insAt jx cs (l, Cell.lst acc))) v dj)
    (turn : LcTurn X B scope elt tg ifs vs jx sl dj acc cs Nx) (hN : ∀ acc' cs' H', Nx acc' cs' → LcAt B sl cs1 H1 vs σ jx l acc' cs' H' → NQ H') :
    tgB X scope tg v (wipe σ vs) Hj fun σ2 H2 => wipe σ2 vs = wipe σ vs ∧ ttB X scope ifs σ2 H2 fun b H3 =>
      if b = true then teB X scope elt σ2 H3 fun y H4 => ∃ acc, H4 l = some (.lst acc) ∧ acc.length < sizeLine ∧ NQ (upd H4 l (.lst (acc ++ [y]))) else NQ H3 := by
  refine ⟨_, fun s H D cl fp => (turn l s H D cl fp).p, st.sat, rv, fun s2 σ2 q2 c2 sat2 o2 => ⟨(wipe_outs o2).trans wipe_wipe, ?_⟩⟩
  refine ⟨_, fun s H D cl fp => (q2 s H D cl fp).p, sat2, fun b s3 H3 q3 sat3 e3 => ?_⟩
  have back : ∀ {acc' : List D} {cs' : Cs} {sx : SS} {H' : Hp}, Sat B sx σ2 H' → sx.cs = insAt jx cs' (l, Cell.lst acc') → Ext (ow s2.cs) Hj (ow sx.cs) H' → LcAt B sl cs1 H1 vs σ jx l acc' cs' H' := fun {acc' cs' sx H'} sat ec e => by
    rw [ec] at e
    rw [c2] at e
    refine ⟨st.sat.cs e (by rw [← ec]; exact sat.ok), st.ext.trans e⟩
  cases b with
  | false =>
    show NQ H3
    obtain ⟨cs4, e4, q4⟩ := q3.2 rfl
    exact hN _ _ _ q4 (back sat3 e4 e3)
  | true =>
    show teB X scope elt σ2 H3 _
    refine ⟨_, fun s H D cl fp => (q3.1 rfl s H D cl fp).p, sat3, fun y d s4 H4 ⟨cs4, e4, q4⟩ sat4 e34 r4 => ?_⟩
    have b4 := back sat4 e4 (e3.trans e34)
    obtain ⟨i, h1, h2, h3⟩ := nth_insAt jx cs4 (l, Cell.lst acc)
    obtain ⟨xs, x1, x2⟩ := b4.sat.ok.ok l _ (List.mem_of_getElem? h1)
    rw [e4] at r4
    obtain ⟨sat5, e5⟩ := b4.sat.mut (c' := Cell.lst (acc ++ [d])) (u := .lst (xs ++ [y])) h1 fun e q => ⟨_, q, (x2.ext e).app (.cons (r4.ext e) .nil)⟩
    rw [h3] at sat5 e5
    exact ⟨xs, x1, by rw [x2.len]; exact hlen, hN _ _ _ q4 ⟨sat5, b4.ext.trans e5⟩⟩
/-- the list is made -/
theorem lc_end {vs : List Nat} {σ : L2.St} {H H1 Hj : Hp} {QQ : VK} {sl : List (Option D)} {cs1 : Cs} {jx : Nat} {l : Addr} {acc : List D} {cs : Cs} (sat1 : Sat B ⟨sl, cs1⟩ σ H1) (e1 : Ext (ow ss.cs) H (ow cs1) H1) (st : LcAt B sl cs1 H1 vs σ jx l acc cs Hj)
    (k : ∀ v d ss' H', Q d ss' → Sat B ss' σ H' → Ext (ow ss.cs) H (ow ss'.cs) H' → Vl H' (ow ss'.cs) v d → QQ v H') (q : Q (.lst acc) ⟨sl, cs⟩) : QQ (.ref l) Hj := by
  obtain ⟨ok, e, n, xs, x1, x2⟩ := drop_insAt st.sat.ok
  exact k _ _ ⟨sl, cs⟩ Hj q (sat1.cs (st.ext.trans e) ok) (e1.trans (st.ext.trans e)) (.lst x1 n x2)
theorem lc_start {vs : List Nat} {σ : L2.St} {H1 : Hp} {sl : List (Option D)} {cs1 : Cs} {jx : Nat} {l : Addr} (sat1 : Sat B ⟨sl, cs1⟩ σ H1) (hl : H1 l = none) : LcAt B sl cs1 H1 vs σ jx l [] cs1 (upd H1 l (.lst [])) := by
  have S := Pre.Same.upd (o := .lst []) hl
  obtain ⟨ok, e⟩ := sat1.ok.ins (c := Cell.lst []) jx hl S fun M hM e => ⟨[], upd_same, .nil⟩
  exact ⟨(sat_wipe sat1 vs).cs e ok, e⟩
/-- [elt for tg in iter if ..], iter a list -/
theorem ew_lcL (own : List (Str × Nat)) (jx : Nat) (hc : X.calm = true) (hN : X.N.Nodup) (ok : BlkOk X.N X.env.scope scope own)
    (h : EW X B iter ss fun d s => ∃ ds, d = .lst ds ∧ ds.length ≤ sizeLine ∧ ∃ Iv : Nat → List D → Cs → Prop, Iv 0 [] s.cs ∧
      (∀ j dj acc cs, ds[j]? = some dj → Iv j acc cs → acc.length ≤ j ∧ LcTurn X B scope elt tg ifs (own.map (·.2)) jx s.sl dj acc cs (Iv (j + 1))) ∧ ∀ acc cs, Iv ds.length acc cs → Q (.lst acc) ⟨s.sl, cs⟩)
    (hs : ∀ x, foldedSetIterable iter X.env x = pure x := by intro _; rfl) : EW X B (.ListComp elt [⟨tg, iter, ifs, 0⟩] scope pos) ss Q :=
  ⟨PEimp (pe_lc hc hN (pi_list h.p) ok pg_blk pt_blk pe_blk hs) fun σ H QQ ⟨s, k⟩ => ⟨s, fun v d s1 H1 ⟨ds, q1, hl, Iv, i0, i1, i2⟩ sat1 e1 r1 => by
    subst q1
    cases r1 with
    | @lst a xs _ ea n r =>
      refine ⟨a, rfl, ⟨xs, SqL.of ea⟩, fun l hnew => ?_⟩
      refine lc_list (K := X.K) (a := a) (xs := xs) (fun i H' => ∃ acc cs, Iv i acc cs ∧ LcAt B s1.sl s1.cs H1 (own.map (·.2)) σ jx l acc cs H') ⟨[], s1.cs, i0, lc_start sat1 hnew⟩ (fun i H' _ ⟨acc, cs, _, st⟩ => SqL.of (st.ext.kp _ _ n ntL ea)) (fun i y H' hy ⟨acc, cs, q, st⟩ => ?_) fun H' ⟨acc, cs, q, st⟩ => ?_
      · obtain ⟨dj, hd, rd⟩ := r.back hy
        obtain ⟨hacc, turn⟩ := i1 i dj acc cs hd q
        have hi := (List.getElem?_eq_some_iff.mp hd).1
        exact lc_go (by omega) st (rd.ext st.ext) turn fun acc' cs' H'' nq st' => ⟨acc', cs', nq, st'⟩
      · rw [r.len] at q
        exact lc_end (ss := ss) sat1 e1 st k (i2 acc cs q)⟩⟩
theorem ew_lcT (own : List (Str × Nat)) (jx : Nat) (hc : X.calm = true) (hN : X.N.Nodup) (ok : BlkOk X.N X.env.scope scope own)
    (h : EW X B iter ss fun d s => ∃ ds, d = .tup ds ∧ ds.length ≤ sizeLine ∧ ∃ Iv : Nat → List D → Cs → Prop, Iv 0 [] s.cs ∧
      (∀ j dj acc cs, ds[j]? = some dj → Iv j acc cs → acc.length ≤ j ∧ LcTurn X B scope elt tg ifs (own.map (·.2)) jx s.sl dj acc cs (Iv (j + 1))) ∧ ∀ acc cs, Iv ds.length acc cs → Q (.lst acc) ⟨s.sl, cs⟩)
    (hs : ∀ x, foldedSetIterable iter X.env x = pure x := by intro _; rfl) : EW X B (.ListComp elt [⟨tg, iter, ifs, 0⟩] scope pos) ss Q :=
  ⟨PEimp (pe_lc hc hN (pi_tup h.p) ok pg_blk pt_blk pe_blk hs) fun σ H QQ ⟨s, k⟩ => ⟨s, fun v d s1 H1 ⟨ds, q1, hl, Iv, i0, i1, i2⟩ sat1 e1 r1 => by
    subst q1
    cases r1 with
    | @tup a xs _ ea n r =>
      refine ⟨a, rfl, ⟨xs, SqT.of ea⟩, fun l hnew => ?_⟩
      refine lc_tup (K := X.K) (a := a) (xs := xs) (fun i H' => ∃ acc cs, Iv i acc cs ∧ LcAt B s1.sl s1.cs H1 (own.map (·.2)) σ jx l acc cs H') ⟨[], s1.cs, i0, lc_start sat1 hnew⟩ (fun i H' _ ⟨acc, cs, _, st⟩ => SqT.of (st.ext.kp _ _ n ntT ea)) (fun i y H' hy ⟨acc, cs, q, st⟩ => ?_) fun H' ⟨acc, cs, q, st⟩ => ?_
      · obtain ⟨dj, hd, rd⟩ := r.back hy
        obtain ⟨hacc, turn⟩ := i1 i dj acc cs hd q
        have hi := (List.getElem?_eq_some_iff.mp hd).1
        exact lc_go (by omega) st (rd.ext st.ext) turn fun acc' cs' H'' nq st' => ⟨acc', cs', nq, st'⟩
      · rw [r.len] at q
        exact lc_end (ss := ss) sat1 e1 st k (i2 acc cs q)⟩⟩
end
end Sx
set_option Elab.async false
set_option linter.all false
set_option maxRecDepth 100000
set_option maxHeartbeats 2000000
/-! C(*y). -/
namespace Mks
open PySem PySem.Spec PyProof.Rows L2 StX
section
variable {X : Cx} {CX : CXT} {k : Nat} {f C : Addr} {sp : Sp} {E : XK} {x : Str} {e : Expr} {te : TE} {p sp_ pos : Pos}
def tMakeS (K : PySem.W.Frag) (C : Addr) (sp : Sp) (E : XK) (te : TE) : TE := fun σ H Q => te σ H fun y H1 => ∃ a xs, y = V.ref a ∧ (SqT K H1 a xs ∨ SqL K H1 a xs) ∧ ∀ x dx, H1 x = none → H1 dx = none → dx ≠ x →
  sp (V.ref x :: xs) (upd (upd H1 dx (.own x)) x (.ins C dx [])) (fun v H2 => v = .non ∧ Q (.ref x) H2) E
theorem pe_makeS (M : Mk X.K C f) (F : FnR X.prog X.w X.K X.mg X.base CX k f sp) (hr : Room (k + 1) X.A) (hg : Gl X x) (hm : X.mg x = some (.ref C)) (hx : Passes CX X E) (he : PE X e te) (hd : (x == ("__debug__" : Str)) = false := by decide)
    (hst : starEach [.Starred e sp_] X.env = [(true, eval e X.env)] := by rfl) : PE X (.Call (.Name x p) [.Starred e sp_] [] pos) (tMakeS X.K C sp E te) := by
  refine ⟨fun pins s σ H Q I h => ?_⟩
  refine (wpAny_Call_Name_kw (ld_glob I hg hm ?_ hd))
  refine PySem.W.callWith_S (h₀ := X.base) I.ok.mod.kin M.kp (thn (he.run pins s σ H _ I h) ?_) hst
  rintro v s1 ⟨y, H1, I1, ry, a, xs, rfl, hxs, q⟩
  obtain rfl : v = Value.ref a := ry
  exact star_any I1 hxs fun us s2 I2 rv => ⟨I2.kIn, run_makeR M F hr hx I2 rv q⟩
end
end Mks
set_option Elab.async false
set_option linter.all false
set_option maxRecDepth 100000
set_option maxHeartbeats 2000000
namespace Sx
open PySem PySem.Spec PyProof.Rows L2
section
variable {X : Cx} {B : Bs} {ss : SS} {Q : D → SS → Prop} {T : Bool → SS → Prop} {L : List D → SS → Prop} {k : Kt} {a b c e o elt tg iter : Expr} {es ifs : List Expr} {pos p apos p' : Pos} {CX : CXT} {n : Nat} {x m f : Str} {C : Addr} {ps : List Str} {F : FT} {scope : Scope}
/-! ### own operators, len, properties -/
theorem od_ownT {E' : XK} {KE' : Addr → List (Str × D) → Cs → Prop} (xs : Exs B E' KE') {op : Operator} {g : Addr} {fd : FuncData} {d1 d2 : D} {T : String} (bt : Owp.BinT X.K C g op T) (G : FnOk X.prog X.w X.K X.mg X.base CX n g fd ps (spF F)) (hb : L2.Binds X.K fd ps []) (hr : Room n X.A) (hx : Passes CX X E')
    (i : InsD C d1 ss.cs) (ht : TyD X.K d2 ss.cs (.type T)) (h : F [d1, d2] ss.cs (fun d cs => Q d ⟨ss.sl, cs⟩) KE') : OpD X B (binaryOp op) d1 d2 ss Q := fun v1 v2 σ H QQ s r1 r2 k => by
  obtain ⟨a, dx, fs, rfl, ea⟩ := i.at_ s.ok r1
  exact ⟨_, Owp.op_own bt G hb hr hx, a, dx, fs, rfl, ea, ht.ty s.ok r2, op_spF xs (f := binaryOp op) _ h s r1 r2 fun v d H' cs' q sat' e r => k v d _ H' q sat' e r⟩
theorem cl_lenI {E' : XK} {KE' : Addr → List (Str × D) → Cs → Prop} (xs : Exs B E' KE') {g : Addr} {fd : FuncData} {d : D} (m : Meth X.K C "__len__" g) (G : FnOk X.prog X.w X.K X.mg X.base CX n g fd ["self"] (spF F)) (hb : L2.Binds X.K fd ["self"] []) (hr : Room (n + 1) X.A) (hx : Passes CX X E')
    (i : InsD C d ss.cs) (h : F [d] ss.cs (fun d cs => ∃ j : Int, d = .int j ∧ 0 ≤ j ∧ j < 2 ^ 63 ∧ Q (.int j) ⟨ss.sl, cs⟩) KE') : ClD X B (.builtin "len") [d] ss Q := fun vs σ H QQ s r k => by
  obtain ⟨v, rfl, r1⟩ := vl1 r
  obtain ⟨a, dx, fs, rfl, ea⟩ := i.at_ s.ok r1
  refine ⟨_, Owp.call_lenO m G hb hr hx, a, dx, fs, rfl, ea, [d], ss.cs, _, _, .cons r1 .nil, s.ok, h, fun v d H' cs' q e ok rv => ?_, fun C fs cs' x vs H' q e ok hx rf => xs.go s q e ok hx rf⟩
  obtain ⟨j, rfl, j0, j1, q⟩ := q
  cases rv
  exact ⟨j, rfl, j0, j1, k _ _ _ H' q (s.cs e ok) e (.int _)⟩
theorem ew_prop {E' : XK} {KE' : Addr → List (Str × D) → Cs → Prop} (xs : Exs B E' KE') {pr g : Addr} {fd : FuncData} (hc : Cls X.K C) (hp : PropOf X.K C f pr g) (G : FnOk X.prog X.w X.K X.mg X.base CX n g fd ps (spF F)) (hr : Room (n + 1) X.A) (hb : L2.Binds X.K fd ps []) (hx : Passes CX X.nox E')
    (h : EW X B a ss fun d s => InsD C d s.cs ∧ F [d] s.cs (fun d cs => Q d ⟨s.sl, cs⟩) KE') (hab : attributeBase a f X.env (eval a X.env) = eval a X.env := by rfl) : EW X B (.Attribute a f pos) ss Q :=
  ⟨PEimp (pe_prop h.p hc hp G hr hb .nil hx hab) fun σ H QQ ⟨s, k⟩ => ⟨s, fun v d s1 H1 ⟨i, q1⟩ sat1 e1 r1 => by
    obtain ⟨a, dx, fs, rfl, ea⟩ := i.at_ sat1.ok r1
    exact ⟨a, dx, fs, rfl, ea, sp_go xs sat1 e1 (.cons r1 .nil) k q1⟩⟩⟩
/-! ### [.. for .. in x], x an own instance that gives its tuple's iterator -/
def spItT (C : Addr) (f : Str) : Nat → Sp := fun N vs H Q _ => ∃ a dx fs t xs, vs = [.ref a] ∧ H a = some (.ins C dx fs) ∧ fs.lookup f = some (.ref t) ∧ H t = some (.tup xs) ∧ ∀ it, H it = none → N ≤ it → Q (.ref it) (upd H it (Owp.TIt it t))
theorem del_upd {H : Hp} {a : Addr} {o : HO} (h : H a = none) : L2.del (upd H a o) a = H := by
  funext b
  unfold L2.del
  by_cases e : b = a
  · rw [if_pos e, e, h]
  · rw [if_neg e, upd_ne e]
theorem ew_lcI (own : List (Str × Nat)) (jx : Nat) {g : Addr} {fd : FuncData} (hc : X.calm = true) (hx0 : X.ex = []) (hN : X.N.Nodup) (ok : BlkOk X.N X.env.scope scope own)
    (m : Meth X.K C "__iter__" g) (G : Owp.FnN X.prog X.w X.K X.mg X.base CX n g fd ["self"] (spItT C f)) (hb : L2.Binds X.K fd ["self"] []) (hr : Room n X.A) {E' : XK} (hx : Passes CX X E')
    (h : EW X B iter ss fun d s => ∃ fs ds, d = .obj C fs ∧ fs.lookup f = some (.tup ds) ∧ ds.length ≤ sizeLine ∧ ∃ Iv : Nat → List D → Cs → Prop, Iv 0 [] s.cs ∧
      (∀ j dj acc cs, ds[j]? = some dj → Iv j acc cs → acc.length ≤ j ∧ LcTurn X B scope elt tg ifs (own.map (·.2)) jx s.sl dj acc cs (Iv (j + 1))) ∧ ∀ acc cs, Iv ds.length acc cs → Q (.lst acc) ⟨s.sl, cs⟩)
    (hs : ∀ x, foldedSetIterable iter X.env x = pure x := by intro _; rfl) : EW X B (.ListComp elt [⟨tg, iter, ifs, 0⟩] scope pos) ss Q :=
  ⟨PEimp (pe_lc hc hN (Owp.pi_ownT hx0 m G hb hr hx h.p) ok pg_blk pt_blk pe_blk hs) fun σ H QQ ⟨s, k⟩ => ⟨s, fun v d s1 H1 ⟨fs, ds, q1, hl0, hl, Iv, i0, i1, i2⟩ sat1 e1 r1 => by
    subst q1
    cases r1 with
    | @obj a0 _ dx vs _ eo no ro =>
      obtain ⟨u, hu, ru⟩ := ro.lookup hl0
      cases ru with
      | @tup a xs _ ea n r =>
        refine ⟨a0, dx, vs, rfl, eo, a0, dx, vs, a, xs, rfl, eo, hu, ea, fun it hit hN => ⟨it, a, rfl, upd_same, hN, ?_, ?_⟩⟩
        · rw [del_upd hit]
          exact ⟨xs, SqT.of ea⟩
        · rw [del_upd hit]
          intro l hnew
          refine lc_tup (K := X.K) (a := a) (xs := xs) (fun i H' => ∃ acc cs, Iv i acc cs ∧ LcAt B s1.sl s1.cs H1 (own.map (·.2)) σ jx l acc cs H') ⟨[], s1.cs, i0, lc_start sat1 hnew⟩ (fun i H' _ ⟨acc, cs, _, st⟩ => SqT.of (st.ext.kp _ _ n ntT ea)) (fun i y H' hy ⟨acc, cs, q, st⟩ => ?_) fun H' ⟨acc, cs, q, st⟩ => ?_
          · obtain ⟨dj, hd, rd⟩ := r.back hy
            obtain ⟨hacc, turn⟩ := i1 i dj acc cs hd q
            have hi := (List.getElem?_eq_some_iff.mp hd).1
            exact lc_go (by omega) st (rd.ext st.ext) turn fun acc' cs' H'' nq st' => ⟨acc', cs', nq, st'⟩
          · rw [r.len] at q
            exact lc_end (ss := ss) sat1 e1 st k (i2 acc cs q)⟩⟩
/-! ### classes whose __init__ takes *args -/
theorem sp_make {E' : XK} {KE' : Addr → List (Str × D) → Cs → Prop} (xs : Exs B E' KE') {σ : L2.St} {H H1 : Hp} {QQ : VK} {s1 : SS} {vs : List V} {ds : List D} (sat1 : Sat B s1 σ H1) (e1 : Ext (ow ss.cs) H (ow s1.cs) H1) (r1 : VlL H1 (ow s1.cs) vs ds) (k : ∀ v d ss' H', Q d ss' → Sat B ss' σ H' → Ext (ow ss.cs) H (ow ss'.cs) H' → Vl H' (ow ss'.cs) v d → QQ v H')
    {y dy : Addr} (ny : H1 y = none) (nd : H1 dy = none) (ne : dy ≠ y) (q1 : F (.own y :: ds) ((y, .ins C []) :: s1.cs) (fun d cs => d = .non ∧ ∃ fs cs1, cs = (y, .ins C fs) :: cs1 ∧ Q (.obj C fs) ⟨s1.sl, cs1⟩) (fun Ce fs cs => ∃ c cs1, cs = (y, c) :: cs1 ∧ KE' Ce fs cs1)) :
    spF F (.ref y :: vs) (upd (upd H1 dy (.own y)) y (.ins C dy [])) (fun v H2 => v = .non ∧ QQ (.ref y) H2) E' := by
  obtain ⟨ok2, e2⟩ := made_ok (C := C) sat1.ok ny nd ne
  refine ⟨_, _, _, _, .cons (.own y) (r1.ext e2), ok2, q1, fun v d H' cs' q e ok rv => ?_, fun C fs cs' z vs H' q e ok hz rf => ?_⟩
  · obtain ⟨rfl, fs, cs1, rfl, q⟩ := q
    cases rv
    obtain ⟨ok3, e3, n3, c3⟩ := drop_ok ok
    obtain ⟨dz, vz, h1, h2⟩ := c3
    exact ⟨rfl, k _ _ ⟨s1.sl, cs1⟩ H' q (sat1.cs ((e2.trans e).trans e3) ok3) (e1.trans ((e2.trans e).trans e3)) (.obj h1 n3 h2)⟩
  · obtain ⟨c, cs1, rfl, q⟩ := q
    obtain ⟨ok3, e3, n3, c3⟩ := drop_ok ok
    exact xs.go sat1 q ((e2.trans e).trans e3) ok3 hz (rf.ext e3)
/-- what C(..) is, its __init__ promising F -/
def MkF (F : FT) (C : Addr) (KE' : Addr → List (Str × D) → Cs → Prop) (Q : D → SS → Prop) (ds : List D) (s : SS) : Prop := ∀ y, F (.own y :: ds) ((y, .ins C []) :: s.cs) (fun d cs => d = .non ∧ ∃ fs cs1, cs = (y, .ins C fs) :: cs1 ∧ Q (.obj C fs) ⟨s.sl, cs1⟩) (fun Ce fs cs => ∃ c cs1, cs = (y, c) :: cs1 ∧ KE' Ce fs cs1)
theorem ew_makeR {E' : XK} {KE' : Addr → List (Str × D) → Cs → Prop} (xs : Exs B E' KE') {g : Addr} (M : Mk X.K C g) (G : FnR X.prog X.w X.K X.mg X.base CX n g (spF F)) (hr : Room (n + 1) X.A) (hg : Gl X x) (hm : X.mg x = some (.ref C)) (hx : Passes CX X E') (h : AW X B (e :: es) ss fun ds s => MkF F C KE' Q ds s)
    (hdb : (x == ("__debug__" : Str)) = false := by decide) (he : starEach (e :: es) X.env = (false, eval e X.env) :: starEach es X.env := by rfl) (hpl : (backTo pos (starEach es X.env)).any (·.1) = false := by rfl) : EW X B (.Call (.Name x p) (e :: es) [] pos) ss Q :=
  ⟨PEimp (StX.pe_makeR M G hr hg hm hx h.p hdb he hpl) fun σ H QQ ⟨s, k⟩ => ⟨s, fun vs ds s1 H1 q1 sat1 e1 r1 y dy ny nd ne => sp_make xs (ss := ss) sat1 e1 r1 k ny nd ne (q1 y)⟩⟩
/-- C(*e) -/
theorem ew_makeS {E' : XK} {KE' : Addr → List (Str × D) → Cs → Prop} (xs : Exs B E' KE') {g : Addr} {sp_ : Pos} (M : Mk X.K C g) (G : FnR X.prog X.w X.K X.mg X.base CX n g (spF F)) (hr : Room (n + 1) X.A) (hg : Gl X x) (hm : X.mg x = some (.ref C)) (hx : Passes CX X E')
    (h : EW X B e ss fun d s => ∃ ds, (d = .tup ds ∨ d = .lst ds) ∧ MkF F C KE' Q ds s) (hd : (x == ("__debug__" : Str)) = false := by decide) (hst : starEach [.Starred e sp_] X.env = [(true, eval e X.env)] := by rfl) : EW X B (.Call (.Name x p) [.Starred e sp_] [] pos) ss Q :=
  ⟨PEimp (Mks.pe_makeS M G hr hg hm hx h.p hd hst) fun σ H QQ ⟨s, k⟩ => ⟨s, fun v d s1 H1 ⟨ds, q0, q1⟩ sat1 e1 r1 => by
    rcases q0 with rfl | rfl
    · cases r1 with
      | tup ea n r => exact ⟨_, _, rfl, .inl (SqT.of ea), fun y dy ny nd ne => sp_make xs (ss := ss) sat1 e1 r k ny nd ne (q1 y)⟩
    · cases r1 with
      | lst ea n r => exact ⟨_, _, rfl, .inr (SqL.of ea), fun y dy ny nd ne => sp_make xs (ss := ss) sat1 e1 r k ny nd ne (q1 y)⟩⟩⟩
/-- C(*e, e2, ..): the items of e, then the others -/
theorem callSt {M : Model} {A : Around} {E : Value → Shared → Prop} {s : Shared} {K : PySem.W.Frag} {env : Env} {f : Value} {Q : Value → Shared → Prop} {sp_ : Pos} {e2 : Expr} {rest : List Expr} (hk : PySem.W.keepIn K f = true)
    (h : wpAny M A (spliced (backTo pos (starEach (.Starred e sp_ :: e2 :: rest) env))) (fun vs s1 => K.In s1.heap ∧ wpAny M A (call f vs) Q E s1) E s)
    (he : starEach (.Starred e sp_ :: e2 :: rest) env = (true, eval e env) :: starEach (e2 :: rest) env) (he2 : starEach (e2 :: rest) env = (false, eval e2 env) :: starEach rest env) :
    wpAny M A (callWith pos f [] (backTo pos (starEach (.Starred e sp_ :: e2 :: rest) env)) []) Q E s := by
  rw [he, he2] at h ⊢
  refine PySem.W.ks_call (P := K.In) rfl (PySem.W.keeps_K hk) ?_
  have plain : ∀ (x y : Sem Value) (more : List (Bool × Sem Value)) (R : Args → Shared → Prop), wpAny M A (spliced ((true, x) :: (false, y) :: more)) (fun vs s1 => R ⟨vs, []⟩ s1) E s → wpAny M A (evalArgs f true ((true, x) :: (false, y) :: more) []) R E s := by
    intro x y more R all
    unfold evalArgs
    show wpAny M A (spliced ((true, x) :: (false, y) :: more) >>= _) R E s
    exact wpAny_bind (wpAny_mono all (fun vs s1 q => wpAny_holding (wpAny_bind (wpAny_pure (wpAny_bind (wpAny_pure (wpAny_pure q)))))) fun _ _ z => z)
  exact plain _ _ _ _ h
theorem ew_makeSt {E' : XK} {KE' : Addr → List (Str × D) → Cs → Prop} (xs : Exs B E' KE') {g : Addr} {sp_ : Pos} {e2 : Expr} (M : Mk X.K C g) (G : FnR X.prog X.w X.K X.mg X.base CX n g (spF F)) (hr : Room (n + 1) X.A) (hg : Gl X x) (hm : X.mg x = some (.ref C)) (hx : Passes CX X E')
    (h : EW X B e ss fun d s => ∃ ds, (d = .tup ds ∨ d = .lst ds) ∧ AW X B (e2 :: es) s fun ds2 s2 => MkF F C KE' Q (ds ++ ds2) s2) (hd : (x == ("__debug__" : Str)) = false := by decide)
    (hst : starEach (.Starred e sp_ :: e2 :: es) X.env = (true, eval e X.env) :: starEach (e2 :: es) X.env := by rfl) (hst2 : starEach (e2 :: es) X.env = (false, eval e2 X.env) :: starEach es X.env := by rfl) : EW X B (.Call (.Name x p) (.Starred e sp_ :: e2 :: es) [] pos) ss Q := by
  have args := StX.pa_star (p := sp_) h.p (pa_any (es := e2 :: es)) hst
  refine ⟨⟨fun pins s σ H QQ I ⟨sat, k⟩ => ?_⟩⟩
  refine wpAny_Call_Name_kw (ld_glob I hg hm ?_ hd)
  refine callSt (K := X.K) M.kp (thn (args.run pos pins s σ H (fun vs H1 => ∀ y dy, H1 y = none → H1 dy = none → dy ≠ y → spF F (.ref y :: vs) (upd (upd H1 dy (.own y)) y (.ins C dy [])) (fun v H2 => v = .non ∧ QQ (.ref y) H2) E') I ⟨sat, fun v d s1 H1 ⟨ds, q0, q1⟩ sat1 e1 r1 => ?_⟩) fun us s1 ⟨vs, H1, I1, r, q⟩ => ⟨I1.kIn, StX.run_makeR M G hr hx I1 r q⟩) hst hst2
  rcases q0 with rfl | rfl
  · cases r1 with
    | tup ea n r => exact ⟨_, _, rfl, .inl (SqT.of ea), _, q1.p, sat1, fun vs ds2 s2 H2 q2 sat2 e2 r2 y dy ny nd ne => sp_make xs (ss := ss) sat2 (e1.trans e2) ((r.ext e2).app r2) k ny nd ne (q2 y)⟩
  · cases r1 with
    | lst ea n r => exact ⟨_, _, rfl, .inr (SqL.of ea), _, q1.p, sat1, fun vs ds2 s2 H2 q2 sat2 e2 r2 y dy ny nd ne => sp_make xs (ss := ss) sat2 (e1.trans e2) ((r.ext e2).app r2) k ny nd ne (q2 y)⟩
/-! ### raise -/
theorem s1_raise1 {fI : Addr} {fd : FuncData} (O : OexC X.K C) (iC : PySem.W.findIn X.K (.ref C) "__init__" = some (some (.ref fI))) (tI : PySem.W.typeIn X.K (.ref fI) = some (.type "function"))
    (G : FnOk X.prog X.w X.K X.mg X.base L2.CX0 1 fI fd ["self", f] (Ers.spIni1 C f)) (hr : Room 2 X.A) (hb : L2.Binds X.K fd ["self", f] []) (hg : Gl X x) (hm : X.mg x = some (.ref C))
    (hc : X.calm = true) (tk : Takes X (fun cls d _ H => B.E cls d H)) (h : EW X B e ss fun d s => B.Ex C [(f, d)] s.cs) (hdb : (x == ("__debug__" : Str)) = false := by decide)
    (hst : starEach [e] X.env = (false, eval e X.env) :: starEach [] X.env := by rfl) : S1 X B (.Raise (some (.Call (.Name x p) [e] [] pos)) none p') ss k :=
  ⟨PSimp (Ers.ps_raise1 O iC tI G hr hb hg hm hc tk h.p hdb hst) fun D σ H ⟨s, _⟩ => ⟨s, fun v d s1 H1 q1 sat1 e1 r1 y hy => by
    have S := Pre.Same.upd (o := .xd [(f, v)]) hy
    exact sat1.bok C _ s1.cs y _ _ q1 (sat1.ext.trans (Ext.same S)) (sat1.ok.same S) upd_same (.cons (r1.ext (Ext.same S)) .nil)⟩⟩
theorem s1_raise2 {fI : Addr} {fd : FuncData} {g : Str} {e2 : Expr} (O : OexC X.K C) (iC : PySem.W.findIn X.K (.ref C) "__init__" = some (some (.ref fI))) (tI : PySem.W.typeIn X.K (.ref fI) = some (.type "function"))
    (G : FnOk X.prog X.w X.K X.mg X.base L2.CX0 1 fI fd ["self", f, g] (Ers.spIni2 C f g)) (hr : Room 2 X.A) (hb : L2.Binds X.K fd ["self", f, g] []) (hg : Gl X x) (hm : X.mg x = some (.ref C))
    (hc : X.calm = true) (tk : Takes X (fun cls d _ H => B.E cls d H)) (h : EW X B e ss fun d s => EW X B e2 s fun d2 s2 => B.Ex C [(g, d2), (f, d)] s2.cs) (hdb : (x == ("__debug__" : Str)) = false := by decide)
    (hst : starEach [e, e2] X.env = (false, eval e X.env) :: starEach [e2] X.env := by rfl) (hst2 : starEach [e2] X.env = (false, eval e2 X.env) :: starEach [] X.env := by rfl) (hpl : (backTo pos (starEach [e2] X.env)).any (·.1) = false := by rfl) : S1 X B (.Raise (some (.Call (.Name x p) [e, e2] [] pos)) none p') ss k :=
  ⟨PSimp (Ers.ps_raise2 O iC tI G hr hb hg hm hc tk h.p pe_any hdb hst hst2 hpl) fun D σ H ⟨s, _⟩ => ⟨s, fun v d s1 H1 q1 sat1 e1 r1 => ⟨_, q1.p, sat1, fun v2 d2 s2 H2 q2 sat2 e2 r2 y hy => by
    have S := Pre.Same.upd (o := .xd [(g, v2), (f, v)]) hy
    exact sat2.bok C _ s2.cs y _ _ q2 (sat2.ext.trans (Ext.same S)) (sat2.ok.same S) upd_same (.cons (r2.ext (Ext.same S)) (.cons ((r1.ext e2).ext (Ext.same S)) .nil))⟩⟩⟩
/-! ### errors that were caught -/
theorem cl_isErr {ds : List (Str × D)} {v : V} {u : Value} {b : Bool} (T : Kept.ErrC X.K C) (hc : ClsV v u) (he : PySem.W.kitOne X.K (.ref C) u = some b) (q : Q (.bl b) ss) : ClD X B (.builtin "isinstance") [.exc C ds, .raw v] ss Q := fun vs σ H QQ s r k => by
  obtain ⟨v1, v2, rfl, r1, r2⟩ := vl2 r
  cases r2
  cases r1 with
  | exc ea n ea2 n2 r => exact ⟨_, Kept.call_isErr, _, C, _, _, u, b, rfl, ea, fun dd e => ⟨_, by cases e; exact ea2⟩, T, hc, he, k _ _ _ _ q s Ext.refl (.bl _)⟩
theorem ew_errF (T : Kept.ErrC X.K C) (no : PySem.W.findIn X.K (.ref C) f = some none) (h : EW X B a ss fun d s => ∃ ds d', d = .exc C ds ∧ ds.lookup f = some d' ∧ Q d' s) (hb : attributeBase a f X.env (eval a X.env) = eval a X.env := by rfl) : EW X B (.Attribute a f pos) ss Q :=
  ⟨PEimp (Kept.pe_errF h.p hb) fun σ H QQ ⟨s, k⟩ => ⟨s, fun v d s1 H1 ⟨ds, d', q0, hl, q1⟩ sat1 e1 r1 => by
    subst q0
    cases r1 with
    | exc ea n ea2 n2 r =>
      obtain ⟨u, hu, ru⟩ := r.lookup hl
      exact ⟨_, C, _, _, u, rfl, ea, ea2, T, no, hu, k _ _ s1 H1 q1 sat1 e1 ru⟩⟩⟩
theorem cl_repr {d : D} {j : Nat} (hr : Room j X.A) (still : X.A.guards = some []) (h1 : d.dat = true) (h2 : d.py.showable = true) (h3 : d.py.hasDict = false) (h4 : d.py.depth ≤ 60) (h5 : d.py.shown.length ≤ sizeLine) (q : Q (.str d.py.shown) ss) : ClD X B (.builtin "repr") [d] ss Q := cl_c q fun H M vs r => by
  obtain ⟨v, rfl, r1⟩ := vl1 r
  exact ⟨_, _, Shw.call_repr hr still, .str _, fun QQ q => ⟨_, _, rfl, r1.dp h1, h2, h3, h4, h5, q⟩⟩
end
end Sx
set_option Elab.async false
set_option linter.all false
set_option maxRecDepth 100000
set_option maxHeartbeats 2000000
namespace Sx
open PySem PySem.Spec PyProof.Rows L2
section
variable {X : Cx} {B : Bs} {ss : SS} {Q : D → SS → Prop} {T : Bool → SS → Prop} {L : List D → SS → Prop} {k : Kt} {a b c e o elt tg iter : Expr} {es ifs : List Expr} {pos p apos p' : Pos} {CX : CXT} {n : Nat} {x m f : Str} {C : Addr} {ps : List Str} {F : FT} {scope : Scope}
theorem ew_dict0 (q : Q .dct0 ss) : EW X B (.Dict [] [] pos) ss Q := ⟨PEimp pe_dnewK fun σ H QQ ⟨s, k⟩ p hp => by
  have S := Pre.Same.upd (o := .dK []) hp
  exact k _ .dct0 ss _ q (s.same S) (Ext.same S) (.dct0 upd_same (s.new hp))⟩
/-- repr of an empty dict -/
theorem call_repr0 {j : Nat} (hr : Room j X.A) (still : X.A.guards = some []) : CallR X (.builtin "repr") (fun xs H Q => ∃ a, xs = [.ref a] ∧ H a = some (.dK []) ∧ Q (.str (PyData.shown (.dict []))) H) := by
  intro pins s σ H xs us Q I r h
  obtain ⟨a, rfl, ea, q⟩ := h
  obtain ⟨u, rfl, ru⟩ := vals1 r
  cases (show u = Value.ref a from ru)
  obtain ⟨_, nm, vs, kv, od, es, ep, ho, hc, hd, hkk, he, _⟩ := I.hok a _ ea
  cases kv
  have un := hr.un
  have e0 : es.toList = [] := by
    cases q : es.toList with
    | nil => rfl
    | cons y r => rw [q] at he; cases he
  have rd : Reads s.heap (.ref a) (.dict []) (a :: [] ++ []) := .dict ho hc.1 hd (by rw [e0]; exact .nil) (by rw [e0]; exact .nil)
  exact repr_of_reads' rd (by decide) (fun _ z => by
    have z : sysModules = a := by simpa using z
    rw [← z] at nm
    simp at nm) still (by show X.A.units + (1 + 1) < cLine; omega) (fun _ _ z => z) (fun h' u tk hk => ⟨.str _, H, I.kept hk, ⟨_, rfl⟩, q⟩) (by rw [sizeLine_eq]; decide)
theorem cl_repr0 {j : Nat} (hr : Room j X.A) (still : X.A.guards = some []) (q : Q (.str (PyData.shown (.dict []))) ss) : ClD X B (.builtin "repr") [.dct0] ss Q := cl_c q fun H M vs r => by
  obtain ⟨v, rfl, r1⟩ := vl1 r
  cases r1 with
  | dct0 e n => exact ⟨_, _, call_repr0 hr still, .str _, fun QQ q => ⟨_, rfl, e, q⟩⟩
/-! ### a lambda handed to a def that calls it once and keeps the error -/
/-- from the error's class, its fields, the cells: what is made of it -/
abbrev HRt := Addr → List (Str × D) → Cs → (D → Cs → Prop) → Prop
def TThD (HR : HRt) : (XK → Hp → VK → Prop) → Hp → VK → Prop := fun tl H Q => tl (fun cls d H1 => ∃ C x vs fs cs, cls = .ref C ∧ d = some x ∧ H1 x = some (.xd vs) ∧ CsOk H1 cs ∧ VlF H1 (ow cs) vs fs ∧
    ∃ R, HR C fs cs R ∧ ∀ v d H2 cs2, R d cs2 → Ext (ow cs) H1 (ow cs2) H2 → CsOk H2 cs2 → Vl H2 (ow cs2) v d → Q v H2) H (fun v H1 => ∀ l, H1 l = none → Q (.ref l) (upd H1 l (.lst [v])))
theorem CsOk.notx {H : Hp} {cs : Cs} {y : Addr} {vs : List (Str × V)} (ok : CsOk H cs) (h : H y = some (.xd vs)) : ¬ ow cs y := fun m => by
  obtain ⟨⟨b, c⟩, hb, rfl⟩ := List.mem_map.mp m
  have z := ok.ok _ _ hb
  have h : H b = some (.xd vs) := h
  cases c with
  | lst ds => obtain ⟨_, e, _⟩ := z; rw [h] at e; cases e
  | ins C fs => obtain ⟨_, _, e, _⟩ := z; rw [h] at e; cases e
  | pen ns k => obtain ⟨_, _, _, e, _⟩ := z; rw [h] at e; cases e
  | tab q => obtain ⟨_, e, _⟩ := z; rw [h] at e; cases e
theorem Sat.tabs {σ : L2.St} {H H1 : Hp} {j : Nat} {Pa : Addr} {q : Str} (s : Sat B ss σ H) (hj : ss.cs[j]? = some (Pa, .tab q)) (eN : LamX.ExtN H H1) (t : LamX.Tabs [(Pa, q)] H1) (only : ∀ (i : Nat) a q', ss.cs[i]? = some (a, .tab q') → a = Pa ∧ q' = q) {E' : XK} {Ex : Addr → List (Str × D) → Cs → Prop} (bok : BOk ⟨H1, ss.cs, E', Ex⟩) :
    Sat ⟨H1, ss.cs, E', Ex⟩ ss σ H1 ∧ Ext (ow ss.cs) H (ow ss.cs) H1 := by
  have e : Ext (ow ss.cs) H (ow ss.cs) H1 := Ext.tabs eN
  refine ⟨⟨s.len, fun i d h => ?_, ⟨fun b c hm => ?_, s.ok.nd⟩, Ext.refl, bok⟩, e⟩
  · obtain ⟨v, e1, r⟩ := s.sl i d h
    exact ⟨v, e1, r.ext e⟩
  · obtain ⟨i, hi⟩ := List.getElem?_of_mem hm
    have z := s.ok.ok b c hm
    cases c with
    | tab q' =>
      obtain ⟨rfl, rfl⟩ := only i b q' hi
      obtain ⟨ps, h1, h2, h3⟩ := t (b, q') (by simp)
      refine ⟨ps, h1, h2, fun pos cv hc => ?_⟩
      obtain ⟨c, e1, e2⟩ := h3 pos cv hc
      refine ⟨c, e1, e2, fun m => ?_⟩
      obtain ⟨o, ho⟩ := s.ok.there m
      obtain ⟨⟨b2, c2⟩, hb2, eb⟩ := List.mem_map.mp m
      have z2 := s.ok.ok _ _ hb2
      have eb : b2 = c := eb
      subst eb
      have diff : ∀ o, H b2 = some o → (∀ ps, o ≠ .tbl ps) → o = LamX.CodeO b2 q' := fun o h nt => Option.some.inj ((eN _ _ h nt).symm.trans e2)
      cases c2 with
      | lst ds => obtain ⟨_, e, _⟩ := z2; have := diff _ e ntL; unfold LamX.CodeO at this; cases this
      | ins C fs => obtain ⟨_, _, e, _⟩ := z2; have := diff _ e ntI; unfold LamX.CodeO at this; cases this
      | pen ns k => obtain ⟨_, _, _, e, _⟩ := z2; have := diff _ e ntL; unfold LamX.CodeO at this; cases this
      | tab q2 =>
        obtain ⟨i2, hi2⟩ := List.getElem?_of_mem hb2
        obtain ⟨e3, e4⟩ := only i2 _ _ hi2
        have e3 : b2 = b := e3
        subst e3
        rw [h1] at e2
        have := Option.some.inj e2
        unfold LamX.CodeO at this
        cases this
    | lst ds =>
      obtain ⟨xs, h1, h2⟩ := z
      exact ⟨xs, eN _ _ h1 ntL, h2.ext e⟩
    | ins C fs =>
      obtain ⟨dx, vs, h1, h2⟩ := z
      exact ⟨dx, vs, eN _ _ h1 ntI, h2.ext e⟩
    | pen ns n =>
      obtain ⟨b, s, g, h1, h2, h3, h4⟩ := z
      exact ⟨b, s, g, eN _ _ h1 ntL, e.kp _ _ h3 ntL h2, h3, h4⟩
/-- _law_heard(lambda: body) -/
theorem ew_heard {HR : HRt} {Pa cc g : Addr} {q a : Str} {j : Nat} {pg params : Arguments} {bg : List Stmt} {sg lsc : Scope} {dV kV doc pm cdv ct oc : Value} {an od : Option Addr} {osl : Array (Option Value)} {Ng : List Str} {body : Expr} {kk : Nat} {lpos : Pos}
    (hg : Gl X x) (hm : X.mg x = some (.ref g)) (hk : PySem.W.keepIn X.K (.ref g) = true)
    (lk : X.K.lookup g = some ⟨oc, od, .func (PySem.W.fnOf x x pg bg sg dV kV doc pm an cdv ct), osl⟩) (hcg : PySem.W.codeIn X.K cdv x = true) (hb : L2.Binds X.K (PySem.W.fnOf x x pg bg sg dV kV doc pm an cdv ct) [a] []) (Sg : FnScope Ng [a] sg) (hNg : Ng[0]? = some a) (hva : Vis sg a)
    (hG : LamX.GivesTo X Ng x sg g cdv bg a (X.env.qual ++ "<lambda>") (TThD HR)) (TB : LamX.TabB X.base X.mg cc Pa) (hcode : X.env.code = .ref cc) (hq : q = X.env.qual ++ "<lambda>") (hj : ss.cs[j]? = some (Pa, .tab q)) (only : ∀ (i : Nat) a q', ss.cs[i]? = some (a, .tab q') → a = Pa ∧ q' = q)
    (hr : Room (kk + 2) X.A) (Ls : LamX.LamS X.env.scope lsc) (hdef : defaultsOf params X.env = ([], []))
    (hbind : ∀ (q : Str) (cl : List (Str × Addr)) (pm cv ctv : Value), bindArgs (PySem.W.kla_fn "<lambda>" q params body lsc cl pm cv ctv) ⟨[], []⟩ = pure [])
    (h : ∀ (A : Around) (outer : List Env) (s : Shared) (H Hb : Hp) (E : XK) (f c' : Addr), Room kk (A.deeper (LamX.lamEnv X lsc s.heap.objs.size f c')) → EW (LamX.lamCx X A outer s H E lsc f c') ⟨Hb, ss.cs, E, fun C fs cs => HR C fs cs fun d cs => Q d ⟨ss.sl, cs⟩⟩ body ss fun d s' => Q (.lst [d]) ⟨ss.sl, s'.cs⟩)
    (hdb : (x == ("__debug__" : Str)) = false := by decide) (hd : (a == ("__debug__" : Str)) = false := by decide) (hcd : (a == ("__classdict__" : Str)) = false := by decide) : EW X B (.Call (.Name x p) [.Lambda params body lsc lpos] [] pos) ss Q := by
  subst hq
  have body_ := fun A outer s H E f c' hr2 => (PEimp (t' := fun σ H1 QQ => tE ⟨H1, ss.cs, E, fun C fs cs => HR C fs cs fun d cs => Q d ⟨ss.sl, cs⟩⟩ ss (fun d s' => Q (.lst [d]) ⟨ss.sl, s'.cs⟩) σ H1 QQ)
    (t := fun σ H1 QQ => ∃ Hb, tE ⟨Hb, ss.cs, E, fun C fs cs => HR C fs cs fun d cs => Q d ⟨ss.sl, cs⟩⟩ ss (fun d s' => Q (.lst [d]) ⟨ss.sl, s'.cs⟩) σ H1 QQ) ⟨fun pins s1 σ H1 QQ I ⟨Hb, q⟩ => (h A outer s H Hb E f c' hr2).p.run pins s1 σ H1 QQ I q⟩ fun σ H1 QQ q => ⟨H1, q⟩)
  have P := LamX.pe_lamcall (X := X) (T := [(Pa, X.env.qual ++ "<lambda>")]) (p := p) (lpos := lpos) (pos := pos) (t := fun E σ H1 QQ => tE ⟨H1, ss.cs, E, fun C fs cs => HR C fs cs fun d cs => Q d ⟨ss.sl, cs⟩⟩ ss (fun d s' => Q (.lst [d]) ⟨ss.sl, s'.cs⟩) σ H1 QQ)
    hg hm hk lk hcg hb Sg hNg hva hG TB hcode (by simp) (fun p hp _ => by
      obtain rfl := List.mem_singleton.mp hp
      rfl) hr Ls hdef hbind body_ hdb hd hcd
  refine ⟨PEimp P fun σ H QQ ⟨s, k⟩ => ⟨fun p hp => ?_, fun H1 eN t1 => ?_⟩⟩
  · obtain rfl := List.mem_singleton.mp hp
    obtain ⟨ps, h1, h2, h3⟩ := s.ok.ok _ _ (List.mem_of_getElem? hj)
    exact ⟨ps, h1, h2, fun pos cv hc => by
      obtain ⟨c, e1, e2, _⟩ := h3 pos cv hc
      exact ⟨c, e1, e2⟩⟩
  · have bok : BOk ⟨H1, ss.cs, fun cls d H1 => ∃ C x vs fs cs, cls = .ref C ∧ d = some x ∧ H1 x = some (.xd vs) ∧ CsOk H1 cs ∧ VlF H1 (ow cs) vs fs ∧
        ∃ R, HR C fs cs R ∧ ∀ v d H2 cs2, R d cs2 → Ext (ow cs) H1 (ow cs2) H2 → CsOk H2 cs2 → Vl H2 (ow cs2) v d → QQ v H2, fun C fs cs => HR C fs cs fun d cs => Q d ⟨ss.sl, cs⟩⟩ := by
      intro C fs cs x vs H' hx e ok hxd rf
      refine ⟨C, x, vs, fs, cs, rfl, rfl, hxd, ok, rf, _, hx, fun v d H2 cs2 q2 e2 ok2 r2 => ?_⟩
      have e0 : Ext (ow ss.cs) H (ow ss.cs) H1 := Ext.tabs eN
      have st := (s.tabs hj eN t1 only (E' := fun _ _ _ => True) (Ex := fun _ _ _ => False) (fun _ _ _ _ _ _ z => z.elim)).1
      refine k v d ⟨ss.sl, cs2⟩ H2 q2 ?_ ((e0.trans e).trans e2) r2
      exact s.cs ((e0.trans e).trans e2) ok2
    obtain ⟨sat1, e1⟩ := s.tabs hj eN t1 only bok
    refine ⟨sat1, fun v d ss' H' q sat' e' r' l hl => ?_⟩
    have S := Pre.Same.upd (o := .lst [v]) hl
    refine k _ (.lst [d]) ⟨ss.sl, ss'.cs⟩ _ q ?_ ((e1.trans e').trans (Ext.same S)) (.lst upd_same (sat'.new hl) (.cons (r'.ext (Ext.same S)) .nil))
    exact s.cs ((e1.trans e').trans (Ext.same S)) (sat'.ok.same S)
end
end Sx
set_option Elab.async false
set_option linter.all false
set_option maxRecDepth 100000
set_option maxHeartbeats 2000000
namespace Sx
open PySem PySem.Spec PyProof.Rows L2
theorem szl {n : Nat} (h : n ≤ 10000) : n ≤ sizeLine := by rw [sizeLine_eq]; omega
theorem szt {n : Nat} (h : n < 10000) : n < sizeLine := by rw [sizeLine_eq]; omega
section
variable {X : Cx} {B : Bs} {ss : SS} {Q : D → SS → Prop} {T : Bool → SS → Prop} {L : List D → SS → Prop} {k : Kt} {a b c e o elt tg iter : Expr} {es ifs : List Expr} {pos p apos p' : Pos} {CX : CXT} {n : Nat} {x m f : Str} {C : Addr} {ps : List Str} {F : FT} {scope : Scope}
theorem ew_isinstance (hm : X.mg "isinstance" = none) (h : AW X B (e :: es) ss fun ds s => ClD X B (.builtin "isinstance") ds s Q) (hg : Gl X "isinstance" := by rfl)
    (he : starEach (e :: es) X.env = (false, eval e X.env) :: starEach es X.env := by rfl) (hpl : (backTo pos (starEach es X.env)).any (·.1) = false := by rfl) : EW X B (.Call (.Name "isinstance" p) (e :: es) [] pos) ss Q := ew_callB hm hg (by decide +kernel) h (by decide) (by decide) he hpl
theorem ew_len (hm : X.mg "len" = none) (h : AW X B (e :: es) ss fun ds s => ClD X B (.builtin "len") ds s Q) (hg : Gl X "len" := by rfl)
    (he : starEach (e :: es) X.env = (false, eval e X.env) :: starEach es X.env := by rfl) (hpl : (backTo pos (starEach es X.env)).any (·.1) = false := by rfl) : EW X B (.Call (.Name "len" p) (e :: es) [] pos) ss Q := ew_callB hm hg (by decide +kernel) h (by decide) (by decide) he hpl
theorem ew_abs (hm : X.mg "abs" = none) (h : AW X B (e :: es) ss fun ds s => ClD X B (.builtin "abs") ds s Q) (hg : Gl X "abs" := by rfl)
    (he : starEach (e :: es) X.env = (false, eval e X.env) :: starEach es X.env := by rfl) (hpl : (backTo pos (starEach es X.env)).any (·.1) = false := by rfl) : EW X B (.Call (.Name "abs" p) (e :: es) [] pos) ss Q := ew_callB hm hg (by decide +kernel) h (by decide) (by decide) he hpl
theorem ew_repr (hm : X.mg "repr" = none) (h : AW X B (e :: es) ss fun ds s => ClD X B (.builtin "repr") ds s Q) (hg : Gl X "repr" := by rfl)
    (he : starEach (e :: es) X.env = (false, eval e X.env) :: starEach es X.env := by rfl) (hpl : (backTo pos (starEach es X.env)).any (·.1) = false := by rfl) : EW X B (.Call (.Name "repr" p) (e :: es) [] pos) ss Q := ew_callB hm hg (by decide +kernel) h (by decide) (by decide) he hpl
theorem ew_tint (hm : X.mg "int" = none) (h : AW X B (e :: es) ss fun ds s => ClD X B (.type "int") ds s Q) (hg : Gl X "int" := by rfl)
    (he : starEach (e :: es) X.env = (false, eval e X.env) :: starEach es X.env := by rfl) (hpl : (backTo pos (starEach es X.env)).any (·.1) = false := by rfl) : EW X B (.Call (.Name "int" p) (e :: es) [] pos) ss Q := ew_callT hm hg (by decide +kernel) h (by decide) (by decide) he hpl
theorem ew_tlist (hm : X.mg "list" = none) (h : AW X B (e :: es) ss fun ds s => ClD X B (.type "list") ds s Q) (hg : Gl X "list" := by rfl)
    (he : starEach (e :: es) X.env = (false, eval e X.env) :: starEach es X.env := by rfl) (hpl : (backTo pos (starEach es X.env)).any (·.1) = false := by rfl) : EW X B (.Call (.Name "list" p) (e :: es) [] pos) ss Q := ew_callT hm hg (by decide +kernel) h (by decide) (by decide) he hpl
theorem ew_ttuple (hm : X.mg "tuple" = none) (h : AW X B (e :: es) ss fun ds s => ClD X B (.type "tuple") ds s Q) (hg : Gl X "tuple" := by rfl)
    (he : starEach (e :: es) X.env = (false, eval e X.env) :: starEach es X.env := by rfl) (hpl : (backTo pos (starEach es X.env)).any (·.1) = false := by rfl) : EW X B (.Call (.Name "tuple" p) (e :: es) [] pos) ss Q := ew_callT hm hg (by decide +kernel) h (by decide) (by decide) he hpl
/-- a built-in type's name as a value -/
theorem ew_vint (hm : X.mg "int" = none) (q : Q (.raw (.ty "int")) ss) (hg : Gl X "int" := by rfl) : EW X B (.Name "int" pos) ss Q := ew_bltn (v := .ty "int") hm hg (by kernel_rfl) rfl q
theorem ew_vbool (hm : X.mg "bool" = none) (q : Q (.raw (.ty "bool")) ss) (hg : Gl X "bool" := by rfl) : EW X B (.Name "bool" pos) ss Q := ew_bltn (v := .ty "bool") hm hg (by kernel_rfl) rfl q
theorem ew_vtuple (hm : X.mg "tuple" = none) (q : Q (.raw (.ty "tuple")) ss) (hg : Gl X "tuple" := by rfl) : EW X B (.Name "tuple" pos) ss Q := ew_bltn (v := .ty "tuple") hm hg (by kernel_rfl) rfl q
theorem ew_vlist (hm : X.mg "list" = none) (q : Q (.raw (.ty "list")) ss) (hg : Gl X "list" := by rfl) : EW X B (.Name "list" pos) ss Q := ew_bltn (v := .ty "list") hm hg (by kernel_rfl) rfl q
theorem ew_vstr (hm : X.mg "str" = none) (q : Q (.raw (.ty "str")) ss) (hg : Gl X "str" := by rfl) : EW X B (.Name "str" pos) ss Q := ew_bltn (v := .ty "str") hm hg (by kernel_rfl) rfl q
/-! plain data -/
def Pln : D → Prop
  | .obj _ _ => False
  | .exc _ _ => False
  | .own _ => False
  | .raw _ => False
  | _ => True
def isW : D → Bool
  | .int _ => true
  | _ => false
def inR (lo hi : Int) : D → Bool
  | .int i => decide (lo ≤ i) && decide (i ≤ hi)
  | _ => false
theorem bt {b : Bool} {p : Prop} (h : b = false) (z : b = true) : p := by rw [h] at z; cases z
end
end Sx
set_option Elab.async false
set_option linter.all false
set_option maxRecDepth 100000
set_option maxHeartbeats 2000000
namespace Sx
open PySem PySem.Spec PyProof.Rows L2
section
variable {X : Cx} {B : Bs} {ss : SS} {Q : D → SS → Prop} {T : Bool → SS → Prop} {L : List D → SS → Prop} {k : Kt} {a b c e o elt tg iter : Expr} {es ifs : List Expr} {pos p apos p' : Pos} {CX : CXT} {n : Nat} {x m f : Str} {C : Addr} {ps : List Str} {F : FT} {scope : Scope}
/-! ### list(range(n)) -/
def rgD (n : Int) : List D := (List.range n.toNat).map fun (i : Nat) => D.int (i : Int)
theorem vl_ints {H : Hp} {M : Addr → Prop} (f : Nat → V) (g : Nat → D) (h : ∀ i, Vl H M (f i) (g i)) : ∀ l : List Nat, VlL H M (l.map f) (l.map g)
  | [] => .nil
  | i :: r => .cons (h i) (vl_ints f g h r)
theorem ew_listRg {rp rpos : Pos} (hc : X.calm = true) (hl : X.mg "list" = none) (hm : X.mg "range" = none) (h : EW X B e ss fun d s => ∃ n : Int, d = .int n ∧ 0 ≤ n ∧ n ≤ 10000 ∧ Q (.lst (rgD n)) s) (hgl : Gl X "list" := by rfl) (hgr : Gl X "range" := by rfl)
    (na : starEach [e] X.env = (false, eval e X.env) :: starEach [] X.env := by rfl) (na2 : starEach [.Call (.Name "range" rp) [e] [] rpos] X.env = (false, eval (.Call (.Name "range" rp) [e] [] rpos) X.env) :: starEach [] X.env := by rfl) :
    EW X B (.Call (.Name "list" p) [.Call (.Name "range" rp) [e] [] rpos] [] pos) ss Q :=
  ⟨PEimp (pe_listRg hc hgl hl (prg_1 hgr hm h.p na) na2) fun σ H QQ ⟨s, k⟩ => ⟨s, fun v d s1 H1 ⟨n, q1, n0, n1, q2⟩ sat1 e1 r1 => by
    subst q1
    cases r1
    refine ⟨n, rfl, RgOk.of_le (by omega) (by omega) (by omega) (by omega), fun p hp => ?_⟩
    have S := Pre.Same.upd (o := .lst (rgV 0 n)) hp
    refine k _ (.lst (rgD n)) s1 _ q2 (sat1.same S) (e1.trans (Ext.same S)) (.lst upd_same (sat1.new hp) ?_)
    unfold rgV rgD
    rw [Int.sub_zero]
    exact vl_ints _ _ (fun i => by rw [Int.zero_add]; exact .int _) _⟩⟩
/-! ### a, b, .. = a list -/
theorem tg_lst {ts : List Expr} {j : Nat} {ds : List D} {vs : List Nat} {R : SS → Prop} (h : TgsW X B ts ds vs ss R) (hn : ts.length = ds.length := by rfl) 
    (hl : ∀ g : TGs, PGs X ts g → PG X (.Tuple ts j pos) (gLst X.K ts.length g) := by exact fun _ h => pg_lst rfl h) : TgW X B (.Tuple ts j pos) (.lst ds) vs ss R :=
  ⟨PGimp (hl _ h.p) fun v σ H QQ ⟨s, r, k⟩ => by
    cases r with
    | lst e n r => exact ⟨_, _, rfl, SqL.of e, by rw [r.len, hn], s, r, k⟩⟩
/-! ### for i, x in enumerate(t) -/
theorem s1_forE {e : Expr} {elts : List Expr} {kk : Nat} {tpos : Pos} {body : List Stmt} {rp rpos : Pos} (vs : List Nat) (hp : PassesOwn (model X.prog X.w) X.A X.env X.xe) (hc : X.calm = true) (hm : X.mg "enumerate" = none)
    (h : EW X B e ss fun d s => ∃ ds, d = .tup ds ∧ ∃ Iv : Nat → SS → Prop, Iv 0 s ∧ (∀ j dj s', ds[j]? = some dj → Iv j s' → TgW X B (.Tuple elts kk tpos) (.tup [.int (j : Int), dj]) vs s' fun s2 => SW X B body s2 { nx := Iv (j + 1), rt := k.rt, bk := k.nx, ct := Iv (j + 1) }) ∧ ∀ s', Iv ds.length s' → k.nx s') (hg : Gl X "enumerate" := by rfl)
    (hse : starEach [e] X.env = [(false, eval e X.env)] := by rfl)
    (hs : ∀ x, foldedSetIterable (.Call (.Name "enumerate" rp) [e] [] rpos) X.env x = pure x := by intro _; rfl) : S1 X B (.For (.Tuple elts kk tpos) (.Call (.Name "enumerate" rp) [e] [] rpos) body [] pos) ss k :=
  ⟨PSimp (ps_for hp hc (Enu.pi_enumA hg hm (pa_cons h.p pa_nil hse) hse) pg_any pss_any hs) fun D σ H ⟨s, h1, h2, h3, h4⟩ => ⟨s, fun v d s1 H1 ⟨ds, q1, Iv, i0, i1, i2⟩ sat1 e1 r1 => by
    subst q1
    cases r1 with
    | @tup a xs _ ea n r =>
      refine ⟨a, xs, rfl, .inr ⟨SqT.of ea, for_it Enu.walk_enumT (fun i σ' H' => ∃ s', Iv i s' ∧ Sat B s' σ' H' ∧ Ext (ow s1.cs) H1 (ow s'.cs) H') ⟨s1, i0, sat1, Ext.refl⟩ (fun i σ' H' _ ⟨s', _, _, e'⟩ => SqT.of (e'.kp _ _ n ntT ea)) (fun i y σ' H' H'' hi ⟨s', q', sat', e'⟩ hy => ?_) fun σ' H' ⟨s', q', sat', e'⟩ => h1 s' σ' H' (i2 s' (by rw [r.len] at q'; exact q')) sat' (e1.trans e')⟩⟩
      obtain ⟨T, x0, y0, rfl, hT, rfl, hx, hy⟩ := hy
      cases hx
      obtain ⟨dj, hd, rd⟩ := r.back hy
      have S := Pre.Same.upd (o := .tup [V.int (i : Nat), y0]) hT
      have e'' := e'.trans (Ext.same (M := ow s'.cs) S)
      refine ⟨_, (i1 i dj s' hd q').p, sat'.same S, .tup upd_same (sat'.new hT) (.cons (.int _) (.cons (rd.ext e'') .nil)), fun s2 σ2 q2 c2 sat2 _ => ⟨_, q2.p, sat2, fun s3 σ3 H3 q3 sat3 e3 => ?_, fun v d s3 σ3 H3 q3 sat3 e3 r3 => ?_, fun s3 σ3 H3 q3 sat3 e3 => ?_, fun s3 σ3 H3 q3 sat3 e3 => ?_⟩⟩
      · exact ⟨s3, q3, sat3, e''.trans (by rw [c2] at e3; exact e3)⟩
      · exact h2 v d s3 σ3 H3 q3 sat3 ((e1.trans e'').trans (by rw [c2] at e3; exact e3)) r3
      · exact h1 s3 σ3 H3 q3 sat3 ((e1.trans e'').trans (by rw [c2] at e3; exact e3))
      · exact ⟨s3, q3, sat3, e''.trans (by rw [c2] at e3; exact e3)⟩⟩⟩
/-! ### truth -/
def TruD (d : D) (R : Bool → Prop) : Prop := match d with
  | .lst ds => R (!ds.isEmpty)
  | .tup ds => R (!ds.isEmpty)
  | .int i => R (i != 0)
  | .non => R false
  | _ => False
theorem tw_truth (h : EW X B e ss fun d s => TruD d fun k => T k s) (he : ∀ whole, isTrue e X.env whole = (do let v ← whole; standAt e.pos; holding [v] (truthy v)) := by intro _; rfl) : TW X B e ss T :=
  ⟨PTimp (pt_truth h.p he) fun σ H QQ ⟨s, k⟩ => ⟨s, fun v d s1 H1 q1 sat1 e1 r1 => by
    have emp : ∀ {vs : List V} {ds : List D}, VlL H1 (ow s1.cs) vs ds → vs.isEmpty = ds.isEmpty := fun {vs ds} r => by cases r <;> rfl
    cases r1 with
    | lst ea n r => exact ⟨_, .inl ⟨_, SqL.of ea, rfl⟩, by rw [emp r]; exact k _ s1 H1 q1 sat1 e1⟩
    | tup ea n r => exact ⟨_, .inr (.inl ⟨_, SqT.of ea, rfl⟩), by rw [emp r]; exact k _ s1 H1 q1 sat1 e1⟩
    | int i => exact ⟨_, rfl, k _ s1 H1 q1 sat1 e1⟩
    | non => exact ⟨false, rfl, k _ s1 H1 q1 sat1 e1⟩
    | _ => exact q1.elim⟩⟩
/-! ### lists repeated -/
def repD (n : Nat) (ds : List D) : List D := (List.replicate n ds).flatten
theorem VlL.rep {H : Hp} {M : Addr → Prop} {vs : List V} {ds : List D} (r : VlL H M vs ds) : ∀ n, VlL H M (List.replicate n vs).flatten (repD n ds)
  | 0 => .nil
  | n + 1 => by
    rw [List.replicate_succ, List.flatten_cons]
    unfold repD
    rw [List.replicate_succ, List.flatten_cons]
    exact r.app (VlL.rep r n)
theorem od_rep {ds : List D} {i : Int} (h1 : -(2 ^ 63) ≤ i) (h2 : i < 2 ^ 63) (h : ds.length * i.toNat ≤ 10000) (q : Q (.lst (repD i.toNat ds)) ss) : OpD X B (binaryOp .Mult) (.lst ds) (.int i) ss Q := od_new q fun H M v1 v2 r1 r2 => by
  cases r2
  cases r1 with
  | lst e n r => exact ⟨_, .lst _, op_rep, fun H' p h1 h2 S => .lst h1 h2 ((r.rep _).ext (Ext.same S)), fun QQ q => ⟨_, _, _, rfl, rfl, e, h1, h2, by rw [r.len]; exact szl h, q⟩⟩
theorem od_catT {xs ys : List D} (hx : xs ≠ []) (hy : ys ≠ []) (h : xs.length + ys.length ≤ 10000) (q : Q (.tup (xs ++ ys)) ss) : OpD X B (binaryOp .Add) (.tup xs) (.tup ys) ss Q := od_new q fun H M v1 v2 r1 r2 => by
  cases r1 with
  | @tup _ us _ e n r =>
    cases r2 with
    | @tup _ ws _ e2 n2 r2 =>
      have nu : us ≠ [] := fun z => hx (List.length_eq_zero_iff.mp (by rw [← r.len, z]; rfl))
      have nw : ws ≠ [] := fun z => hy (List.length_eq_zero_iff.mp (by rw [← r2.len, z]; rfl))
      exact ⟨_, .tup (us ++ ws), op_catT, fun H' p h1 h2 S => .tup h1 h2 ((r.app r2).ext (Ext.same S)), fun QQ q => ⟨_, _, _, _, rfl, rfl, SqT.of e, SqT.of e2, nu, by rw [r.len, r2.len]; exact szl h, fun z => absurd z nw, fun _ => q⟩⟩
def IntD (d : D) (R : Int → Prop) : Prop := ∃ i, d = .int i ∧ R i
theorem intD {i : Int} {R : Int → Prop} (h : R i) : IntD (.int i) R := ⟨i, rfl, h⟩
theorem ew_neg (h : EW X B a ss fun d s => IntD d fun i => Q (.int (-i)) s) : EW X B (.UnaryOp .USub a pos) ss Q := ⟨PEimp (pe_un un_neg h.p) fun σ H QQ ⟨s, k⟩ => ⟨s, fun v d s1 H1 ⟨i, q0, q1⟩ sat1 e1 r1 => by
  subst q0
  cases r1
  exact ⟨i, rfl, k _ _ s1 H1 q1 sat1 e1 (.int _)⟩⟩⟩
/-! ### a def with a star parameter -/
theorem sp_star {F F' : FT} {n : Nat} (h : ∀ ds cs Kk KE, F' ds cs Kk KE → ∃ ws rest, ds = ws ++ rest ∧ ws.length = n ∧ rest.length ≤ 10000 ∧ F (ws ++ [.tup rest]) cs Kk KE) {vs : List V} {H : Hp} {Q : VK} {E : XK} (q : spF F' vs H Q E) :
    ∃ ws rest, vs = ws ++ rest ∧ ws.length = n ∧ rest.length ≤ sizeLine ∧ ∀ p, H p = none → spF F (ws ++ [V.ref p]) (upd H p (.tup rest)) Q E := by
  obtain ⟨ds, cs, Kk, KE, r, ok, f, q1, q2⟩ := q
  obtain ⟨wd, rd, rfl, h1, h2, f2⟩ := h _ _ _ _ f
  have hl := r.len
  rw [List.length_append] at hl
  have rt := r.take n
  have rr := r.drop n
  rw [← h1, List.take_left' rfl] at rt
  rw [← h1, List.drop_left' rfl] at rr
  refine ⟨vs.take n, vs.drop n, (List.take_append_drop n vs).symm, by rw [List.length_take]; omega, by rw [List.length_drop]; exact szl (by omega), fun p hp => ?_⟩
  have S := Pre.Same.upd (o := .tup (vs.drop n)) hp
  have np : ¬ ow cs p := fun m => by
    obtain ⟨o, e⟩ := ok.there m
    rw [hp] at e
    cases e
  rw [h1] at rt rr
  refine ⟨wd ++ [.tup rd], cs, Kk, KE, (rt.ext (Ext.same S)).app (.cons (.tup upd_same np (rr.ext (Ext.same S))) .nil), ok.same S, f2, fun v d H' cs' q e => q1 v d H' cs' q ((Ext.same S).trans e), fun C fs cs' x vs H' q e => q2 C fs cs' x vs H' q ((Ext.same S).trans e)⟩
end
end Sx
set_option Elab.async false
set_option linter.all false
set_option maxRecDepth 100000
set_option maxHeartbeats 2000000
/-! o.m(k = v, ..): a method by keywords alone. -/
namespace Mk0
open PySem PySem.Spec PyProof.Rows L2 Pre
def tMethK (C : Addr) (m : Str) (n : Nat) (sp : Sp) (gV : List V → List V → List V) (E : XK) (ta : TE) (tk : TA) : TE := fun σ H Q => ta σ H fun x H1 => ∃ a dx fs, x = .ref a ∧ H1 a = some (.ins C dx fs) ∧ fs.lookup m = none ∧ tk σ H1 fun zs H2 => zs.length = n ∧ sp (gV [x] zs) H2 Q E
theorem pe_methK {X : Cx} {CX : CXT} {k : Nat} {f C : Addr} {fd : FuncData} {ps ks : List Str} {sp : Sp} {E : XK} {m : Str} {pos apos : Pos} {o : Expr} {kws : List Keyword} {ta : TE} {tk : TA} {g : List Value → List Value → List Value} {gV : List V → List V → List V} {pl : Sem Bool}
    (he : PE X o ta) (c : Cls X.K C) (hm : Meth X.K C m f) (F : FnOk X.prog X.w X.K X.mg X.base CX k f fd ps sp) (hr : Room k X.A) (hb : KBn X.K fd ps 1 ks g gV) (hx : Passes CX X E) (hkw : PK X kws tk)
    (hall : (backToKw pos (keywordEach kws X.env)).all (·.1.isSome) = true := by rfl) (hks : (backToKw pos (keywordEach kws X.env)).filterMap (·.1) = ks := by rfl)
    (hpl : ((backTo pos (starEach [] X.env)).any (·.1) || (backToKw pos (keywordEach kws X.env)).any (·.1.isNone)) = false := by rfl)
    (ht : eval (.Call (.Attribute o m apos) [] kws pos) X.env = (do
      let ov ← eval o X.env
      standAt apos.atName
      let (f, first) ← holding [ov] (getMethod ov m pl)
      callWith pos f first (backTo pos (starEach [] X.env)) (backToKw pos (keywordEach kws X.env))) := by rfl) :
    PE X (.Call (.Attribute o m apos) [] kws pos) (tMethK C m ks.length sp gV E ta tk) := by
  refine ⟨fun pins s σ H Q I h => ?_⟩
  refine PySem.W.methodCall_KW (pl := pl) (thn (he.run pins s σ H _ I h) ?_) ht
  rintro u s1 ⟨x, H1, I1, rx, a, dx, fs, rfl, ea, l, q⟩
  cases (show u = Value.ref a from rx)
  refine getmeth_ok I1 ea c hm l ?_
  refine PySem.W.callWith_KW0 (first := [.ref a]) (h₀ := X.base) I.ok.mod.kin hm.kp hall (thn (hkw.run pos pins s1 σ H1 _ I1 q) ?_) hpl
  rintro ws s2 ⟨zs, H2, I2, rz, l2, q2⟩
  refine ⟨I2.kIn, ?_⟩
  rw [hks]
  exact run_fnN (us := [.ref a]) (vs := [.ref a]) F hr hb hx I2 (.cons rfl .nil) rz rfl l2 q2
/-- two positional names, the keywords in this order or the other -/
theorem kb1 {K : PySem.W.Frag} {fd : FuncData} {p0 p1 : Str} (h : ∀ (s : Shared) (a b : Value), K.In s.heap → BindsTo s fd ⟨[a], [p1].zip [b]⟩ ([p0, p1].zip [a, b])) : KBn K fd [p0, p1] 1 [p1] (fun us ws => us ++ ws) (fun vs zs => vs ++ zs) := by
  refine ⟨fun s us ws X l1 l2 => ?_, fun r1 r2 => r1.append r2⟩
  match us, ws, l1, l2 with
  | [a], [b], _, _ => exact h s a b X
theorem kb2 {K : PySem.W.Frag} {fd : FuncData} {p0 p1 p2 : Str} (h : ∀ (s : Shared) (a b c : Value), K.In s.heap → BindsTo s fd ⟨[a], [p2, p1].zip [c, b]⟩ ([p0, p1, p2].zip [a, b, c])) : KBn K fd [p0, p1, p2] 1 [p2, p1] (fun us ws => us ++ ws.reverse) (fun vs zs => vs ++ zs.reverse) := by
  refine ⟨fun s us ws X l1 l2 => ?_, fun {vs us zs ws} r1 r2 => r1.append ?_⟩
  · match us, ws, l1, l2 with
    | [a], [c, b], _, _ => exact h s a b c X
  · induction r2 with
    | nil => exact .nil
    | cons a b ih =>
      rw [List.reverse_cons, List.reverse_cons]
      exact ih.append (.cons a .nil)
section
variable {P : Program} {w : World} {K : PySem.W.Frag} {mg : Str → Option Value} {base : Heap} {CX : CXT} {k : Nat} {x qual : Str} {params : Arguments} {body : List Stmt} {scope : Scope} {N : List Str} {sp : Sp} {C : Addr} {p0 p1 p2 : Str}
/-- a method of two parameters, also by its keyword -/
structure Mk1 (P : Program) (w : World) (K : PySem.W.Frag) (mg : Str → Option Value) (base : Heap) (CX : CXT) (k : Nat) (C : Addr) (m p0 p1 : Str) (sp : Sp) : Prop where
  cl : Cls K C
  mt : Meth K C m (He.ma K C m)
  ok : ∃ fd, FnOk P w K mg base CX k (He.ma K C m) fd [p0, p1] sp ∧ Binds K fd [p0, p1] [] ∧ KBn K fd [p0, p1] 1 [p1] (fun us ws => us ++ ws) (fun vs zs => vs ++ zs)
/-- a method of three, also by the two keywords, the last one first -/
structure Mk2 (P : Program) (w : World) (K : PySem.W.Frag) (mg : Str → Option Value) (base : Heap) (CX : CXT) (k : Nat) (C : Addr) (m p0 p1 p2 : Str) (sp : Sp) : Prop where
  cl : Cls K C
  mt : Meth K C m (He.ma K C m)
  ok : ∃ fd, FnOk P w K mg base CX k (He.ma K C m) fd [p0, p1, p2] sp ∧ Binds K fd [p0, p1, p2] [] ∧ KBn K fd [p0, p1, p2] 1 [p2, p1] (fun us ws => us ++ ws.reverse) (fun vs zs => vs ++ zs.reverse)
theorem Mk1.mfn {m : Str} (h : Mk1 P w K mg base CX k C m p0 p1 sp) : Dfs.Mfn P w K mg base CX k C m [p0, p1] sp := by
  obtain ⟨fd, a, b, _⟩ := h.ok
  exact ⟨h.cl, h.mt, fd, a, b⟩
theorem Mk2.mfn {m : Str} (h : Mk2 P w K mg base CX k C m p0 p1 p2 sp) : Dfs.Mfn P w K mg base CX k C m [p0, p1, p2] sp := by
  obtain ⟨fd, a, b, _⟩ := h.ok
  exact ⟨h.cl, h.mt, fd, a, b⟩
theorem mfk1 (q : ∃ fd, FunD K x qual params body scope [] [] (He.ma K C x) fd) (c : Cls K C) (m : Meth K C x (He.ma K C x)) (S : FnScope N [p0, p1] scope) (len : ∀ vs H Q E, sp vs H Q E → vs.length = [p0, p1].length)
    (hb : ∀ (kV doc pm : Value) (an : Option Addr) (cdv ct : Value) (a b : Value), bindArgs (PySem.W.fnOf x qual params body scope .none kV doc pm an cdv ct) ⟨[a, b], []⟩ = pure [(p0, a), (p1, b)])
    (hk : ∀ (kV doc pm : Value) (an : Option Addr) (cdv ct : Value) (a b : Value), bindArgs (PySem.W.fnOf x qual params body scope .none kV doc pm an cdv ct) ⟨[a], [(p1, b)]⟩ = pure [(p0, a), (p1, b)])
    (walk : ∀ (cdv : Value) (A : Around) (outer : List Env) (s : Shared) (H : Hp) (vs : List V) (Q : VK) (E : XK), Room k (A.deeper (envOfC qual scope s.heap.objs.size (He.ma K C x) cdv)) → sp vs H Q E →
      ∃ t, PSs (cxOf CX P w K mg base N qual scope (He.ma K C x) cdv A outer s H E) body t ∧ t { nx := fun _ H' => Q .non H', rt := Q } (start N vs) H) : Mk1 P w K mg base CX (k + 1) C x p0 p1 sp := by
  obtain ⟨fd, F⟩ := q
  refine ⟨c, m, fd, F.ok S len walk, F.bindsN fun kV doc pm an cdv ct => Vls.bind2 fun a b => hb kV doc pm an cdv ct a b, kb1 fun s a b _ => ?_⟩
  obtain ⟨oc, od, dV, kV, doc, pm, an, cdv, ct, osl, rfl, lk, hcd, hD, hK⟩ := F.ex
  rcases hD with ⟨_, rfl⟩ | ⟨e, _⟩
  · exact .of_eq (hk _ _ _ _ _ _ a b)
  · exact absurd rfl e
theorem mfk2 (q : ∃ fd, FunD K x qual params body scope [] [] (He.ma K C x) fd) (c : Cls K C) (m : Meth K C x (He.ma K C x)) (S : FnScope N [p0, p1, p2] scope) (len : ∀ vs H Q E, sp vs H Q E → vs.length = [p0, p1, p2].length)
    (hb : ∀ (kV doc pm : Value) (an : Option Addr) (cdv ct : Value) (a b c : Value), bindArgs (PySem.W.fnOf x qual params body scope .none kV doc pm an cdv ct) ⟨[a, b, c], []⟩ = pure [(p0, a), (p1, b), (p2, c)])
    (hk : ∀ (kV doc pm : Value) (an : Option Addr) (cdv ct : Value) (a b c : Value), bindArgs (PySem.W.fnOf x qual params body scope .none kV doc pm an cdv ct) ⟨[a], [(p2, c), (p1, b)]⟩ = pure [(p0, a), (p1, b), (p2, c)])
    (walk : ∀ (cdv : Value) (A : Around) (outer : List Env) (s : Shared) (H : Hp) (vs : List V) (Q : VK) (E : XK), Room k (A.deeper (envOfC qual scope s.heap.objs.size (He.ma K C x) cdv)) → sp vs H Q E →
      ∃ t, PSs (cxOf CX P w K mg base N qual scope (He.ma K C x) cdv A outer s H E) body t ∧ t { nx := fun _ H' => Q .non H', rt := Q } (start N vs) H) : Mk2 P w K mg base CX (k + 1) C x p0 p1 p2 sp := by
  obtain ⟨fd, F⟩ := q
  refine ⟨c, m, fd, F.ok S len walk, F.bindsN fun kV doc pm an cdv ct => Vls.bind3 fun a b c => hb kV doc pm an cdv ct a b c, kb2 fun s a b c _ => ?_⟩
  obtain ⟨oc, od, dV, kV, doc, pm, an, cdv, ct, osl, rfl, lk, hcd, hD, hK⟩ := F.ex
  rcases hD with ⟨_, rfl⟩ | ⟨e, _⟩
  · exact .of_eq (hk _ _ _ _ _ _ a b c)
  · exact absurd rfl e
end
end Mk0
set_option Elab.async false
set_option linter.all false
set_option maxRecDepth 100000
set_option maxHeartbeats 2000000
namespace Sx
open PySem PySem.Spec PyProof.Rows L2 Mk0
/-! ### o.m(k = v, ..) -/
theorem PKimp {X : Cx} {e : List Keyword} {t t' : TA} (h : PK X e t) (i : ∀ σ H Q, t' σ H Q → t σ H Q) : PK X e t' := ⟨fun pos pins s σ H Q I q => h.run pos pins s σ H Q I (i σ H Q q)⟩
def tkAny (X : Cx) (kws : List Keyword) : TA := fun σ H Q => ∃ t, PK X kws t ∧ t σ H Q
theorem pk_any {X : Cx} {kws : List Keyword} : PK X kws (tkAny X kws) := ⟨fun pos pins s σ H Q I ⟨_, h, q⟩ => h.run pos pins s σ H Q I q⟩
structure KW (X : Cx) (B : Bs) (kws : List Keyword) (ss : SS) (L : List D → SS → Prop) : Prop where
  p : PK X kws (tA B ss L)
section
variable {X : Cx} {B : Bs} {ss : SS} {Q : D → SS → Prop} {L : List D → SS → Prop} {e o : Expr} {kws : List Keyword} {pos p apos kpos : Pos} {CX : CXT} {n : Nat} {m p0 p1 p2 : Str} {C : Addr} {ps : List Str} {F : FT} {nm : Option Str}
theorem kw_nil (q : L [] ss) : KW X B [] ss L := ⟨PKimp pk_nil fun σ H QQ ⟨s, k⟩ => k [] [] ss H q s Ext.refl .nil⟩
theorem kw_cons (h : EW X B e ss fun d s => KW X B kws s fun ds s' => L (d :: ds) s') : KW X B (⟨nm, e, kpos⟩ :: kws) ss L :=
  ⟨PKimp (pk_cons h.p pk_any) fun σ H QQ ⟨s, k⟩ => ⟨s, fun v d s1 H1 q1 sat1 e1 r1 => ⟨_, q1.p, sat1, fun vs ds s2 H2 q2 sat2 e2 r2 => k (v :: vs) (d :: ds) s2 H2 q2 sat2 (e1.trans e2) (.cons (r1.ext e2) r2)⟩⟩⟩
theorem VlL.rev {H : Hp} {M : Addr → Prop} : ∀ {ds : List D} {vs : List V}, VlL H M vs ds → VlL H M vs.reverse ds.reverse
  | [], _, r => by cases r; exact .nil
  | _ :: ds, _, r => by
    cases r with
    | cons a b =>
      rw [List.reverse_cons, List.reverse_cons]
      exact (VlL.rev b).app (.cons a .nil)
theorem ew_methK1 {E' : XK} {KE' : Addr → List (Str × D) → Cs → Prop} {pl : Sem Bool} (xs : Exs B E' KE') (Dd : Mk1 X.prog X.w X.K X.mg X.base CX n C m p0 p1 (spF F)) (hr : Room n X.A) (hx : Passes CX X E') (h : EW X B o ss fun d s => IsI C m d s.cs ∧ KW X B kws s fun ds s => ds.length = 1 ∧ F (d :: ds) s.cs (fun d cs => Q d ⟨s.sl, cs⟩) KE')
    (hall : (backToKw pos (keywordEach kws X.env)).all (·.1.isSome) = true := by rfl) (hks : (backToKw pos (keywordEach kws X.env)).filterMap (·.1) = [p1] := by rfl)
    (hpl : ((backTo pos (starEach [] X.env)).any (·.1) || (backToKw pos (keywordEach kws X.env)).any (·.1.isNone)) = false := by rfl)
    (ht : eval (.Call (.Attribute o m apos) [] kws pos) X.env = (do
      let ov ← eval o X.env
      standAt apos.atName
      let (f, first) ← holding [ov] (getMethod ov m pl)
      callWith pos f first (backTo pos (starEach [] X.env)) (backToKw pos (keywordEach kws X.env))) := by rfl) : EW X B (.Call (.Attribute o m apos) [] kws pos) ss Q := by
  obtain ⟨fd, G, _, hb⟩ := Dd.ok
  exact ⟨PEimp (pe_methK h.p Dd.cl Dd.mt G hr hb hx (pk_any (kws := kws)) hall hks hpl ht) fun σ H QQ ⟨s, k⟩ => ⟨s, fun v d s1 H1 ⟨i, q1⟩ sat1 e1 r1 => by
    obtain ⟨a, dx, fs, rfl, ea, hl⟩ := i.at_ sat1.ok r1
    exact ⟨a, dx, fs, rfl, ea, hl, _, q1.p, sat1, fun vs ds s2 H2 q2 sat2 e2 r2 => ⟨by rw [r2.len]; exact q2.1, sp_go xs sat2 (e1.trans e2) (.cons (r1.ext e2) r2) k q2.2⟩⟩⟩⟩
theorem ew_methK2 {E' : XK} {KE' : Addr → List (Str × D) → Cs → Prop} {pl : Sem Bool} (xs : Exs B E' KE') (Dd : Mk2 X.prog X.w X.K X.mg X.base CX n C m p0 p1 p2 (spF F)) (hr : Room n X.A) (hx : Passes CX X E') (h : EW X B o ss fun d s => IsI C m d s.cs ∧ KW X B kws s fun ds s => ds.length = 2 ∧ F (d :: ds.reverse) s.cs (fun d cs => Q d ⟨s.sl, cs⟩) KE')
    (hall : (backToKw pos (keywordEach kws X.env)).all (·.1.isSome) = true := by rfl) (hks : (backToKw pos (keywordEach kws X.env)).filterMap (·.1) = [p2, p1] := by rfl)
    (hpl : ((backTo pos (starEach [] X.env)).any (·.1) || (backToKw pos (keywordEach kws X.env)).any (·.1.isNone)) = false := by rfl)
    (ht : eval (.Call (.Attribute o m apos) [] kws pos) X.env = (do
      let ov ← eval o X.env
      standAt apos.atName
      let (f, first) ← holding [ov] (getMethod ov m pl)
      callWith pos f first (backTo pos (starEach [] X.env)) (backToKw pos (keywordEach kws X.env))) := by rfl) : EW X B (.Call (.Attribute o m apos) [] kws pos) ss Q := by
  obtain ⟨fd, G, _, hb⟩ := Dd.ok
  exact ⟨PEimp (pe_methK h.p Dd.cl Dd.mt G hr hb hx (pk_any (kws := kws)) hall hks hpl ht) fun σ H QQ ⟨s, k⟩ => ⟨s, fun v d s1 H1 ⟨i, q1⟩ sat1 e1 r1 => by
    obtain ⟨a, dx, fs, rfl, ea, hl⟩ := i.at_ sat1.ok r1
    exact ⟨a, dx, fs, rfl, ea, hl, _, q1.p, sat1, fun vs ds s2 H2 q2 sat2 e2 r2 => ⟨by rw [r2.len]; exact q2.1, sp_go xs sat2 (e1.trans e2) (.cons (r1.ext e2) (VlL.rev r2)) k q2.2⟩⟩⟩⟩
end
section
variable {P : Program} {w : World} {K : PySem.W.Frag} {mg : Str → Option Value} {base : Heap} {CX : CXT} {k : Nat} {x qual : Str} {params : Arguments} {body : List Stmt} {scope : Scope} {N : List Str} {C : Addr} {p0 p1 p2 : Str} {F : FT}
theorem mfkF1 (q : ∃ fd, FunD K x qual params body scope [] [] (He.ma K C x) fd) (c : Cls K C) (m : Meth K C x (He.ma K C x)) (S : FnScope N [p0, p1] scope)
    (hb : ∀ (kV doc pm : Value) (an : Option Addr) (cdv ct : Value) (a b : Value), bindArgs (PySem.W.fnOf x qual params body scope .none kV doc pm an cdv ct) ⟨[a, b], []⟩ = pure [(p0, a), (p1, b)])
    (hk : ∀ (kV doc pm : Value) (an : Option Addr) (cdv ct : Value) (a b : Value), bindArgs (PySem.W.fnOf x qual params body scope .none kV doc pm an cdv ct) ⟨[a], [(p1, b)]⟩ = pure [(p0, a), (p1, b)])
    (len : ∀ ds cs Kk KE, F ds cs Kk KE → ds.length = 2)
    (walk : ∀ (cdv : Value) (A : Around) (outer : List Env) (s : Shared) (H : Hp) (E : XK) (ds : List D) (cs : Cs) (Kk : D → Cs → Prop) (KE : Addr → List (Str × D) → Cs → Prop), Room k (A.deeper (envOfC qual scope s.heap.objs.size (He.ma K C x) cdv)) → F ds cs Kk KE →
      SW (cxOf CX P w K mg base N qual scope (He.ma K C x) cdv A outer s H E) ⟨H, cs, E, KE⟩ body ⟨startD N ds, cs⟩ { nx := fun s => Kk .non s.cs, rt := fun d s => Kk d s.cs }) : Mk1 P w K mg base CX (k + 1) C x p0 p1 (spF F) := by
  refine mfk1 q c m S (fun vs H Q E h => ?_) hb hk (fun cdv A outer s H vs Q E hr h => ?_)
  · obtain ⟨ds, cs, Kk, KE, r, ok, f, _⟩ := h
    rw [r.len]
    exact len _ _ _ _ f
  · obtain ⟨ds, cs, Kk, KE, r, ok, f, q1, q2⟩ := h
    exact body_go r ok q1 q2 (walk cdv A outer s H E ds cs Kk KE hr f)
theorem mfkF2 (q : ∃ fd, FunD K x qual params body scope [] [] (He.ma K C x) fd) (c : Cls K C) (m : Meth K C x (He.ma K C x)) (S : FnScope N [p0, p1, p2] scope)
    (hb : ∀ (kV doc pm : Value) (an : Option Addr) (cdv ct : Value) (a b c : Value), bindArgs (PySem.W.fnOf x qual params body scope .none kV doc pm an cdv ct) ⟨[a, b, c], []⟩ = pure [(p0, a), (p1, b), (p2, c)])
    (hk : ∀ (kV doc pm : Value) (an : Option Addr) (cdv ct : Value) (a b c : Value), bindArgs (PySem.W.fnOf x qual params body scope .none kV doc pm an cdv ct) ⟨[a], [(p2, c), (p1, b)]⟩ = pure [(p0, a), (p1, b), (p2, c)])
    (len : ∀ ds cs Kk KE, F ds cs Kk KE → ds.length = 3)
    (walk : ∀ (cdv : Value) (A : Around) (outer : List Env) (s : Shared) (H : Hp) (E : XK) (ds : List D) (cs : Cs) (Kk : D → Cs → Prop) (KE : Addr → List (Str × D) → Cs → Prop), Room k (A.deeper (envOfC qual scope s.heap.objs.size (He.ma K C x) cdv)) → F ds cs Kk KE →
      SW (cxOf CX P w K mg base N qual scope (He.ma K C x) cdv A outer s H E) ⟨H, cs, E, KE⟩ body ⟨startD N ds, cs⟩ { nx := fun s => Kk .non s.cs, rt := fun d s => Kk d s.cs }) : Mk2 P w K mg base CX (k + 1) C x p0 p1 p2 (spF F) := by
  refine mfk2 q c m S (fun vs H Q E h => ?_) hb hk (fun cdv A outer s H vs Q E hr h => ?_)
  · obtain ⟨ds, cs, Kk, KE, r, ok, f, _⟩ := h
    rw [r.len]
    exact len _ _ _ _ f
  · obtain ⟨ds, cs, Kk, KE, r, ok, f, q1, q2⟩ := h
    exact body_go r ok q1 q2 (walk cdv A outer s H E ds cs Kk KE hr f)
end
end Sx
set_option Elab.async false
set_option linter.all false
set_option maxRecDepth 100000
set_option maxHeartbeats 2000000
namespace Sx
open PySem PySem.Spec PyProof.Rows L2
/-! ### equality told by ours -/
mutual
/-- data no deeper than n -/
def D.tm : D → Nat → Bool
  | .non, _ => true
  | .bl _, _ => true
  | .int _, _ => true
  | .str x, _ => PyData.strOk x
  | .lst xs, n => decide (0 < n) && D.tmL xs (n - 1)
  | .tup xs, n => decide (0 < n) && D.tmL xs (n - 1)
  | .obj _ _, _ => false
  | .exc _ _, _ => false
  | .dct0, _ => false
  | .own _, _ => false
  | .raw _, _ => false
def D.tmL : List D → Nat → Bool
  | [], _ => true
  | d :: ds, n => D.tm d n && D.tmL ds n
end
mutual
theorem tm_go : ∀ (d : D) (n : Nat), d.tm n = true → d.dat = true ∧ d.py.canLay0 = true ∧ d.py.depth ≤ n
  | .non, n, h => ⟨rfl, rfl, Nat.zero_le _⟩
  | .bl b, n, h => ⟨rfl, rfl, Nat.zero_le _⟩
  | .int i, n, h => ⟨rfl, rfl, Nat.zero_le _⟩
  | .str x, n, h => ⟨rfl, by simpa [D.tm, D.py, PyData.canLay0] using h, Nat.zero_le _⟩
  | .lst xs, n, h => by
    simp only [D.tm, Bool.and_eq_true, decide_eq_true_eq] at h
    obtain ⟨a, b, c⟩ := tmL_go xs _ h.2
    refine ⟨by simpa only [D.dat] using a, by simpa only [D.py, PyData.canLay0] using b, ?_⟩
    simp only [D.py, PyData.depth]
    omega
  | .tup xs, n, h => by
    simp only [D.tm, Bool.and_eq_true, decide_eq_true_eq] at h
    obtain ⟨a, b, c⟩ := tmL_go xs _ h.2
    refine ⟨by simpa only [D.dat] using a, by simpa only [D.py, PyData.canLay0] using b, ?_⟩
    simp only [D.py, PyData.depth]
    omega
  | .obj _ _, _, h => by simp only [D.tm] at h; cases h
  | .exc _ _, _, h => by simp only [D.tm] at h; cases h
  | .dct0, _, h => by simp only [D.tm] at h; cases h
  | .own _, _, h => by simp only [D.tm] at h; cases h
  | .raw _, _, h => by simp only [D.tm] at h; cases h
theorem tmL_go : ∀ (ds : List D) (n : Nat), D.tmL ds n = true → D.datL ds = true ∧ PyData.canLayAll0 (D.pyL ds) = true ∧ PyData.depthAll (D.pyL ds) ≤ n
  | [], n, h => ⟨rfl, rfl, Nat.zero_le _⟩
  | d :: ds, n, h => by
    simp only [D.tmL, Bool.and_eq_true] at h
    obtain ⟨a, b, c⟩ := tm_go d n h.1
    obtain ⟨a2, b2, c2⟩ := tmL_go ds n h.2
    refine ⟨by simp only [D.datL, a, a2]; rfl, by simp only [D.pyL, PyData.canLayAll0, b, b2]; rfl, ?_⟩
    simp only [D.pyL, PyData.depthAll]
    omega
end
theorem tm_ok {d : D} {n : Nat} (h : d.tm n = true) (hn : n ≤ 64) : d.ok = true := by
  obtain ⟨a, b, c⟩ := tm_go d n h
  unfold D.ok SeqAt.shaped
  rw [a, b, decide_eq_true (by omega)]
  rfl
theorem tmL_map {α : Type} (f : α → D) (n : Nat) : ∀ l : List α, (∀ x ∈ l, (f x).tm n = true) → D.tmL (l.map f) n = true
  | [], _ => rfl
  | x :: l, h => by
    simp only [List.map_cons, D.tmL, Bool.and_eq_true]
    exact ⟨h x List.mem_cons_self, tmL_map f n l fun y hy => h y (List.mem_cons_of_mem _ hy)⟩
theorem eqv_self {d : D} (h : d.ok = true) : D.eqv d d = true := by
  obtain ⟨_, b⟩ := Bool.and_eq_true_iff.mp h
  exact SeqAt.eqv_refl _ (SeqAt.canLay_of_shaped b)
mutual
/-- no bool -/
def D.nb : D → Bool
  | .non => true
  | .int _ => true
  | .str _ => true
  | .lst xs => D.nbL xs
  | .tup xs => D.nbL xs
  | .bl _ => false
  | .obj _ _ => false
  | .exc _ _ => false
  | .dct0 => false
  | .own _ => false
  | .raw _ => false
def D.nbL : List D → Bool
  | [] => true
  | d :: ds => D.nb d && D.nbL ds
end
mutual
theorem eqv_eq : ∀ (d e : D), d.nb = true → e.nb = true → PyData.eqv d.py e.py = true → d = e
  | .non, e, _, h2, q => by cases e <;> first | rfl | (refine absurd q ?_; simp [D.py, PyData.eqv]; done) | (refine absurd h2 ?_; simp [D.nb]; done)
  | .int i, e, _, h2, q => by
    cases e with
    | int j =>
      simp only [D.py, PyData.eqv, beq_iff_eq] at q
      rw [q]
    | _ => first | (refine absurd q ?_; simp [D.py, PyData.eqv]; done) | (refine absurd h2 ?_; simp [D.nb]; done)
  | .str x, e, _, h2, q => by
    cases e with
    | str j =>
      simp only [D.py, PyData.eqv, beq_iff_eq] at q
      rw [q]
    | _ => first | (refine absurd q ?_; simp [D.py, PyData.eqv]; done) | (refine absurd h2 ?_; simp [D.nb]; done)
  | .lst xs, e, h1, h2, q => by
    cases e with
    | lst ys =>
      simp only [D.nb] at h1 h2
      simp only [D.py, PyData.eqv] at q
      rw [eqvL_eq xs ys h1 h2 q]
    | _ => first | (refine absurd q ?_; simp [D.py, PyData.eqv]; done) | (refine absurd h2 ?_; simp [D.nb]; done)
  | .tup xs, e, h1, h2, q => by
    cases e with
    | tup ys =>
      simp only [D.nb] at h1 h2
      simp only [D.py, PyData.eqv] at q
      rw [eqvL_eq xs ys h1 h2 q]
    | _ => first | (refine absurd q ?_; simp [D.py, PyData.eqv]; done) | (refine absurd h2 ?_; simp [D.nb]; done)
  | .bl _, _, h, _, _ => by simp only [D.nb] at h; cases h
  | .obj _ _, _, h, _, _ => by simp only [D.nb] at h; cases h
  | .exc _ _, _, h, _, _ => by simp only [D.nb] at h; cases h
  | .dct0, _, h, _, _ => by simp only [D.nb] at h; cases h
  | .own _, _, h, _, _ => by simp only [D.nb] at h; cases h
  | .raw _, _, h, _, _ => by simp only [D.nb] at h; cases h
theorem eqvL_eq : ∀ (ds es : List D), D.nbL ds = true → D.nbL es = true → PyData.eqvAll (D.pyL ds) (D.pyL es) = true → ds = es
  | [], [], _, _, _ => rfl
  | [], _ :: _, _, _, q => by simp only [D.pyL, PyData.eqvAll] at q; cases q
  | _ :: _, [], _, _, q => by simp only [D.pyL, PyData.eqvAll] at q; cases q
  | d :: ds, e :: es, h1, h2, q => by
    simp only [D.nbL, Bool.and_eq_true] at h1 h2
    simp only [D.pyL, PyData.eqvAll, Bool.and_eq_true] at q
    rw [eqv_eq d e h1.1 h2.1 q.1, eqvL_eq ds es h1.2 h2.2 q.2]
end
theorem nbL_map {α : Type} (f : α → D) : ∀ l : List α, (∀ x ∈ l, (f x).nb = true) → D.nbL (l.map f) = true
  | [], _ => rfl
  | x :: l, h => by
    simp only [List.map_cons, D.nbL, Bool.and_eq_true]
    exact ⟨h x List.mem_cons_self, nbL_map f l fun y hy => h y (List.mem_cons_of_mem _ hy)⟩
theorem eqv_no {d e : D} (h1 : d.nb = true) (h2 : e.nb = true) (n : d ≠ e) : D.eqv d e = false := by
  cases q : D.eqv d e with
  | false => rfl
  | true => exact absurd (eqv_eq d e h1 h2 q) n
end Sx
set_option Elab.async false
set_option linter.all false
set_option maxRecDepth 100000
set_option maxHeartbeats 2000000
namespace Sx
open PySem PySem.Spec PyProof.Rows L2
section
variable {X : Cx} {B : Bs} {ss : SS} {Q : D → SS → Prop} {T : Bool → SS → Prop} {L : List D → SS → Prop} {k : Kt} {a b c e o elt tg iter : Expr} {es ifs : List Expr} {pos p apos p' : Pos} {CX : CXT} {n : Nat} {x m f : Str} {C : Addr} {ps : List Str} {F : FT} {scope : Scope}
def tabsOf : Cs → List (Addr × Str)
  | [] => []
  | (a, .tab q) :: r => (a, q) :: tabsOf r
  | (_, .lst _) :: r => tabsOf r
  | (_, .ins _ _) :: r => tabsOf r
  | (_, .pen _ _) :: r => tabsOf r
theorem mem_tabsOf {a : Addr} {q : Str} : ∀ {cs : Cs}, (a, q) ∈ tabsOf cs ↔ (a, Cell.tab q) ∈ cs
  | [] => by simp [tabsOf]
  | (b, .tab q2) :: r => by
    unfold tabsOf
    rw [List.mem_cons, List.mem_cons, mem_tabsOf (cs := r)]
    exact or_congr ⟨fun h => by cases h; rfl, fun h => by cases h; rfl⟩ Iff.rfl
  | (b, .lst _) :: r => by
    unfold tabsOf
    rw [List.mem_cons, mem_tabsOf (cs := r)]
    exact ⟨.inr, fun h => h.elim (fun z => by cases z) id⟩
  | (b, .ins _ _) :: r => by
    unfold tabsOf
    rw [List.mem_cons, mem_tabsOf (cs := r)]
    exact ⟨.inr, fun h => h.elim (fun z => by cases z) id⟩
  | (b, .pen _ _) :: r => by
    unfold tabsOf
    rw [List.mem_cons, mem_tabsOf (cs := r)]
    exact ⟨.inr, fun h => h.elim (fun z => by cases z) id⟩
/-- what every state of the kind tells -/
theorem ew_of {q : Prop} (hq : ∀ σ H, Sat B ss σ H → q) (h : q → EW X B e ss Q) : EW X B e ss Q := ⟨⟨fun pins s σ H QQ I z => (h (hq σ H z.1)).p.run pins s σ H QQ I z⟩⟩
theorem nd_mem {cs : Cs} (n : (cs.map Prod.fst).Nodup) {a : Addr} {c d : Cell} (h1 : (a, c) ∈ cs) (h2 : (a, d) ∈ cs) : c = d := by
  induction cs with
  | nil => cases h1
  | cons x r ih =>
    rw [List.map_cons, List.nodup_cons] at n
    rcases List.mem_cons.mp h1 with z | z
    · rcases List.mem_cons.mp h2 with y | y
      · rw [← z] at y
        cases y
        rfl
      · exact absurd (List.mem_map.mpr ⟨_, y, rfl⟩) (by rw [← z] at n; exact n.1)
    · rcases List.mem_cons.mp h2 with y | y
      · exact absurd (List.mem_map.mpr ⟨_, z, rfl⟩) (by rw [← y] at n; exact n.1)
      · exact ih n.2 z y
theorem Sat.tabsA {σ : L2.St} {H H1 : Hp} (s : Sat B ss σ H) (eN : LamX.ExtN H H1) (t : LamX.Tabs (tabsOf ss.cs) H1) {E' : XK} {Ex : Addr → List (Str × D) → Cs → Prop} (bok : BOk ⟨H1, ss.cs, E', Ex⟩) :
    Sat ⟨H1, ss.cs, E', Ex⟩ ss σ H1 ∧ Ext (ow ss.cs) H (ow ss.cs) H1 := by
  have e : Ext (ow ss.cs) H (ow ss.cs) H1 := Ext.tabs eN
  refine ⟨⟨s.len, fun i d h => ?_, ⟨fun b c hm => ?_, s.ok.nd⟩, Ext.refl, bok⟩, e⟩
  · obtain ⟨v, e1, r⟩ := s.sl i d h
    exact ⟨v, e1, r.ext e⟩
  · obtain ⟨i, hi⟩ := List.getElem?_of_mem hm
    have z := s.ok.ok b c hm
    cases c with
    | tab q' =>
      obtain ⟨ps, h1, h2, h3⟩ := t (b, q') (mem_tabsOf.mpr hm)
      refine ⟨ps, h1, h2, fun pos cv hc => ?_⟩
      obtain ⟨c, e1, e2⟩ := h3 pos cv hc
      refine ⟨c, e1, e2, fun m => ?_⟩
      obtain ⟨o, ho⟩ := s.ok.there m
      obtain ⟨⟨b2, c2⟩, hb2, eb⟩ := List.mem_map.mp m
      have z2 := s.ok.ok _ _ hb2
      have eb : b2 = c := eb
      subst eb
      have diff : ∀ o, H b2 = some o → (∀ ps, o ≠ .tbl ps) → o = LamX.CodeO b2 q' := fun o h nt => Option.some.inj ((eN _ _ h nt).symm.trans e2)
      cases c2 with
      | lst ds => obtain ⟨_, e, _⟩ := z2; have := diff _ e ntL; unfold LamX.CodeO at this; cases this
      | ins C fs => obtain ⟨_, _, e, _⟩ := z2; have := diff _ e ntI; unfold LamX.CodeO at this; cases this
      | pen ns k => obtain ⟨_, _, _, e, _⟩ := z2; have := diff _ e ntL; unfold LamX.CodeO at this; cases this
      | tab q2 =>
        obtain ⟨ps2, g1, _⟩ := t (b2, q2) (mem_tabsOf.mpr hb2)
        have g1 : H1 b2 = some (.tbl ps2) := g1
        rw [g1] at e2
        have := Option.some.inj e2
        unfold LamX.CodeO at this
        cases this
    | lst ds =>
      obtain ⟨xs, h1, h2⟩ := z
      exact ⟨xs, eN _ _ h1 ntL, h2.ext e⟩
    | ins C fs =>
      obtain ⟨dx, vs, h1, h2⟩ := z
      exact ⟨dx, vs, eN _ _ h1 ntI, h2.ext e⟩
    | pen ns n =>
      obtain ⟨b, s, g, h1, h2, h3, h4⟩ := z
      exact ⟨b, s, g, eN _ _ h1 ntL, e.kp _ _ h3 ntL h2, h3, h4⟩
/-- _law_heard(lambda: body) -/
theorem ew_heardA {HR : HRt} {Pa cc g : Addr} {q a : Str} {j : Nat} {pg params : Arguments} {bg : List Stmt} {sg lsc : Scope} {dV kV doc pm cdv ct oc : Value} {an od : Option Addr} {osl : Array (Option Value)} {Ng : List Str} {body : Expr} {kk : Nat} {lpos : Pos}
    (hg : Gl X x) (hm : X.mg x = some (.ref g)) (hk : PySem.W.keepIn X.K (.ref g) = true)
    (lk : X.K.lookup g = some ⟨oc, od, .func (PySem.W.fnOf x x pg bg sg dV kV doc pm an cdv ct), osl⟩) (hcg : PySem.W.codeIn X.K cdv x = true) (hb : L2.Binds X.K (PySem.W.fnOf x x pg bg sg dV kV doc pm an cdv ct) [a] []) (Sg : FnScope Ng [a] sg) (hNg : Ng[0]? = some a) (hva : Vis sg a)
    (hG : LamX.GivesTo X Ng x sg g cdv bg a (X.env.qual ++ "<lambda>") (TThD HR)) (TB : LamX.TabB X.base X.mg cc Pa) (hcode : X.env.code = .ref cc) (hq : q = X.env.qual ++ "<lambda>") (hj : ss.cs[j]? = some (Pa, .tab q)) (only : ∀ a q', (a, Cell.tab q') ∈ ss.cs → a = Pa → q' = q)
    (hr : Room (kk + 2) X.A) (Ls : LamX.LamS X.env.scope lsc) (hdef : defaultsOf params X.env = ([], []))
    (hbind : ∀ (q : Str) (cl : List (Str × Addr)) (pm cv ctv : Value), bindArgs (PySem.W.kla_fn "<lambda>" q params body lsc cl pm cv ctv) ⟨[], []⟩ = pure [])
    (h : ∀ (A : Around) (outer : List Env) (s : Shared) (H Hb : Hp) (E : XK) (f c' : Addr), Room kk (A.deeper (LamX.lamEnv X lsc s.heap.objs.size f c')) → EW (LamX.lamCx X A outer s H E lsc f c') ⟨Hb, ss.cs, E, fun C fs cs => HR C fs cs fun d cs => Q d ⟨ss.sl, cs⟩⟩ body ss fun d s' => Q (.lst [d]) ⟨ss.sl, s'.cs⟩)
    (hdb : (x == ("__debug__" : Str)) = false := by decide) (hd : (a == ("__debug__" : Str)) = false := by decide) (hcd : (a == ("__classdict__" : Str)) = false := by decide) : EW X B (.Call (.Name x p) [.Lambda params body lsc lpos] [] pos) ss Q := by
  subst hq
  have body_ := fun A outer s H E f c' hr2 => (PEimp (t' := fun σ H1 QQ => tE ⟨H1, ss.cs, E, fun C fs cs => HR C fs cs fun d cs => Q d ⟨ss.sl, cs⟩⟩ ss (fun d s' => Q (.lst [d]) ⟨ss.sl, s'.cs⟩) σ H1 QQ)
    (t := fun σ H1 QQ => ∃ Hb, tE ⟨Hb, ss.cs, E, fun C fs cs => HR C fs cs fun d cs => Q d ⟨ss.sl, cs⟩⟩ ss (fun d s' => Q (.lst [d]) ⟨ss.sl, s'.cs⟩) σ H1 QQ) ⟨fun pins s1 σ H1 QQ I ⟨Hb, q⟩ => (h A outer s H Hb E f c' hr2).p.run pins s1 σ H1 QQ I q⟩ fun σ H1 QQ q => ⟨H1, q⟩)
  have P := LamX.pe_lamcall (X := X) (T := tabsOf ss.cs) (p := p) (lpos := lpos) (pos := pos) (t := fun E σ H1 QQ => tE ⟨H1, ss.cs, E, fun C fs cs => HR C fs cs fun d cs => Q d ⟨ss.sl, cs⟩⟩ ss (fun d s' => Q (.lst [d]) ⟨ss.sl, s'.cs⟩) σ H1 QQ)
    hg hm hk lk hcg hb Sg hNg hva hG TB hcode (mem_tabsOf.mpr (List.mem_of_getElem? hj)) (fun p hp e => only p.1 p.2 (mem_tabsOf.mp hp) e) hr Ls hdef hbind body_ hdb hd hcd
  refine ⟨PEimp P fun σ H QQ ⟨s, k⟩ => ⟨fun p hp => ?_, fun H1 eN t1 => ?_⟩⟩
  · obtain ⟨ps, h1, h2, h3⟩ := s.ok.ok p.1 (Cell.tab p.2) (mem_tabsOf.mp hp)
    exact ⟨ps, h1, h2, fun pos cv hc => by
      obtain ⟨c, e1, e2, _⟩ := h3 pos cv hc
      exact ⟨c, e1, e2⟩⟩
  · have bok : BOk ⟨H1, ss.cs, fun cls d H1 => ∃ C x vs fs cs, cls = .ref C ∧ d = some x ∧ H1 x = some (.xd vs) ∧ CsOk H1 cs ∧ VlF H1 (ow cs) vs fs ∧
        ∃ R, HR C fs cs R ∧ ∀ v d H2 cs2, R d cs2 → Ext (ow cs) H1 (ow cs2) H2 → CsOk H2 cs2 → Vl H2 (ow cs2) v d → QQ v H2, fun C fs cs => HR C fs cs fun d cs => Q d ⟨ss.sl, cs⟩⟩ := by
      intro C fs cs x vs H' hx e ok hxd rf
      refine ⟨C, x, vs, fs, cs, rfl, rfl, hxd, ok, rf, _, hx, fun v d H2 cs2 q2 e2 ok2 r2 => ?_⟩
      have e0 : Ext (ow ss.cs) H (ow ss.cs) H1 := Ext.tabs eN
      have st := (s.tabsA eN t1 (E' := fun _ _ _ => True) (Ex := fun _ _ _ => False) (fun _ _ _ _ _ _ z => z.elim)).1
      refine k v d ⟨ss.sl, cs2⟩ H2 q2 ?_ ((e0.trans e).trans e2) r2
      exact s.cs ((e0.trans e).trans e2) ok2
    obtain ⟨sat1, e1⟩ := s.tabsA eN t1 bok
    refine ⟨sat1, fun v d ss' H' q sat' e' r' l hl => ?_⟩
    have S := Pre.Same.upd (o := .lst [v]) hl
    refine k _ (.lst [d]) ⟨ss.sl, ss'.cs⟩ _ q ?_ ((e1.trans e').trans (Ext.same S)) (.lst upd_same (sat'.new hl) (.cons (r'.ext (Ext.same S)) .nil))
    exact s.cs ((e1.trans e').trans (Ext.same S)) (sat'.ok.same S)
theorem ew_heardT {HR : HRt} {Pa cc g : Addr} {q a : Str} {j : Nat} {pg params : Arguments} {bg : List Stmt} {sg lsc : Scope} {dV kV doc pm cdv ct oc : Value} {an od : Option Addr} {osl : Array (Option Value)} {Ng : List Str} {body : Expr} {kk : Nat} {lpos : Pos}
    (hg : Gl X x) (hm : X.mg x = some (.ref g)) (hk : PySem.W.keepIn X.K (.ref g) = true)
    (lk : X.K.lookup g = some ⟨oc, od, .func (PySem.W.fnOf x x pg bg sg dV kV doc pm an cdv ct), osl⟩) (hcg : PySem.W.codeIn X.K cdv x = true) (hb : L2.Binds X.K (PySem.W.fnOf x x pg bg sg dV kV doc pm an cdv ct) [a] []) (Sg : FnScope Ng [a] sg) (hNg : Ng[0]? = some a) (hva : Vis sg a)
    (hG : LamX.GivesTo X Ng x sg g cdv bg a (X.env.qual ++ "<lambda>") (TThD HR)) (TB : LamX.TabB X.base X.mg cc Pa) (hcode : X.env.code = .ref cc) (hq : q = X.env.qual ++ "<lambda>") (hj : ss.cs[j]? = some (Pa, .tab q))
    (hr : Room (kk + 2) X.A) (Ls : LamX.LamS X.env.scope lsc) (hdef : defaultsOf params X.env = ([], []))
    (hbind : ∀ (q : Str) (cl : List (Str × Addr)) (pm cv ctv : Value), bindArgs (PySem.W.kla_fn "<lambda>" q params body lsc cl pm cv ctv) ⟨[], []⟩ = pure [])
    (h : ∀ (A : Around) (outer : List Env) (s : Shared) (H Hb : Hp) (E : XK) (f c' : Addr), Room kk (A.deeper (LamX.lamEnv X lsc s.heap.objs.size f c')) → EW (LamX.lamCx X A outer s H E lsc f c') ⟨Hb, ss.cs, E, fun C fs cs => HR C fs cs fun d cs => Q d ⟨ss.sl, cs⟩⟩ body ss fun d s' => Q (.lst [d]) ⟨ss.sl, s'.cs⟩)
    (hdb : (x == ("__debug__" : Str)) = false := by decide) (hd : (a == ("__debug__" : Str)) = false := by decide) (hcd : (a == ("__classdict__" : Str)) = false := by decide) : EW X B (.Call (.Name x p) [.Lambda params body lsc lpos] [] pos) ss Q := ew_of (q := ∀ a q', (a, Cell.tab q') ∈ ss.cs → a = Pa → q' = q) (fun σ H s a q' h e => by
    have h2 := List.mem_of_getElem? hj
    rw [e] at h
    have z := nd_mem s.ok.nd h h2
    cases z
    rfl) fun only => ew_heardA hg hm hk lk hcg hb Sg hNg hva hG TB hcode hq hj only hr Ls hdef hbind h hdb hd hcd
/-! ### defs that show data -/
structure DfnG (P : Program) (w : World) (K : PySem.W.Frag) (mg : Str → Option Value) (base : Heap) (CX : CXT) (k : Nat) (x : Str) (ps : List Str) (sp : Sp) : Prop where
  at_ : mg x = some (.ref (He.ga K x))
  kp : PySem.W.keepIn K (.ref (He.ga K x)) = true
  ok : ∃ fd, Shw.FnG P w K mg base CX k (He.ga K x) fd ps sp ∧ L2.Binds K fd ps []
theorem ew_callG {E' : XK} {KE' : Addr → List (Str × D) → Cs → Prop} (xs : Exs B E' KE') (Dd : DfnG X.prog X.w X.K X.mg X.base CX n x ps (spF F)) (hr : Room n X.A) (still : X.A.guards = some []) (hg : Gl X x) (hx : Passes CX X E') (h : AW X B (e :: es) ss fun ds s => F ds s.cs (fun d cs => Q d ⟨s.sl, cs⟩) KE')
    (hdb : (x == ("__debug__" : Str)) = false := by decide) (he : starEach (e :: es) X.env = (false, eval e X.env) :: starEach es X.env := by rfl) (hpl : (backTo pos (starEach es X.env)).any (·.1) = false := by rfl) : EW X B (.Call (.Name x p) (e :: es) [] pos) ss Q := by
  obtain ⟨fd, G, hb⟩ := Dd.ok
  exact ⟨PEimp (Shw.pe_callG G hr still hg Dd.at_ Dd.kp hb (.nil) hx h.p hdb he hpl) fun σ H QQ ⟨s, k⟩ => ⟨s, fun vs ds s1 H1 q1 sat1 e1 r1 => by
    show spF F (vs ++ []) H1 QQ E'
    rw [List.append_nil]
    exact sp_go xs sat1 e1 r1 k q1⟩⟩
end
section
variable {P : Program} {w : World} {K : PySem.W.Frag} {mg : Str → Option Value} {base : Heap} {CX : CXT} {k : Nat} {x qual : Str} {params : Arguments} {body : List Stmt} {scope : Scope} {N ps : List Str} {F : FT}
theorem okGF {f : Addr} {fd : FuncData} {dvs : List V} {kws : List (Str × V)} (q : FunD K x qual params body scope dvs kws f fd) (S : FnScope N ps scope) (len : ∀ ds cs Kk KE, F ds cs Kk KE → ds.length = ps.length)
    (walk : ∀ (cdv : Value) (A : Around) (outer : List Env) (s : Shared) (H : Hp) (E : XK) (ds : List D) (cs : Cs) (Kk : D → Cs → Prop) (KE : Addr → List (Str × D) → Cs → Prop), Room k (A.deeper (envOfC qual scope s.heap.objs.size f cdv)) → (A.deeper (envOfC qual scope s.heap.objs.size f cdv)).guards = some [] → F ds cs Kk KE →
      SW (cxOf CX P w K mg base N qual scope f cdv A outer s H E) ⟨H, cs, E, KE⟩ body ⟨startD N ds, cs⟩ { nx := fun s => Kk .non s.cs, rt := fun d s => Kk d s.cs }) : Shw.FnG P w K mg base CX (k + 1) f fd ps (spF F) := by
  refine Shw.okG q S (fun vs H Q E h => ?_) (fun cdv A outer s H vs Q E hr hgu h => ?_)
  · obtain ⟨ds, cs, Kk, KE, r, ok, f, _⟩ := h
    rw [r.len]
    exact len _ _ _ _ f
  · obtain ⟨ds, cs, Kk, KE, r, ok, f, q1, q2⟩ := h
    exact body_go r ok q1 q2 (walk cdv A outer s H E ds cs Kk KE hr hgu f)
end
end Sx
set_option Elab.async false
set_option linter.all false
set_option maxRecDepth 100000
set_option maxHeartbeats 2000000
namespace Sx
open PySem PySem.Spec PyProof.Rows L2
section
variable {P : Program} {w : World} {K : PySem.W.Frag} {mg : Str → Option Value} {base : Heap} {CX : CXT} {k : Nat} {x qual : Str} {params : Arguments} {body : List Stmt} {scope : Scope} {N ps : List Str} {F : FT}
theorem fnGF {f : Addr} {oc : Value} {od : Option Addr} {osl : Array (Option Value)} {dV kV doc pm cdv ct : Value} {an : Option Addr}
    (lk : K.lookup f = some ⟨oc, od, .func (PySem.W.fnOf x qual params body scope dV kV doc pm an cdv ct), osl⟩) (hcd : PySem.W.codeIn K cdv qual = true) (S : FnScope N ps scope) (len : ∀ ds cs Kk KE, F ds cs Kk KE → ds.length = ps.length)
    (walk : ∀ (A : Around) (outer : List Env) (s : Shared) (H : Hp) (E : XK) (ds : List D) (cs : Cs) (Kk : D → Cs → Prop) (KE : Addr → List (Str × D) → Cs → Prop), Room k (A.deeper (envOfC qual scope s.heap.objs.size f cdv)) → (A.deeper (envOfC qual scope s.heap.objs.size f cdv)).guards = some [] → F ds cs Kk KE →
      SW (cxOf CX P w K mg base N qual scope f cdv A outer s H E) ⟨H, cs, E, KE⟩ body ⟨startD N ds, cs⟩ { nx := fun s => Kk .non s.cs, rt := fun d s => Kk d s.cs }) : Shw.FnG P w K mg base CX (k + 1) f (PySem.W.fnOf x qual params body scope dV kV doc pm an cdv ct) ps (spF F) := by
  refine Shw.fnG_of lk hcd S (fun vs H Q E h => ?_) (fun A outer s H vs Q E hr hgu h => ?_)
  · obtain ⟨ds, cs, Kk, KE, r, ok, f, _⟩ := h
    rw [r.len]
    exact len _ _ _ _ f
  · obtain ⟨ds, cs, Kk, KE, r, ok, f, q1, q2⟩ := h
    exact body_go r ok q1 q2 (walk A outer s H E ds cs Kk KE hr hgu f)
/-- a def that shows data, of which lambdas are born: its code is the table's -/
theorem dfnGT (q : ∃ fd, FunD K x qual params body scope [] [] (He.ga K x) fd) (g : mg x = some (.ref (He.ga K x))) (S : FnScope N ps scope)
    (hb : ∀ (kV doc pm : Value) (an : Option Addr) (cdv ct : Value) (us : List Value), us.length = ps.length → bindArgs (PySem.W.fnOf x qual params body scope .none kV doc pm an cdv ct) ⟨us, []⟩ = pure (ps.zip us))
    (len : ∀ ds cs Kk KE, F ds cs Kk KE → ds.length = ps.length) {Pa : Addr} (TB : LamX.TabB base mg (He.codeOf K (x, none)) Pa) (hf : He.fAd K (x, none) = He.ga K x)
    (walk : ∀ (c : Addr) (TB : LamX.TabB base mg c Pa) (A : Around) (outer : List Env) (s : Shared) (H : Hp) (E : XK) (ds : List D) (cs : Cs) (Kk : D → Cs → Prop) (KE : Addr → List (Str × D) → Cs → Prop), Room k (A.deeper (envOfC qual scope s.heap.objs.size (He.ga K x) (.ref c))) → (A.deeper (envOfC qual scope s.heap.objs.size (He.ga K x) (.ref c))).guards = some [] → F ds cs Kk KE →
      SW (cxOf CX P w K mg base N qual scope (He.ga K x) (.ref c) A outer s H E) ⟨H, cs, E, KE⟩ body ⟨startD N ds, cs⟩ { nx := fun s => Kk .non s.cs, rt := fun d s => Kk d s.cs }) : DfnG P w K mg base CX (k + 1) x ps (spF F) := by
  obtain ⟨fd, F⟩ := q
  have hb := F.bindsN hb
  have kp := F.kp
  obtain ⟨oc, od, dV, kV, doc, pm, an, cdv, ct, osl, rfl, lk, hcd, _, _⟩ := F.ex
  obtain ⟨c, rfl⟩ := He.codeIn_ref hcd
  have ec : He.codeOf K (x, none) = c := He.codeOf_eq (by rw [hf]; exact lk) rfl
  rw [ec] at TB
  exact ⟨g, kp, _, fnGF lk hcd S len (fun A outer s H E ds cs Kk KE hr hgu f => walk c TB A outer s H E ds cs Kk KE hr hgu f), hb⟩
/-- a def that shows data -/
theorem dfnG (q : ∃ fd, FunD K x qual params body scope [] [] (He.ga K x) fd) (g : mg x = some (.ref (He.ga K x))) (S : FnScope N ps scope)
    (hb : ∀ (kV doc pm : Value) (an : Option Addr) (cdv ct : Value) (us : List Value), us.length = ps.length → bindArgs (PySem.W.fnOf x qual params body scope .none kV doc pm an cdv ct) ⟨us, []⟩ = pure (ps.zip us))
    (len : ∀ ds cs Kk KE, F ds cs Kk KE → ds.length = ps.length)
    (walk : ∀ (cdv : Value) (A : Around) (outer : List Env) (s : Shared) (H : Hp) (E : XK) (ds : List D) (cs : Cs) (Kk : D → Cs → Prop) (KE : Addr → List (Str × D) → Cs → Prop), Room k (A.deeper (envOfC qual scope s.heap.objs.size (He.ga K x) cdv)) → (A.deeper (envOfC qual scope s.heap.objs.size (He.ga K x) cdv)).guards = some [] → F ds cs Kk KE →
      SW (cxOf CX P w K mg base N qual scope (He.ga K x) cdv A outer s H E) ⟨H, cs, E, KE⟩ body ⟨startD N ds, cs⟩ { nx := fun s => Kk .non s.cs, rt := fun d s => Kk d s.cs }) : DfnG P w K mg base CX (k + 1) x ps (spF F) := by
  obtain ⟨fd, F⟩ := q
  exact ⟨g, F.kp, fd, okGF F S len walk, F.bindsN hb⟩
end
end Sx
set_option Elab.async false
set_option linter.all false
set_option maxRecDepth 100000
set_option maxHeartbeats 2000000
namespace Sx
open PySem PySem.Spec PyProof.Rows L2
/-! ### texts -/
theorem vl_strs {H : Hp} {M : Addr → Prop} : ∀ zs : List Str, VlL H M (zs.map V.str) (zs.map D.str)
  | [] => .nil
  | z :: zs => .cons (.str z) (vl_strs zs)
theorem vl_strs' {H : Hp} {M : Addr → Prop} : ∀ {zs : List Str} {vs : List V}, VlL H M vs (zs.map D.str) → vs = zs.map V.str
  | [], _, r => by cases r; rfl
  | z :: zs, _, r => by
    cases r with
    | cons a b =>
      cases a
      rw [vl_strs' b]
      rfl
section
variable {X : Cx} {B : Bs} {ss : SS} {Q : D → SS → Prop} {T : Bool → SS → Prop} {L : List D → SS → Prop} {k : Kt} {a b c e o elt tg iter : Expr} {es ifs : List Expr} {pos p apos p' : Pos} {CX : CXT} {n : Nat} {x m f : Str} {C : Addr} {ps : List Str} {F : FT} {scope : Scope}
theorem ew_starts (h : EW X B o ss fun d s => ∃ z, d = .str z ∧ EW X B e s fun d2 s2 => ∃ y, d2 = .str y ∧ Q (.bl (Txt.startswith z y)) s2)
    (hs : starEach [e] X.env = [(false, eval e X.env)] := by rfl) (hbase : attributeBase o "startswith" X.env (eval o X.env) = eval o X.env := by rfl) (hline : (apos.endLine == pos.line) = true := by rfl) : EW X B (.Call (.Attribute o "startswith" apos) [e] [] pos) ss Q :=
  ⟨PEimp (pe_m1 F.slot_str_startswith F.type_str_startswith mt_startswith h.p (pe_any (e := e)) hs hbase hline) fun σ H QQ ⟨s, k⟩ => ⟨s, fun v d s1 H1 ⟨z, q0, q1⟩ sat1 e1 r1 => by
    subst q0
    cases r1
    exact ⟨⟨z, rfl⟩, _, q1.p, sat1, fun v2 d2 s2 H2 ⟨y, q2, q3⟩ sat2 e2 r2 => by
      subst q2
      cases r2
      exact ⟨z, y, rfl, rfl, k _ _ _ _ q3 sat2 (e1.trans e2) (.bl _)⟩⟩⟩⟩
theorem ew_split (h : EW X B o ss fun d s => ∃ z, d = .str z ∧ EW X B e s fun d2 s2 => ∃ y, d2 = .str y ∧ (y.length == 0) = false ∧ z.length + 2 ≤ sizeLine ∧ Q (.lst ((Txt.split z y).map D.str)) s2)
    (hs : starEach [e] X.env = [(false, eval e X.env)] := by rfl) (hbase : attributeBase o "split" X.env (eval o X.env) = eval o X.env := by rfl) (hline : (apos.endLine == pos.line) = true := by rfl) : EW X B (.Call (.Attribute o "split" apos) [e] [] pos) ss Q :=
  ⟨PEimp (pe_m1 F.slot_str_split F.type_str_split mt_split h.p (pe_any (e := e)) hs hbase hline) fun σ H QQ ⟨s, k⟩ => ⟨s, fun v d s1 H1 ⟨z, q0, q1⟩ sat1 e1 r1 => by
    subst q0
    cases r1
    exact ⟨⟨z, rfl⟩, _, q1.p, sat1, fun v2 d2 s2 H2 ⟨y, q2, q3, q4, q5⟩ sat2 e2 r2 => by
      subst q2
      cases r2
      refine ⟨z, y, rfl, rfl, q3, q4, fun p hp => ?_⟩
      have S := Pre.Same.upd (o := .lst ((Txt.split z y).map V.str)) hp
      exact k _ (.lst ((Txt.split z y).map D.str)) s2 _ q5 (sat2.same S) ((e1.trans e2).trans (Ext.same S)) (.lst upd_same (sat2.new hp) (vl_strs _))⟩⟩⟩
theorem ew_join (h : EW X B o ss fun d s => ∃ z, d = .str z ∧ EW X B e s fun d2 s2 => ∃ ys : List Str, (d2 = .lst (ys.map D.str) ∨ d2 = .tup (ys.map D.str)) ∧ (ys.map (·.length)).sum + ys.length * z.length ≤ 16777216 ∧ Q (.str (Txt.join z ys)) s2)
    (hs : starEach [e] X.env = [(false, eval e X.env)] := by rfl) (hbase : attributeBase o "join" X.env (eval o X.env) = eval o X.env := by rfl) (hline : (apos.endLine == pos.line) = true := by rfl) : EW X B (.Call (.Attribute o "join" apos) [e] [] pos) ss Q :=
  ⟨PEimp (pe_m1 F.slot_str_join F.type_str_join mt_join h.p (pe_any (e := e)) hs hbase hline) fun σ H QQ ⟨s, k⟩ => ⟨s, fun v d s1 H1 ⟨z, q0, q1⟩ sat1 e1 r1 => by
    subst q0
    cases r1
    exact ⟨⟨z, rfl⟩, _, q1.p, sat1, fun v2 d2 s2 H2 ⟨ys, q2, q3, q4⟩ sat2 e2 r2 => by
      rcases q2 with rfl | rfl
      · cases r2 with
        | lst ea n r =>
          rw [vl_strs' r] at ea
          exact ⟨z, _, ys, rfl, rfl, .inl (SqL.of ea), q3, k _ _ _ _ q4 sat2 (e1.trans e2) (.str _)⟩
      · cases r2 with
        | tup ea n r =>
          rw [vl_strs' r] at ea
          exact ⟨z, _, ys, rfl, rfl, .inr (SqT.of ea), q3, k _ _ _ _ q4 sat2 (e1.trans e2) (.str _)⟩⟩⟩⟩
theorem cl_strI {i : Int} (h : i.natAbs.log2 < 1920) (q : Q (.str (toString i : String)) ss) : ClD X B (.type "str") [.int i] ss Q := cl_c q fun H M vs r => by
  obtain ⟨v, rfl, r1⟩ := vl1 r
  cases r1
  exact ⟨_, _, call_str_int, .str _, fun QQ q => ⟨i, rfl, h, q⟩⟩
theorem cl_intS {z : Str} {i : Int} (h : intText? z = some i) (hl : z.length ≤ 640) (q : Q (.int i) ss) : ClD X B (.type "int") [.str z] ss Q := cl_c q fun H M vs r => by
  obtain ⟨v, rfl, r1⟩ := vl1 r
  cases r1
  exact ⟨_, _, call_int_str, .int _, fun QQ q => ⟨z, i, rfl, h, hl, q⟩⟩
theorem od_catS {y z : Str} (h : y.length + z.length ≤ sizeLine) (q : Q (.str (y ++ z)) ss) : OpD X B (binaryOp .Add) (.str y) (.str z) ss Q := od_c q fun H M v1 v2 r1 r2 => by
  cases r1
  cases r2
  exact ⟨_, _, op_add_str, .str _, fun QQ q => ⟨y, z, rfl, rfl, h, q⟩⟩
theorem od_nsign {ch : Nat} {z : Str} (q : Q (.bl (!decide (ch ∈ z.cps.toList))) ss) : OpD X B (compareOp .NotIn) (.str ⟨#[ch]⟩) (.str z) ss Q := od_c q fun H M v1 v2 r1 r2 => by
  cases r1
  cases r2
  exact ⟨_, _, op_notIn_sign, .bl _, fun QQ q => ⟨ch, z, rfl, rfl, q⟩⟩
theorem inV_strs (z : Str) (opts : List Str) : inV (.str z) (opts.map V.str) = decide (z ∈ opts) := by
  unfold inV
  rw [Bool.eq_iff_iff, List.any_eq_true, decide_eq_true_eq]
  constructor
  · rintro ⟨y, hy, e⟩
    obtain ⟨w, hw, rfl⟩ := List.mem_map.mp hy
    have : w = z := by simpa [eqV] using e
    rw [← this]
    exact hw
  · intro h
    exact ⟨.str z, List.mem_map_of_mem h, by simp [eqV]⟩
theorem flat_strs (opts : List Str) : (opts.map V.str).all flatV = true := by
  rw [List.all_eq_true]
  intro x hx
  obtain ⟨y, _, rfl⟩ := List.mem_map.mp hx
  rfl
theorem od_ninT {z : Str} {opts : List Str} (q : Q (.bl (!decide (z ∈ opts))) ss) : OpD X B (compareOp .NotIn) (.str z) (.tup (opts.map D.str)) ss Q := od_c q fun H M v1 v2 r1 r2 => by
  cases r1
  cases r2 with
  | tup ea n r =>
    rw [vl_strs' r] at ea
    exact ⟨_, _, op_notIn_seq, .bl _, fun QQ q => ⟨_, _, rfl, .inr (SqT.of ea), rfl, flat_strs opts, by rw [if_pos rfl, inV_strs]; exact q⟩⟩
theorem ix_strD {z : Str} {i : Int} {ch : Nat} (hz : z.length ≤ sizeLine) (h : atI z.cps.toList i = some ch) (q : Q (.str ⟨#[ch]⟩) ss) : IxD X B (.str z) (.int i) ss Q := fun v1 v2 σ H QQ s r1 r2 k => by
  cases r1
  cases r2
  exact ⟨_, ix_str, z, i, ch, rfl, rfl, hz, h, k _ _ _ _ q s Ext.refl (.str _)⟩
theorem ew_slS {lo hi : Option Expr} {p2 : Pos} (h : EW X B a ss fun d s => PartW X B lo s fun i s => PartW X B hi s fun j s => ∃ z, d = .str z ∧ z.length ≤ sizeLine ∧ Q (.str (cutS z i j)) s) : EW X B (.Subscript a (.Slice lo hi none p2) pos) ss Q :=
  ⟨PEimp (pe_slice sl_str h.p po_any po_any) fun σ H QQ ⟨s, k⟩ => ⟨s, fun v d s1 H1 q1 sat1 e1 r1 => ⟨_, PartW.po q1, sat1, fun i s2 H2 q2 sat2 e2 => ⟨_, PartW.po q2, sat2, fun j s3 H3 ⟨z, q3, q4, q5⟩ sat3 e3 => by
    subst q3
    have r3 := r1.ext (e2.trans e3)
    cases r3
    exact ⟨z, rfl, q4, k _ _ s3 _ q5 sat3 ((e1.trans e2).trans e3) (.str _)⟩⟩⟩⟩⟩
/-! ### o.f += e, of ints -/
theorem s1_augF {f : Str} {tpos : Pos} (hc : Cls X.K C) (hn : NoAttr X.K C f) (h : EW X B o ss fun d s => ∃ (y : Addr) (j : Nat) (fs : List (Str × D)) (i : Int), d = .own y ∧ s.cs[j]? = some (y, .ins C fs) ∧ fs.lookup f = some (.int i) ∧
    EW X B e s fun d2 s2 => ∃ (i2 : Int) (j2 : Nat) (fs2 : List (Str × D)), d2 = .int i2 ∧ s2.cs[j2]? = some (y, .ins C fs2) ∧ fs2.length < 1000 ∧ k.nx ⟨s2.sl, s2.cs.set j2 (y, .ins C (putD f (.int (i + i2)) fs2))⟩) : S1 X B (.AugAssign (.Attribute o f tpos) .Add e pos) ss k :=
  ⟨PSimp (ps_fldaug h.p (pe_any (e := e)) in_add) fun D σ H ⟨s, h1, _⟩ => ⟨s, fun v d s1 H1 ⟨y, j, fs, i, q0, hj, hl, q1⟩ sat1 e1 r1 => by
    subst q0
    cases r1
    obtain ⟨dx, vs, x1, x2⟩ := sat1.ok.ok _ _ (List.mem_of_getElem? hj)
    obtain ⟨u, l1, l2⟩ := x2.lookup hl
    cases l2
    exact ⟨y, C, dx, vs, .int i, rfl, x1, hc, hn, l1, _, q1.p, sat1, fun v2 d2 s2 H2 ⟨i2, j2, fs2, q2, hj2, hl2, q3⟩ sat2 e2 r2 => by
      subst q2
      cases r2
      obtain ⟨dx2, vs2, y1, y2⟩ := sat2.ok.ok _ _ (List.mem_of_getElem? hj2)
      obtain ⟨sat3, e3⟩ := sat2.mut (c' := .ins C (putD f (.int (i + i2)) fs2)) (u := .ins C dx2 (putF f (.int (i + i2)) vs2)) hj2 fun e q => ⟨dx2, _, q, putF_ok (.int _) (y2.ext e)⟩
      exact ⟨i, i2, rfl, rfl, dx2, vs2, y1, by rw [y2.len]; exact hl2, h1 _ _ _ q3 sat3 ((e1.trans e2).trans e3)⟩⟩⟩⟩
/-! ### [.. for sign in a text] -/
theorem lc_signs {z : Str} {g : TG} {tt : TT} {te : TE} {vs : List Nat} {σ : L2.St} {H1 : Hp} {D : Addr} {Qd : Hp → Prop} (Pv : Nat → Hp → Prop) (h0 : Pv 0 (upd H1 D (.lst [])))
    (hs : ∀ i ch H, z.cps[i]? = some ch → Pv i H → g (.str ⟨#[ch]⟩) (wipe σ vs) H fun σ2 H2 => wipe σ2 vs = wipe σ vs ∧ tt σ2 H2 fun b H3 =>
      if b = true then te σ2 H3 fun y H4 => ∃ acc, H4 D = some (.lst acc) ∧ acc.length < sizeLine ∧ Pv (i + 1) (upd H4 D (.lst (acc ++ [y]))) else Pv (i + 1) H3) (hd : ∀ H, Pv z.cps.size H → Qd H) :
    ∃ W : Nat → Nat → Hp → Prop, (∃ m, W 0 m (upd H1 D (.lst []))) ∧ ∀ i m H, W i m H →
      ((Its z).stop i H ∧ Qd H) ∨ ((Its z).go i H ∧ ∃ Nx : Hp → Prop, (∀ H', Nx H' → ∃ m', m' < m ∧ W (i + 1) m' H') ∧ ∀ x H', (Its z).yld i H x H' → g x (wipe σ vs) H' fun σ2 H2 => wipe σ2 vs = wipe σ vs ∧ tt σ2 H2 fun b H3 =>
        if b = true then te σ2 H3 fun y H4 => ∃ acc, H4 D = some (.lst acc) ∧ acc.length < sizeLine ∧ Nx (upd H4 D (.lst (acc ++ [y]))) else Nx H3) := by
  refine ⟨fun i m H => m = z.cps.size - i ∧ i ≤ z.cps.size ∧ Pv i H, ⟨z.cps.size, rfl, Nat.zero_le _, h0⟩, ?_⟩
  rintro i m H ⟨rfl, hi, p⟩
  by_cases e : i = z.cps.size
  · subst e
    exact .inl ⟨Nat.le_refl _, hd H p⟩
  · refine .inr ⟨show i < z.cps.size by omega, Pv (i + 1), fun H' h => ⟨z.cps.size - (i + 1), by omega, rfl, by omega, h⟩, ?_⟩
    rintro x H' ⟨rfl, ch, hc, rfl⟩
    exact hs i ch _ hc p
theorem ew_lcS (own : List (Str × Nat)) (jx : Nat) (hc : X.calm = true) (hN : X.N.Nodup) (ok : BlkOk X.N X.env.scope scope own)
    (h : EW X B iter ss fun d s => ∃ z, d = .str z ∧ z.length ≤ sizeLine ∧ ∃ Iv : Nat → List D → Cs → Prop, Iv 0 [] s.cs ∧
      (∀ j ch acc cs, z.cps[j]? = some ch → Iv j acc cs → acc.length ≤ j ∧ LcTurn X B scope elt tg ifs (own.map (·.2)) jx s.sl (.str ⟨#[ch]⟩) acc cs (Iv (j + 1))) ∧ ∀ acc cs, Iv z.cps.size acc cs → Q (.lst acc) ⟨s.sl, cs⟩)
    (hs : ∀ x, foldedSetIterable iter X.env x = pure x := by intro _; rfl) : EW X B (.ListComp elt [⟨tg, iter, ifs, 0⟩] scope pos) ss Q :=
  ⟨PEimp (pe_lc hc hN (pi_str h.p) ok pg_blk pt_blk pe_blk hs) fun σ H QQ ⟨s, k⟩ => ⟨s, fun v d s1 H1 ⟨z, q1, hl, Iv, i0, i1, i2⟩ sat1 e1 r1 => by
    subst q1
    cases r1
    refine ⟨z, rfl, fun l hnew => ?_⟩
    refine lc_signs (z := z) (fun i H' => ∃ acc cs, Iv i acc cs ∧ LcAt B s1.sl s1.cs H1 (own.map (·.2)) σ jx l acc cs H') ⟨[], s1.cs, i0, lc_start sat1 hnew⟩ (fun i ch H' hy ⟨acc, cs, q, st⟩ => ?_) fun H' ⟨acc, cs, q, st⟩ => ?_
    · obtain ⟨hacc, turn⟩ := i1 i ch acc cs hy q
      have hi : i < z.length := (Array.getElem?_eq_some_iff.mp hy).1
      exact lc_go (by omega) st (.str _) turn fun acc' cs' H'' nq st' => ⟨acc', cs', nq, st'⟩
    · exact lc_end (ss := ss) sat1 e1 st k (i2 acc cs q)⟩⟩
/-! ### f'..' -/
def FmtD (d : D) (R : Str → Prop) : Prop := match d with
  | .int i => i.natAbs.log2 < 1920 ∧ R (toString i : String)
  | .str y => y.length ≤ sizeLine ∧ R y
  | _ => False
def JW (X : Cx) (B : Bs) : List Expr → Str → SS → (Str → SS → Prop) → Prop
  | [], acc, ss, L => L acc ss
  | e :: es, acc, ss, L => EW X B e ss fun d s => ∃ y, d = .str y ∧ (acc ++ y).length ≤ sizeLine ∧ JW X B es (acc ++ y) s L
theorem jw_run {L : Str → SS → Prop} {σ : L2.St} {QQ : Str → Hp → Prop} : ∀ (es : List Expr) (acc : Str) (ss : SS) (H : Hp), JW X B es acc ss L → Sat B ss σ H → (∀ out s' H', L out s' → Sat B s' σ H' → Ext (ow ss.cs) H (ow s'.cs) H' → QQ out H') → tJs (es.map (tAny X)) acc σ H QQ
  | [], acc, ss, H, h, s, k => k acc ss H h s Ext.refl
  | e :: es, acc, ss, H, h, s, k => ⟨_, (show EW X B e ss _ from h).p, s, fun v d s1 H1 ⟨y, q0, q1, q2⟩ sat1 e1 r1 => by
    subst q0
    cases r1
    exact ⟨y, rfl, q1, jw_run es (acc ++ y) s1 H1 q2 sat1 fun out s' H' q sat' e' => k out s' H' q sat' (e1.trans e')⟩⟩
theorem pj_any : ∀ es : List Expr, PJ X es (es.map (tAny X))
  | [] => .nil
  | e :: es => .cons pe_any (pj_any es)
theorem ew_js {e1 e2 : Expr} (h : JW X B (e1 :: e2 :: es) Str.empty ss fun out s => Q (.str out) s) : EW X B (.JoinedStr (e1 :: e2 :: es) pos) ss Q :=
  ⟨PEimp (pe_joined (pj_any (e1 :: e2 :: es))) fun σ H QQ ⟨s, k⟩ => jw_run (e1 :: e2 :: es) Str.empty ss H h s fun out s' H' q sat e => k _ _ s' H' q sat e (.str _)⟩
theorem ew_fmt (h : EW X B e ss fun d s => FmtD d fun y => Q (.str y) s) : EW X B (.FormattedValue e (-1) none pos) ss Q :=
  ⟨PEimp (pe_fmt h.p) fun σ H QQ ⟨s, k⟩ => ⟨s, fun v d s1 H1 q1 sat1 e1 r1 => by
    cases r1 with
    | int i => exact .inr ⟨i, rfl, q1.1, k _ _ _ _ q1.2 sat1 e1 (.str _)⟩
    | str y => exact .inl ⟨y, rfl, q1.1, k _ _ _ _ q1.2 sat1 e1 (.str _)⟩
    | _ => exact q1.elim⟩⟩
/-! ### while -/
theorem s1_while {body : List Stmt} (hp : PassesOwn (model X.prog X.w) X.A X.env X.xe)
    (h : ∃ Iv : Nat → SS → Prop, (∃ m, Iv m ss) ∧ ∀ m s, Iv m s → TW X B c s fun b s1 => Br b (SW X B body s1 { nx := fun s' => ∃ m', m' < m ∧ Iv m' s', rt := k.rt, bk := k.nx, ct := fun s' => ∃ m', m' < m ∧ Iv m' s' }) (k.nx s1)) : S1 X B (.While c body [] pos) ss k := by
  obtain ⟨Iv, ⟨m0, i0⟩, turn⟩ := h
  refine ⟨PSimp (ps_while hp (pt_any (e := c)) (pss_any (sts := body))) fun D σ H ⟨s, h1, h2, h3, h4⟩ => ⟨fun m σ' H' => ∃ s', Iv m s' ∧ Sat B s' σ' H' ∧ Ext (ow ss.cs) H (ow s'.cs) H', ⟨m0, ss, i0, s, Ext.refl⟩, fun m σ' H' ⟨s', iv, sat', e'⟩ => ⟨_, (turn m s' iv).p, sat', fun b s1 H1 q1 sat1 e1 => ?_⟩⟩⟩
  cases b with
  | true =>
    refine ⟨fun σ2 H2 => ∃ m', m' < m ∧ ∃ s2, Iv m' s2 ∧ Sat B s2 σ2 H2 ∧ Ext (ow ss.cs) H (ow s2.cs) H2, fun σ2 H2 z => z, ⟨_, (q1.1 rfl).p, sat1, fun s2 σ2 H2 ⟨m', lt, iv2⟩ sat2 e2 => ?_, fun v d s2 σ2 H2 q2 sat2 e2 r2 => ?_, fun s2 σ2 H2 q2 sat2 e2 => ?_, fun s2 σ2 H2 ⟨m', lt, iv2⟩ sat2 e2 => ?_⟩⟩
    · exact ⟨m', lt, s2, iv2, sat2, (e'.trans e1).trans e2⟩
    · exact h2 v d s2 σ2 H2 q2 sat2 ((e'.trans e1).trans e2) r2
    · exact h1 s2 σ2 H2 q2 sat2 ((e'.trans e1).trans e2)
    · exact ⟨m', lt, s2, iv2, sat2, (e'.trans e1).trans e2⟩
  | false => exact h1 s1 σ' H1 (q1.2 rfl) sat1 (e'.trans e1)
end
end Sx
set_option Elab.async false
set_option linter.all false
set_option maxRecDepth 100000
set_option maxHeartbeats 2000000
/-! str(x), x an instance whose class says __str__. -/
namespace Sto
open PySem PySem.Spec PyProof.Rows L2
section
variable {X : Cx} {CX : CXT} {k : Nat} {f C : Addr} {fd : FuncData} {sp : Sp} {E : XK}
def rStrO (C : Addr) (sp : Sp) (E : XK) : List V → Hp → VK → Prop := fun xs H Q => ∃ a dx fs, xs = [.ref a] ∧ H a = some (.ins C dx fs) ∧ sp [.ref a] H (fun v H' => ∃ z, v = .str z ∧ Q v H') E
theorem call_strO (m : Meth X.K C "__str__" f) (F : FnOk X.prog X.w X.K X.mg X.base CX k f fd ["self"] sp) (hb : Binds X.K fd ["self"] []) (hr : Room (k + 2) X.A) (hx : Passes CX X E) : CallR X (.type "str") (rStrO C sp E) := by
  intro pins s σ H xs us Q I r h
  obtain ⟨a, dx, fs, rfl, e, q⟩ := h
  cases r with
  | cons ra rr =>
    cases rr
    cases ra
    obtain ⟨mA, O, _⟩ := ins_get I.hok e
    obtain ⟨od, hod, _⟩ := lookIn_ns O.ns
    refine PySem.W.kso_call (C := C) (od := some od) hr.in1.in1.units0 I.kIn ⟨O.obj, rfl, rfl, hod⟩ m.at_ m.fn ?_
    have hb2 := hb s [Value.ref a] I.kIn rfl
    refine wpAny_call (codeAny_mono (F.run X.A.in1.in1 X.stack s H ⟨[Value.ref a], []⟩ [Value.ref a] [V.ref a] _ E (hr.in1.in1) I.env0.in1.in1 hb2 (.cons rfl .nil) q) ?_)
    intro out s' hq
    cases out with
    | error z => exact hx pins σ H s z s' I hq
    | ok fl =>
      cases fl with
      | ret u =>
        obtain ⟨v, H2, I2, rv, z, rfl, q2⟩ := I.after hq
        obtain ⟨t, rfl⟩ := (show ∃ t, u = Value.str z t from rv)
        exact ⟨.str z, H2, I2, ⟨_, rfl⟩, q2⟩
      | next => exact hq.elim
      | brk => exact hq.elim
      | cont => exact hq.elim
end
end Sto
set_option Elab.async false
set_option linter.all false
set_option maxRecDepth 100000
set_option maxHeartbeats 2000000
namespace Sx
open PySem PySem.Spec PyProof.Rows L2
section
variable {X : Cx} {B : Bs} {ss : SS} {Q : D → SS → Prop} {T : Bool → SS → Prop} {L : List D → SS → Prop} {k : Kt} {a b c e o elt tg iter : Expr} {es ifs : List Expr} {pos p apos p' : Pos} {CX : CXT} {n : Nat} {x m f : Str} {C : Addr} {ps : List Str} {F : FT} {scope : Scope}
/-- o.m(e, ..), the method takes a star -/
theorem ew_methR {E' : XK} {KE' : Addr → List (Str × D) → Cs → Prop} {pl : Sem Bool} {g : Addr} (xs : Exs B E' KE') (hc : Cls X.K C) (hm : Meth X.K C m g) (G : FnR X.prog X.w X.K X.mg X.base CX n g (spF F)) (hr : Room n X.A) (hx : Passes CX X E') (h : EW X B o ss fun d s => IsI C m d s.cs ∧ AW X B (e :: es) s fun ds s => F (d :: ds) s.cs (fun d cs => Q d ⟨s.sl, cs⟩) KE')
    (hst : starEach (e :: es) X.env = (false, eval e X.env) :: starEach es X.env := by rfl) (hpl : (backTo pos (starEach es X.env)).any (·.1) = false := by rfl)
    (ht : eval (.Call (.Attribute o m apos) (e :: es) [] pos) X.env = (do
      let ov ← eval o X.env
      standAt apos.atName
      let (f, first) ← holding [ov] (getMethod ov m pl)
      callWith pos f first (backTo pos (starEach (e :: es) X.env)) (backToKw pos (keywordEach [] X.env))) := by rfl) : EW X B (.Call (.Attribute o m apos) (e :: es) [] pos) ss Q :=
  ⟨PEimp (pe_methR h.p hc hm G hr hx (pa_any (es := e :: es)) hst hpl ht) fun σ H QQ ⟨s, k⟩ => ⟨s, fun v d s1 H1 ⟨i, q1⟩ sat1 e1 r1 => by
    obtain ⟨a, dx, fs, rfl, ea, hl⟩ := i.at_ sat1.ok r1
    exact ⟨a, dx, fs, rfl, ea, hl, _, q1.p, sat1, fun vs ds s2 H2 q2 sat2 e2 r2 => sp_go xs sat2 (e1.trans e2) (.cons (r1.ext e2) r2) k q2⟩⟩⟩
/-- C(e, ..), the new instance is a cell, in front of the others; dds: the defaults -/
theorem ew_makeO {E' : XK} {KE' : Addr → List (Str × D) → Cs → Prop} {f : Addr} {us : List Value} {dvs : List V} {dds : List D} (xs : Exs B E' KE') {fd : FuncData} (M : Mk X.K C f) (G : FnOk X.prog X.w X.K X.mg X.base CX n f fd ps (spF F)) (hr : Room (n + 1) X.A) (hg : Gl X x) (hm : X.mg x = some (.ref C)) (hb : L2.Binds X.K fd ps us) (hd : Vals dvs us) (hv : ∀ H M, VlL H M dvs dds) (hx : Passes CX X E')
    (h : AW X B (e :: es) ss fun ds s => ∀ y, F (.own y :: (ds ++ dds)) ((y, .ins C []) :: s.cs) (fun d cs => d = .non ∧ Q (.own y) ⟨s.sl, cs⟩) (fun Ce fs cs => ∃ c cs1, cs = (y, c) :: cs1 ∧ KE' Ce fs cs1))
    (hdb : (x == ("__debug__" : Str)) = false := by decide) (he : starEach (e :: es) X.env = (false, eval e X.env) :: starEach es X.env := by rfl) (hpl : (backTo pos (starEach es X.env)).any (·.1) = false := by rfl) : EW X B (.Call (.Name x p) (e :: es) [] pos) ss Q :=
  ⟨PEimp (pe_make M G hr hg hm hb hd hx h.p hdb he hpl) fun σ H QQ ⟨s, k⟩ => ⟨s, fun vs ds s1 H1 q1 sat1 e1 r1 y dy ny nd ne => by
    obtain ⟨ok2, e2⟩ := made_ok (C := C) sat1.ok ny nd ne
    refine ⟨_, _, _, _, .cons (.own y) ((r1.ext e2).app (hv _ _)), ok2, q1 y, fun v d H' cs' q e ok rv => ?_, fun C fs cs' z vs H' q e ok hz rf => ?_⟩
    · obtain ⟨rfl, q⟩ := q
      cases rv
      exact ⟨rfl, k _ _ ⟨s1.sl, cs'⟩ H' q (sat1.cs (e2.trans e) ok) (e1.trans (e2.trans e)) (.own y)⟩
    · obtain ⟨c, cs1, rfl, q⟩ := q
      obtain ⟨ok3, e3, n3, c3⟩ := drop_ok ok
      exact xs.go sat1 q ((e2.trans e).trans e3) ok3 hz (rf.ext e3)⟩⟩
/-- the first cell is forgotten -/
theorem sw_drop {sts : List Stmt} {y : Addr} {c : Cell} {cs : Cs} {sl : List (Option D)} (w : SW X B sts ⟨sl, cs⟩ k) : SW X B sts ⟨sl, (y, c) :: cs⟩ k :=
  sw_re (fun σ H s => by
    obtain ⟨ok, e, _, _⟩ := drop_ok s.ok
    exact ⟨s.cs e ok, fun a h => ow_cons.mpr (.inr h)⟩) w
/-- str(x) by an own __str__ -/
theorem cl_strO {E' : XK} {KE' : Addr → List (Str × D) → Cs → Prop} (xs : Exs B E' KE') {g : Addr} {fd : FuncData} {d : D} (m : Meth X.K C "__str__" g) (G : FnOk X.prog X.w X.K X.mg X.base CX n g fd ["self"] (spF F)) (hb : L2.Binds X.K fd ["self"] []) (hr : Room (n + 2) X.A) (hx : Passes CX X E')
    (i : InsD C d ss.cs) (h : F [d] ss.cs (fun d cs => ∃ z, d = .str z ∧ Q (.str z) ⟨ss.sl, cs⟩) KE') : ClD X B (.type "str") [d] ss Q := fun vs σ H QQ s r k => by
  obtain ⟨v, rfl, r1⟩ := vl1 r
  obtain ⟨a, dx, fs, rfl, ea⟩ := i.at_ s.ok r1
  refine ⟨_, Sto.call_strO m G hb hr hx, a, dx, fs, rfl, ea, [d], ss.cs, _, _, .cons r1 .nil, s.ok, h, fun v d H' cs' q e ok rv => ?_, fun C fs cs' x vs H' q e ok hx rf => xs.go s q e ok hx rf⟩
  obtain ⟨z, rfl, q⟩ := q
  cases rv
  exact ⟨z, rfl, k _ _ _ _ q (s.cs e ok) e (.str z)⟩
/-- C.m(e, ..), m a class method -/
theorem ew_cmeth {E' : XK} {KE' : Addr → List (Str × D) → Cs → Prop} {pl : Sem Bool} {g pc : Addr} {mc : Value} (xs : Exs B E' KE') (r : ClX.CRead X.K C mc) (c : ClX.CMet X.K C mc m pc g) (G : FnR X.prog X.w X.K X.mg X.base CX n g (spF F)) (hr : Room n X.A) (hx : Passes CX X E')
    (h : EW X B o ss fun d s => d = .raw (.ref C) ∧ AW X B (e :: es) s fun ds s => F (.raw (.ref C) :: ds) s.cs (fun d cs => Q d ⟨s.sl, cs⟩) KE')
    (hst : starEach (e :: es) X.env = (false, eval e X.env) :: starEach es X.env := by rfl) (hpl : (backTo pos (starEach es X.env)).any (·.1) = false := by rfl)
    (ht : eval (.Call (.Attribute o m apos) (e :: es) [] pos) X.env = (do
      let ov ← eval o X.env
      standAt apos.atName
      let (f, first) ← holding [ov] (getMethod ov m pl)
      callWith pos f first (backTo pos (starEach (e :: es) X.env)) (backToKw pos (keywordEach [] X.env))) := by rfl) : EW X B (.Call (.Attribute o m apos) (e :: es) [] pos) ss Q :=
  ⟨PEimp (ClX.pe_cmeth h.p r c G hr hx (pa_any (es := e :: es)) hst hpl ht) fun σ H QQ ⟨s, k⟩ => ⟨s, fun v d s1 H1 ⟨i, q1⟩ sat1 e1 r1 => by
    subst i
    cases r1
    exact ⟨rfl, _, q1.p, sat1, fun vs ds s2 H2 q2 sat2 e2 r2 => sp_go xs sat2 (e1.trans e2) (.cons (.raw _) r2) k q2⟩⟩⟩
end
end Sx
set_option Elab.async false
set_option linter.all false
set_option maxRecDepth 100000
set_option maxHeartbeats 2000000
namespace Sx
open PySem PySem.Spec PyProof.Rows L2
section
variable {X : Cx} {B : Bs} {ss : SS} {Q : D → SS → Prop} {e : Expr} {pos p : Pos} {CX : CXT} {n : Nat} {x : Str} {C : Addr} {F : FT}
/-- C() -/
theorem ew_makeR0 {E' : XK} {KE' : Addr → List (Str × D) → Cs → Prop} (xs : Exs B E' KE') {g : Addr} (M : Mk X.K C g) (G : FnR X.prog X.w X.K X.mg X.base CX n g (spF F)) (hr : Room (n + 1) X.A) (hg : Gl X x) (hm : X.mg x = some (.ref C)) (hx : Passes CX X E') (h : MkF F C KE' Q [] ss)
    (hdb : (x == ("__debug__" : Str)) = false := by decide) : EW X B (.Call (.Name x p) [] [] pos) ss Q := by
  refine ⟨⟨fun pins s σ H QQ I ⟨sat, k⟩ => ?_⟩⟩
  refine wpAny_Call_Name_kw (ld_glob I hg hm ?_ hdb)
  exact PySem.W.callWith_K0 I.kIn M.kp (StX.run_makeR M G hr hx I .nil fun y dy ny nd ne => sp_make xs (ss := ss) sat Ext.refl .nil k ny nd ne (h y))
end
end Sx
set_option Elab.async false
set_option linter.all false
set_option maxRecDepth 100000
set_option maxHeartbeats 2000000
namespace Sx
open PySem PySem.Spec PyProof.Rows L2
section
variable {X : Cx} {B : Bs} {ss : SS} {k : Kt} {a b : Expr} {pos : Pos}
/-- x, y = a, b, two plain names -/
theorem s1_par (i j : Nat) {x y : Str} {px py pt : Pos} {kt k2 pt2} (hc : X.calm = true) (hN : X.N.Nodup) (hi : X.N[i]? = some x) (hj : X.N[j]? = some y) (hij : i ≠ j) (hx : X.env.scope.names.lookup x = some .local) (hy : X.env.scope.names.lookup y = some .local)
    (h : AW X B [a, b] ss fun ds s => ∃ d1 d2, ds = [d1, d2] ∧ k.nx ⟨(s.sl.set i (some d1)).set j (some d2), s.cs⟩) (hw : swappedStores [.Tuple [.Name x px, .Name y py] kt pt] (.Tuple [a, b] k2 pt2) X.env = pure (some [x, y]) := by rfl)
    (hs : swapsWithSole [.Tuple [.Name x px, .Name y py] kt pt] (.Tuple [a, b] k2 pt2) pos.line X.env = pure false := by rfl) : S1 X B (.Assign [.Tuple [.Name x px, .Name y py] kt pt] (.Tuple [a, b] k2 pt2) pos) ss k :=
  ⟨PSimp (ps_par hc hN hi hj hij hx hy h.p hw hs) fun D σ H ⟨s, h1, _⟩ => ⟨s, fun vs ds s1 H1 ⟨d1, d2, q0, q1⟩ sat1 e1 r1 => by
    subst q0
    cases r1 with
    | cons r1 r2 =>
      cases r2 with
      | cons r2 r3 =>
        cases r3
        exact ⟨_, _, rfl, h1 _ _ _ q1 ((sat1.set r1).set r2) e1⟩⟩⟩
end
theorem cut_to {ds : List D} (n : Nat) : cutD ds none (some (n : Int)) = ds.take n := by
  have e : HT.sIx ds.length ds.length (some (n : Int)) = min n ds.length := HT.sIx_nat _ _ n
  unfold cutD
  rw [HT.sIx_none, e, List.drop_zero, Nat.sub_zero]
  by_cases h : n ≤ ds.length
  · rw [Nat.min_eq_left h]
  · rw [Nat.min_eq_right (by omega), List.take_length, List.take_of_length_le (by omega)]
theorem cut_from {ds : List D} (n : Nat) (h : n ≤ ds.length) : cutD ds (some (n : Int)) none = ds.drop n := by
  have e : HT.sIx ds.length 0 (some (n : Int)) = min n ds.length := HT.sIx_nat _ _ n
  unfold cutD
  rw [HT.sIx_none, e, Nat.min_eq_left h]
  exact List.take_of_length_le (by rw [List.length_drop]; omega)
end Sx
set_option Elab.async false
set_option linter.all false
set_option maxRecDepth 100000
set_option maxHeartbeats 2000000
namespace Sx
open PySem PySem.Spec PyProof.Rows L2
section
variable {X : Cx} {B : Bs} {ss : SS} {Q : D → SS → Prop} {a : Expr} {pos : Pos} {C : Addr} {f : Str} {mc u : Value} {v : V} {d : D}
/-- C.f, a value of the class -/
theorem ew_cval (r : ClX.CRead X.K C mc) (cv : ClX.CVal X.K C mc f v u) (hv : ∀ H M, Vl H M v d) (h : EW X B a ss fun d0 s => d0 = .raw (.ref C) ∧ Q d s) (hb : attributeBase a f X.env (eval a X.env) = eval a X.env := by rfl) : EW X B (.Attribute a f pos) ss Q :=
  ⟨PEimp (ClX.pe_cval h.p hb) fun σ H QQ ⟨s, k⟩ => ⟨s, fun w d0 s1 H1 ⟨e, q⟩ sat1 e1 r1 => by
    subst e
    cases r1
    exact ⟨C, mc, v, u, rfl, r, cv, k _ _ _ _ q sat1 e1 (hv _ _)⟩⟩⟩
end
end Sx
set_option Elab.async false
set_option linter.all false
set_option maxRecDepth 100000
set_option maxHeartbeats 2000000
namespace Sx
open PySem PySem.Spec PyProof.Rows L2 ClX
section
variable {X : Cx} {CX : CXT} {k : Nat} {C pc g : Addr} {mc : Value} {sp : Sp} {E : XK} {o : Expr} {m : Str} {pos apos : Pos} {ta : TE} {tk : TA} {pl : Sem Bool} {kws : List Keyword} {fd : FuncData} {ps ks : List Str}
def tCMethK (C : Addr) (n : Nat) (sp : Sp) (gV : List V → List V → List V) (E : XK) (ta : TE) (tk : TA) : TE := fun σ H Q => ta σ H fun x H1 => x = .ref C ∧ tk σ H1 fun zs H2 => zs.length = n ∧ sp (gV [.ref C] zs) H2 Q E
/-- C.m(k = v, ..), m a class method -/
theorem pe_cmethK {gg : List Value → List Value → List Value} {gV : List V → List V → List V} (he : PE X o ta) (r : CRead X.K C mc) (c : CMet X.K C mc m pc g) (F : FnOk X.prog X.w X.K X.mg X.base CX k g fd ps sp) (hr : Room k X.A) (hb : KBn X.K fd ps 1 ks gg gV) (hx : Passes CX X E) (hkw : PK X kws tk)
    (hall : (backToKw pos (keywordEach kws X.env)).all (·.1.isSome) = true := by rfl) (hks : (backToKw pos (keywordEach kws X.env)).filterMap (·.1) = ks := by rfl)
    (hpl : ((backTo pos (starEach [] X.env)).any (·.1) || (backToKw pos (keywordEach kws X.env)).any (·.1.isNone)) = false := by rfl)
    (ht : eval (.Call (.Attribute o m apos) [] kws pos) X.env = (do
      let ov ← eval o X.env
      standAt apos.atName
      let (f, first) ← holding [ov] (getMethod ov m pl)
      callWith pos f first (backTo pos (starEach [] X.env)) (backToKw pos (keywordEach kws X.env))) := by rfl) : PE X (.Call (.Attribute o m apos) [] kws pos) (tCMethK C ks.length sp gV E ta tk) := by
  refine ⟨fun pins s σ H Q I h => ?_⟩
  refine PySem.W.methodCall_KW (pl := pl) (thn (he.run pins s σ H _ I h) fun u s1 ⟨x, H1, I1, rx, ex, q⟩ => ?_) ht
  subst ex
  obtain rfl : u = Value.ref C := rx
  refine getmethcm_ok I1 r c fun s2 I2 => ?_
  refine PySem.W.callWith_of hpl (PySem.W.keeps_M c.fi) (PyProof.Rows.evalArgs_kw2_nil hall (thn (hkw.run pos _ s2 σ H1 _ I2 q) fun ws s3 ⟨zs, H2, I3, rz, l2, q2⟩ => ⟨⟨pin_at I3, I3.kIn⟩, ?_⟩))
  rw [hks]
  have r2 := hb.rel (vs := [.ref C]) (us := [.ref C]) (.cons rfl .nil) rz
  have z : wpAny (model X.prog X.w) X.A (call (.ref s1.heap.objs.size) [] (ks.zip ws)) (EP X ((s1.heap.objs.size, PySem.W.methodObj (.ref g) (.ref C)) :: pins) σ Q) X.xe s3 := by
    refine wpAny_call (PySem.W.method_call (pin_at I3) (codeAny_mono (F.run X.A X.stack s3 H2 ⟨[.ref C], ks.zip ws⟩ (gg [.ref C] ws) (gV [.ref C] zs) Q E hr I3.env0 (hb.to s3 [.ref C] ws I3.kIn rfl (rz.length.symm.trans l2)) r2 q2) fun out s' hq => ?_))
    cases out with
    | error e => exact hx _ σ H2 s3 e s' I3 hq
    | ok fl =>
      cases fl with
      | ret u => exact I3.after hq
      | next => exact hq.elim
      | brk => exact hq.elim
      | cont => exact hq.elim
  exact thn z fun _ _ y => unpinE y
theorem ew_cmethK {B : Bs} {ss : SS} {Q : D → SS → Prop} {F : FT} {n : Nat} {E' : XK} {KE' : Addr → List (Str × D) → Cs → Prop} (xs : Exs B E' KE') (r : CRead X.K C mc) (c : CMet X.K C mc m pc g) (G : FnOk X.prog X.w X.K X.mg X.base CX n g fd ps (spF F)) (hr : Room n X.A)
    (hb : KBn X.K fd ps 1 ks (fun us ws => us ++ ws) (fun vs zs => vs ++ zs)) (hx : Passes CX X E')
    (h : EW X B o ss fun d s => d = .raw (.ref C) ∧ KW X B kws s fun ds s => ds.length = ks.length ∧ F (.raw (.ref C) :: ds) s.cs (fun d cs => Q d ⟨s.sl, cs⟩) KE')
    (hall : (backToKw pos (keywordEach kws X.env)).all (·.1.isSome) = true := by rfl) (hks : (backToKw pos (keywordEach kws X.env)).filterMap (·.1) = ks := by rfl)
    (hpl : ((backTo pos (starEach [] X.env)).any (·.1) || (backToKw pos (keywordEach kws X.env)).any (·.1.isNone)) = false := by rfl)
    (ht : eval (.Call (.Attribute o m apos) [] kws pos) X.env = (do
      let ov ← eval o X.env
      standAt apos.atName
      let (f, first) ← holding [ov] (getMethod ov m pl)
      callWith pos f first (backTo pos (starEach [] X.env)) (backToKw pos (keywordEach kws X.env))) := by rfl) : EW X B (.Call (.Attribute o m apos) [] kws pos) ss Q :=
  ⟨PEimp (pe_cmethK h.p r c G hr hb hx (pk_any (kws := kws)) hall hks hpl ht) fun σ H QQ ⟨s, k⟩ => ⟨s, fun v d s1 H1 ⟨i, q1⟩ sat1 e1 r1 => by
    subst i
    cases r1
    exact ⟨rfl, _, q1.p, sat1, fun vs ds s2 H2 q2 sat2 e2 r2 => ⟨by rw [r2.len]; exact q2.1, sp_go xs sat2 (e1.trans e2) (.cons (.raw _) r2) k q2.2⟩⟩⟩⟩
end
end Sx
set_option Elab.async false
set_option linter.all false
set_option maxRecDepth 100000
set_option maxHeartbeats 2000000
namespace Sx
open PySem PySem.Spec PyProof.Rows L2
section
variable {X : Cx} {B : Bs} {ss : SS} {Q : D → SS → Prop} {k : Kt} {a b c : Expr} {pos : Pos}
/-- x, y, z = a, b, c, three plain names -/
theorem s1_par3 (i j l : Nat) {x y z : Str} {px py pz pt : Pos} {kt k2 pt2} (hc : X.calm = true) (hN : X.N.Nodup) (hi : X.N[i]? = some x) (hj : X.N[j]? = some y) (hl : X.N[l]? = some z) (hij : i ≠ j) (hil : i ≠ l) (hjl : j ≠ l)
    (hx : X.env.scope.names.lookup x = some .local) (hy : X.env.scope.names.lookup y = some .local) (hz : X.env.scope.names.lookup z = some .local)
    (h : AW X B [a, b, c] ss fun ds s => ∃ d1 d2 d3, ds = [d1, d2, d3] ∧ k.nx ⟨((s.sl.set i (some d1)).set j (some d2)).set l (some d3), s.cs⟩) (hw : swappedStores [.Tuple [.Name x px, .Name y py, .Name z pz] kt pt] (.Tuple [a, b, c] k2 pt2) X.env = pure (some [x, y, z]) := by rfl)
    (hs : swapsWithSole [.Tuple [.Name x px, .Name y py, .Name z pz] kt pt] (.Tuple [a, b, c] k2 pt2) pos.line X.env = pure false := by rfl) : S1 X B (.Assign [.Tuple [.Name x px, .Name y py, .Name z pz] kt pt] (.Tuple [a, b, c] k2 pt2) pos) ss k :=
  ⟨PSimp (ps_par3 hc hN hi hj hl hij hil hjl hx hy hz h.p hw hs) fun D σ H ⟨s, h1, _⟩ => ⟨s, fun vs ds s1 H1 ⟨d1, d2, d3, q0, q1⟩ sat1 e1 r1 => by
    subst q0
    cases r1 with
    | cons r1 r2 =>
      cases r2 with
      | cons r2 r3 =>
        cases r3 with
        | cons r3 r4 =>
          cases r4
          exact ⟨_, _, _, rfl, h1 _ _ _ q1 (((sat1.set r1).set r2).set r3) e1⟩⟩⟩
/-- a list that still changes, compared with data -/
theorem own_dp {K : PySem.W.Frag} {H : Hp} {cs : Cs} {y : Addr} {v : V} {xs : List D} {j : Nat} (ok : CsOk H cs) (hj : cs[j]? = some (y, Cell.lst xs)) (r : Vl H (ow cs) v (.own y)) (h : D.datL xs = true) : Dp K H v (.list (D.pyL xs)) := by
  cases r
  obtain ⟨ys, e, rr⟩ := ok.ok y (Cell.lst xs) (List.mem_of_getElem? hj)
  exact .lst (SqL.of e) (VlL.dp rr h)
theorem od_neL (j : Nat) (hu : X.A.units + 64 < cLine) {y : Addr} {xs : List D} {d2 : D} (hj : ss.cs[j]? = some (y, Cell.lst xs)) (h1 : (D.lst xs).ok = true) (h2 : d2.ok = true) (q : Q (.bl (!D.eqv (.lst xs) d2)) ss) : OpD X B (compareOp .NotEq) (.own y) d2 ss Q := fun v1 v2 σ H QQ s r1 r2 k => by
  obtain ⟨a1, a2⟩ := Bool.and_eq_true_iff.mp h1
  obtain ⟨b1, b2⟩ := Bool.and_eq_true_iff.mp h2
  exact ⟨_, op_neD hu, _, _, own_dp s.ok hj r1 (by simpa only [D.dat] using a1), r2.dp b1, a2, b2, k _ _ _ _ q s Ext.refl (.bl _)⟩
theorem od_eqL (j : Nat) (hu : X.A.units + 64 < cLine) {y : Addr} {xs : List D} {d2 : D} (hj : ss.cs[j]? = some (y, Cell.lst xs)) (h1 : (D.lst xs).ok = true) (h2 : d2.ok = true) (q : Q (.bl (D.eqv (.lst xs) d2)) ss) : OpD X B (compareOp .Eq) (.own y) d2 ss Q := fun v1 v2 σ H QQ s r1 r2 k => by
  obtain ⟨a1, a2⟩ := Bool.and_eq_true_iff.mp h1
  obtain ⟨b1, b2⟩ := Bool.and_eq_true_iff.mp h2
  exact ⟨_, op_eqD hu, _, _, own_dp s.ok hj r1 (by simpa only [D.dat] using a1), r2.dp b1, a2, b2, k _ _ _ _ q s Ext.refl (.bl _)⟩
end
end Sx
set_option Elab.async false
set_option linter.all false
set_option maxRecDepth 100000
set_option maxHeartbeats 2000000
namespace Sx
open PySem PySem.Spec PyProof.Rows L2
section
variable {P : Program} {w : World} {K : PySem.W.Frag} {mg : Str → Option Value} {base : Heap} {CX : CXT} {k : Nat} {x qual : Str} {params : Arguments} {body : List Stmt} {scope : Scope} {N ps : List Str} {sp : Sp} {dvs : List V} {kws : List (Str × V)} {fd : FuncData}
/-- a def of which lambdas are born: its code is the table's -/
theorem okGT (F : FunD K x qual params body scope dvs kws (He.ga K x) fd) (S : FnScope N ps scope) (many : ∀ vs H Q E, sp vs H Q E → vs.length = ps.length) {Pa : Addr} (TB : LamX.TabB base mg (He.codeOf K (x, none)) Pa) (hf : He.fAd K (x, none) = He.ga K x)
    (walk : ∀ (c : Addr) (TB : LamX.TabB base mg c Pa) (A : Around) (up : List Env) (s : Shared) (H : Hp) (vs : List V) (Q : VK) (E : XK), Room k (A.deeper (envOfC qual scope s.heap.objs.size (He.ga K x) (.ref c))) →
      (A.deeper (envOfC qual scope s.heap.objs.size (He.ga K x) (.ref c))).guards = some [] → sp vs H Q E →
      ∃ t, PSs (cxOf CX P w K mg base N qual scope (He.ga K x) (.ref c) A up s H E) body t ∧ t { nx := fun _ H' => Q .non H', rt := Q } (start N vs) H) :
    Shw.FnG P w K mg base CX (k + 1) (He.ga K x) fd ps sp := by
  obtain ⟨oc, od, dV, kV, doc, pm, an, cdv, ct, osl, rfl, lk, hcd, _, _⟩ := F.ex
  obtain ⟨c, rfl⟩ := He.codeIn_ref hcd
  have ec : He.codeOf K (x, none) = c := He.codeOf_eq (by rw [hf]; exact lk) rfl
  rw [ec] at TB
  exact Shw.fnG_of lk hcd S many fun A up s H vs Q E hr hg hsp => walk c TB A up s H vs Q E hr hg hsp
end
end Sx
set_option Elab.async false
set_option linter.all false
set_option maxRecDepth 100000
/-! math.lcm; the least number with the given rests. -/
namespace Crt
open PySem PySem.Spec PyProof.Rows L2
theorem crt_at {L p n : Nat} (hL : 0 < L) (hp : 0 < p) : n % L + (n % Nat.lcm L p) / L * L = n % Nat.lcm L p := by
  have h := Nat.mod_add_div (n % Nat.lcm L p) L
  rw [Nat.mod_mod_of_dvd n (Nat.dvd_lcm_left L p), Nat.mul_comm] at h
  exact h
theorem crt_lt {L p n : Nat} (hL : 0 < L) (hp : 0 < p) : (n % Nat.lcm L p) / L < p := by
  have hM : 0 < Nat.lcm L p := Nat.lcm_pos hL hp
  refine Nat.div_lt_of_lt_mul (Nat.lt_of_lt_of_le (Nat.mod_lt _ hM) ?_)
  exact Nat.le_of_dvd (Nat.mul_pos hL hp) (Nat.lcm_dvd_mul L p)
theorem crt_ok {L p n : Nat} (hL : 0 < L) (hp : 0 < p) : (n % L + (n % Nat.lcm L p) / L * L) % p = n % p := by
  rw [crt_at hL hp, Nat.mod_mod_of_dvd n (Nat.dvd_lcm_right L p)]
theorem crt {L p n k : Nat} (hL : 0 < L) (hp : 0 < p) (h0 : (n % L + k * L) % p = n % p) (hmin : ∀ j, j < k → (n % L + j * L) % p ≠ n % p) : n % L + k * L = n % Nat.lcm L p := by
  have hM : 0 < Nat.lcm L p := Nat.lcm_pos hL hp
  have hk : k ≤ (n % Nat.lcm L p) / L := Nat.le_of_not_lt fun z => hmin _ z (crt_ok hL hp)
  have hle : n % L + k * L ≤ n % Nat.lcm L p := by
    rw [← crt_at (n := n) hL hp]
    exact Nat.add_le_add_left (Nat.mul_le_mul_right L hk) _
  have e1 : (n % Nat.lcm L p) % L = (n % L + k * L) % L := by
    rw [Nat.mod_mod_of_dvd n (Nat.dvd_lcm_left L p), Nat.add_mul_mod_self_right, Nat.mod_mod]
  have e2 : (n % Nat.lcm L p) % p = (n % L + k * L) % p := by
    rw [Nat.mod_mod_of_dvd n (Nat.dvd_lcm_right L p), h0]
  have d1 : L ∣ n % Nat.lcm L p - (n % L + k * L) := Nat.dvd_of_mod_eq_zero (Nat.sub_mod_eq_zero_of_mod_eq e1)
  have d2 : p ∣ n % Nat.lcm L p - (n % L + k * L) := Nat.dvd_of_mod_eq_zero (Nat.sub_mod_eq_zero_of_mod_eq e2)
  have d3 := Nat.lcm_dvd d1 d2
  have lt : n % Nat.lcm L p - (n % L + k * L) < Nat.lcm L p := Nat.lt_of_le_of_lt (Nat.sub_le _ _) (Nat.mod_lt _ hM)
  have z := Nat.eq_zero_of_dvd_of_lt d3 lt
  omega
/-- the first of the numbers below p that fits -/
theorem first {p : Nat} {f : Nat → Bool} {j : Nat} (hj : j < p) (h : f j = true) : ∃ k r, (List.range p).filter f = k :: r ∧ f k = true ∧ k < p ∧ ∀ i, i < k → f i = false := by
  have ne : (List.range p).filter f ≠ [] := fun e => by
    have z : j ∈ (List.range p).filter f := List.mem_filter.mpr ⟨List.mem_range.mpr hj, h⟩
    rw [e] at z
    cases z
  cases q : (List.range p).filter f with
  | nil => exact absurd q ne
  | cons k r =>
    have hh : ((List.range p).filter f).head? = some k := by
      rw [q]
      rfl
    rw [List.head?_filter] at hh
    obtain ⟨h1, h2, h3⟩ := List.find?_range_eq_some.mp hh
    exact ⟨k, r, rfl, h1, List.mem_range.mp h2, fun i hi => by simpa using h3 i hi⟩
def rLcm : List V → Hp → VK → Prop := fun vs H Q => ∃ a b : Nat, vs = [.int (a : Int), .int (b : Int)] ∧ a < 2 ^ 64 ∧ b < 2 ^ 10 ∧ 0 < a ∧ 0 < b ∧ Q (.int ((Nat.lcm a b : Nat) : Int)) H
theorem cr_lcm {X : Cx} : CallR X (.builtin "math.lcm") rLcm := by
  intro pins s σ H vs us Q I r h
  obtain ⟨a, b, rfl, ha, hb, pa, pb, q⟩ := h
  obtain ⟨t, u, rfl⟩ := Vals.int2 r
  have e : (((Nat.lcm 1 (a : Int).natAbs).lcm (b : Int).natAbs : Nat) : Int) = ((Nat.lcm a b : Nat) : Int) := by
    rw [Int.natAbs_natCast, Int.natAbs_natCast, Nat.lcm_one_left]
  refine PySem.W.mg_lcm_v (by rw [Int.natAbs_natCast]; exact ha) (by rw [Int.natAbs_natCast]; omega) e ?_ ⟨.int _, H, I.tok _, ⟨_, rfl⟩, q⟩
  rw [Int.natAbs_natCast]
  have le : Nat.lcm a b ≤ a * b := Nat.le_of_dvd (Nat.mul_pos pa pb) (Nat.lcm_dvd_mul a b)
  have lt : Nat.lcm a b < 2 ^ 74 := by
    have : a * b < 2 ^ 64 * 2 ^ 10 := Nat.mul_lt_mul'' ha hb
    have e2 : (2 : Nat) ^ 64 * 2 ^ 10 = 2 ^ 74 := by decide
    omega
  have hz : Nat.lcm a b ≠ 0 := Nat.pos_iff_ne_zero.mp (Nat.lcm_pos pa pb)
  have l2 : (Nat.lcm a b).log2 < 74 := (Nat.log2_lt hz).mpr lt
  exact Nat.lt_of_lt_of_le l2 (by rw [bitsLine_eq]; decide)
end Crt
set_option Elab.async false
set_option linter.all false
set_option maxRecDepth 100000
set_option maxHeartbeats 2000000
namespace Sx
open PySem PySem.Spec PyProof.Rows L2
theorem vl_bls {H : Hp} {M : Addr → Prop} : ∀ {bs : List Bool} {vs : List V}, VlL H M vs (bs.map D.bl) → vs = bs.map V.bl
  | [], _, r => by cases r; rfl
  | z :: zs, _, r => by
    cases r with
    | cons a b =>
      cases a
      rw [vl_bls b]
      rfl
section
variable {X : Cx} {B : Bs} {ss : SS} {Q : D → SS → Prop} {T : Bool → SS → Prop} {L : List D → SS → Prop} {k : Kt} {a b c e e2 o elt tg iter : Expr} {es ifs : List Expr} {pos p apos p' : Pos} {CX : CXT} {n : Nat} {x m f : Str} {C : Addr} {ps : List Str} {F : FT} {scope : Scope}
/-- *e, .. among the items of a display, the arguments of a call -/
theorem aw_star {sp_ : Pos} (h : EW X B e ss fun d s => ∃ ds, (d = .tup ds ∨ d = .lst ds) ∧ AW X B es s fun rest s' => L (ds ++ rest) s') (hs : starEach (.Starred e sp_ :: es) X.env = (true, eval e X.env) :: starEach es X.env := by rfl) : AW X B (.Starred e sp_ :: es) ss L :=
  ⟨PAimp (StX.pa_star h.p pa_any hs) fun σ H QQ ⟨s, k⟩ => ⟨s, fun v d s1 H1 ⟨ds, hd, aw⟩ sat1 e1 r1 => by
    rcases hd with rfl | rfl
    · cases r1 with
      | @tup a xs _ ea nn r => exact ⟨a, xs, rfl, .inl (SqT.of ea), _, aw.p, sat1, fun ys rest s2 H2 q2 sat2 e2 r2 => k _ _ s2 H2 q2 sat2 (e1.trans e2) ((VlL.ext e2 r).app r2)⟩
    · cases r1 with
      | @lst a xs _ ea nn r => exact ⟨a, xs, rfl, .inr (SqL.of ea), _, aw.p, sat1, fun ys rest s2 H2 q2 sat2 e2 r2 => k _ _ s2 H2 q2 sat2 (e1.trans e2) ((VlL.ext e2 r).app r2)⟩⟩⟩
/-- [elt for tg in range(a) if ..] -/
theorem ew_lcR {rp rpos : Pos} (own : List (Str × Nat)) (jx : Nat) (hc : X.calm = true) (hN : X.N.Nodup) (ok : BlkOk X.N X.env.scope scope own) (hm : X.mg "range" = none)
    (h : EW X B a ss fun d s => ∃ n : Nat, d = .int (n : Int) ∧ n ≤ 10000 ∧ ∃ Iv : Nat → List D → Cs → Prop, Iv 0 [] s.cs ∧
      (∀ j acc cs, j < n → Iv j acc cs → acc.length ≤ j ∧ LcTurn X B scope elt tg ifs (own.map (·.2)) jx s.sl (.int (j : Int)) acc cs (Iv (j + 1))) ∧ ∀ acc cs, Iv n acc cs → Q (.lst acc) ⟨s.sl, cs⟩)
    (hg : Gl X "range" := by rfl) (hse : starEach [a] X.env = [(false, eval a X.env)] := by rfl)
    (hs : ∀ x, foldedSetIterable (.Call (.Name "range" rp) [a] [] rpos) X.env x = pure x := by intro _; rfl) : EW X B (.ListComp elt [⟨tg, .Call (.Name "range" rp) [a] [] rpos, ifs, 0⟩] scope pos) ss Q :=
  ⟨PEimp (pe_lc hc hN (pi_range1 hg hm (pa_cons h.p pa_nil hse) hse) ok pg_blk pt_blk pe_blk hs) fun σ H QQ ⟨s, k⟩ => ⟨s, fun v d s1 H1 ⟨n, q1, hl, Iv, i0, i1, i2⟩ sat1 e1 r1 => by
    subst q1
    cases r1
    refine ⟨(n : Int), rfl, by omega, by omega, fun l hnew => ?_⟩
    refine lc_range (lo := 0) (n := n) (fun i H' => ∃ acc cs, Iv i acc cs ∧ LcAt B s1.sl s1.cs H1 (own.map (·.2)) σ jx l acc cs H') ⟨[], s1.cs, i0, lc_start sat1 hnew⟩ (fun i H' hi ⟨acc, cs, q, st⟩ => ?_) fun H' ⟨acc, cs, q, st⟩ => ?_
    · obtain ⟨hacc, turn⟩ := i1 i acc cs hi q
      have z := lc_go (v := .int (i : Int)) (szt (by omega)) st (.int _) turn fun acc' cs' H'' nq st' => (⟨acc', cs', nq, st'⟩ : ∃ acc cs, Iv (i + 1) acc cs ∧ LcAt B s1.sl s1.cs H1 (own.map (·.2)) σ jx l acc cs H'')
      rw [Int.zero_add]
      exact z
    · exact lc_end (ss := ss) sat1 e1 st k (i2 acc cs q)⟩⟩
/-- [elt for tg in range(a, b) if ..] -/
theorem ew_lcR2 {rp rpos : Pos} (own : List (Str × Nat)) (jx : Nat) (hc : X.calm = true) (hN : X.N.Nodup) (ok : BlkOk X.N X.env.scope scope own) (hm : X.mg "range" = none)
    (h : AW X B [a, b] ss fun ds s => ∃ (lo : Int) (n : Nat), ds = [.int lo, .int (lo + n)] ∧ -10 ^ 15 ≤ lo ∧ lo ≤ 10 ^ 15 ∧ n ≤ 10000 ∧ ∃ Iv : Nat → List D → Cs → Prop, Iv 0 [] s.cs ∧
      (∀ j acc cs, j < n → Iv j acc cs → acc.length ≤ j ∧ LcTurn X B scope elt tg ifs (own.map (·.2)) jx s.sl (.int (lo + j)) acc cs (Iv (j + 1))) ∧ ∀ acc cs, Iv n acc cs → Q (.lst acc) ⟨s.sl, cs⟩)
    (hg : Gl X "range" := by rfl) (hse : starEach [a, b] X.env = [(false, eval a X.env), (false, eval b X.env)] := by rfl) (hse2 : starEach [b] X.env = [(false, eval b X.env)] := by rfl)
    (hs : ∀ x, foldedSetIterable (.Call (.Name "range" rp) [a, b] [] rpos) X.env x = pure x := by intro _; rfl) : EW X B (.ListComp elt [⟨tg, .Call (.Name "range" rp) [a, b] [] rpos, ifs, 0⟩] scope pos) ss Q :=
  ⟨PEimp (pe_lc hc hN (pi_range2 hg hm h.p hse hse2) ok pg_blk pt_blk pe_blk hs) fun σ H QQ ⟨s, k⟩ => ⟨s, fun vs ds s1 H1 ⟨lo, n, q1, l1, l2, hl, Iv, i0, i1, i2⟩ sat1 e1 r1 => by
    subst q1
    obtain ⟨v, u, rfl, r1, r2⟩ := vl2 r1
    cases r1
    cases r2
    have en : (lo + n - lo).toNat = n := by omega
    refine ⟨lo, lo + n, rfl, ⟨by omega, by omega, by omega, by omega⟩, fun l hnew => ?_⟩
    rw [en]
    refine lc_range (lo := lo) (n := n) (fun i H' => ∃ acc cs, Iv i acc cs ∧ LcAt B s1.sl s1.cs H1 (own.map (·.2)) σ jx l acc cs H') ⟨[], s1.cs, i0, lc_start sat1 hnew⟩ (fun i H' hi ⟨acc, cs, q, st⟩ => ?_) fun H' ⟨acc, cs, q, st⟩ => ?_
    · obtain ⟨hacc, turn⟩ := i1 i acc cs hi q
      exact lc_go (v := .int (lo + i)) (szt (by omega)) st (.int _) turn fun acc' cs' H'' nq st' => ⟨acc', cs', nq, st'⟩
    · exact lc_end (ss := ss) sat1 e1 st k (i2 acc cs q)⟩⟩
theorem walk_zT {K : PySem.W.Frag} {a b : Addr} {xs ys : List V} {n : Nat} (hn : n = min xs.length ys.length) :
    Walk (RZ.ItzT K a b) n (fun H => SqT K H a xs ∧ SqT K H b ys) (YPair (fun i => xs[i]?) (fun i => ys[i]?)) := by
  refine ⟨fun i H hi q => ?_, fun H q => ⟨xs, ys, q.1, q.2, by omega⟩, fun i H v H' hi q y => ?_⟩
  · have h1 : i < xs.length := by omega
    have h2 : i < ys.length := by omega
    exact ⟨xs, ys, xs[i], ys[i], q.1, q.2, by simp [h1], by simp [h2]⟩
  · obtain ⟨T, x, z, h1, h2, h3, h4, h5⟩ := y
    exact ⟨T, x, z, h1, h2, h3, h4 xs q.1, h5 ys q.2⟩
/-- [elt for t, .. in zip(a, b) if ..], a and b tuples -/
theorem ew_lcZ {rp rpos tpos : Pos} {elts : List Expr} {kk : Nat} (own : List (Str × Nat)) (jx : Nat) (hc : X.calm = true) (hN : X.N.Nodup) (ok : BlkOk X.N X.env.scope scope own) (hm : X.mg "zip" = none)
    (h : AW X B [a, b] ss fun ds s => ∃ d1 d2 : List D, ds = [.tup d1, .tup d2] ∧ d1.length ≤ 10000 ∧ ∃ Iv : Nat → List D → Cs → Prop, Iv 0 [] s.cs ∧
      (∀ j x1 x2 acc cs, d1[j]? = some x1 → d2[j]? = some x2 → Iv j acc cs → acc.length ≤ j ∧ LcTurn X B scope elt (.Tuple elts kk tpos) ifs (own.map (·.2)) jx s.sl (.tup [x1, x2]) acc cs (Iv (j + 1))) ∧ ∀ acc cs, Iv (min d1.length d2.length) acc cs → Q (.lst acc) ⟨s.sl, cs⟩)
    (hg : Gl X "zip" := by rfl) (hse : starEach [a, b] X.env = (false, eval a X.env) :: starEach [b] X.env := by rfl) (hpl : (backTo rpos (starEach [b] X.env)).any (·.1) = false := by rfl)
    (hs : ∀ x, foldedSetIterable (.Call (.Name "zip" rp) [a, b] [] rpos) X.env x = pure x := by intro _; rfl) : EW X B (.ListComp elt [⟨.Tuple elts kk tpos, .Call (.Name "zip" rp) [a, b] [] rpos, ifs, 0⟩] scope pos) ss Q :=
  ⟨PEimp (pe_lc hc hN (RZ.pi_zipA hg hm h.p hse hpl) ok pg_blk pt_blk pe_blk hs) fun σ H QQ ⟨s, k⟩ => ⟨s, fun vs ds s1 H1 ⟨d1, d2, q1, hl, Iv, i0, i1, i2⟩ sat1 e1 r1 => by
    subst q1
    obtain ⟨v, u, rfl, r1, r2⟩ := vl2 r1
    cases r1 with
    | @tup a xs _ ea na ra =>
      cases r2 with
      | @tup b ys _ eb nb rb =>
        refine ⟨a, b, xs, ys, rfl, .inr ⟨SqT.of ea, SqT.of eb, fun l hnew => ?_⟩⟩
        refine lc_it (walk_zT (n := min d1.length d2.length) (by rw [ra.len, rb.len])) (fun i H' => ∃ acc cs, Iv i acc cs ∧ LcAt B s1.sl s1.cs H1 (own.map (·.2)) σ jx l acc cs H') ⟨[], s1.cs, i0, lc_start sat1 hnew⟩ (fun i H' _ ⟨acc, cs, _, st⟩ => ⟨SqT.of (st.ext.kp _ _ na ntT ea), SqT.of (st.ext.kp _ _ nb ntT eb)⟩) (fun i y H' H2 hi ⟨acc, cs, q, st⟩ hy => ?_) fun H' ⟨acc, cs, q, st⟩ => ?_
        · obtain ⟨T, x0, y0, rfl, hT, rfl, hx, hy⟩ := hy
          obtain ⟨x1, hx1, rx⟩ := ra.back hx
          obtain ⟨x2, hx2, ry⟩ := rb.back hy
          obtain ⟨hacc, turn⟩ := i1 i x1 x2 acc cs hx1 hx2 q
          have S := Pre.Same.upd (o := .tup [x0, y0]) hT
          have st2 : LcAt B s1.sl s1.cs H1 (own.map (·.2)) σ jx l acc cs (upd H' T (.tup [x0, y0])) := ⟨st.sat.same S, st.ext.trans (Ext.same S)⟩
          exact lc_go (v := .ref T) (szt (by omega)) st2 (.tup upd_same (st.sat.new hT) (.cons (rx.ext st2.ext) (.cons (ry.ext st2.ext) .nil))) turn fun acc' cs' H'' nq st' => ⟨acc', cs', nq, st'⟩
        · exact lc_end (ss := ss) sat1 e1 st k (i2 acc cs q)⟩⟩
/-- for t, .. in zip(a, b), a and b tuples -/
theorem s1_forZ {rp rpos tpos : Pos} {elts : List Expr} {kk : Nat} {body : List Stmt} (vs : List Nat) (hp : PassesOwn (model X.prog X.w) X.A X.env X.xe) (hc : X.calm = true) (hm : X.mg "zip" = none)
    (h : AW X B [a, b] ss fun ds s => ∃ d1 d2 : List D, ds = [.tup d1, .tup d2] ∧ ∃ Iv : Nat → SS → Prop, Iv 0 s ∧ (∀ j x1 x2 s', d1[j]? = some x1 → d2[j]? = some x2 → Iv j s' → TgW X B (.Tuple elts kk tpos) (.tup [x1, x2]) vs s' fun s2 => SW X B body s2 { nx := Iv (j + 1), rt := k.rt, bk := k.nx, ct := Iv (j + 1) }) ∧ ∀ s', Iv (min d1.length d2.length) s' → k.nx s') (hg : Gl X "zip" := by rfl)
    (hse : starEach [a, b] X.env = (false, eval a X.env) :: starEach [b] X.env := by rfl) (hpl : (backTo rpos (starEach [b] X.env)).any (·.1) = false := by rfl)
    (hs : ∀ x, foldedSetIterable (.Call (.Name "zip" rp) [a, b] [] rpos) X.env x = pure x := by intro _; rfl) : S1 X B (.For (.Tuple elts kk tpos) (.Call (.Name "zip" rp) [a, b] [] rpos) body [] pos) ss k :=
  ⟨PSimp (ps_for hp hc (RZ.pi_zipA hg hm h.p hse hpl) pg_any pss_any hs) fun D σ H ⟨s, h1, h2, h3, h4⟩ => ⟨s, fun us ds s1 H1 ⟨d1, d2, q1, Iv, i0, i1, i2⟩ sat1 e1 r1 => by
    subst q1
    obtain ⟨v, u, rfl, r1, r2⟩ := vl2 r1
    cases r1 with
    | @tup a xs _ ea na ra =>
      cases r2 with
      | @tup b ys _ eb nb rb =>
        refine ⟨a, b, xs, ys, rfl, .inr ⟨SqT.of ea, SqT.of eb, for_it (walk_zT (n := min d1.length d2.length) (by rw [ra.len, rb.len])) (fun i σ' H' => ∃ s', Iv i s' ∧ Sat B s' σ' H' ∧ Ext (ow s1.cs) H1 (ow s'.cs) H') ⟨s1, i0, sat1, Ext.refl⟩ (fun i σ' H' _ ⟨s', _, _, e'⟩ => ⟨SqT.of (e'.kp _ _ na ntT ea), SqT.of (e'.kp _ _ nb ntT eb)⟩) (fun i y σ' H' H'' hi ⟨s', q', sat', e'⟩ hy => ?_) fun σ' H' ⟨s', q', sat', e'⟩ => h1 s' σ' H' (i2 s' q') sat' (e1.trans e')⟩⟩
        obtain ⟨T, x0, y0, rfl, hT, rfl, hx, hy⟩ := hy
        obtain ⟨x1, hx1, rx⟩ := ra.back hx
        obtain ⟨x2, hx2, ry⟩ := rb.back hy
        have S := Pre.Same.upd (o := .tup [x0, y0]) hT
        have e'' := e'.trans (Ext.same (M := ow s'.cs) S)
        refine ⟨_, (i1 i x1 x2 s' hx1 hx2 q').p, sat'.same S, .tup upd_same (sat'.new hT) (.cons (rx.ext e'') (.cons (ry.ext e'') .nil)), fun s2 σ2 q2 c2 sat2 _ => ⟨_, q2.p, sat2, fun s3 σ3 H3 q3 sat3 e3 => ?_, fun v d s3 σ3 H3 q3 sat3 e3 r3 => ?_, fun s3 σ3 H3 q3 sat3 e3 => ?_, fun s3 σ3 H3 q3 sat3 e3 => ?_⟩⟩
        · exact ⟨s3, q3, sat3, e''.trans (by rw [c2] at e3; exact e3)⟩
        · exact h2 v d s3 σ3 H3 q3 sat3 ((e1.trans e'').trans (by rw [c2] at e3; exact e3)) r3
        · exact h1 s3 σ3 H3 q3 sat3 ((e1.trans e'').trans (by rw [c2] at e3; exact e3))
        · exact ⟨s3, q3, sat3, e''.trans (by rw [c2] at e3; exact e3)⟩⟩⟩
theorem cl_all {bs : List Bool} (hc : X.calm = true) (q : Q (.bl (bs.all id)) ss) : ClD X B (.builtin "all") [.lst (bs.map D.bl)] ss Q := cl_c q fun H M vs r => by
  obtain ⟨v, rfl, r1⟩ := vl1 r
  cases r1 with
  | @lst a xs _ ea n r2 =>
    have := vl_bls r2
    subst this
    exact ⟨_, _, cr_all hc, .bl _, fun QQ q => ⟨a, bs, rfl, SqL.of ea, q⟩⟩
theorem cl_any' {bs : List Bool} (hc : X.calm = true) (q : Q (.bl (bs.any id)) ss) : ClD X B (.builtin "any") [.lst (bs.map D.bl)] ss Q := cl_c q fun H M vs r => by
  obtain ⟨v, rfl, r1⟩ := vl1 r
  cases r1 with
  | @lst a xs _ ea n r2 =>
    have := vl_bls r2
    subst this
    exact ⟨_, _, cr_any hc, .bl _, fun QQ q => ⟨a, bs, rfl, SqL.of ea, q⟩⟩
/-- a built-in of another module, imported by name -/
theorem ew_callF {id : String} (hm : X.mg x = some (.builtin id)) (hg : Gl X x) (h : AW X B (e :: es) ss fun ds s => ClD X B (.builtin id) ds s Q) (hdb : (x == ("__debug__" : Str)) = false := by decide)
    (he : starEach (e :: es) X.env = (false, eval e X.env) :: starEach es X.env := by rfl) (hpl : (backTo pos (starEach es X.env)).any (·.1) = false := by rfl) : EW X B (.Call (.Name x p) (e :: es) [] pos) ss Q :=
  ⟨PEimp (pe_callBfun cl_any hg hm h.p hdb he hpl) fun _ _ _ q => cl_go h q⟩
theorem cl_lcm {i j : Nat} (h1 : 0 < i) (h2 : i < 2 ^ 64) (h3 : 0 < j) (h4 : j < 2 ^ 10) (q : Q (.int ((Nat.lcm i j : Nat) : Int)) ss) : ClD X B (.builtin "math.lcm") [.int (i : Int), .int (j : Int)] ss Q := cl_c q fun H M vs r => by
  obtain ⟨v, u, rfl, r1, r2⟩ := vl2 r
  cases r1
  cases r2
  exact ⟨_, _, Crt.cr_lcm, .int _, fun QQ q => ⟨i, j, rfl, h2, h4, h1, h3, q⟩⟩
theorem od_inT {z : Str} {opts : List Str} (q : Q (.bl (decide (z ∈ opts))) ss) : OpD X B (compareOp .In) (.str z) (.tup (opts.map D.str)) ss Q := od_c q fun H M v1 v2 r1 r2 => by
  cases r1
  cases r2 with
  | @tup a xs _ ea n r =>
    have := vl_strs' r
    subst this
    exact ⟨_, _, op_in_seq, .bl _, fun QQ q => ⟨a, opts.map V.str, rfl, .inr (SqT.of ea), rfl, flat_strs opts, by rw [inV_strs]; exact q⟩⟩
end
end Sx
set_option Elab.async false
set_option linter.all false
set_option maxRecDepth 100000
set_option maxHeartbeats 2000000
/-! a def that says super().__init__(..): its statements run as its own activation -/
namespace Sx
open PySem PySem.Spec PyProof.Rows L2
structure SA (X : Cx) (B : Bs) (c : Code) (sts : List Stmt) (ss : SS) (k : Kt) : Prop where
  p : Sup.PSa X c sts (tS B ss k)
def tsaAny (X : Cx) (c : Code) (sts : List Stmt) : TS := fun D σ H => ∃ t, Sup.PSa X c sts t ∧ t D σ H
theorem psa_any {X : Cx} {c : Code} {sts : List Stmt} : Sup.PSa X c sts (tsaAny X c sts) := ⟨fun pins s σ H D I ⟨t, h, q⟩ => h.run pins s σ H D I q⟩
theorem PSaimp {X : Cx} {c : Code} {e : List Stmt} {t t' : TS} (h : Sup.PSa X c e t) (i : ∀ D σ H, t' D σ H → t D σ H) : Sup.PSa X c e t' := ⟨fun pins s σ H D I q => h.run pins s σ H D I (i _ _ _ q)⟩
section
variable {X : Cx} {c : Code} {B : Bs} {ss : SS} {k : Kt} {st : Stmt} {sts : List Stmt}
theorem sa_of (h : SW X B sts ss k) : SA X B c sts ss k := ⟨Sup.psa_of h.p⟩
theorem sa_cons (h : S1 X B st ss { k with nx := fun s => SA X B c sts s k }) : SA X B c (st :: sts) ss k :=
  ⟨PSaimp (Sup.psa_cons h.p psa_any) fun D σ H ⟨s, h1, h2, h3, h4⟩ => ⟨s, fun s1 σ1 H1 q1 sat1 e1 => ⟨_, q1.p, sat1, fun s2 σ2 H2 q2 sat2 e2 => h1 s2 σ2 H2 q2 sat2 (e1.trans e2),
    fun v d s2 σ2 H2 q2 sat2 e2 r2 => h2 v d s2 σ2 H2 q2 sat2 (e1.trans e2) r2, fun s2 σ2 H2 q2 sat2 e2 => h3 s2 σ2 H2 q2 sat2 (e1.trans e2), fun s2 σ2 H2 q2 sat2 e2 => h4 s2 σ2 H2 q2 sat2 (e1.trans e2)⟩, h2, h3, h4⟩⟩
end
section
variable {CX CX' : CXT} {P : Program} {w : World} {K : PySem.W.Frag} {mg : Str → Option Value} {base : Heap} {N : List Str} {x qual : Str} {params : Arguments} {body : List Stmt} {scope : Scope} {D0 cc c f g : Addr} {fd gd : FuncData} {A : Around} {outer : List Env} {s0 : Shared} {H0 : Hp} {E0 E' : XK}
  {n : Nat} {ps : List Str} {F : FT} {sts : List Stmt} {z : Str} {pz : Pos} {p0 p1 p2 p3 p4 : Pos} {ar : Arg} {pl : Sem Bool} {B : Bs} {ss : SS} {k : Kt} {KE' : Addr → List (Str × D) → Cs → Prop}
/-- super().__init__(z), z a name -/
theorem sa_super (i j : Nat) (xs : Exs B E' KE') (S : Sup.FunS P K x qual params body scope D0 cc c f fd) (hopq : Sup.Opq base) (hp : (params.posonlyargs ++ params.args).head? = some ar) (hN : N[0]? = some ar.arg)
    (hks : scope.names.lookup ("super" : Str) = some .globalImplicit) (hkc : scope.names.lookup ("__class__" : Str) = some .free) (hka : scope.names.lookup ar.arg = some .local)
    (hm : PySem.W.ks_superIn K D0 D0 "__init__" = some (some (.ref g))) (ht : PySem.W.typeIn K (.ref g) = some (.type "function")) (hf : PySem.W.fnIn K g = true)
    (G : FnOk P w K mg base CX' n g gd ps (spF F)) (hr : Room n (A.deeper (NdefX.envF (Sup.nfS x qual params body scope cc c) f s0.heap.objs.size))) (hb : L2.Binds K gd ps [])
    (hx : Passes CX' (NdefX.ncx CX P w K mg base N (Sup.nfS x qual params body scope cc c) f A outer s0 H0 E0) E')
    (hz : PE (NdefX.ncx CX P w K mg base N (Sup.nfS x qual params body scope cc c) f A outer s0 H0 E0) (.Name z pz) (tVar i))
    (h : ∃ (y : Addr) (fs : List (Str × D)) (d : D), ss.sl[0]? = some (some (.own y)) ∧ ss.cs[j]? = some (y, .ins D0 fs) ∧ ss.sl[i]? = some (some d) ∧
      F [.own y, d] ss.cs (fun _ cs' => SA (NdefX.ncx CX P w K mg base N (Sup.nfS x qual params body scope cc c) f A outer s0 H0 E0) B (.func body (NdefX.envF (Sup.nfS x qual params body scope cc c) f s0.heap.objs.size)) sts ⟨ss.sl, cs'⟩ k) KE')
    (hst : starEach [.Name z pz] (NdefX.envF (Sup.nfS x qual params body scope cc c) f s0.heap.objs.size) = (false, eval (.Name z pz) (NdefX.envF (Sup.nfS x qual params body scope cc c) f s0.heap.objs.size)) :: starEach [] (NdefX.envF (Sup.nfS x qual params body scope cc c) f s0.heap.objs.size) := by rfl)
    (hi : interactive (NdefX.envF (Sup.nfS x qual params body scope cc c) f s0.heap.objs.size) = false := by rfl)
    (hs : swapsWith (.Call (.Attribute (.Call (.Name "super" p0) [] [] p1) "__init__" p2) [.Name z pz] [] p3) none p4.line (NdefX.envF (Sup.nfS x qual params body scope cc c) f s0.heap.objs.size) = pure false := by rfl)
    (he : eval (.Call (.Attribute (.Call (.Name "super" p0) [] [] p1) "__init__" p2) [.Name z pz] [] p3) (NdefX.envF (Sup.nfS x qual params body scope cc c) f s0.heap.objs.size) = (do
      let ov ← attributeBase (.Call (.Name "super" p0) [] [] p1) "__init__" (NdefX.envF (Sup.nfS x qual params body scope cc c) f s0.heap.objs.size) (eval (.Call (.Name "super" p0) [] [] p1) (NdefX.envF (Sup.nfS x qual params body scope cc c) f s0.heap.objs.size))
      standAt p2.atName
      let (h, first) ← holding [ov] (getMethod ov "__init__" pl)
      callWith p3 h first (backTo p3 (starEach [.Name z pz] (NdefX.envF (Sup.nfS x qual params body scope cc c) f s0.heap.objs.size))) []) := by rfl) :
    SA (NdefX.ncx CX P w K mg base N (Sup.nfS x qual params body scope cc c) f A outer s0 H0 E0) B (.func body (NdefX.envF (Sup.nfS x qual params body scope cc c) f s0.heap.objs.size))
      (.Expr (.Call (.Attribute (.Call (.Name "super" p0) [] [] p1) "__init__" p2) [.Name z pz] [] p3) p4 :: sts) ss k := by
  obtain ⟨y, fs, d, h1, h2, h3, h4⟩ := h
  refine ⟨PSaimp (Sup.psa_super S hopq hp hN hks hkc hka hm ht hf G hr hb (E := E') hx (pa_cons hz pa_nil hst) psa_any hst hi hs he) fun Dn σ H ⟨s, k1, k2, k3, k4⟩ => ?_⟩
  obtain ⟨v0, e0, r0⟩ := s.sl 0 _ h1
  obtain ⟨v1, e1, r1⟩ := s.sl i _ h3
  cases r0
  obtain ⟨dx, vs, ea, rf⟩ := s.ok.ok y _ (List.mem_of_getElem? h2)
  refine ⟨y, dx, vs, e0, ea, v1, e1, ea, ?_⟩
  refine ⟨[.own y, d], ss.cs, _, KE', .cons (.own y) (.cons r1 .nil), s.ok, h4, fun v d' H' cs' q x ok r => ?_, fun C fs' cs' x vs' H' q x1 ok hx2 rf2 => xs.go s q x1 ok hx2 rf2⟩
  refine ⟨_, q.p, s.cs x ok, fun s2 σ2 H2 q2 sat2 e2 => k1 s2 σ2 H2 q2 sat2 (x.trans e2), fun v d s2 σ2 H2 q2 sat2 e2 r2 => k2 v d s2 σ2 H2 q2 sat2 (x.trans e2) r2, fun s2 σ2 H2 q2 sat2 e2 => k3 s2 σ2 H2 q2 sat2 (x.trans e2), fun s2 σ2 H2 q2 sat2 e2 => k4 s2 σ2 H2 q2 sat2 (x.trans e2)⟩
theorem startF_eq {N : List Str} {vs : List V} (h : vs.length < N.length) : NdefX.startF N vs [none] = L2.start N vs := by
  unfold NdefX.startF L2.start
  obtain ⟨m, hm⟩ : ∃ m, N.length - vs.length = m + 1 := ⟨N.length - vs.length - 1, by omega⟩
  rw [hm]
  rfl
theorem body_goA {X : Cx} {c : Code} {H : Hp} {cs : Cs} {vs : List V} {ds : List D} {N : List Str} {E : XK} {Kk : D → Cs → Prop} {KE : Addr → List (Str × D) → Cs → Prop} {Q : VK} (hl : ds.length < N.length) (r : VlL H (ow cs) vs ds) (ok : CsOk H cs)
    (q1 : ∀ v d H' cs', Kk d cs' → Ext (ow cs) H (ow cs') H' → CsOk H' cs' → Vl H' (ow cs') v d → Q v H')
    (q2 : ∀ C fs cs' x vs H', KE C fs cs' → Ext (ow cs) H (ow cs') H' → CsOk H' cs' → H' x = some (.xd vs) → VlF H' (ow cs') vs fs → E (.ref C) (some x) H')
    (h : SA X ⟨H, cs, E, KE⟩ c body ⟨startD N ds, cs⟩ { nx := fun s => Kk .non s.cs, rt := fun d s => Kk d s.cs }) : ∃ t, Sup.PSa X c body t ∧ t { nx := fun _ H' => Q .non H', rt := Q } (NdefX.startF N vs [none]) H := by
  rw [startF_eq (by rw [r.len]; exact hl)]
  refine ⟨_, h.p, sat_start r ok (fun C fs cs' x vs' H' a b c d e => q2 C fs cs' x vs' H' a b c d e), fun s' σ' H' q sat e => q1 _ _ _ _ q e sat.ok .non, fun v d s' σ' H' q sat e r => q1 _ _ _ _ q e sat.ok r, fun _ _ _ z => z.elim, fun _ _ _ z => z.elim⟩
end
end Sx
set_option Elab.async false
set_option linter.all false
set_option maxRecDepth 100000
set_option maxHeartbeats 4000000
namespace K24
open PySem PySem.Spec PyProof.Rows L2 Sx
local macro_rules | `(tactic| walk_at "c") => `(tactic| first
  | refine aw_cons ?_ | refine aw_nil ?_
  | refine ew_int ?_ | refine ew_non ?_ | refine ew_bl ?_ | refine ew_str ?_
  | refine ew_bin ?_ | refine ew_cmp ?_ | refine tw_cmp ?_ | refine tw_not ?_ | refine ew_chain ?_ | refine tw_chain ?_ | refine ew_and ?_ | refine ew_or ?_ | refine ew_one ?_ | refine ew_not ?_ | refine ew_neg ?_ | refine ew_if ?_
  | refine tw_w (ww_and ?_) | refine tw_w (ww_or ?_) | refine ww_and ?_ | refine ww_or ?_ | refine ww_and1 ?_ | refine ww_or1 ?_
  | refine tw_val (e := .Call _ _ _ _) ?_ | refine ew_tup ?_ | refine ew_ix ?_ | refine ew_lst ?_
  | refine sw_cons ?_ | refine s1_ret ?_ | refine s1_if ?_ | refine sw_nil ?_ | refine s1_expr ?_
  | refine od_add ?_ | refine od_sub ?_ | refine od_lt ?_ | refine od_le ?_ | refine od_gt ?_ | refine od_ge ?_
  | refine isB ?_ | refine intD ?_ | refine br_t ?_ | refine br_f ?_
  | refine ⟨szl (Nat.le_of_ble_eq_true rfl), ?_⟩)
local macro_rules | `(tactic| walk_at "n") => `(tactic| first
  | refine ew_name 0 rfl (by first | exact .inl rfl | exact .inr (.inl rfl) | exact .inr (.inr rfl)) rfl ?_
  | refine ew_name 1 rfl (by first | exact .inl rfl | exact .inr (.inl rfl) | exact .inr (.inr rfl)) rfl ?_
  | refine ew_name 2 rfl (by first | exact .inl rfl | exact .inr (.inl rfl) | exact .inr (.inr rfl)) rfl ?_
  | refine ew_name 3 rfl (by first | exact .inl rfl | exact .inr (.inl rfl) | exact .inr (.inr rfl)) rfl ?_
  | refine ew_name 4 rfl (by first | exact .inl rfl | exact .inr (.inl rfl) | exact .inr (.inr rfl)) rfl ?_
  | refine ew_name 5 rfl (by first | exact .inl rfl | exact .inr (.inl rfl) | exact .inr (.inr rfl)) rfl ?_
  | refine ew_name 6 rfl (by first | exact .inl rfl | exact .inr (.inl rfl) | exact .inr (.inr rfl)) rfl ?_
  | refine ew_name 7 rfl (by first | exact .inl rfl | exact .inr (.inl rfl) | exact .inr (.inr rfl)) rfl ?_
  | refine ew_name 8 rfl (by first | exact .inl rfl | exact .inr (.inl rfl) | exact .inr (.inr rfl)) rfl ?_
  | refine ew_name 9 rfl (by first | exact .inl rfl | exact .inr (.inl rfl) | exact .inr (.inr rfl)) rfl ?_
  | refine ew_name 10 rfl (by first | exact .inl rfl | exact .inr (.inl rfl) | exact .inr (.inr rfl)) rfl ?_
  | refine ew_name 11 rfl (by first | exact .inl rfl | exact .inr (.inl rfl) | exact .inr (.inr rfl)) rfl ?_
  | refine ew_name 12 rfl (by first | exact .inl rfl | exact .inr (.inl rfl) | exact .inr (.inr rfl)) rfl ?_)
local macro_rules | `(tactic| walk_at "i") => `(tactic| (refine' cl_isi (.ty _) ?a ?b ?_; (case a => constructor); (case b => with_reducible first | exact kit_int_int | exact kit_int_bool | exact kit_bool_int | exact kit_bool_bool | exact kit_NoneType_int | exact kit_str_int | exact kit_list_int | exact kit_tuple_int | exact kit_dict_int | exact kit_tuple_tuple | exact kit_int_tuple | exact kit_NoneType_tuple | exact kit_bool_tuple | exact kit_str_tuple | exact kit_list_tuple | exact kit_dict_tuple)))
local macro_rules | `(tactic| walk_at "l") => `(tactic| first
  | refine ew_isinstance (Tx.f_isinstance (by assumption)) ?_ | refine ew_len (Tx.f_len (by assumption)) ?_ | refine ew_vint (Tx.f_int (by assumption)) ?_ | refine ew_vbool (Tx.f_bool (by assumption)) ?_ | refine ew_vtuple (Tx.f_tuple (by assumption)) ?_ | refine ew_vstr (Tx.f_str (by assumption)) ?_
  | refine ew_gint (Tx.i_MOST_PERIOD (by assumption)) (by rfl) ?_ | refine ew_gint (Tx.i_DIGITS (by assumption)) (by rfl) ?_ | refine ew_gint (Tx.i_FAR (by assumption)) (by rfl) ?_ | refine ew_gint (Tx.i_MOST_MODULUS (by assumption)) (by rfl) ?_ | refine ew_gint (Tx.i_MOST_PERIODS (by assumption)) (by rfl) ?_
  | refine cl_len ?_ | refine cl_lenT ?_ | refine ix_tpl rfl ?_ | refine od_is (by intro _ h; cases h) ?_)
local macro_rules | `(tactic| walk_at "x") => `(tactic| repeat (first | walk_at "c" | walk_at "n" | walk_at "l" | walk_at "i"))
theorem Tx.g_lcm {K : PySem.W.Frag} {mg : Str → Option Value} (T : Tx K mg) : mg "lcm" = some (.builtin "math.lcm") := by
  obtain ⟨h, X, G⟩ := T.at_
  exact PySem.W.mg_of X G T.lcm
theorem bt {b : Bool} {p : Prop} (h : b = false) (z : b = true) : p := by rw [h] at z; cases z
theorem br_t' {b : Bool} {p q : Prop} (e : b = true) (h : p) : Br b p q := by
  subst e
  exact br_t h
theorem br_f' {b : Bool} {p q : Prop} (e : b = false) (h : q) : Br b p q := by
  subst e
  exact br_f h
section
variable {P : Program} {w : World} {K : PySem.W.Frag} {mg : Str → Option Value} {base : Heap}
theorem tk {N : List Str} {qual : Str} {scope : Scope} {f : Addr} {cdv : Value} {A : Around} {outer : List Env} {s : Shared} {H : Hp} {E : XK} : Takes (cxOf (L2.CX P w) P w K mg base N qual scope f cdv A outer s H E) (fun cls d _ H => E cls d H) := takes_of rfl rfl rfl rfl
theorem pc {N : List Str} {qual : Str} {scope : Scope} {f : Addr} {cdv : Value} {A : Around} {outer : List Env} {s : Shared} {H : Hp} {E : XK} : Passes (L2.CX P w) (cxOf (L2.CX P w) P w K mg base N qual scope f cdv A outer s H E) E := passes_call tk fun _ _ _ _ h => h
theorem i_BadNumber (T : Tx K mg) : ∃ fd, FnOk P w K mg base L2.CX0 1 (He.ma K (He.ga K "BadNumber") "__init__") fd ["self", "value"] (Ers.spIni1 (He.ga K "BadNumber") "value") ∧ L2.Binds K fd ["self", "value"] [] := by
  obtain ⟨fd, F⟩ := T.q_BadNumber_init
  exact ⟨fd, Ers.ok_ini1 F ⟨rfl, rfl, rfl, by decide +kernel, rfl, by decide +kernel, by decide +kernel⟩ T.o_BadNumber T.n_BadNumber_value (by decide +kernel) (by decide +kernel) (by decide) (by decide) (fun _ => rfl), F.bindsN fun kV doc pm an cdv ct => Vls.bind2 fun a b => rfl⟩
theorem i_BadRegister (T : Tx K mg) : ∃ fd, FnOk P w K mg base L2.CX0 1 (He.ma K (He.ga K "BadRegister") "__init__") fd ["self", "part"] (Ers.spIni1 (He.ga K "BadRegister") "part") ∧ L2.Binds K fd ["self", "part"] [] := by
  obtain ⟨fd, F⟩ := T.q_BadRegister_init
  exact ⟨fd, Ers.ok_ini1 F ⟨rfl, rfl, rfl, by decide +kernel, rfl, by decide +kernel, by decide +kernel⟩ T.o_BadRegister T.n_BadRegister_part (by decide +kernel) (by decide +kernel) (by decide) (by decide) (fun _ => rfl), F.bindsN fun kV doc pm an cdv ct => Vls.bind2 fun a b => rfl⟩
theorem i_BadReading (T : Tx K mg) : ∃ fd, FnOk P w K mg base L2.CX0 1 (He.ma K (He.ga K "BadReading") "__init__") fd ["self", "at"] (Ers.spIni1 (He.ga K "BadReading") "at") ∧ L2.Binds K fd ["self", "at"] [] := by
  obtain ⟨fd, F⟩ := T.q_BadReading_init
  exact ⟨fd, Ers.ok_ini1 F ⟨rfl, rfl, rfl, by decide +kernel, rfl, by decide +kernel, by decide +kernel⟩ T.o_BadReading T.n_BadReading_at (by decide +kernel) (by decide +kernel) (by decide) (by decide) (fun _ => rfl), F.bindsN fun kV doc pm an cdv ct => Vls.bind2 fun a b => rfl⟩
theorem i_BadText (T : Tx K mg) : ∃ fd, FnOk P w K mg base L2.CX0 1 (He.ma K (He.ga K "BadText") "__init__") fd ["self", "line", "word"] (Ers.spIni2 (He.ga K "BadText") "line" "word") ∧ L2.Binds K fd ["self", "line", "word"] [] := by
  obtain ⟨fd, F⟩ := T.q_BadText_init
  exact ⟨fd, Ers.ok_ini2 F ⟨rfl, rfl, rfl, by decide +kernel, rfl, by decide +kernel, by decide +kernel⟩ T.o_BadText T.n_BadText_line T.n_BadText_word (by decide +kernel) (by decide +kernel) (by decide +kernel) (by decide) (by decide) (by decide) (by decide) (fun _ => rfl) (fun _ => rfl), F.bindsN fun kV doc pm an cdv ct => Vls.bind3 fun a b c => rfl⟩
def F_whole : FT := fun ds cs Kk _ => ∃ d, ds = [d] ∧ Pln d ∧ Kk (.bl (isW d)) cs
theorem d_whole (T : Tx K mg) : Dfs.Dfn P w K mg base (L2.CX P w) 1 "is_whole" ["value"] (spF F_whole) := by
  refine dfnF T.q_is_whole T.g_is_whole (N := ["value"]) ⟨rfl, rfl, rfl, by decide +kernel, rfl, by decide +kernel, by decide +kernel⟩ (fun kV doc pm an cdv ct => Vls.bind1 fun a => rfl) (fun ds cs Kk KE h => ?_) (fun cdv A outer s H E ds cs Kk KE hr h => ?_)
  · obtain ⟨_, rfl, _⟩ := h
    rfl
  · obtain ⟨d, rfl, hp, q⟩ := h
    cases d with
    | obj => exact hp.elim
    | exc => exact hp.elim
    | own => exact hp.elim
    | raw => exact hp.elim
    | _ => walk_at "x"; exact q
def F_within : FT := fun ds cs Kk _ => ∃ d lo hi, ds = [d, .int lo, .int hi] ∧ Pln d ∧ Kk (.bl (inR lo hi d)) cs
theorem d_within (T : Tx K mg) : Dfs.Dfn P w K mg base (L2.CX P w) 2 "is_within" ["value", "low", "high"] (spF F_within) := by
  refine dfnF T.q_is_within T.g_is_within (N := ["value", "low", "high"]) ⟨rfl, rfl, rfl, by decide +kernel, rfl, by decide +kernel, by decide +kernel⟩ (fun kV doc pm an cdv ct => Vls.bind3 fun a b c => rfl) (fun ds cs Kk KE h => ?_) (fun cdv A outer s H E ds cs Kk KE hr h => ?_)
  · obtain ⟨_, _, _, rfl, _⟩ := h
    rfl
  · obtain ⟨d, lo, hi, rfl, hp, q⟩ := h
    walk_at "x"
    refine ew_call .same (d_whole T) hr (by rfl) pc ?_
    walk_at "x"
    refine ⟨d, rfl, hp, isB ⟨fun hw => ?_, fun hw => ?_⟩⟩
    · cases d with
      | int i =>
        walk_at "x"
        refine ⟨fun h1 => ?_, fun h1 => ?_⟩
        · walk_at "x"
          have q2 : Kk (.bl (decide (lo ≤ i) && decide (i ≤ hi))) cs := q
          rw [h1] at q2
          exact q2
        · have q2 : Kk (.bl (decide (lo ≤ i) && decide (i ≤ hi))) cs := q
          rw [h1] at q2
          exact q2
      | _ => cases hw
    · have e : inR lo hi d = false := by cases d <;> first | rfl | cases hw
      rw [e] at q
      exact q
def F_check (K : PySem.W.Frag) : FT := fun ds cs Kk KE => ∃ d lo hi, ds = [d, .int lo, .int hi] ∧ Pln d ∧ (inR lo hi d = true → Kk .non cs) ∧ (inR lo hi d = false → KE (He.ga K "BadNumber") [("value", d)] cs)
theorem d_check (T : Tx K mg) : Dfs.Dfn P w K mg base (L2.CX P w) 3 "check_number" ["value", "low", "high"] (spF (F_check K)) := by
  refine dfnF T.q_check_number T.g_check_number (N := ["value", "low", "high"]) ⟨rfl, rfl, rfl, by decide +kernel, rfl, by decide +kernel, by decide +kernel⟩ (fun kV doc pm an cdv ct => Vls.bind3 fun a b c => rfl) (fun ds cs Kk KE h => ?_) (fun cdv A outer s H E ds cs Kk KE hr h => ?_)
  · obtain ⟨_, _, _, rfl, _⟩ := h
    rfl
  · obtain ⟨d, lo, hi, rfl, hp, q1, q2⟩ := h
    obtain ⟨fi, Fi, Bi⟩ := i_BadNumber (P := P) (w := w) (base := base) T
    walk_at "x"
    refine ew_call .same (d_within T) hr (by rfl) pc ?_
    walk_at "x"
    refine ⟨d, lo, hi, rfl, hp, isB ⟨fun hw => ?_, fun hw => ?_⟩⟩
    · walk_at "x"
      refine s1_raise1 T.o_BadNumber T.m_BadNumber_init.at_ T.t_BadNumber Fi (hr.mono (by decide)) Bi (by rfl) T.g_BadNumber rfl tk ?_
      walk_at "x"
      exact q2 (by simpa using hw)
    · walk_at "x"
      exact q1 (by simpa using hw)
end
end K24
set_option Elab.async false
set_option linter.all false
set_option maxRecDepth 100000
set_option maxHeartbeats 2000000
/-! Small data: what == and repr ask of it. -/
namespace Pre
open PySem PySem.Spec PyProof.Rows L2
theorem Same.put {H H1 : Hp} {D : Addr} {o : HO} (s : Same H H1) (n : H D = none) : Same H (L2.upd H1 D o) := fun b u h => by
  rw [upd_ne (ne_of_none h n)]
  exact s b u h
end Pre
namespace Flat
open PySem PySem.Spec PyProof.Rows L2 Pre
structure Sm (w k : Nat) (d : PyData) : Prop where
  leaf : PyData.leavesShort 60 d = true
  wt : PyData.weight d ≤ w
  sh : d.showable = true
  nd : d.hasDict = false
  dp : d.depth ≤ k
  lay : PyData.canLay0 d = true
structure SmA (w k : Nat) (ds : List PyData) : Prop where
  leaf : PyData.leavesShortAll 60 ds = true
  wt : PyData.weightAll ds ≤ w
  sh : PyData.showableAll ds = true
  nd : PyData.hasDictAll ds = false
  dp : PyData.depthAll ds ≤ k
  lay : PyData.canLayAll0 ds = true
theorem Sm.mono {w k v j : Nat} {d : PyData} (s : Sm w k d) (h : w ≤ v) (h2 : k ≤ j) : Sm v j d := ⟨s.leaf, Nat.le_trans s.wt h, s.sh, s.nd, Nat.le_trans s.dp h2, s.lay⟩
theorem Sm.non : Sm 0 0 .none := ⟨by simp only [PyData.leavesShort], by simp only [PyData.weight]; omega, by simp only [PyData.showable], by simp only [PyData.hasDict], by simp only [PyData.depth]; omega, by simp only [PyData.canLay0]⟩
theorem Sm.bl (b : Bool) : Sm 0 0 (.bool b) := ⟨by simp only [PyData.leavesShort], by simp only [PyData.weight]; omega, by simp only [PyData.showable], by simp only [PyData.hasDict], by simp only [PyData.depth]; omega, by simp only [PyData.canLay0]⟩
theorem log_of {n : Nat} (h : n < 10 ^ 50) : n.log2 < 170 := by
  by_cases z : n = 0
  · subst z
    decide
  · exact (Nat.log2_lt z).mpr (Nat.lt_of_lt_of_le h (by decide))
theorem Sm.int {i : Int} (h : i.natAbs < 10 ^ 50) : Sm 170 0 (.int i) := by
  have l := log_of h
  refine ⟨?_, ?_, ?_, by simp only [PyData.hasDict], by simp only [PyData.depth]; omega, by simp only [PyData.canLay0]⟩
  · simp only [PyData.leavesShort, PyData.shown_int]
    refine decide_eq_true ?_
    have z := int_text_length_le10 (k := 50) (by decide) h
    show (Str.ofString (toString i)).length ≤ 60
    have e : (Str.ofString (toString i)).length = (toString i).length := PySem.ofString_length _
    omega
  · simp only [PyData.weight]
    split <;> omega
  · simp only [PyData.showable]
    exact decide_eq_true (by omega)
theorem SmA.nil : SmA 0 0 [] := ⟨by simp [PyData.leavesShortAll], by simp [PyData.weightAll], by simp [PyData.showableAll], by simp [PyData.hasDictAll], by simp [PyData.depthAll], by simp [PyData.canLayAll0]⟩
theorem SmA.cons {w k v j : Nat} {d : PyData} {ds : List PyData} (a : Sm w k d) (b : SmA v j ds) : SmA (w + 1 + v) (max k j) (d :: ds) := by
  have h1 := a.wt
  have h2 := b.wt
  have h3 := a.dp
  have h4 := b.dp
  refine ⟨?_, ?_, ?_, ?_, ?_, ?_⟩
  · simp only [PyData.leavesShortAll, a.leaf, b.leaf, Bool.and_self]
  · simp only [PyData.weightAll]
    omega
  · simp only [PyData.showableAll, a.sh, b.sh, Bool.and_self]
  · simp only [PyData.hasDictAll, a.nd, b.nd, Bool.or_self]
  · simp only [PyData.depthAll]
    omega
  · simp only [PyData.canLayAll0, a.lay, b.lay, Bool.and_self]
theorem SmA.tup {w k : Nat} {ds : List PyData} (a : SmA w k ds) : Sm w (k + 1) (.tuple ds) := by
  have h1 := a.wt
  have h3 := a.dp
  exact ⟨by simp only [PyData.leavesShort, a.leaf], by simp only [PyData.weight]; omega, by simp only [PyData.showable, a.sh], by simp only [PyData.hasDict, a.nd], by simp only [PyData.depth]; omega, by simp only [PyData.canLay0, a.lay]⟩
theorem SmA.lst {w k : Nat} {ds : List PyData} (a : SmA w k ds) : Sm w (k + 1) (.list ds) := by
  have h1 := a.wt
  have h3 := a.dp
  exact ⟨by simp only [PyData.leavesShort, a.leaf], by simp only [PyData.weight]; omega, by simp only [PyData.showable, a.sh], by simp only [PyData.hasDict, a.nd], by simp only [PyData.depth]; omega, by simp only [PyData.canLay0, a.lay]⟩
theorem SmA.all {w k : Nat} : ∀ {ds : List PyData}, (∀ d ∈ ds, Sm w k d) → SmA ((w + 1) * ds.length) k ds
  | [], _ => ⟨SmA.nil.leaf, by simp [PyData.weightAll], SmA.nil.sh, SmA.nil.nd, by simp [PyData.depthAll], SmA.nil.lay⟩
  | d :: ds, h => by
    have a := SmA.cons (h d (List.mem_cons_self ..)) (SmA.all fun x hx => h x (List.mem_cons_of_mem _ hx))
    have e : (w + 1) * (d :: ds).length = w + 1 + (w + 1) * ds.length := by rw [List.length_cons, Nat.mul_succ]; omega
    rw [e]
    exact ⟨a.leaf, a.wt, a.sh, a.nd, by have := a.dp; omega, a.lay⟩
theorem SmA.ints {ns : List Int} (h : ∀ n ∈ ns, n.natAbs < 10 ^ 50) : SmA (171 * ns.length) 0 (ns.map PyData.int) := by
  have a := SmA.all (w := 170) (k := 0) (ds := ns.map PyData.int) (fun d hd => by
    obtain ⟨n, hn, rfl⟩ := List.mem_map.mp hd
    exact Sm.int (h n hn))
  rw [List.length_map] at a
  exact a
theorem Sm.fits {w k : Nat} {d : PyData} (s : Sm w k d) (h : w ≤ 100000) : d.shown.length ≤ sizeLine := by
  have z := PyData.shown_le 60 (by decide) d s.leaf
  have z2 := s.wt
  have z3 : (60 + 2) * d.weight ≤ 62 * 100000 := Nat.mul_le_mul (by decide) (by omega)
  rw [sizeLine_eq]
  omega
theorem Sm.shaped {w k : Nat} {d : PyData} (s : Sm w k d) (h : k ≤ 60) : SeqAt.shaped d = true := by
  unfold SeqAt.shaped
  have := s.dp
  rw [s.lay, decide_eq_true (show d.depth ≤ 64 by omega)]
  rfl
/-- what repr asks -/
theorem Sm.repr {w k : Nat} {d : PyData} (s : Sm w k d) (h : w ≤ 100000) (h2 : k ≤ 60) : d.showable = true ∧ d.hasDict = false ∧ d.depth ≤ 60 ∧ d.shown.length ≤ sizeLine := ⟨s.sh, s.nd, Nat.le_trans s.dp h2, s.fits h⟩
/-! equality of ints -/
theorem eqv_ints : ∀ xs ys : List Int, PyData.eqvAll (xs.map PyData.int) (ys.map PyData.int) = decide (xs = ys)
  | [], [] => by simp [PyData.eqvAll]
  | [], y :: ys => by simp [PyData.eqvAll]
  | x :: xs, [] => by simp [PyData.eqvAll]
  | x :: xs, y :: ys => by
    have h := eqv_ints xs ys
    rw [List.map_cons, List.map_cons, PyData.eqvAll, PyData.eqv, h]
    by_cases e : x = y
    · subst e
      simp
    · simp [e]
theorem eqv_tup (xs ys : List Int) : PyData.eqv (.tuple (xs.map PyData.int)) (.tuple (ys.map PyData.int)) = decide (xs = ys) := by rw [PyData.eqv, eqv_ints]
theorem eqv_lst (xs ys : List Int) : PyData.eqv (.list (xs.map PyData.int)) (.list (ys.map PyData.int)) = decide (xs = ys) := by rw [PyData.eqv, eqv_ints]
end Flat
set_option Elab.async false
set_option linter.all false
set_option maxRecDepth 100000
set_option maxHeartbeats 4000000
namespace K24
open PySem PySem.Spec PyProof.Rows L2 Sx
local macro_rules | `(tactic| walk_at "c") => `(tactic| first
  | refine aw_cons ?_ | refine aw_nil ?_
  | refine ew_int ?_ | refine ew_non ?_ | refine ew_bl ?_ | refine ew_str ?_
  | refine ew_bin ?_ | refine ew_cmp ?_ | refine tw_cmp ?_ | refine tw_not ?_ | refine ew_chain ?_ | refine tw_chain ?_ | refine ew_and ?_ | refine ew_or ?_ | refine ew_one ?_ | refine ew_not ?_ | refine ew_neg ?_ | refine ew_if ?_
  | refine tw_w (ww_and ?_) | refine tw_w (ww_or ?_) | refine ww_and ?_ | refine ww_or ?_ | refine ww_and1 ?_ | refine ww_or1 ?_
  | refine tw_val (e := .Call _ _ _ _) ?_ | refine ew_tup ?_ | refine ew_ix ?_ | refine ew_lst ?_
  | refine sw_cons ?_ | refine s1_ret ?_ | refine s1_if ?_ | refine sw_nil ?_ | refine s1_expr ?_
  | refine od_add ?_ | refine od_sub ?_ | refine od_lt ?_ | refine od_le ?_ | refine od_gt ?_ | refine od_ge ?_
  | refine isB ?_ | refine intD ?_ | refine br_t ?_ | refine br_f ?_
  | refine ⟨szl (Nat.le_of_ble_eq_true rfl), ?_⟩)
local macro_rules | `(tactic| walk_at "n") => `(tactic| first
  | refine ew_name 0 rfl (by first | exact .inl rfl | exact .inr (.inl rfl) | exact .inr (.inr rfl)) rfl ?_
  | refine ew_name 1 rfl (by first | exact .inl rfl | exact .inr (.inl rfl) | exact .inr (.inr rfl)) rfl ?_
  | refine ew_name 2 rfl (by first | exact .inl rfl | exact .inr (.inl rfl) | exact .inr (.inr rfl)) rfl ?_
  | refine ew_name 3 rfl (by first | exact .inl rfl | exact .inr (.inl rfl) | exact .inr (.inr rfl)) rfl ?_
  | refine ew_name 4 rfl (by first | exact .inl rfl | exact .inr (.inl rfl) | exact .inr (.inr rfl)) rfl ?_
  | refine ew_name 5 rfl (by first | exact .inl rfl | exact .inr (.inl rfl) | exact .inr (.inr rfl)) rfl ?_
  | refine ew_name 6 rfl (by first | exact .inl rfl | exact .inr (.inl rfl) | exact .inr (.inr rfl)) rfl ?_
  | refine ew_name 7 rfl (by first | exact .inl rfl | exact .inr (.inl rfl) | exact .inr (.inr rfl)) rfl ?_
  | refine ew_name 8 rfl (by first | exact .inl rfl | exact .inr (.inl rfl) | exact .inr (.inr rfl)) rfl ?_
  | refine ew_name 9 rfl (by first | exact .inl rfl | exact .inr (.inl rfl) | exact .inr (.inr rfl)) rfl ?_
  | refine ew_name 10 rfl (by first | exact .inl rfl | exact .inr (.inl rfl) | exact .inr (.inr rfl)) rfl ?_
  | refine ew_name 11 rfl (by first | exact .inl rfl | exact .inr (.inl rfl) | exact .inr (.inr rfl)) rfl ?_
  | refine ew_name 12 rfl (by first | exact .inl rfl | exact .inr (.inl rfl) | exact .inr (.inr rfl)) rfl ?_)
local macro_rules | `(tactic| walk_at "i") => `(tactic| (refine' cl_isi (.ty _) ?a ?b ?_; (case a => constructor); (case b => with_reducible first | exact kit_int_int | exact kit_int_bool | exact kit_bool_int | exact kit_bool_bool | exact kit_NoneType_int | exact kit_str_int | exact kit_list_int | exact kit_tuple_int | exact kit_dict_int | exact kit_tuple_tuple | exact kit_int_tuple | exact kit_NoneType_tuple | exact kit_bool_tuple | exact kit_str_tuple | exact kit_list_tuple | exact kit_dict_tuple)))
local macro_rules | `(tactic| walk_at "l") => `(tactic| first
  | refine ew_isinstance (Tx.f_isinstance (by assumption)) ?_ | refine ew_len (Tx.f_len (by assumption)) ?_ | refine ew_vint (Tx.f_int (by assumption)) ?_ | refine ew_vbool (Tx.f_bool (by assumption)) ?_ | refine ew_vtuple (Tx.f_tuple (by assumption)) ?_ | refine ew_vstr (Tx.f_str (by assumption)) ?_
  | refine ew_gint (Tx.i_MOST_PERIOD (by assumption)) (by rfl) ?_ | refine ew_gint (Tx.i_DIGITS (by assumption)) (by rfl) ?_ | refine ew_gint (Tx.i_FAR (by assumption)) (by rfl) ?_ | refine ew_gint (Tx.i_MOST_MODULUS (by assumption)) (by rfl) ?_ | refine ew_gint (Tx.i_MOST_PERIODS (by assumption)) (by rfl) ?_
  | refine cl_len ?_ | refine cl_lenT ?_ | refine ix_tpl rfl ?_ | refine od_is (by intro _ h; cases h) ?_)
local macro_rules | `(tactic| walk_at "x") => `(tactic| repeat (first | walk_at "c" | walk_at "n" | walk_at "l" | walk_at "i"))
/-- the digits, behind a sign -/
def dg (z : Str) : Str := if Txt.startswith z "-" = true then cutS z (some 1) none else z
def lenOk (z : Str) : Bool := decide (1 ≤ ((dg z).length : Int)) && decide (((dg z).length : Int) ≤ 40)
def isDig (c : Nat) : Bool := decide (c ∈ ("0123456789" : Str).cps.toList)
def digOk (z : Str) : Bool := (dg z).cps.toList.all isDig
def valN (z : Str) : Int := (intText? z).getD 0
def isN (z : Str) : Bool := lenOk z && (digOk z && decide ((toString (valN z) : Str) = z))
structure Wd (z : Str) : Prop where
  len : z.length ≤ 600
  dl : (dg z).length ≤ 600
  int : lenOk z = true → digOk z = true → ∃ i, intText? z = some i ∧ i.natAbs < 10 ^ 50
theorem strOk_of (x : String) : PyData.strOk (Str.ofString x) = true := by
  unfold PyData.strOk
  rw [Str.ofString_eq_toList]
  simp only [List.all_toArray, List.all_map, List.all_eq_true]
  intro c _
  have v := c.valid
  refine decide_eq_true ?_
  show c.val.toNat < 0x110000
  have v : c.val.toNat < 0xD800 ∨ (0xDFFF < c.val.toNat ∧ c.val.toNat < 0x110000) := v
  omega
theorem eqv_str (x y : Str) : D.eqv (.str x) (.str y) = decide (x = y) := by
  show PyData.eqv (.str x) (.str y) = _
  simp only [PyData.eqv]
  rw [Bool.eq_iff_iff, beq_iff_eq, decide_eq_true_eq]
theorem str_ok {z : Str} (h1 : PyData.strOk z = true) : (D.str z).ok = true := tm_ok (n := 0) (by simpa only [D.tm] using h1) (by decide)
section
variable {P : Program} {w : World} {K : PySem.W.Frag} {mg : Str → Option Value} {base : Heap}
def F_num : FT := fun ds cs Kk _ => ∃ z, ds = [.str z] ∧ Wd z ∧ PyData.strOk z = true ∧ Kk (.bl (isN z)) cs
theorem d_num (T : Tx K mg) : Dfs.Dfn P w K mg base (L2.CX P w) 1 "is_number_word" ["word"] (spF F_num) := by
  have nd : (["word", "digits", "sign"] : List Str).Nodup := by decide +kernel
  refine dfnF T.q_is_number_word T.g_is_number_word (N := ["word", "digits", "sign"]) ⟨rfl, rfl, rfl, by decide +kernel, rfl, by decide +kernel, by decide +kernel⟩ (fun kV doc pm an cdv ct => Vls.bind1 fun a => rfl) (fun ds cs Kk KE h => ?_) (fun cdv A outer s H E ds cs Kk KE hr h => ?_)
  · obtain ⟨_, rfl, _⟩ := h
    rfl
  · obtain ⟨z, rfl, wd, so, q⟩ := h
    have small := wd.len
    have dl := wd.dl
    refine sw_cons ?_
    refine s1_set 1 nd rfl (.inl rfl) ?_
    refine ew_if ?_
    refine tw_val (e := .Call _ _ _ _) ?_
    refine ew_starts ?_
    walk_at "x"
    refine ⟨z, rfl, ?_⟩
    walk_at "x"
    refine ⟨_, rfl, ?_⟩
    refine isB ?_
    have rest : ∀ x, x = dg z → SW (cxOf (L2.CX P w) P w K mg base ["word", "digits", "sign"] "is_number_word" (defScope s_is_number_word) (He.ga K "is_number_word") cdv A outer s H E) ⟨H, cs, E, KE⟩ ((defBody s_is_number_word).drop 1) ⟨[some (.str z), some (.str x), none], cs⟩ { nx := fun s => Kk .non s.cs, rt := fun d s => Kk d s.cs } := by
      rintro x rfl
      walk_at "x"
      refine cl_lenS (szl (by omega)) ?_
      walk_at "x"
      refine ⟨fun h1 => ?_, fun h1 => ?_⟩
      · walk_at "x"
        refine ⟨fun h2 => ?_, fun h2 => ?_⟩
        · walk_at "x"
          have e : isN z = false := by
            unfold isN lenOk
            rw [show decide (((dg z).length : Int) ≤ 40) = false by simpa using h2, Bool.and_false, Bool.false_and]
          rw [e] at q
          exact q
        · have lo : lenOk z = true := by
            unfold lenOk
            rw [h1, show decide (((dg z).length : Int) ≤ 40) = true by simpa using h2]
            rfl
          refine sw_nil ?_
          refine sw_cons ?_
          refine s1_if ?_
          refine tw_truth ?_
          refine ew_lcS [("sign", 2)] 0 rfl nd (Vls.blk_by (N := ["word", "digits", "sign"]) (sc := defScope s_is_number_word) (by decide +kernel)) ?_
          walk_at "n"
          refine ⟨dg z, rfl, szl (by omega), fun i acc cs' => cs' = cs ∧ acc.length ≤ i ∧ acc.isEmpty = ((dg z).cps.toList.take i).all isDig, ⟨rfl, Nat.le_refl _, rfl⟩, fun i ch acc cs' hd hI => ?_, fun acc cs' hI => ?_⟩
          · obtain ⟨rfl, hl, hI⟩ := hI
            have hd2 : (dg z).cps.toList[i]? = some ch := by rw [Array.getElem?_toList]; exact hd
            have nx : ((dg z).cps.toList.take (i + 1)).all isDig = (((dg z).cps.toList.take i).all isDig && isDig ch) := by
              rw [List.take_add_one, hd2, List.all_append]
              simp
            refine ⟨hl, fun lx _ _ _ _ _ => ?_⟩
            refine tg_name 2 nd rfl (.inl rfl) ?_
            intro _ _ _ _ _
            refine ts_one ?_
            refine tw_cmp ?_ (by with_unfolding_all rfl)
            walk_at "n"
            refine ew_str ?_
            refine od_nsign ?_
            refine isB ?_
            refine ⟨fun h => ?_, fun h => ?_⟩
            · intro _ _ _ _ _
              walk_at "n"
              refine ⟨cs', rfl, rfl, by rw [List.length_append, List.length_singleton]; omega, ?_⟩
              have hb : isDig ch = false := by unfold isDig; simpa using h
              rw [nx, hb, Bool.and_false]
              cases acc <;> rfl
            · have hb : isDig ch = true := by unfold isDig; simpa using h
              exact ⟨cs', rfl, rfl, by omega, by rw [nx, hb, Bool.and_true]; exact hI⟩
          · obtain ⟨rfl, _, hI⟩ := hI
            have hI : acc.isEmpty = digOk z := by
              rw [hI]
              unfold digOk
              rw [show (dg z).cps.size = (dg z).cps.toList.length by simp, List.take_length]
            show Br (!acc.isEmpty) _ _
            rw [hI]
            refine ⟨fun h => ?_, fun h => ?_⟩
            · walk_at "x"
              have e : isN z = false := by
                unfold isN
                rw [show digOk z = false by simpa using h, Bool.false_and, Bool.and_false]
              rw [e] at q
              exact q
            · have dk : digOk z = true := by simpa using h
              obtain ⟨i, hi, hs⟩ := wd.int lo dk
              walk_at "x"
              refine ew_callT (T := "str") T.f_str (by rfl) (by kernel_rfl) ?_
              walk_at "x"
              refine ew_tint T.f_int ?_
              walk_at "x"
              refine cl_intS hi (by omega) ?_
              walk_at "x"
              refine cl_strI (by have := Flat.log_of hs; omega) ?_
              walk_at "x"
              refine od_eq hr.units (str_ok (strOk_of _)) (str_ok so) ?_
              rw [eqv_str]
              have e : isN z = decide ((toString i : Str) = z) := by
                unfold isN valN
                rw [lo, dk, hi]
                rfl
              rw [e] at q
              exact q
      · walk_at "x"
        have e : isN z = false := by
          unfold isN lenOk
          rw [h1, Bool.false_and, Bool.false_and]
        rw [e] at q
        exact q
    refine ⟨fun h => ?_, fun h => ?_⟩
    · refine ew_slS ?_
      walk_at "x"
      refine ⟨z, rfl, szl (by omega), ?_⟩
      exact rest _ (by unfold dg; rw [if_pos h])
    · walk_at "n"
      exact rest _ (by unfold dg; rw [if_neg (by rw [h]; simp)])
end
end K24
set_option Elab.async false
set_option linter.all false
set_option maxRecDepth 100000
set_option maxHeartbeats 4000000
namespace K24
open PySem PySem.Spec PyProof.Rows L2 Sx
local macro_rules | `(tactic| walk_at "c") => `(tactic| first
  | refine aw_cons ?_ | refine aw_nil ?_
  | refine ew_int ?_ | refine ew_non ?_ | refine ew_bl ?_ | refine ew_str ?_
  | refine ew_bin ?_ | refine ew_cmp ?_ | refine tw_cmp ?_ | refine tw_not ?_ | refine ew_chain ?_ | refine tw_chain ?_ | refine ew_and ?_ | refine ew_or ?_ | refine ew_one ?_ | refine ew_not ?_ | refine ew_neg ?_ | refine ew_if ?_
  | refine tw_w (ww_and ?_) | refine tw_w (ww_or ?_) | refine ww_and ?_ | refine ww_or ?_ | refine ww_and1 ?_ | refine ww_or1 ?_
  | refine tw_val (e := .Call _ _ _ _) ?_ | refine ew_tup ?_ | refine ew_ix ?_ | refine ew_lst ?_
  | refine sw_cons ?_ | refine s1_ret ?_ | refine s1_if ?_ | refine sw_nil ?_ | refine s1_expr ?_
  | refine od_add ?_ | refine od_sub ?_ | refine od_lt ?_ | refine od_le ?_ | refine od_gt ?_ | refine od_ge ?_
  | refine isB ?_ | refine intD ?_ | refine br_t ?_ | refine br_f ?_
  | refine ⟨szl (Nat.le_of_ble_eq_true rfl), ?_⟩)
local macro_rules | `(tactic| walk_at "n") => `(tactic| first
  | refine ew_name 0 rfl (by first | exact .inl rfl | exact .inr (.inl rfl) | exact .inr (.inr rfl)) rfl ?_
  | refine ew_name 1 rfl (by first | exact .inl rfl | exact .inr (.inl rfl) | exact .inr (.inr rfl)) rfl ?_
  | refine ew_name 2 rfl (by first | exact .inl rfl | exact .inr (.inl rfl) | exact .inr (.inr rfl)) rfl ?_
  | refine ew_name 3 rfl (by first | exact .inl rfl | exact .inr (.inl rfl) | exact .inr (.inr rfl)) rfl ?_
  | refine ew_name 4 rfl (by first | exact .inl rfl | exact .inr (.inl rfl) | exact .inr (.inr rfl)) rfl ?_
  | refine ew_name 5 rfl (by first | exact .inl rfl | exact .inr (.inl rfl) | exact .inr (.inr rfl)) rfl ?_
  | refine ew_name 6 rfl (by first | exact .inl rfl | exact .inr (.inl rfl) | exact .inr (.inr rfl)) rfl ?_
  | refine ew_name 7 rfl (by first | exact .inl rfl | exact .inr (.inl rfl) | exact .inr (.inr rfl)) rfl ?_
  | refine ew_name 8 rfl (by first | exact .inl rfl | exact .inr (.inl rfl) | exact .inr (.inr rfl)) rfl ?_
  | refine ew_name 9 rfl (by first | exact .inl rfl | exact .inr (.inl rfl) | exact .inr (.inr rfl)) rfl ?_
  | refine ew_name 10 rfl (by first | exact .inl rfl | exact .inr (.inl rfl) | exact .inr (.inr rfl)) rfl ?_
  | refine ew_name 11 rfl (by first | exact .inl rfl | exact .inr (.inl rfl) | exact .inr (.inr rfl)) rfl ?_
  | refine ew_name 12 rfl (by first | exact .inl rfl | exact .inr (.inl rfl) | exact .inr (.inr rfl)) rfl ?_)
local macro_rules | `(tactic| walk_at "i") => `(tactic| (refine' cl_isi (.ty _) ?a ?b ?_; (case a => constructor); (case b => with_reducible first | exact kit_int_int | exact kit_int_bool | exact kit_bool_int | exact kit_bool_bool | exact kit_NoneType_int | exact kit_str_int | exact kit_list_int | exact kit_tuple_int | exact kit_dict_int | exact kit_tuple_tuple | exact kit_int_tuple | exact kit_NoneType_tuple | exact kit_bool_tuple | exact kit_str_tuple | exact kit_list_tuple | exact kit_dict_tuple)))
local macro_rules | `(tactic| walk_at "l") => `(tactic| first
  | refine ew_isinstance (Tx.f_isinstance (by assumption)) ?_ | refine ew_len (Tx.f_len (by assumption)) ?_ | refine ew_vint (Tx.f_int (by assumption)) ?_ | refine ew_vbool (Tx.f_bool (by assumption)) ?_ | refine ew_vtuple (Tx.f_tuple (by assumption)) ?_ | refine ew_vstr (Tx.f_str (by assumption)) ?_
  | refine ew_gint (Tx.i_MOST_PERIOD (by assumption)) (by rfl) ?_ | refine ew_gint (Tx.i_DIGITS (by assumption)) (by rfl) ?_ | refine ew_gint (Tx.i_FAR (by assumption)) (by rfl) ?_ | refine ew_gint (Tx.i_MOST_MODULUS (by assumption)) (by rfl) ?_ | refine ew_gint (Tx.i_MOST_PERIODS (by assumption)) (by rfl) ?_
  | refine cl_len ?_ | refine cl_lenT ?_ | refine ix_tpl rfl ?_ | refine od_is (by intro _ h; cases h) ?_)
local macro_rules | `(tactic| walk_at "x") => `(tactic| repeat (first | walk_at "c" | walk_at "n" | walk_at "l" | walk_at "i"))
abbrev CW (K : PySem.W.Frag) : Addr := He.ga K "Words"
def wF (ln : Int) (ws : List Str) (n : Nat) : List (Str × D) := [("line", .int ln), ("words", .lst (ws.map D.str)), ("place", .int n)]
/-- the word ahead, a text without a word at the end -/
def wd (ws : List Str) (n : Nat) : Str := (ws[n]?).getD ""
structure WsOk (ws : List Str) : Prop where
  all : ∀ z ∈ ws, Wd z ∧ PyData.strOk z = true
  few : ws.length ≤ 1000
theorem wd_nil : Wd "" := ⟨by decide, by decide, fun h => by cases h⟩
theorem WsOk.at_ {ws : List Str} (w : WsOk ws) (n : Nat) : Wd (wd ws n) ∧ PyData.strOk (wd ws n) = true := by
  unfold wd
  cases e : ws[n]? with
  | none => exact ⟨wd_nil, strOk_of ""⟩
  | some z => exact w.all z (List.mem_of_getElem? e)
theorem eqv_int (i j : Int) : D.eqv (.int i) (.int j) = decide (i = j) := by
  show PyData.eqv (.int i) (.int j) = _
  simp only [PyData.eqv]
  rw [Bool.eq_iff_iff, beq_iff_eq, decide_eq_true_eq]
section
variable {P : Program} {w : World} {K : PySem.W.Frag} {mg : Str → Option Value} {base : Heap}
/-- what BadText tells -/
def btF (ln : Int) (n : Nat) : List (Str × D) := [("word", .int n), ("line", .int ln)]
def WAt (K : PySem.W.Frag) (cs : Cs) (a : Addr) (j : Nat) (ln : Int) (ws : List Str) (n : Nat) : Prop := cs[j]? = some (a, Cell.ins (CW K) (wF ln ws n)) ∧ WsOk ws ∧ n ≤ ws.length
def adv (K : PySem.W.Frag) (cs : Cs) (a : Addr) (j : Nat) (ln : Int) (ws : List Str) (n : Nat) : Cs := cs.set j (a, Cell.ins (CW K) (wF ln ws n))
def F_wdone (K : PySem.W.Frag) : FT := fun ds cs Kk _ => ∃ a j ln ws n, ds = [.own a] ∧ WAt K cs a j ln ws n ∧ Kk (.bl (decide (n = ws.length))) cs
theorem m_done (T : Tx K mg) : Dfs.Mfn P w K mg base (L2.CX P w) 1 (CW K) "is_done" ["self"] (spF (F_wdone K)) := by
  refine mfnF T.q_Words_is_done T.c_Words T.m_Words_is_done (N := ["self"]) ⟨rfl, rfl, rfl, by decide +kernel, rfl, by decide +kernel, by decide +kernel⟩ (fun kV doc pm an cdv ct => Vls.bind1 fun a => rfl) (fun ds cs Kk KE h => ?_) (fun cdv A outer s H E ds cs Kk KE hr h => ?_)
  · obtain ⟨_, _, _, _, _, rfl, _⟩ := h
    rfl
  · obtain ⟨a, j, ln, ws, n, rfl, ⟨hj, hw, hn⟩, q⟩ := h
    walk_at "x"
    refine ew_fld T.c_Words T.n_Words_place ?_
    walk_at "n"
    refine ⟨_, .own j hj rfl, ?_⟩
    walk_at "x"
    refine ew_fld T.c_Words T.n_Words_words ?_
    walk_at "n"
    refine ⟨_, .own j hj rfl, ?_⟩
    walk_at "x"
    refine od_eq hr.units (by rfl) (by rfl) ?_
    rw [eqv_int, List.length_map]
    rw [show decide ((n : Int) = (ws.length : Int)) = decide (n = ws.length) from decide_eq_decide.mpr (by omega)]
    exact q
def F_wahead (K : PySem.W.Frag) : FT := fun ds cs Kk _ => ∃ a j ln ws n, ds = [.own a] ∧ WAt K cs a j ln ws n ∧ Kk (.str (wd ws n)) cs
theorem m_ahead (T : Tx K mg) : Dfs.Mfn P w K mg base (L2.CX P w) 2 (CW K) "ahead" ["self"] (spF (F_wahead K)) := by
  refine mfnF T.q_Words_ahead T.c_Words T.m_Words_ahead (N := ["self"]) ⟨rfl, rfl, rfl, by decide +kernel, rfl, by decide +kernel, by decide +kernel⟩ (fun kV doc pm an cdv ct => Vls.bind1 fun a => rfl) (fun ds cs Kk KE h => ?_) (fun cdv A outer s H E ds cs Kk KE hr h => ?_)
  · obtain ⟨_, _, _, _, _, rfl, _⟩ := h
    rfl
  · obtain ⟨a, j, ln, ws, n, rfl, ⟨hj, hw, hn⟩, q⟩ := h
    walk_at "x"
    refine ew_meth0 (.none fun _ _ _ => False) (m_done T) hr pF ?_
    walk_at "n"
    refine ⟨.own j hj rfl, a, j, ln, ws, n, rfl, ⟨hj, hw, hn⟩, isB ⟨fun h => ?_, fun h => ?_⟩⟩
    · have e : wd ws n = "" := by
        unfold wd
        rw [of_decide_eq_true h, List.getElem?_eq_none (Nat.le_refl _)]
        rfl
      walk_at "x"
      rw [e] at q
      exact q
    · have h := of_decide_eq_false h
      have e : ws[n]? = some (wd ws n) := by
        unfold wd
        rw [List.getElem?_eq_getElem (by omega)]
        rfl
      walk_at "c"
      refine ew_fld T.c_Words T.n_Words_words ?_
      walk_at "n"
      refine ⟨_, .own j hj rfl, ?_⟩
      refine ew_fld T.c_Words T.n_Words_place ?_
      walk_at "n"
      refine ⟨_, .own j hj rfl, ?_⟩
      refine ix_lst (atI_nat (j := n) ?_) q
      rw [List.getElem?_map, e]
      rfl
def F_refuse (K : PySem.W.Frag) : FT := fun ds cs _ KE => ∃ a j ln ws n, ds = [.own a] ∧ WAt K cs a j ln ws n ∧ KE (He.ga K "BadText") (btF ln n) cs
theorem m_refuse (T : Tx K mg) : Dfs.Mfn P w K mg base (L2.CX P w) 3 (CW K) "refuse" ["self"] (spF (F_refuse K)) := by
  obtain ⟨fi, Fi, Bi⟩ := i_BadText (P := P) (w := w) (base := base) T
  refine mfnF T.q_Words_refuse T.c_Words T.m_Words_refuse (N := ["self"]) ⟨rfl, rfl, rfl, by decide +kernel, rfl, by decide +kernel, by decide +kernel⟩ (fun kV doc pm an cdv ct => Vls.bind1 fun a => rfl) (fun ds cs Kk KE h => ?_) (fun cdv A outer s H E ds cs Kk KE hr h => ?_)
  · obtain ⟨_, _, _, _, _, rfl, _⟩ := h
    rfl
  · obtain ⟨a, j, ln, ws, n, rfl, ⟨hj, hw, hn⟩, q⟩ := h
    refine sw_cons ?_
    refine s1_raise2 T.o_BadText T.m_BadText_init.at_ T.t_BadText Fi (hr.mono (by decide)) Bi (by rfl) T.g_BadText rfl tk ?_
    refine ew_fld T.c_Words T.n_Words_line ?_
    walk_at "n"
    refine ⟨_, .own j hj rfl, ?_⟩
    refine ew_fld T.c_Words T.n_Words_place ?_
    walk_at "n"
    refine ⟨_, .own j hj rfl, ?_⟩
    exact q
def F_tint (K : PySem.W.Frag) : FT := fun ds cs Kk KE => ∃ a j ln ws n, ds = [.own a] ∧ WAt K cs a j ln ws n ∧ (isN (wd ws n) = true → Kk (.int (valN (wd ws n))) (adv K cs a j ln ws (n + 1))) ∧ (isN (wd ws n) = false → KE (He.ga K "BadText") (btF ln n) cs)
theorem isN_val {z : Str} (w : Wd z) (h : isN z = true) : intText? z = some (valN z) ∧ (valN z).natAbs < 10 ^ 50 := by
  unfold isN at h
  simp only [Bool.and_eq_true] at h
  obtain ⟨i, e1, e2⟩ := w.int h.1 h.2.1
  unfold valN
  rw [e1]
  exact ⟨rfl, e2⟩
theorem isN_in {ws : List Str} {n : Nat} (hn : n ≤ ws.length) (h : isN (wd ws n) = true) : n < ws.length := by
  by_cases e : n = ws.length
  · exfalso
    have z : wd ws n = "" := by
      unfold wd
      rw [e, List.getElem?_eq_none (Nat.le_refl _)]
      rfl
    rw [z] at h
    exact absurd h (by decide)
  · omega
theorem m_tint (T : Tx K mg) : Dfs.Mfn P w K mg base (L2.CX P w) 4 (CW K) "take_integer" ["self"] (spF (F_tint K)) := by
  have nd : (["self", "word"] : List Str).Nodup := by decide +kernel
  refine mfnF T.q_Words_take_integer T.c_Words T.m_Words_take_integer (N := ["self", "word"]) ⟨rfl, rfl, rfl, by decide +kernel, rfl, by decide +kernel, by decide +kernel⟩ (fun kV doc pm an cdv ct => Vls.bind1 fun a => rfl) (fun ds cs Kk KE h => ?_) (fun cdv A outer s H E ds cs Kk KE hr h => ?_)
  · obtain ⟨_, _, _, _, _, rfl, _⟩ := h
    rfl
  · obtain ⟨a, j, ln, ws, n, rfl, W, q1, q2⟩ := h
    have W0 := W
    obtain ⟨hj, hw, hn⟩ := W
    obtain ⟨w1, w2⟩ := hw.at_ n
    refine sw_cons ?_
    refine s1_set 1 nd rfl (.inl rfl) ?_
    refine ew_meth0 (.none fun _ _ _ => False) (m_ahead T) (hr.mono (by decide)) pF ?_
    walk_at "n"
    refine ⟨.own j hj rfl, a, j, ln, ws, n, rfl, W0, ?_⟩
    walk_at "x"
    refine ew_call (.none fun _ _ _ => False) (d_num T) (hr.mono (by decide)) (by rfl) pF ?_
    walk_at "x"
    refine ⟨_, rfl, w1, w2, isB ⟨fun h => ?_, fun h => ?_⟩⟩
    · walk_at "c"
      walk_at "c"
      refine ew_meth0 .same (m_refuse T) hr pc ?_
      walk_at "n"
      exact ⟨.own j hj rfl, a, j, ln, ws, n, rfl, W0, q2 (by simpa using h)⟩
    · have h : isN (wd ws n) = true := by simpa using h
      obtain ⟨v1, v2⟩ := isN_val w1 h
      refine sw_nil ?_
      refine sw_cons ?_
      refine s1_augF T.c_Words T.n_Words_place ?_
      walk_at "n"
      refine ⟨a, j, _, n, rfl, hj, rfl, ?_⟩
      refine ew_int ?_
      refine ⟨1, j, _, rfl, hj, by show 3 < 1000; decide, ?_⟩
      walk_at "x"
      refine ew_tint T.f_int ?_
      walk_at "x"
      refine cl_intS v1 (by have := w1.len; omega) ?_
      exact q1 h
end
end K24
set_option Elab.async false
set_option linter.all false
set_option maxRecDepth 100000
set_option maxHeartbeats 4000000
namespace K24
open PySem PySem.Spec PyProof.Rows L2 Sx
local macro_rules | `(tactic| walk_at "c") => `(tactic| first
  | refine aw_cons ?_ | refine aw_nil ?_
  | refine ew_int ?_ | refine ew_non ?_ | refine ew_bl ?_ | refine ew_str ?_
  | refine ew_bin ?_ | refine ew_cmp ?_ | refine tw_cmp ?_ | refine tw_not ?_ | refine ew_chain ?_ | refine tw_chain ?_ | refine ew_and ?_ | refine ew_or ?_ | refine ew_one ?_ | refine ew_not ?_ | refine ew_neg ?_ | refine ew_if ?_
  | refine tw_w (ww_and ?_) | refine tw_w (ww_or ?_) | refine ww_and ?_ | refine ww_or ?_ | refine ww_and1 ?_ | refine ww_or1 ?_
  | refine tw_val (e := .Call _ _ _ _) ?_ | refine ew_tup ?_ | refine ew_ix ?_ | refine ew_lst ?_
  | refine sw_cons ?_ | refine s1_ret ?_ | refine s1_if ?_ | refine sw_nil ?_ | refine s1_expr ?_
  | refine od_add ?_ | refine od_sub ?_ | refine od_lt ?_ | refine od_le ?_ | refine od_gt ?_ | refine od_ge ?_
  | refine isB ?_ | refine intD ?_ | refine br_t ?_ | refine br_f ?_
  | refine ⟨szl (Nat.le_of_ble_eq_true rfl), ?_⟩)
local macro_rules | `(tactic| walk_at "n") => `(tactic| first
  | refine ew_name 0 rfl (by first | exact .inl rfl | exact .inr (.inl rfl) | exact .inr (.inr rfl)) rfl ?_
  | refine ew_name 1 rfl (by first | exact .inl rfl | exact .inr (.inl rfl) | exact .inr (.inr rfl)) rfl ?_
  | refine ew_name 2 rfl (by first | exact .inl rfl | exact .inr (.inl rfl) | exact .inr (.inr rfl)) rfl ?_
  | refine ew_name 3 rfl (by first | exact .inl rfl | exact .inr (.inl rfl) | exact .inr (.inr rfl)) rfl ?_
  | refine ew_name 4 rfl (by first | exact .inl rfl | exact .inr (.inl rfl) | exact .inr (.inr rfl)) rfl ?_
  | refine ew_name 5 rfl (by first | exact .inl rfl | exact .inr (.inl rfl) | exact .inr (.inr rfl)) rfl ?_
  | refine ew_name 6 rfl (by first | exact .inl rfl | exact .inr (.inl rfl) | exact .inr (.inr rfl)) rfl ?_
  | refine ew_name 7 rfl (by first | exact .inl rfl | exact .inr (.inl rfl) | exact .inr (.inr rfl)) rfl ?_
  | refine ew_name 8 rfl (by first | exact .inl rfl | exact .inr (.inl rfl) | exact .inr (.inr rfl)) rfl ?_
  | refine ew_name 9 rfl (by first | exact .inl rfl | exact .inr (.inl rfl) | exact .inr (.inr rfl)) rfl ?_
  | refine ew_name 10 rfl (by first | exact .inl rfl | exact .inr (.inl rfl) | exact .inr (.inr rfl)) rfl ?_
  | refine ew_name 11 rfl (by first | exact .inl rfl | exact .inr (.inl rfl) | exact .inr (.inr rfl)) rfl ?_
  | refine ew_name 12 rfl (by first | exact .inl rfl | exact .inr (.inl rfl) | exact .inr (.inr rfl)) rfl ?_)
local macro_rules | `(tactic| walk_at "i") => `(tactic| (refine' cl_isi (.ty _) ?a ?b ?_; (case a => constructor); (case b => with_reducible first | exact kit_int_int | exact kit_int_bool | exact kit_bool_int | exact kit_bool_bool | exact kit_NoneType_int | exact kit_str_int | exact kit_list_int | exact kit_tuple_int | exact kit_dict_int | exact kit_tuple_tuple | exact kit_int_tuple | exact kit_NoneType_tuple | exact kit_bool_tuple | exact kit_str_tuple | exact kit_list_tuple | exact kit_dict_tuple)))
local macro_rules | `(tactic| walk_at "l") => `(tactic| first
  | refine ew_isinstance (Tx.f_isinstance (by assumption)) ?_ | refine ew_len (Tx.f_len (by assumption)) ?_ | refine ew_vint (Tx.f_int (by assumption)) ?_ | refine ew_vbool (Tx.f_bool (by assumption)) ?_ | refine ew_vtuple (Tx.f_tuple (by assumption)) ?_ | refine ew_vstr (Tx.f_str (by assumption)) ?_
  | refine ew_gint (Tx.i_MOST_PERIOD (by assumption)) (by rfl) ?_ | refine ew_gint (Tx.i_DIGITS (by assumption)) (by rfl) ?_ | refine ew_gint (Tx.i_FAR (by assumption)) (by rfl) ?_ | refine ew_gint (Tx.i_MOST_MODULUS (by assumption)) (by rfl) ?_ | refine ew_gint (Tx.i_MOST_PERIODS (by assumption)) (by rfl) ?_
  | refine cl_len ?_ | refine cl_lenT ?_ | refine ix_tpl rfl ?_ | refine od_is (by intro _ h; cases h) ?_)
local macro_rules | `(tactic| walk_at "x") => `(tactic| repeat (first | walk_at "c" | walk_at "n" | walk_at "l" | walk_at "i"))
def numIn (z : Str) (lo hi : Int) : Bool := isN z && (decide (lo ≤ valN z) && decide (valN z ≤ hi))
section
variable {P : Program} {w : World} {K : PySem.W.Frag} {mg : Str → Option Value} {base : Heap}
def F_has (K : PySem.W.Frag) : FT := fun ds cs Kk _ => ∃ a j ln ws n lo hi, ds = [.own a, .int lo, .int hi] ∧ WAt K cs a j ln ws n ∧ Kk (.bl (numIn (wd ws n) lo hi)) cs
theorem m_has (T : Tx K mg) : Dfs.Mfn P w K mg base (L2.CX P w) 3 (CW K) "has_number" ["self", "low", "high"] (spF (F_has K)) := by
  have nd : (["self", "low", "high", "word"] : List Str).Nodup := by decide +kernel
  refine mfnF T.q_Words_has_number T.c_Words T.m_Words_has_number (N := ["self", "low", "high", "word"]) ⟨rfl, rfl, rfl, by decide +kernel, rfl, by decide +kernel, by decide +kernel⟩ (fun kV doc pm an cdv ct => Vls.bind3 fun a b c => rfl) (fun ds cs Kk KE h => ?_) (fun cdv A outer s H E ds cs Kk KE hr h => ?_)
  · obtain ⟨_, _, _, _, _, _, _, rfl, _⟩ := h
    rfl
  · obtain ⟨a, j, ln, ws, n, lo, hi, rfl, W, q⟩ := h
    have W0 := W
    obtain ⟨hj, hw, hn⟩ := W
    obtain ⟨w1, w2⟩ := hw.at_ n
    refine sw_cons ?_
    refine s1_set 3 nd rfl (.inl rfl) ?_
    refine ew_meth0 (.none fun _ _ _ => False) (m_ahead T) hr pF ?_
    walk_at "n"
    refine ⟨.own j hj rfl, a, j, ln, ws, n, rfl, W0, ?_⟩
    walk_at "x"
    refine ew_call (.none fun _ _ _ => False) (d_num T) (hr.mono (by decide)) (by rfl) pF ?_
    walk_at "x"
    refine ⟨_, rfl, w1, w2, isB ⟨fun h => ?_, fun h => ?_⟩⟩
    · obtain ⟨v1, v2⟩ := isN_val w1 h
      walk_at "x"
      refine ew_tint T.f_int ?_
      walk_at "x"
      refine cl_intS v1 (by have := w1.len; omega) ?_
      walk_at "x"
      have e : numIn (wd ws n) lo hi = (decide (lo ≤ valN (wd ws n)) && decide (valN (wd ws n) ≤ hi)) := by
        unfold numIn
        rw [h, Bool.true_and]
      rw [e] at q
      refine ⟨fun h1 => ?_, fun h1 => ?_⟩
      · walk_at "x"
        rw [h1, Bool.true_and] at q
        exact q
      · rw [h1, Bool.false_and] at q
        exact q
    · have e : numIn (wd ws n) lo hi = false := by
        unfold numIn
        rw [h, Bool.false_and]
      rw [e] at q
      exact q
def F_tnum (K : PySem.W.Frag) : FT := fun ds cs Kk KE => ∃ a j ln ws n lo hi, ds = [.own a, .int lo, .int hi] ∧ WAt K cs a j ln ws n ∧ (numIn (wd ws n) lo hi = true → Kk (.int (valN (wd ws n))) (adv K cs a j ln ws (n + 1))) ∧ (numIn (wd ws n) lo hi = false → KE (He.ga K "BadText") (btF ln n) cs)
theorem m_tnum (T : Tx K mg) : Dfs.Mfn P w K mg base (L2.CX P w) 5 (CW K) "take_number" ["self", "low", "high"] (spF (F_tnum K)) := by
  refine mfnF T.q_Words_take_number T.c_Words T.m_Words_take_number (N := ["self", "low", "high"]) ⟨rfl, rfl, rfl, by decide +kernel, rfl, by decide +kernel, by decide +kernel⟩ (fun kV doc pm an cdv ct => Vls.bind3 fun a b c => rfl) (fun ds cs Kk KE h => ?_) (fun cdv A outer s H E ds cs Kk KE hr h => ?_)
  · obtain ⟨_, _, _, _, _, _, _, rfl, _⟩ := h
    rfl
  · obtain ⟨a, j, ln, ws, n, lo, hi, rfl, W, q1, q2⟩ := h
    have W0 := W
    obtain ⟨hj, hw, hn⟩ := W
    walk_at "c"
    refine s1_if ?_
    refine tw_not ?_
    refine tw_val (e := .Call _ _ _ _) ?_
    refine ew_meth (.none fun _ _ _ => False) (m_has T) (hr.mono (by decide)) pF ?_
    walk_at "n"
    refine ⟨.own j hj rfl, ?_⟩
    walk_at "x"
    refine ⟨a, j, ln, ws, n, lo, hi, rfl, W0, isB ⟨fun h => ?_, fun h => ?_⟩⟩
    · walk_at "c"
      walk_at "c"
      refine ew_meth0 .same (m_refuse T) (hr.mono (by decide)) pc ?_
      walk_at "n"
      exact ⟨.own j hj rfl, a, j, ln, ws, n, rfl, W0, q2 (by simpa using h)⟩
    · have h : numIn (wd ws n) lo hi = true := by simpa using h
      have hN : isN (wd ws n) = true := by
        unfold numIn at h
        simp only [Bool.and_eq_true] at h
        exact h.1
      refine sw_nil ?_
      walk_at "c"
      walk_at "c"
      refine ew_meth0 (.none fun _ _ _ => False) (m_tint T) hr pF ?_
      walk_at "n"
      exact ⟨.own j hj rfl, a, j, ln, ws, n, rfl, W0, fun _ => q1 h, fun e => by rw [hN] at e; cases e⟩
end
end K24
set_option Elab.async false
set_option linter.all false
set_option maxRecDepth 100000
set_option maxHeartbeats 4000000
namespace K24
open PySem PySem.Spec PyProof.Rows L2 Sx
local macro_rules | `(tactic| walk_at "c") => `(tactic| first
  | refine aw_cons ?_ | refine aw_nil ?_
  | refine ew_int ?_ | refine ew_non ?_ | refine ew_bl ?_ | refine ew_str ?_
  | refine ew_bin ?_ | refine ew_cmp ?_ | refine tw_cmp ?_ | refine tw_not ?_ | refine ew_chain ?_ | refine tw_chain ?_ | refine ew_and ?_ | refine ew_or ?_ | refine ew_one ?_ | refine ew_not ?_ | refine ew_neg ?_ | refine ew_if ?_
  | refine tw_w (ww_and ?_) | refine tw_w (ww_or ?_) | refine ww_and ?_ | refine ww_or ?_ | refine ww_and1 ?_ | refine ww_or1 ?_
  | refine tw_val (e := .Call _ _ _ _) ?_ | refine ew_tup ?_ | refine ew_ix ?_ | refine ew_lst ?_
  | refine sw_cons ?_ | refine s1_ret ?_ | refine s1_if ?_ | refine sw_nil ?_ | refine s1_expr ?_
  | refine od_add ?_ | refine od_sub ?_ | refine od_lt ?_ | refine od_le ?_ | refine od_gt ?_ | refine od_ge ?_
  | refine isB ?_ | refine intD ?_ | refine br_t ?_ | refine br_f ?_
  | refine ⟨szl (Nat.le_of_ble_eq_true rfl), ?_⟩)
local macro_rules | `(tactic| walk_at "n") => `(tactic| first
  | refine ew_name 0 rfl (by first | exact .inl rfl | exact .inr (.inl rfl) | exact .inr (.inr rfl)) rfl ?_
  | refine ew_name 1 rfl (by first | exact .inl rfl | exact .inr (.inl rfl) | exact .inr (.inr rfl)) rfl ?_
  | refine ew_name 2 rfl (by first | exact .inl rfl | exact .inr (.inl rfl) | exact .inr (.inr rfl)) rfl ?_
  | refine ew_name 3 rfl (by first | exact .inl rfl | exact .inr (.inl rfl) | exact .inr (.inr rfl)) rfl ?_
  | refine ew_name 4 rfl (by first | exact .inl rfl | exact .inr (.inl rfl) | exact .inr (.inr rfl)) rfl ?_
  | refine ew_name 5 rfl (by first | exact .inl rfl | exact .inr (.inl rfl) | exact .inr (.inr rfl)) rfl ?_
  | refine ew_name 6 rfl (by first | exact .inl rfl | exact .inr (.inl rfl) | exact .inr (.inr rfl)) rfl ?_
  | refine ew_name 7 rfl (by first | exact .inl rfl | exact .inr (.inl rfl) | exact .inr (.inr rfl)) rfl ?_
  | refine ew_name 8 rfl (by first | exact .inl rfl | exact .inr (.inl rfl) | exact .inr (.inr rfl)) rfl ?_
  | refine ew_name 9 rfl (by first | exact .inl rfl | exact .inr (.inl rfl) | exact .inr (.inr rfl)) rfl ?_
  | refine ew_name 10 rfl (by first | exact .inl rfl | exact .inr (.inl rfl) | exact .inr (.inr rfl)) rfl ?_
  | refine ew_name 11 rfl (by first | exact .inl rfl | exact .inr (.inl rfl) | exact .inr (.inr rfl)) rfl ?_
  | refine ew_name 12 rfl (by first | exact .inl rfl | exact .inr (.inl rfl) | exact .inr (.inr rfl)) rfl ?_)
local macro_rules | `(tactic| walk_at "i") => `(tactic| (refine' cl_isi (.ty _) ?a ?b ?_; (case a => constructor); (case b => with_reducible first | exact kit_int_int | exact kit_int_bool | exact kit_bool_int | exact kit_bool_bool | exact kit_NoneType_int | exact kit_str_int | exact kit_list_int | exact kit_tuple_int | exact kit_dict_int | exact kit_tuple_tuple | exact kit_int_tuple | exact kit_NoneType_tuple | exact kit_bool_tuple | exact kit_str_tuple | exact kit_list_tuple | exact kit_dict_tuple)))
local macro_rules | `(tactic| walk_at "l") => `(tactic| first
  | refine ew_isinstance (Tx.f_isinstance (by assumption)) ?_ | refine ew_len (Tx.f_len (by assumption)) ?_ | refine ew_vint (Tx.f_int (by assumption)) ?_ | refine ew_vbool (Tx.f_bool (by assumption)) ?_ | refine ew_vtuple (Tx.f_tuple (by assumption)) ?_ | refine ew_vstr (Tx.f_str (by assumption)) ?_
  | refine ew_gint (Tx.i_MOST_PERIOD (by assumption)) (by rfl) ?_ | refine ew_gint (Tx.i_DIGITS (by assumption)) (by rfl) ?_ | refine ew_gint (Tx.i_FAR (by assumption)) (by rfl) ?_ | refine ew_gint (Tx.i_MOST_MODULUS (by assumption)) (by rfl) ?_ | refine ew_gint (Tx.i_MOST_PERIODS (by assumption)) (by rfl) ?_
  | refine cl_len ?_ | refine cl_lenT ?_ | refine ix_tpl rfl ?_ | refine od_is (by intro _ h; cases h) ?_)
local macro_rules | `(tactic| walk_at "x") => `(tactic| repeat (first | walk_at "c" | walk_at "n" | walk_at "l" | walk_at "i"))
section
variable {P : Program} {w : World} {K : PySem.W.Frag} {mg : Str → Option Value} {base : Heap}
def F_take0 (K : PySem.W.Frag) : FT := fun ds cs Kk KE => ∃ a j ln ws n, ∃ opts : List Str, ds = [.own a, .tup (opts.map D.str)] ∧ WAt K cs a j ln ws n ∧ (n < ws.length ∧ wd ws n ∈ opts → Kk (.str (wd ws n)) (adv K cs a j ln ws (n + 1))) ∧ (¬ (n < ws.length ∧ wd ws n ∈ opts) → KE (He.ga K "BadText") (btF ln n) cs)
def F_take (K : PySem.W.Frag) : FT := fun ds cs Kk KE => ∃ a j ln ws n, ∃ opts : List Str, ds = .own a :: opts.map D.str ∧ opts.length ≤ 100 ∧ WAt K cs a j ln ws n ∧ (n < ws.length ∧ wd ws n ∈ opts → Kk (.str (wd ws n)) (adv K cs a j ln ws (n + 1))) ∧ (¬ (n < ws.length ∧ wd ws n ∈ opts) → KE (He.ga K "BadText") (btF ln n) cs)
theorem r_take (T : Tx K mg) : FnR P w K mg base (L2.CX P w) 4 (He.ma K (CW K) "take") (spF (F_take K)) := by
  have nd : (["self", "options", "word"] : List Str).Nodup := by decide +kernel
  obtain ⟨fd, F⟩ := T.q_Words_take
  obtain ⟨oc, od, dV, kV, doc, pm, an, cdv, ct, osl, rfl, lk, hcd, hD, _⟩ := F.ex
  obtain ⟨_, rfl⟩ | ⟨z, _⟩ := hD
  case inr => exact absurd rfl z
  have R := StX.fn_star (P := P) (w := w) (mg := mg) (base := base) (CX := L2.CX P w) (k := 3) (ps := ["self"]) (pv := "options") (N := ["self", "options", "word"]) (sp := spF (F_take0 K)) lk hcd
    ⟨rfl, rfl, rfl, by decide +kernel, rfl, by decide +kernel, by decide +kernel⟩ StX.cxUp (StX.bind_star1 (B := fun vs => bindArgs (PySem.W.fnOf "take" "Words.take" (defArgs s_Words_take) (defBody s_Words_take) (defScope s_Words_take) .none kV doc pm an cdv ct) ⟨vs, []⟩) (fun a => rfl) (fun a r rs => rfl)) (fun A outer s H vs Q E hr h => ?_)
  · refine R.imp fun vs H Q E h => sp_star (n := 1) (fun ds cs Kk KE f => ?_) h
    obtain ⟨a, j, ln, ws, n, opts, rfl, ho, W, q1, q2⟩ := f
    exact ⟨[.own a], opts.map D.str, rfl, rfl, by rw [List.length_map]; omega, a, j, ln, ws, n, opts, rfl, W, q1, q2⟩
  · obtain ⟨ds, cs, Kk, KE, r, ok, f, q1, q2⟩ := h
    refine body_go r ok q1 q2 ?_
    obtain ⟨a, j, ln, ws, n, opts, rfl, W, q1, q2⟩ := f
    have W0 := W
    obtain ⟨hj, hw, hn⟩ := W
    refine sw_cons ?_
    refine s1_set 2 nd rfl (.inl rfl) ?_
    refine ew_meth0 (.none fun _ _ _ => False) (m_ahead T) (hr.mono (by decide)) pF ?_
    walk_at "n"
    refine ⟨.own j hj rfl, a, j, ln, ws, n, rfl, W0, ?_⟩
    refine sw_cons ?_
    refine s1_if ?_
    refine tw_w (ww_or ?_)
    refine tw_val (e := .Call _ _ _ _) ?_
    refine ew_meth0 (.none fun _ _ _ => False) (m_done T) (hr.mono (by decide)) pF ?_
    walk_at "n"
    refine ⟨.own j hj rfl, a, j, ln, ws, n, rfl, W0, isB ⟨fun h => ?_, fun h => ?_⟩⟩
    · have h := of_decide_eq_true h
      refine br_t (sw_cons (s1_expr ?_))
      refine ew_meth0 .same (m_refuse T) hr pc ?_
      walk_at "n"
      exact ⟨.own j hj rfl, a, j, ln, ws, n, rfl, W0, q2 (by omega)⟩
    · have h := of_decide_eq_false h
      refine ww_or1 ?_
      refine tw_cmp ?_ (by with_unfolding_all rfl)
      walk_at "n"
      walk_at "n"
      refine od_ninT ?_
      refine isB ⟨fun h2 => ?_, fun h2 => ?_⟩
      · walk_at "c"
        walk_at "c"
        refine ew_meth0 .same (m_refuse T) hr pc ?_
        walk_at "n"
        exact ⟨.own j hj rfl, a, j, ln, ws, n, rfl, W0, q2 fun z => by
          rw [decide_eq_true z.2] at h2
          cases h2⟩
      · refine sw_nil ?_
        refine sw_cons ?_
        refine s1_augF T.c_Words T.n_Words_place ?_
        walk_at "n"
        refine ⟨a, j, _, n, rfl, hj, rfl, ?_⟩
        refine ew_int ?_
        refine ⟨1, j, _, rfl, hj, by show 3 < 1000; decide, ?_⟩
        walk_at "x"
        exact q1 ⟨by omega, by simpa using h2⟩
def F_fin (K : PySem.W.Frag) : FT := fun ds cs Kk KE => ∃ a j ln ws n, ds = [.own a] ∧ WAt K cs a j ln ws n ∧ (n = ws.length → Kk .non cs) ∧ (n ≠ ws.length → KE (He.ga K "BadText") (btF ln n) cs)
theorem m_fin (T : Tx K mg) : Dfs.Mfn P w K mg base (L2.CX P w) 4 (CW K) "finish" ["self"] (spF (F_fin K)) := by
  refine mfnF T.q_Words_finish T.c_Words T.m_Words_finish (N := ["self"]) ⟨rfl, rfl, rfl, by decide +kernel, rfl, by decide +kernel, by decide +kernel⟩ (fun kV doc pm an cdv ct => Vls.bind1 fun a => rfl) (fun ds cs Kk KE h => ?_) (fun cdv A outer s H E ds cs Kk KE hr h => ?_)
  · obtain ⟨_, _, _, _, _, rfl, _⟩ := h
    rfl
  · obtain ⟨a, j, ln, ws, n, rfl, W, q1, q2⟩ := h
    refine sw_cons (s1_if (tw_not ?_))
    refine tw_val (e := .Call _ _ _ _) ?_
    refine ew_meth0 (.none fun _ _ _ => False) (m_done T) (hr.mono (by decide)) pF ?_
    walk_at "n"
    refine ⟨.own j W.1 rfl, a, j, ln, ws, n, rfl, W, isB ?_⟩
    by_cases h : n = ws.length
    · rw [decide_eq_true h]
      exact br_f (sw_nil (sw_nil (q1 h)))
    · rw [decide_eq_false h]
      refine br_t (sw_cons (s1_expr ?_))
      refine ew_meth0 .same (m_refuse T) hr pc ?_
      walk_at "n"
      exact ⟨.own j W.1 rfl, a, j, ln, ws, n, rfl, W, q2 h⟩
end
end K24
set_option Elab.async false
set_option linter.all false
set_option maxRecDepth 100000
set_option maxHeartbeats 4000000
namespace K24
open PySem PySem.Spec PyProof.Rows L2 Sx
local macro_rules | `(tactic| walk_at "c") => `(tactic| first
  | refine aw_cons ?_ | refine aw_nil ?_
  | refine ew_int ?_ | refine ew_non ?_ | refine ew_bl ?_ | refine ew_str ?_
  | refine ew_bin ?_ | refine ew_cmp ?_ | refine tw_cmp ?_ | refine tw_not ?_ | refine ew_chain ?_ | refine tw_chain ?_ | refine ew_and ?_ | refine ew_or ?_ | refine ew_one ?_ | refine ew_not ?_ | refine ew_neg ?_ | refine ew_if ?_
  | refine tw_w (ww_and ?_) | refine tw_w (ww_or ?_) | refine ww_and ?_ | refine ww_or ?_ | refine ww_and1 ?_ | refine ww_or1 ?_
  | refine tw_val (e := .Call _ _ _ _) ?_ | refine ew_tup ?_ | refine ew_ix ?_ | refine ew_lst ?_
  | refine sw_cons ?_ | refine s1_ret ?_ | refine s1_if ?_ | refine sw_nil ?_ | refine s1_expr ?_
  | refine od_add ?_ | refine od_sub ?_ | refine od_lt ?_ | refine od_le ?_ | refine od_gt ?_ | refine od_ge ?_
  | refine isB ?_ | refine intD ?_ | refine br_t ?_ | refine br_f ?_
  | refine ⟨szl (Nat.le_of_ble_eq_true rfl), ?_⟩)
local macro_rules | `(tactic| walk_at "n") => `(tactic| first
  | refine ew_name 0 rfl (by first | exact .inl rfl | exact .inr (.inl rfl) | exact .inr (.inr rfl)) rfl ?_
  | refine ew_name 1 rfl (by first | exact .inl rfl | exact .inr (.inl rfl) | exact .inr (.inr rfl)) rfl ?_
  | refine ew_name 2 rfl (by first | exact .inl rfl | exact .inr (.inl rfl) | exact .inr (.inr rfl)) rfl ?_
  | refine ew_name 3 rfl (by first | exact .inl rfl | exact .inr (.inl rfl) | exact .inr (.inr rfl)) rfl ?_
  | refine ew_name 4 rfl (by first | exact .inl rfl | exact .inr (.inl rfl) | exact .inr (.inr rfl)) rfl ?_
  | refine ew_name 5 rfl (by first | exact .inl rfl | exact .inr (.inl rfl) | exact .inr (.inr rfl)) rfl ?_
  | refine ew_name 6 rfl (by first | exact .inl rfl | exact .inr (.inl rfl) | exact .inr (.inr rfl)) rfl ?_
  | refine ew_name 7 rfl (by first | exact .inl rfl | exact .inr (.inl rfl) | exact .inr (.inr rfl)) rfl ?_
  | refine ew_name 8 rfl (by first | exact .inl rfl | exact .inr (.inl rfl) | exact .inr (.inr rfl)) rfl ?_
  | refine ew_name 9 rfl (by first | exact .inl rfl | exact .inr (.inl rfl) | exact .inr (.inr rfl)) rfl ?_
  | refine ew_name 10 rfl (by first | exact .inl rfl | exact .inr (.inl rfl) | exact .inr (.inr rfl)) rfl ?_
  | refine ew_name 11 rfl (by first | exact .inl rfl | exact .inr (.inl rfl) | exact .inr (.inr rfl)) rfl ?_
  | refine ew_name 12 rfl (by first | exact .inl rfl | exact .inr (.inl rfl) | exact .inr (.inr rfl)) rfl ?_)
local macro_rules | `(tactic| walk_at "i") => `(tactic| (refine' cl_isi (.ty _) ?a ?b ?_; (case a => constructor); (case b => with_reducible first | exact kit_int_int | exact kit_int_bool | exact kit_bool_int | exact kit_bool_bool | exact kit_NoneType_int | exact kit_str_int | exact kit_list_int | exact kit_tuple_int | exact kit_dict_int | exact kit_tuple_tuple | exact kit_int_tuple | exact kit_NoneType_tuple | exact kit_bool_tuple | exact kit_str_tuple | exact kit_list_tuple | exact kit_dict_tuple)))
local macro_rules | `(tactic| walk_at "l") => `(tactic| first
  | refine ew_isinstance (Tx.f_isinstance (by assumption)) ?_ | refine ew_len (Tx.f_len (by assumption)) ?_ | refine ew_vint (Tx.f_int (by assumption)) ?_ | refine ew_vbool (Tx.f_bool (by assumption)) ?_ | refine ew_vtuple (Tx.f_tuple (by assumption)) ?_ | refine ew_vstr (Tx.f_str (by assumption)) ?_
  | refine ew_gint (Tx.i_MOST_PERIOD (by assumption)) (by rfl) ?_ | refine ew_gint (Tx.i_DIGITS (by assumption)) (by rfl) ?_ | refine ew_gint (Tx.i_FAR (by assumption)) (by rfl) ?_ | refine ew_gint (Tx.i_MOST_MODULUS (by assumption)) (by rfl) ?_ | refine ew_gint (Tx.i_MOST_PERIODS (by assumption)) (by rfl) ?_
  | refine cl_len ?_ | refine cl_lenT ?_ | refine ix_tpl rfl ?_ | refine od_is (by intro _ h; cases h) ?_)
local macro_rules | `(tactic| walk_at "x") => `(tactic| repeat (first | walk_at "c" | walk_at "n" | walk_at "l" | walk_at "i"))
section
variable {P : Program} {w : World} {K : PySem.W.Frag} {mg : Str → Option Value} {base : Heap}
def F_wini (K : PySem.W.Frag) : FT := fun ds cs Kk KE => ∃ y t ln cs1, ds = [.own y, t, .int ln] ∧ cs = (y, Cell.ins (CW K) []) :: cs1 ∧
  ((∃ z, t = .str z ∧ z.length ≤ 9000 ∧ Kk .non ((y, Cell.ins (CW K) (wF ln (Txt.split z " ") 0)) :: cs1)) ∨ (∃ ty : Value, TyD K t cs ty ∧ PySem.W.kitOne K ty (.type "str") = some false ∧ KE (He.ga K "BadText") (btF ln 0) cs))
theorem f_wini (T : Tx K mg) : ∃ fd us, FnOk P w K mg base (L2.CX P w) 3 (He.ma K (CW K) "__init__") fd ["self", "text", "line"] (spF (F_wini K)) ∧ L2.Binds K fd ["self", "text", "line"] us ∧ Vals [V.int 0] us := by
  obtain ⟨fi, Fi, Bi⟩ := i_BadText (P := P) (w := w) (base := base) T
  obtain ⟨fd, F⟩ := T.q_Words_init
  obtain ⟨us, hd, hb⟩ := F.binds1 (ps := ["self", "text", "line"]) 2 0 (by simp) rfl (fun T kV doc pm an cdv ct us its h1 h2 => by
    match us, its, h1, h2 with
    | [a, b], [d], _, _ => exact ⟨_, rfl, rfl⟩)
  refine ⟨fd, us, okF F (N := ["self", "text", "line"]) ⟨rfl, rfl, rfl, by decide +kernel, rfl, by decide +kernel, by decide +kernel⟩ (fun ds cs Kk KE h => ?_) (fun cdv A outer s H E ds cs Kk KE hr h => ?_), hb, hd⟩
  · obtain ⟨_, _, _, _, rfl, _⟩ := h
    rfl
  · obtain ⟨y, t, ln, cs1, rfl, rfl, q⟩ := h
    walk_at "x"
    rcases q with ⟨z, rfl, hz, q⟩ | ⟨ty, ht, he, q⟩
    · refine cl_isi (.ty _) .str kit_str_str ?_
      walk_at "c"
      walk_at "c"
      refine sw_nil ?_
      refine sw_cons ?_
      refine s1_fld T.c_Words T.n_Words_line ?_
      walk_at "n"
      walk_at "n"
      refine ⟨y, 0, _, rfl, rfl, by decide, ?_⟩
      refine sw_cons ?_
      refine s1_fld T.c_Words T.n_Words_words ?_
      refine ew_split ?_
      walk_at "n"
      refine ⟨z, rfl, ?_⟩
      walk_at "c"
      refine ⟨" ", rfl, by decide, szl (by omega), ?_⟩
      walk_at "n"
      refine ⟨y, 0, _, rfl, rfl, by show 1 < 1000; decide, ?_⟩
      refine sw_cons ?_
      refine s1_fld T.c_Words T.n_Words_place ?_
      refine ew_int ?_
      walk_at "n"
      refine ⟨y, 0, _, rfl, rfl, by show 2 < 1000; decide, ?_⟩
      refine sw_nil ?_
      exact q
    · refine cl_isi (.ty _) ht he ?_
      walk_at "c"
      walk_at "c"
      walk_at "c"
      refine s1_raise2 T.o_BadText T.m_BadText_init.at_ T.t_BadText Fi (hr.mono (by decide)) Bi (by rfl) T.g_BadText rfl tk ?_
      walk_at "n"
      refine ew_int ?_
      exact q
end
end K24
set_option Elab.async false
set_option linter.all false
set_option maxRecDepth 100000
set_option maxHeartbeats 4000000
namespace K24
open PySem PySem.Spec PyProof.Rows L2 Sx
local macro_rules | `(tactic| walk_at "c") => `(tactic| first
  | refine aw_cons ?_ | refine aw_nil ?_
  | refine ew_int ?_ | refine ew_non ?_ | refine ew_bl ?_ | refine ew_str ?_
  | refine ew_bin ?_ | refine ew_cmp ?_ | refine tw_cmp ?_ | refine tw_not ?_ | refine ew_chain ?_ | refine tw_chain ?_ | refine ew_and ?_ | refine ew_or ?_ | refine ew_one ?_ | refine ew_not ?_ | refine ew_neg ?_ | refine ew_if ?_
  | refine tw_w (ww_and ?_) | refine tw_w (ww_or ?_) | refine ww_and ?_ | refine ww_or ?_ | refine ww_and1 ?_ | refine ww_or1 ?_
  | refine tw_val (e := .Call _ _ _ _) ?_ | refine ew_tup ?_ | refine ew_ix ?_ | refine ew_lst ?_
  | refine sw_cons ?_ | refine s1_ret ?_ | refine s1_if ?_ | refine sw_nil ?_ | refine s1_expr ?_
  | refine od_add ?_ | refine od_sub ?_ | refine od_lt ?_ | refine od_le ?_ | refine od_gt ?_ | refine od_ge ?_
  | refine isB ?_ | refine intD ?_ | refine br_t ?_ | refine br_f ?_
  | refine ⟨szl (Nat.le_of_ble_eq_true rfl), ?_⟩)
local macro_rules | `(tactic| walk_at "n") => `(tactic| first
  | refine ew_name 0 rfl (by first | exact .inl rfl | exact .inr (.inl rfl) | exact .inr (.inr rfl)) rfl ?_
  | refine ew_name 1 rfl (by first | exact .inl rfl | exact .inr (.inl rfl) | exact .inr (.inr rfl)) rfl ?_
  | refine ew_name 2 rfl (by first | exact .inl rfl | exact .inr (.inl rfl) | exact .inr (.inr rfl)) rfl ?_
  | refine ew_name 3 rfl (by first | exact .inl rfl | exact .inr (.inl rfl) | exact .inr (.inr rfl)) rfl ?_
  | refine ew_name 4 rfl (by first | exact .inl rfl | exact .inr (.inl rfl) | exact .inr (.inr rfl)) rfl ?_
  | refine ew_name 5 rfl (by first | exact .inl rfl | exact .inr (.inl rfl) | exact .inr (.inr rfl)) rfl ?_
  | refine ew_name 6 rfl (by first | exact .inl rfl | exact .inr (.inl rfl) | exact .inr (.inr rfl)) rfl ?_
  | refine ew_name 7 rfl (by first | exact .inl rfl | exact .inr (.inl rfl) | exact .inr (.inr rfl)) rfl ?_
  | refine ew_name 8 rfl (by first | exact .inl rfl | exact .inr (.inl rfl) | exact .inr (.inr rfl)) rfl ?_
  | refine ew_name 9 rfl (by first | exact .inl rfl | exact .inr (.inl rfl) | exact .inr (.inr rfl)) rfl ?_
  | refine ew_name 10 rfl (by first | exact .inl rfl | exact .inr (.inl rfl) | exact .inr (.inr rfl)) rfl ?_
  | refine ew_name 11 rfl (by first | exact .inl rfl | exact .inr (.inl rfl) | exact .inr (.inr rfl)) rfl ?_
  | refine ew_name 12 rfl (by first | exact .inl rfl | exact .inr (.inl rfl) | exact .inr (.inr rfl)) rfl ?_)
local macro_rules | `(tactic| walk_at "i") => `(tactic| (refine' cl_isi (.ty _) ?a ?b ?_; (case a => constructor); (case b => with_reducible first | exact kit_int_int | exact kit_int_bool | exact kit_bool_int | exact kit_bool_bool | exact kit_NoneType_int | exact kit_str_int | exact kit_list_int | exact kit_tuple_int | exact kit_dict_int | exact kit_tuple_tuple | exact kit_int_tuple | exact kit_NoneType_tuple | exact kit_bool_tuple | exact kit_str_tuple | exact kit_list_tuple | exact kit_dict_tuple)))
local macro_rules | `(tactic| walk_at "l") => `(tactic| first
  | refine ew_isinstance (Tx.f_isinstance (by assumption)) ?_ | refine ew_len (Tx.f_len (by assumption)) ?_ | refine ew_vint (Tx.f_int (by assumption)) ?_ | refine ew_vbool (Tx.f_bool (by assumption)) ?_ | refine ew_vtuple (Tx.f_tuple (by assumption)) ?_ | refine ew_vstr (Tx.f_str (by assumption)) ?_
  | refine ew_gint (Tx.i_MOST_PERIOD (by assumption)) (by rfl) ?_ | refine ew_gint (Tx.i_DIGITS (by assumption)) (by rfl) ?_ | refine ew_gint (Tx.i_FAR (by assumption)) (by rfl) ?_ | refine ew_gint (Tx.i_MOST_MODULUS (by assumption)) (by rfl) ?_ | refine ew_gint (Tx.i_MOST_PERIODS (by assumption)) (by rfl) ?_
  | refine cl_len ?_ | refine cl_lenT ?_ | refine ix_tpl rfl ?_ | refine od_is (by intro _ h; cases h) ?_)
local macro_rules | `(tactic| walk_at "x") => `(tactic| repeat (first | walk_at "c" | walk_at "n" | walk_at "l" | walk_at "i"))
/-! the registers -/
inductive Kd where
  | pl
  | rs
  | md (m : Nat)
  | dl (ps : List Nat)
def lcms (ps : List Nat) : Nat := ps.foldl Nat.lcm 1
def dN (n : Nat) : D := .int (n : Int)
abbrev CPl (K : PySem.W.Frag) : Addr := He.ga K "Plain"
abbrev CRs (K : PySem.W.Frag) : Addr := He.ga K "Restarting"
abbrev CMd (K : PySem.W.Frag) : Addr := He.ga K "Wrapping"
abbrev CDl (K : PySem.W.Frag) : Addr := He.ga K "Dials"
/-- the register of a kind -/
def rO (K : PySem.W.Frag) : Kd → D
  | .pl => .obj (CPl K) [("modulus", .non)]
  | .rs => .obj (CRs K) [("modulus", .non)]
  | .md m => .obj (CMd K) [("modulus", dN m)]
  | .dl ps => .obj (CDl K) [("modulus", dN (lcms ps)), ("periods", .tup (ps.map dN))]
theorem lcms_next {ps : List Nat} {i p : Nat} (h : ps[i]? = some p) : lcms (ps.take (i + 1)) = Nat.lcm (lcms (ps.take i)) p := by
  unfold lcms
  rw [List.take_add_one, h, List.foldl_append]
  rfl
theorem lcms_bd {ps : List Nat} (h : ∀ p ∈ ps, 2 ≤ p ∧ p ≤ 1000) : ∀ i, 0 < lcms (ps.take i) ∧ lcms (ps.take i) ≤ 1000 ^ i
  | 0 => by
    rw [List.take_zero]
    exact ⟨Nat.one_pos, Nat.le_refl _⟩
  | i + 1 => by
    obtain ⟨a, b⟩ := lcms_bd h i
    cases q : ps[i]? with
    | none =>
      have hl : ps.length ≤ i := List.getElem?_eq_none_iff.mp q
      have e : ps.take (i + 1) = ps.take i := by rw [List.take_of_length_le hl, List.take_of_length_le (by omega)]
      rw [e, Nat.pow_succ]
      exact ⟨a, Nat.le_trans b (by omega)⟩
    | some p =>
      obtain ⟨p1, p2⟩ := h p (List.mem_of_getElem? q)
      rw [lcms_next q]
      refine ⟨Nat.lcm_pos a (by omega), ?_⟩
      refine Nat.le_trans (Nat.le_of_dvd (Nat.mul_pos a (by omega)) (Nat.lcm_dvd_mul _ _)) ?_
      rw [Nat.pow_succ]
      exact Nat.mul_le_mul b p2
theorem lcms_ge {ps : List Nat} (h1 : 1 ≤ ps.length) (h : ∀ p ∈ ps, 2 ≤ p ∧ p ≤ 1000) : 2 ≤ lcms ps := by
  have hi : ps.length - 1 < ps.length := by omega
  have z := lcms_next (ps := ps) (i := ps.length - 1) (p := ps[ps.length - 1]) (by simp [hi])
  have e : ps.length - 1 + 1 = ps.length := by omega
  rw [e, List.take_length] at z
  have b := (lcms_bd h (ps.length - 1)).1
  have g := (h _ (List.getElem_mem hi)).1
  have d := Nat.le_of_dvd (Nat.lcm_pos b (by omega)) (Nat.dvd_lcm_right (lcms (ps.take (ps.length - 1))) ps[ps.length - 1])
  rw [z]
  omega
section
variable {P : Program} {w : World} {K : PySem.W.Frag} {mg : Str → Option Value} {base : Heap}
def F_ini0 (C : Addr) : FT := fun ds cs Kk _ => ∃ y cs1, ds = [.own y] ∧ cs = (y, Cell.ins C []) :: cs1 ∧ Kk .non ((y, Cell.ins C [("modulus", .non)]) :: cs1)
theorem g_plain (T : Tx K mg) : ∃ fd, FnOk P w K mg base (L2.CX P w) 1 (He.ma K (CPl K) "__init__") fd ["self"] (spF (F_ini0 (CPl K))) ∧ L2.Binds K fd ["self"] [] := by
  obtain ⟨fd, F⟩ := T.q_Plain_init
  refine ⟨fd, okF F (N := ["self"]) ⟨rfl, rfl, rfl, by decide +kernel, rfl, by decide +kernel, by decide +kernel⟩ (fun ds cs Kk KE h => ?_) (fun cdv A outer s H E ds cs Kk KE hr h => ?_), F.bindsN fun kV doc pm an cdv ct => Vls.bind1 fun a => rfl⟩
  · obtain ⟨_, _, rfl, _⟩ := h
    rfl
  · obtain ⟨y, cs1, rfl, rfl, q⟩ := h
    refine sw_cons (s1_fld T.c_Plain T.n_Plain_modulus (ew_non ?_))
    walk_at "n"
    exact ⟨y, 0, _, rfl, rfl, by decide, sw_nil q⟩
theorem g_rest (T : Tx K mg) : ∃ fd, FnOk P w K mg base (L2.CX P w) 1 (He.ma K (CRs K) "__init__") fd ["self"] (spF (F_ini0 (CRs K))) ∧ L2.Binds K fd ["self"] [] := by
  obtain ⟨fd, F⟩ := T.q_Restarting_init
  refine ⟨fd, okF F (N := ["self"]) ⟨rfl, rfl, rfl, by decide +kernel, rfl, by decide +kernel, by decide +kernel⟩ (fun ds cs Kk KE h => ?_) (fun cdv A outer s H E ds cs Kk KE hr h => ?_), F.bindsN fun kV doc pm an cdv ct => Vls.bind1 fun a => rfl⟩
  · obtain ⟨_, _, rfl, _⟩ := h
    rfl
  · obtain ⟨y, cs1, rfl, rfl, q⟩ := h
    refine sw_cons (s1_fld T.c_Restarting T.n_Restarting_modulus (ew_non ?_))
    walk_at "n"
    exact ⟨y, 0, _, rfl, rfl, by decide, sw_nil q⟩
/-- Wrapping's own beginning, also of Dials -/
def F_wrap (K : PySem.W.Frag) : FT := fun ds cs Kk KE => ∃ y C d cs1, ds = [.own y, d] ∧ cs = (y, Cell.ins C []) :: cs1 ∧ Cls K C ∧ NoAttr K C "modulus" ∧ Pln d ∧
  (inR 2 (10 ^ 18) d = true → Kk .non ((y, Cell.ins C [("modulus", d)]) :: cs1)) ∧ (inR 2 (10 ^ 18) d = false → KE (He.ga K "BadRegister") [("part", .str "modulus")] cs)
theorem g_wrap (T : Tx K mg) : ∃ fd, FnOk P w K mg base (L2.CX P w) 3 (He.ma K (CMd K) "__init__") fd ["self", "modulus"] (spF (F_wrap K)) ∧ L2.Binds K fd ["self", "modulus"] [] := by
  obtain ⟨fi, Fi, Bi⟩ := i_BadRegister (P := P) (w := w) (base := base) T
  obtain ⟨fd, F⟩ := T.q_Wrapping_init
  refine ⟨fd, okF F (N := ["self", "modulus"]) ⟨rfl, rfl, rfl, by decide +kernel, rfl, by decide +kernel, by decide +kernel⟩ (fun ds cs Kk KE h => ?_) (fun cdv A outer s H E ds cs Kk KE hr h => ?_), F.bindsN fun kV doc pm an cdv ct => Vls.bind2 fun a b => rfl⟩
  · obtain ⟨_, _, _, _, rfl, _⟩ := h
    rfl
  · obtain ⟨y, C, d, cs1, rfl, rfl, cC, nC, hp, q1, q2⟩ := h
    refine sw_cons (s1_if (tw_not ?_))
    refine tw_val (e := .Call _ _ _ _) ?_
    refine ew_call .same (d_within T) hr (by rfl) pc ?_
    walk_at "x"
    refine ⟨d, _, _, rfl, hp, isB ⟨fun h => ?_, fun h => ?_⟩⟩
    · refine sw_cons ?_
      refine s1_raise1 T.o_BadRegister T.m_BadRegister_init.at_ T.t_BadRegister Fi (hr.mono (by decide)) Bi (by rfl) T.g_BadRegister rfl tk ?_
      refine ew_str ?_
      exact q2 (by simpa using h)
    · refine sw_nil (sw_cons (s1_fld cC nC ?_))
      walk_at "n"
      walk_at "n"
      exact ⟨y, 0, _, rfl, rfl, by decide, sw_nil (q1 (by simpa using h))⟩
end
end K24
set_option Elab.async false
set_option linter.all false
set_option maxRecDepth 100000
set_option maxHeartbeats 4000000
namespace K24
open PySem PySem.Spec PyProof.Rows L2 Sx
local macro_rules | `(tactic| walk_at "c") => `(tactic| first
  | refine aw_cons ?_ | refine aw_nil ?_
  | refine ew_int ?_ | refine ew_non ?_ | refine ew_bl ?_ | refine ew_str ?_
  | refine ew_bin ?_ | refine ew_cmp ?_ | refine tw_cmp ?_ | refine tw_not ?_ | refine ew_chain ?_ | refine tw_chain ?_ | refine ew_and ?_ | refine ew_or ?_ | refine ew_one ?_ | refine ew_not ?_ | refine ew_neg ?_ | refine ew_if ?_
  | refine tw_w (ww_and ?_) | refine tw_w (ww_or ?_) | refine ww_and ?_ | refine ww_or ?_ | refine ww_and1 ?_ | refine ww_or1 ?_
  | refine tw_val (e := .Call _ _ _ _) ?_ | refine ew_tup ?_ | refine ew_ix ?_ | refine ew_lst ?_
  | refine sw_cons ?_ | refine s1_ret ?_ | refine s1_if ?_ | refine sw_nil ?_ | refine s1_expr ?_
  | refine od_add ?_ | refine od_sub ?_ | refine od_lt ?_ | refine od_le ?_ | refine od_gt ?_ | refine od_ge ?_
  | refine isB ?_ | refine intD ?_ | refine br_t ?_ | refine br_f ?_
  | refine ⟨szl (Nat.le_of_ble_eq_true rfl), ?_⟩)
local macro_rules | `(tactic| walk_at "n") => `(tactic| first
  | refine ew_name 0 rfl (by first | exact .inl rfl | exact .inr (.inl rfl) | exact .inr (.inr rfl)) rfl ?_
  | refine ew_name 1 rfl (by first | exact .inl rfl | exact .inr (.inl rfl) | exact .inr (.inr rfl)) rfl ?_
  | refine ew_name 2 rfl (by first | exact .inl rfl | exact .inr (.inl rfl) | exact .inr (.inr rfl)) rfl ?_
  | refine ew_name 3 rfl (by first | exact .inl rfl | exact .inr (.inl rfl) | exact .inr (.inr rfl)) rfl ?_
  | refine ew_name 4 rfl (by first | exact .inl rfl | exact .inr (.inl rfl) | exact .inr (.inr rfl)) rfl ?_
  | refine ew_name 5 rfl (by first | exact .inl rfl | exact .inr (.inl rfl) | exact .inr (.inr rfl)) rfl ?_
  | refine ew_name 6 rfl (by first | exact .inl rfl | exact .inr (.inl rfl) | exact .inr (.inr rfl)) rfl ?_
  | refine ew_name 7 rfl (by first | exact .inl rfl | exact .inr (.inl rfl) | exact .inr (.inr rfl)) rfl ?_
  | refine ew_name 8 rfl (by first | exact .inl rfl | exact .inr (.inl rfl) | exact .inr (.inr rfl)) rfl ?_
  | refine ew_name 9 rfl (by first | exact .inl rfl | exact .inr (.inl rfl) | exact .inr (.inr rfl)) rfl ?_
  | refine ew_name 10 rfl (by first | exact .inl rfl | exact .inr (.inl rfl) | exact .inr (.inr rfl)) rfl ?_
  | refine ew_name 11 rfl (by first | exact .inl rfl | exact .inr (.inl rfl) | exact .inr (.inr rfl)) rfl ?_
  | refine ew_name 12 rfl (by first | exact .inl rfl | exact .inr (.inl rfl) | exact .inr (.inr rfl)) rfl ?_)
local macro_rules | `(tactic| walk_at "i") => `(tactic| (refine' cl_isi (.ty _) ?a ?b ?_; (case a => constructor); (case b => with_reducible first | exact kit_int_int | exact kit_int_bool | exact kit_bool_int | exact kit_bool_bool | exact kit_NoneType_int | exact kit_str_int | exact kit_list_int | exact kit_tuple_int | exact kit_dict_int | exact kit_tuple_tuple | exact kit_int_tuple | exact kit_NoneType_tuple | exact kit_bool_tuple | exact kit_str_tuple | exact kit_list_tuple | exact kit_dict_tuple)))
local macro_rules | `(tactic| walk_at "l") => `(tactic| first
  | refine ew_isinstance (Tx.f_isinstance (by assumption)) ?_ | refine ew_len (Tx.f_len (by assumption)) ?_ | refine ew_vint (Tx.f_int (by assumption)) ?_ | refine ew_vbool (Tx.f_bool (by assumption)) ?_ | refine ew_vtuple (Tx.f_tuple (by assumption)) ?_ | refine ew_vstr (Tx.f_str (by assumption)) ?_
  | refine ew_gint (Tx.i_MOST_PERIOD (by assumption)) (by rfl) ?_ | refine ew_gint (Tx.i_DIGITS (by assumption)) (by rfl) ?_ | refine ew_gint (Tx.i_FAR (by assumption)) (by rfl) ?_ | refine ew_gint (Tx.i_MOST_MODULUS (by assumption)) (by rfl) ?_ | refine ew_gint (Tx.i_MOST_PERIODS (by assumption)) (by rfl) ?_
  | refine cl_len ?_ | refine cl_lenT ?_ | refine ix_tpl rfl ?_ | refine od_is (by intro _ h; cases h) ?_)
local macro_rules | `(tactic| walk_at "x") => `(tactic| repeat (first | walk_at "c" | walk_at "n" | walk_at "l" | walk_at "i"))
structure Px (P : Program) (base : Heap) : Prop where
  opq : Sup.Opq base
  file : ((P.main.file : Str) == PySem.Challenge.pw_gaugeroad_k24_texts_of_registers.main.file) = true
  sup : (P.main.scope.names.lookup ("super" : Str)).isSome = false
def ifT : Stmt → List Stmt
  | .If _ a _ _ => a
  | _ => []
abbrev noS : Stmt := .Pass ⟨0, 0, 0, 0⟩
/-- the first value that is no period -/
def badP : List D → Nat → Option Nat
  | [], _ => none
  | v :: vs, i => if inR 2 1000 v = true then badP vs (i + 1) else some i
theorem inR_int {lo hi : Int} {x : D} (h : inR lo hi x = true) : ∃ i, x = .int i ∧ lo ≤ i ∧ i ≤ hi := by
  cases x with
  | int i =>
    have h : (decide (lo ≤ i) && decide (i ≤ hi)) = true := h
    simp only [Bool.and_eq_true, decide_eq_true_eq] at h
    exact ⟨i, rfl, h.1, h.2⟩
  | _ => cases h
theorem badP_none : ∀ {vs : List D} {i : Nat}, badP vs i = none → ∃ ps : List Nat, vs = ps.map dN ∧ ∀ p ∈ ps, 2 ≤ p ∧ p ≤ 1000
  | [], _, _ => ⟨[], rfl, fun p hp => by cases hp⟩
  | v :: vs, i, h => by
    have h : (if inR 2 1000 v = true then badP vs (i + 1) else some i) = none := h
    by_cases e : inR 2 1000 v = true
    · rw [if_pos e] at h
      obtain ⟨ps, rfl, hp⟩ := badP_none h
      obtain ⟨j, rfl, j1, j2⟩ := inR_int e
      refine ⟨j.toNat :: ps, ?_, fun p hp' => ?_⟩
      · rw [List.map_cons]
        congr 1
        show D.int j = .int (j.toNat : Int)
        rw [Int.toNat_of_nonneg (by omega)]
      · rcases List.mem_cons.mp hp' with rfl | hp'
        · omega
        · exact hp p hp'
    · rw [if_neg e] at h
      cases h
theorem badP_ok : ∀ {ps : List Nat} {i : Nat}, (∀ p ∈ ps, 2 ≤ p ∧ p ≤ 1000) → badP (ps.map dN) i = none
  | [], _, _ => rfl
  | p :: ps, i, h => by
    have b := h p (by simp)
    have e : inR 2 1000 (dN p) = true := by
      show (decide ((2 : Int) ≤ (p : Int)) && decide ((p : Int) ≤ 1000)) = true
      rw [decide_eq_true (by omega), decide_eq_true (by omega)]
      rfl
    show (if inR 2 1000 (dN p) = true then badP (ps.map dN) (i + 1) else some i) = none
    rw [if_pos e]
    exact badP_ok fun q hq => h q (List.mem_cons_of_mem _ hq)
theorem map_dN_inj : ∀ {a b : List Nat}, a.map dN = b.map dN → a = b
  | [], [], _ => rfl
  | [], _ :: _, h => by cases h
  | _ :: _, [], h => by cases h
  | x :: a, y :: b, h => by
    rw [List.map_cons, List.map_cons] at h
    injection h with h1 h2
    injection h1 with h1
    rw [map_dN_inj h2, Int.ofNat.inj h1]
section
variable {P : Program} {w : World} {K : PySem.W.Frag} {mg : Str → Option Value} {base : Heap}
/-- what comes of Dials(..) of these values -/
def Dc (K : PySem.W.Frag) (vs : List D) (cs : Cs) (ok : List Nat → Prop) (KE : Addr → List (Str × D) → Cs → Prop) : Prop :=
  if vs.length = 0 ∨ 6 < vs.length then KE (He.ga K "BadRegister") [("part", .str "periods")] cs else match badP vs 0 with
    | some i => KE (He.ga K "BadRegister") [("part", .int (i : Nat))] cs
    | none => ∀ ps : List Nat, vs = ps.map dN → (∀ p ∈ ps, 2 ≤ p ∧ p ≤ 1000) → ok ps
structure Pl50 (vs : List D) : Prop where
  pl : ∀ v ∈ vs, Pln v
  n : vs.length ≤ 50
abbrev dlF (ps : List Nat) : List (Str × D) := [("modulus", dN (lcms ps)), ("periods", .tup (ps.map dN))]
def F_dials0 (K : PySem.W.Frag) : FT := fun ds cs Kk KE => ∃ y vs cs1, ds = [.own y, .tup vs] ∧ cs = (y, Cell.ins (CDl K) []) :: cs1 ∧ Pl50 vs ∧ Dc K vs cs (fun ps => Kk .non ((y, Cell.ins (CDl K) (dlF ps)) :: cs1)) KE
def F_dials (K : PySem.W.Frag) : FT := fun ds cs Kk KE => ∃ y vs cs1, ds = .own y :: vs ∧ cs = (y, Cell.ins (CDl K) []) :: cs1 ∧ Pl50 vs ∧ Dc K vs cs (fun ps => Kk .non ((y, Cell.ins (CDl K) (dlF ps)) :: cs1)) KE
def ND : List Str := ["self", "periods", "__class__", "at", "period", "together"]
theorem ndD : ND.Nodup := by decide +kernel
theorem r_dials (T : Tx K mg) (px : Px P base) : FnR P w K mg base (L2.CX P w) 5 (He.ma K (CDl K) "__init__") (spF (F_dials K)) := by
  obtain ⟨cc, c, fd, S⟩ := Hkc.supB_ok (P := P) (m := m_Dials_init) T.su_Dials rfl T.v_Dials_init px.file px.sup
  obtain ⟨fw, Fw, Bw⟩ := g_wrap (P := P) (w := w) (base := base) T
  obtain ⟨fi, Fi, Bi⟩ := i_BadRegister (P := P) (w := w) (base := base) T
  have R := Sup.fnS_star (w := w) (mg := mg) (base := base) (CX := L2.CX P w) (k := 4) (ps := ["self"]) (pv := "periods") (N := ND) (sp := spF (F_dials0 K)) S (NdefX.nscope_by (by decide +kernel)) StX.cxUp
    (fun kV doc pm ct an => StX.bind_star1 (B := fun vs => bindArgs (PySem.W.fnX m_Dials_init.name m_Dials_init.qual m_Dials_init.params m_Dials_init.body m_Dials_init.scope [("__class__", cc)] .none kV doc pm an (.ref c) ct) ⟨vs, []⟩) (fun a => rfl) (fun a r rs => rfl)) (fun A outer s H vs Q E hr h => ?_)
  · refine R.imp fun vs H Q E h => sp_star (n := 1) (fun ds cs Kk KE f => ?_) h
    obtain ⟨y, vs, cs1, rfl, rfl, g, q⟩ := f
    exact ⟨[.own y], vs, rfl, rfl, by have := g.n; omega, y, vs, cs1, rfl, rfl, g, q⟩
  · obtain ⟨ds, cs, Kk, KE, r, ok, f, q1, q2⟩ := h
    obtain ⟨y, vs, cs1, rfl, rfl, g, q⟩ := f
    have tkD : Takes (NdefX.ncx (L2.CX P w) P w K mg base ND (Sup.nfS m_Dials_init.name m_Dials_init.qual m_Dials_init.params m_Dials_init.body m_Dials_init.scope cc c) (He.ma K (CDl K) "__init__") A outer s H E) (fun cls d _ H => E cls d H) := takes_of rfl rfl rfl rfl
    have pcD : Passes (L2.CX P w) (NdefX.ncx (L2.CX P w) P w K mg base ND (Sup.nfS m_Dials_init.name m_Dials_init.qual m_Dials_init.params m_Dials_init.body m_Dials_init.scope cc c) (He.ma K (CDl K) "__init__") A outer s H E) E := passes_call tkD fun _ _ _ _ h => h
    refine body_goA (N := ND) (Nat.le_of_ble_eq_true rfl) r ok q1 q2 ?_
    have gn := g.n
    unfold Dc at q
    refine sa_cons (s1_if (tw_not (tw_chain ?_)))
    refine ew_int (ew_len T.f_len (aw_cons ?_))
    walk_at "n"
    refine aw_nil (cl_lenT (od_le (isB ?_)))
    have perr : vs.length = 0 ∨ 6 < vs.length → SW (NdefX.ncx (L2.CX P w) P w K mg base ND (Sup.nfS m_Dials_init.name m_Dials_init.qual m_Dials_init.params m_Dials_init.body m_Dials_init.scope cc c) (He.ma K (CDl K) "__init__") A outer s H E) ⟨H, (y, Cell.ins (CDl K) []) :: cs1, E, KE⟩ (ifT ((defBody s_Dials_init).getD 0 noS)) ⟨startD ND [.own y, .tup vs], (y, Cell.ins (CDl K) []) :: cs1⟩ { nx := fun s' => SA (NdefX.ncx (L2.CX P w) P w K mg base ND (Sup.nfS m_Dials_init.name m_Dials_init.qual m_Dials_init.params m_Dials_init.body m_Dials_init.scope cc c) (He.ma K (CDl K) "__init__") A outer s H E) ⟨H, (y, Cell.ins (CDl K) []) :: cs1, E, KE⟩ (.func m_Dials_init.body (NdefX.envF (Sup.nfS m_Dials_init.name m_Dials_init.qual m_Dials_init.params m_Dials_init.body m_Dials_init.scope cc c) (He.ma K (CDl K) "__init__") s.heap.objs.size)) ((defBody s_Dials_init).drop 1) s' { nx := fun s => Kk .non s.cs, rt := fun d s => Kk d s.cs }, rt := fun d s => Kk d s.cs } := fun h => by
      rw [if_pos h] at q
      refine sw_cons ?_
      refine s1_raise1 T.o_BadRegister T.m_BadRegister_init.at_ T.t_BadRegister Fi (hr.mono (by decide)) Bi (by rfl) T.g_BadRegister rfl tkD ?_
      refine ew_str ?_
      exact q
    refine ⟨fun h1 => ?_, fun h1 => ?_⟩
    · have h1 := of_decide_eq_true h1
      refine ew_gint T.i_MOST_PERIODS (by rfl) (od_le (isB ⟨fun h2 => ?_, fun h2 => ?_⟩))
      · have h2 : decide ((vs.length : Int) ≤ 6) = false := by simpa using h2
        have h2 := of_decide_eq_false h2
        exact perr (.inr (by omega))
      · have h2 : decide ((vs.length : Int) ≤ 6) = true := by simpa using h2
        have h2 := of_decide_eq_true h2
        rw [if_neg (by omega)] at q
        refine sw_nil ?_
        refine sa_cons (s1_forE [3, 4] (passes_of rfl) rfl T.f_enumerate ?_)
        walk_at "n"
        refine ⟨vs, rfl, fun i s => badP vs 0 = badP (vs.drop i) i ∧ ∃ x3 x4, s = ⟨[some (.own y), some (.tup vs), none, x3, x4, none], (y, Cell.ins (CDl K) []) :: cs1⟩, ⟨rfl, none, none, rfl⟩, fun i d s' hd hI => ?_, fun s' hI => ?_⟩
        · obtain ⟨hb, x3, x4, rfl⟩ := hI
          have hi := (List.getElem?_eq_some_iff.mp hd).1
          have hv : vs[i] = d := (List.getElem?_eq_some_iff.mp hd).2
          have hb2 : badP vs 0 = if inR 2 1000 d = true then badP (vs.drop (i + 1)) (i + 1) else some i := by
            rw [hb, List.drop_eq_getElem_cons hi, hv]
            rfl
          refine tg_tup rfl (tgs_cons (tg_name 3 ndD rfl (.inl rfl) (tgs_cons (tg_name 4 ndD rfl (.inl rfl) (tgs_nil ?_)))))
          refine sw_cons (s1_if (tw_not ?_))
          refine tw_val (e := .Call _ _ _ _) ?_
          refine ew_call .same (d_within T) (hr.mono (by decide)) (by rfl) pcD ?_
          walk_at "x"
          refine ⟨d, _, _, rfl, g.pl d (List.mem_of_getElem? hd), isB ?_⟩
          by_cases f : inR 2 1000 d = true
          · rw [f]
            refine br_f (sw_nil (sw_nil ?_))
            exact ⟨by rw [hb2, if_pos f], _, _, rfl⟩
          · rw [show inR 2 1000 d = false by simpa using f]
            refine br_t (sw_cons ?_)
            refine s1_raise1 T.o_BadRegister T.m_BadRegister_init.at_ T.t_BadRegister Fi (hr.mono (by decide)) Bi (by rfl) T.g_BadRegister rfl tkD ?_
            walk_at "n"
            rw [hb2, if_neg f] at q
            exact q
        · obtain ⟨hb, x3, x4, rfl⟩ := hI
          have hb : badP vs 0 = none := by rw [hb, List.drop_length]; rfl
          rw [hb] at q
          obtain ⟨ps, rfl, hps⟩ := badP_none hb
          have q := q ps rfl hps
          rw [List.length_map] at h1 h2
          refine sa_cons (s1_set 5 ndD rfl (.inl rfl) (ew_int ?_))
          refine sa_cons (s1_forT [4] (passes_of rfl) rfl ?_)
          walk_at "n"
          refine ⟨ps.map dN, rfl, fun i s => ∃ x4, s = ⟨[some (.own y), some (.tup (ps.map dN)), none, x3, x4, some (dN (lcms (ps.take i)))], (y, Cell.ins (CDl K) []) :: cs1⟩, ⟨x4, rfl⟩, fun i d s' hd hI => ?_, fun s' hI => ?_⟩
          · obtain ⟨x4, rfl⟩ := hI
            rw [List.getElem?_map] at hd
            obtain ⟨p, hp, rfl⟩ : ∃ p, ps[i]? = some p ∧ d = dN p := by
              cases z : ps[i]? with
              | none => rw [z] at hd; cases hd
              | some p => rw [z] at hd; cases hd; exact ⟨p, rfl, rfl⟩
            obtain ⟨p2, p3⟩ := hps p (List.mem_of_getElem? hp)
            obtain ⟨Lp, Lb⟩ := lcms_bd hps i
            have hi2 := (List.getElem?_eq_some_iff.mp hp).1
            have Lb2 : lcms (ps.take i) ≤ 1000 ^ 5 := Nat.le_trans Lb (Nat.pow_le_pow_right (by decide) (by omega))
            have Lb3 : lcms (ps.take i) < 2 ^ 64 := Nat.lt_of_le_of_lt Lb2 (by decide)
            refine tg_name 4 ndD rfl (.inl rfl) ?_
            refine sw_cons (s1_set 5 ndD rfl (.inl rfl) ?_)
            refine ew_callF T.g_lcm (by rfl) (aw_cons ?_)
            walk_at "n"
            refine aw_cons ?_
            walk_at "n"
            refine aw_nil (cl_lcm Lp Lb3 (by omega) (by omega) ?_)
            refine sw_nil ⟨some (dN p), ?_⟩
            rw [lcms_next hp]
            rfl
          · obtain ⟨x4, rfl⟩ := hI
            rw [List.length_map, List.take_length]
            have Lg := lcms_ge (ps := ps) (by omega) hps
            have Lb : lcms ps ≤ 10 ^ 18 := by
              have z := (lcms_bd hps ps.length).2
              rw [List.take_length] at z
              exact Nat.le_trans z (Nat.le_trans (Nat.pow_le_pow_right (by decide) (show ps.length ≤ 6 by omega)) (by decide))
            refine sa_super 5 0 .same S px.opq rfl rfl rfl rfl rfl T.su1_Dials T.su2_Dials T.su3_Dials Fw (hr.mono (by decide)) Bw pcD (pv 5) ?_
            refine ⟨y, [], dN (lcms ps), rfl, rfl, rfl, y, CDl K, dN (lcms ps), cs1, rfl, rfl, T.c_Dials, T.n_Dials_modulus, trivial, fun _ => ?_, fun e => ?_⟩
            · refine sa_of (sw_cons (s1_fld T.c_Dials T.n_Dials_periods ?_))
              walk_at "n"
              walk_at "n"
              exact ⟨y, 0, _, rfl, rfl, (by show (1 : Nat) < 1000; decide), sw_nil q⟩
            · have e : (decide ((2 : Int) ≤ (lcms ps : Int)) && decide ((lcms ps : Int) ≤ 10 ^ 18)) = false := e
              rw [decide_eq_true (by omega), decide_eq_true (by omega)] at e
              cases e
    · have h1 := of_decide_eq_false h1
      exact br_t (perr (.inl (by omega)))
end
end K24
set_option Elab.async false
set_option linter.all false
set_option maxRecDepth 100000
set_option maxHeartbeats 2000000
/-! name = [..], on one line -/
namespace Sx
open PySem PySem.Spec PyProof.Rows L2
section
variable {X : Cx} {B : Bs} {ss : SS} {Q : D → SS → Prop} {k : Kt} {a b c e e2 o elt tg iter : Expr} {es ifs : List Expr} {pos p apos p' : Pos} {n : Nat} {scope : Scope}
theorem s1_lcL (i0_ : Nat) {y : Str} {py spos : Pos} (own : List (Str × Nat)) (jx : Nat) (hc : X.calm = true) (hN : X.N.Nodup) (hy : X.N[i0_]? = some y) (hyl : X.env.scope.names.lookup y = some .local) (ok : BlkOk X.N X.env.scope scope own)
    (h : EW X B iter ss fun d s => ∃ ds, d = .lst ds ∧ ds.length ≤ sizeLine ∧ ∃ Iv : Nat → List D → Cs → Prop, Iv 0 [] s.cs ∧
      (∀ j dj acc cs, ds[j]? = some dj → Iv j acc cs → acc.length ≤ j ∧ LcTurn X B scope elt tg ifs (own.map (·.2)) jx s.sl dj acc cs (Iv (j + 1))) ∧ ∀ acc cs, Iv ds.length acc cs → k.nx ⟨s.sl.set i0_ (some (.lst acc)), cs⟩)
    (hs : ∀ x, foldedSetIterable iter X.env x = pure x := by intro _; rfl) (hsw : swapsWith (.ListComp elt [⟨tg, iter, ifs, 0⟩] scope pos) (some (.Name y py)) spos.line X.env = pure true := by rfl) : S1 X B (.Assign [.Name y py] (.ListComp elt [⟨tg, iter, ifs, 0⟩] scope pos) spos) ss k :=
  ⟨PSimp (ps_setLc hc hN hy hyl hsw (pi_list h.p) ok pg_blk pt_blk pe_blk hs) fun Dd σ H ⟨s, kk, _⟩ => ⟨s, fun v d s1 H1 ⟨ds, q1, hl, Iv, i0, i1, i2⟩ sat1 e1 r1 => by
    subst q1
    cases r1 with
    | @lst a xs _ ea n r =>
      refine ⟨a, rfl, ⟨xs, SqL.of ea⟩, fun l hnew => ?_⟩
      refine lc_list (K := X.K) (a := a) (xs := xs) (fun i H' => ∃ acc cs, Iv i acc cs ∧ LcAt B s1.sl s1.cs H1 (own.map (·.2)) σ jx l acc cs H') ⟨[], s1.cs, i0, lc_start sat1 hnew⟩ (fun i H' _ ⟨acc, cs, _, st⟩ => SqL.of (st.ext.kp _ _ n ntL ea)) (fun i y H' hy ⟨acc, cs, q, st⟩ => ?_) fun H' ⟨acc, cs, q, st⟩ => ?_
      · obtain ⟨dj, hd, rd⟩ := r.back hy
        obtain ⟨hacc, turn⟩ := i1 i dj acc cs hd q
        have hi := (List.getElem?_eq_some_iff.mp hd).1
        exact lc_go (by omega) st (rd.ext st.ext) turn fun acc' cs' H'' nq st' => ⟨acc', cs', nq, st'⟩
      · rw [r.len] at q
        exact lc_end (ss := ss) (Q := fun d s' => k.nx ⟨s'.sl.set i0_ (some d), s'.cs⟩) (QQ := fun x H1 => Dd.nx (σ.set i0_ (some x)) H1) sat1 e1 st (fun v d ss' H' q sat e r => kk _ _ _ q (sat.set r) e) (i2 acc cs q)⟩⟩
theorem s1_lcT (i0_ : Nat) {y : Str} {py spos : Pos} (own : List (Str × Nat)) (jx : Nat) (hc : X.calm = true) (hN : X.N.Nodup) (hy : X.N[i0_]? = some y) (hyl : X.env.scope.names.lookup y = some .local) (ok : BlkOk X.N X.env.scope scope own)
    (h : EW X B iter ss fun d s => ∃ ds, d = .tup ds ∧ ds.length ≤ sizeLine ∧ ∃ Iv : Nat → List D → Cs → Prop, Iv 0 [] s.cs ∧
      (∀ j dj acc cs, ds[j]? = some dj → Iv j acc cs → acc.length ≤ j ∧ LcTurn X B scope elt tg ifs (own.map (·.2)) jx s.sl dj acc cs (Iv (j + 1))) ∧ ∀ acc cs, Iv ds.length acc cs → k.nx ⟨s.sl.set i0_ (some (.lst acc)), cs⟩)
    (hs : ∀ x, foldedSetIterable iter X.env x = pure x := by intro _; rfl) (hsw : swapsWith (.ListComp elt [⟨tg, iter, ifs, 0⟩] scope pos) (some (.Name y py)) spos.line X.env = pure true := by rfl) : S1 X B (.Assign [.Name y py] (.ListComp elt [⟨tg, iter, ifs, 0⟩] scope pos) spos) ss k :=
  ⟨PSimp (ps_setLc hc hN hy hyl hsw (pi_tup h.p) ok pg_blk pt_blk pe_blk hs) fun Dd σ H ⟨s, kk, _⟩ => ⟨s, fun v d s1 H1 ⟨ds, q1, hl, Iv, i0, i1, i2⟩ sat1 e1 r1 => by
    subst q1
    cases r1 with
    | @tup a xs _ ea n r =>
      refine ⟨a, rfl, ⟨xs, SqT.of ea⟩, fun l hnew => ?_⟩
      refine lc_tup (K := X.K) (a := a) (xs := xs) (fun i H' => ∃ acc cs, Iv i acc cs ∧ LcAt B s1.sl s1.cs H1 (own.map (·.2)) σ jx l acc cs H') ⟨[], s1.cs, i0, lc_start sat1 hnew⟩ (fun i H' _ ⟨acc, cs, _, st⟩ => SqT.of (st.ext.kp _ _ n ntT ea)) (fun i y H' hy ⟨acc, cs, q, st⟩ => ?_) fun H' ⟨acc, cs, q, st⟩ => ?_
      · obtain ⟨dj, hd, rd⟩ := r.back hy
        obtain ⟨hacc, turn⟩ := i1 i dj acc cs hd q
        have hi := (List.getElem?_eq_some_iff.mp hd).1
        exact lc_go (by omega) st (rd.ext st.ext) turn fun acc' cs' H'' nq st' => ⟨acc', cs', nq, st'⟩
      · rw [r.len] at q
        exact lc_end (ss := ss) (Q := fun d s' => k.nx ⟨s'.sl.set i0_ (some d), s'.cs⟩) (QQ := fun x H1 => Dd.nx (σ.set i0_ (some x)) H1) sat1 e1 st (fun v d ss' H' q sat e r => kk _ _ _ q (sat.set r) e) (i2 acc cs q)⟩⟩
theorem s1_lcR {rp rpos : Pos} (i0_ : Nat) {y : Str} {py spos : Pos} (own : List (Str × Nat)) (jx : Nat) (hc : X.calm = true) (hN : X.N.Nodup) (hy : X.N[i0_]? = some y) (hyl : X.env.scope.names.lookup y = some .local) (ok : BlkOk X.N X.env.scope scope own) (hm : X.mg "range" = none)
    (h : EW X B a ss fun d s => ∃ n : Nat, d = .int (n : Int) ∧ n ≤ 10000 ∧ ∃ Iv : Nat → List D → Cs → Prop, Iv 0 [] s.cs ∧
      (∀ j acc cs, j < n → Iv j acc cs → acc.length ≤ j ∧ LcTurn X B scope elt tg ifs (own.map (·.2)) jx s.sl (.int (j : Int)) acc cs (Iv (j + 1))) ∧ ∀ acc cs, Iv n acc cs → k.nx ⟨s.sl.set i0_ (some (.lst acc)), cs⟩)
    (hg : Gl X "range" := by rfl) (hse : starEach [a] X.env = [(false, eval a X.env)] := by rfl)
    (hs : ∀ x, foldedSetIterable (.Call (.Name "range" rp) [a] [] rpos) X.env x = pure x := by intro _; rfl) (hsw : swapsWith (.ListComp elt [⟨tg, .Call (.Name "range" rp) [a] [] rpos, ifs, 0⟩] scope pos) (some (.Name y py)) spos.line X.env = pure true := by rfl) : S1 X B (.Assign [.Name y py] (.ListComp elt [⟨tg, .Call (.Name "range" rp) [a] [] rpos, ifs, 0⟩] scope pos) spos) ss k :=
  ⟨PSimp (ps_setLc hc hN hy hyl hsw (pi_range1 hg hm (pa_cons h.p pa_nil hse) hse) ok pg_blk pt_blk pe_blk hs) fun Dd σ H ⟨s, kk, _⟩ => ⟨s, fun v d s1 H1 ⟨n, q1, hl, Iv, i0, i1, i2⟩ sat1 e1 r1 => by
    subst q1
    cases r1
    refine ⟨(n : Int), rfl, by omega, by omega, fun l hnew => ?_⟩
    refine lc_range (lo := 0) (n := n) (fun i H' => ∃ acc cs, Iv i acc cs ∧ LcAt B s1.sl s1.cs H1 (own.map (·.2)) σ jx l acc cs H') ⟨[], s1.cs, i0, lc_start sat1 hnew⟩ (fun i H' hi ⟨acc, cs, q, st⟩ => ?_) fun H' ⟨acc, cs, q, st⟩ => ?_
    · obtain ⟨hacc, turn⟩ := i1 i acc cs hi q
      have z := lc_go (v := .int (i : Int)) (szt (by omega)) st (.int _) turn fun acc' cs' H'' nq st' => (⟨acc', cs', nq, st'⟩ : ∃ acc cs, Iv (i + 1) acc cs ∧ LcAt B s1.sl s1.cs H1 (own.map (·.2)) σ jx l acc cs H'')
      rw [Int.zero_add]
      exact z
    · exact lc_end (ss := ss) (Q := fun d s' => k.nx ⟨s'.sl.set i0_ (some d), s'.cs⟩) (QQ := fun x H1 => Dd.nx (σ.set i0_ (some x)) H1) sat1 e1 st (fun v d ss' H' q sat e r => kk _ _ _ q (sat.set r) e) (i2 acc cs q)⟩⟩
theorem s1_lcR2 {rp rpos : Pos} (i0_ : Nat) {y : Str} {py spos : Pos} (own : List (Str × Nat)) (jx : Nat) (hc : X.calm = true) (hN : X.N.Nodup) (hy : X.N[i0_]? = some y) (hyl : X.env.scope.names.lookup y = some .local) (ok : BlkOk X.N X.env.scope scope own) (hm : X.mg "range" = none)
    (h : AW X B [a, b] ss fun ds s => ∃ (lo : Int) (n : Nat), ds = [.int lo, .int (lo + n)] ∧ -10 ^ 15 ≤ lo ∧ lo ≤ 10 ^ 15 ∧ n ≤ 10000 ∧ ∃ Iv : Nat → List D → Cs → Prop, Iv 0 [] s.cs ∧
      (∀ j acc cs, j < n → Iv j acc cs → acc.length ≤ j ∧ LcTurn X B scope elt tg ifs (own.map (·.2)) jx s.sl (.int (lo + j)) acc cs (Iv (j + 1))) ∧ ∀ acc cs, Iv n acc cs → k.nx ⟨s.sl.set i0_ (some (.lst acc)), cs⟩)
    (hg : Gl X "range" := by rfl) (hse : starEach [a, b] X.env = [(false, eval a X.env), (false, eval b X.env)] := by rfl) (hse2 : starEach [b] X.env = [(false, eval b X.env)] := by rfl)
    (hs : ∀ x, foldedSetIterable (.Call (.Name "range" rp) [a, b] [] rpos) X.env x = pure x := by intro _; rfl) (hsw : swapsWith (.ListComp elt [⟨tg, .Call (.Name "range" rp) [a, b] [] rpos, ifs, 0⟩] scope pos) (some (.Name y py)) spos.line X.env = pure true := by rfl) : S1 X B (.Assign [.Name y py] (.ListComp elt [⟨tg, .Call (.Name "range" rp) [a, b] [] rpos, ifs, 0⟩] scope pos) spos) ss k :=
  ⟨PSimp (ps_setLc hc hN hy hyl hsw (pi_range2 hg hm h.p hse hse2) ok pg_blk pt_blk pe_blk hs) fun Dd σ H ⟨s, kk, _⟩ => ⟨s, fun vs ds s1 H1 ⟨lo, n, q1, l1, l2, hl, Iv, i0, i1, i2⟩ sat1 e1 r1 => by
    subst q1
    obtain ⟨v, u, rfl, r1, r2⟩ := vl2 r1
    cases r1
    cases r2
    have en : (lo + n - lo).toNat = n := by omega
    refine ⟨lo, lo + n, rfl, ⟨by omega, by omega, by omega, by omega⟩, fun l hnew => ?_⟩
    rw [en]
    refine lc_range (lo := lo) (n := n) (fun i H' => ∃ acc cs, Iv i acc cs ∧ LcAt B s1.sl s1.cs H1 (own.map (·.2)) σ jx l acc cs H') ⟨[], s1.cs, i0, lc_start sat1 hnew⟩ (fun i H' hi ⟨acc, cs, q, st⟩ => ?_) fun H' ⟨acc, cs, q, st⟩ => ?_
    · obtain ⟨hacc, turn⟩ := i1 i acc cs hi q
      exact lc_go (v := .int (lo + i)) (szt (by omega)) st (.int _) turn fun acc' cs' H'' nq st' => ⟨acc', cs', nq, st'⟩
    · exact lc_end (ss := ss) (Q := fun d s' => k.nx ⟨s'.sl.set i0_ (some d), s'.cs⟩) (QQ := fun x H1 => Dd.nx (σ.set i0_ (some x)) H1) sat1 e1 st (fun v d ss' H' q sat e r => kk _ _ _ q (sat.set r) e) (i2 acc cs q)⟩⟩
theorem s1_lcZ {rp rpos tpos : Pos} {elts : List Expr} {kk : Nat} (i0_ : Nat) {y : Str} {py spos : Pos} (own : List (Str × Nat)) (jx : Nat) (hc : X.calm = true) (hN : X.N.Nodup) (hy : X.N[i0_]? = some y) (hyl : X.env.scope.names.lookup y = some .local) (ok : BlkOk X.N X.env.scope scope own) (hm : X.mg "zip" = none)
    (h : AW X B [a, b] ss fun ds s => ∃ d1 d2 : List D, ds = [.tup d1, .tup d2] ∧ d1.length ≤ 10000 ∧ ∃ Iv : Nat → List D → Cs → Prop, Iv 0 [] s.cs ∧
      (∀ j x1 x2 acc cs, d1[j]? = some x1 → d2[j]? = some x2 → Iv j acc cs → acc.length ≤ j ∧ LcTurn X B scope elt (.Tuple elts kk tpos) ifs (own.map (·.2)) jx s.sl (.tup [x1, x2]) acc cs (Iv (j + 1))) ∧ ∀ acc cs, Iv (min d1.length d2.length) acc cs → k.nx ⟨s.sl.set i0_ (some (.lst acc)), cs⟩)
    (hg : Gl X "zip" := by rfl) (hse : starEach [a, b] X.env = (false, eval a X.env) :: starEach [b] X.env := by rfl) (hpl : (backTo rpos (starEach [b] X.env)).any (·.1) = false := by rfl)
    (hs : ∀ x, foldedSetIterable (.Call (.Name "zip" rp) [a, b] [] rpos) X.env x = pure x := by intro _; rfl) (hsw : swapsWith (.ListComp elt [⟨.Tuple elts kk tpos, .Call (.Name "zip" rp) [a, b] [] rpos, ifs, 0⟩] scope pos) (some (.Name y py)) spos.line X.env = pure true := by rfl) : S1 X B (.Assign [.Name y py] (.ListComp elt [⟨.Tuple elts kk tpos, .Call (.Name "zip" rp) [a, b] [] rpos, ifs, 0⟩] scope pos) spos) ss k :=
  ⟨PSimp (ps_setLc hc hN hy hyl hsw (RZ.pi_zipA hg hm h.p hse hpl) ok pg_blk pt_blk pe_blk hs) fun Dd σ H ⟨s, kk, _⟩ => ⟨s, fun vs ds s1 H1 ⟨d1, d2, q1, hl, Iv, i0, i1, i2⟩ sat1 e1 r1 => by
    subst q1
    obtain ⟨v, u, rfl, r1, r2⟩ := vl2 r1
    cases r1 with
    | @tup a xs _ ea na ra =>
      cases r2 with
      | @tup b ys _ eb nb rb =>
        refine ⟨a, b, xs, ys, rfl, .inr ⟨SqT.of ea, SqT.of eb, fun l hnew => ?_⟩⟩
        refine lc_it (walk_zT (n := min d1.length d2.length) (by rw [ra.len, rb.len])) (fun i H' => ∃ acc cs, Iv i acc cs ∧ LcAt B s1.sl s1.cs H1 (own.map (·.2)) σ jx l acc cs H') ⟨[], s1.cs, i0, lc_start sat1 hnew⟩ (fun i H' _ ⟨acc, cs, _, st⟩ => ⟨SqT.of (st.ext.kp _ _ na ntT ea), SqT.of (st.ext.kp _ _ nb ntT eb)⟩) (fun i y H' H2 hi ⟨acc, cs, q, st⟩ hy => ?_) fun H' ⟨acc, cs, q, st⟩ => ?_
        · obtain ⟨T, x0, y0, rfl, hT, rfl, hx, hy⟩ := hy
          obtain ⟨x1, hx1, rx⟩ := ra.back hx
          obtain ⟨x2, hx2, ry⟩ := rb.back hy
          obtain ⟨hacc, turn⟩ := i1 i x1 x2 acc cs hx1 hx2 q
          have S := Pre.Same.upd (o := .tup [x0, y0]) hT
          have st2 : LcAt B s1.sl s1.cs H1 (own.map (·.2)) σ jx l acc cs (upd H' T (.tup [x0, y0])) := ⟨st.sat.same S, st.ext.trans (Ext.same S)⟩
          exact lc_go (v := .ref T) (szt (by omega)) st2 (.tup upd_same (st.sat.new hT) (.cons (rx.ext st2.ext) (.cons (ry.ext st2.ext) .nil))) turn fun acc' cs' H'' nq st' => ⟨acc', cs', nq, st'⟩
        · exact lc_end (ss := ss) (Q := fun d s' => k.nx ⟨s'.sl.set i0_ (some d), s'.cs⟩) (QQ := fun x H1 => Dd.nx (σ.set i0_ (some x)) H1) sat1 e1 st (fun v d ss' H' q sat e r => kk _ _ _ q (sat.set r) e) (i2 acc cs q)⟩⟩
end
end Sx
set_option Elab.async false
set_option linter.all false
set_option maxRecDepth 100000
set_option maxHeartbeats 4000000
namespace K24
open PySem PySem.Spec PyProof.Rows L2 Sx
local macro_rules | `(tactic| walk_at "c") => `(tactic| first
  | refine aw_cons ?_ | refine aw_nil ?_
  | refine ew_int ?_ | refine ew_non ?_ | refine ew_bl ?_ | refine ew_str ?_
  | refine ew_bin ?_ | refine ew_cmp ?_ | refine tw_cmp ?_ | refine tw_not ?_ | refine ew_chain ?_ | refine tw_chain ?_ | refine ew_and ?_ | refine ew_or ?_ | refine ew_one ?_ | refine ew_not ?_ | refine ew_neg ?_ | refine ew_if ?_
  | refine tw_w (ww_and ?_) | refine tw_w (ww_or ?_) | refine ww_and ?_ | refine ww_or ?_ | refine ww_and1 ?_ | refine ww_or1 ?_
  | refine tw_val (e := .Call _ _ _ _) ?_ | refine ew_tup ?_ | refine ew_ix ?_ | refine ew_lst ?_
  | refine sw_cons ?_ | refine s1_ret ?_ | refine s1_if ?_ | refine sw_nil ?_ | refine s1_expr ?_
  | refine od_add ?_ | refine od_sub ?_ | refine od_lt ?_ | refine od_le ?_ | refine od_gt ?_ | refine od_ge ?_
  | refine isB ?_ | refine intD ?_ | refine br_t ?_ | refine br_f ?_
  | refine ⟨szl (Nat.le_of_ble_eq_true rfl), ?_⟩)
local macro_rules | `(tactic| walk_at "n") => `(tactic| first
  | refine ew_name 0 rfl (by first | exact .inl rfl | exact .inr (.inl rfl) | exact .inr (.inr rfl)) rfl ?_
  | refine ew_name 1 rfl (by first | exact .inl rfl | exact .inr (.inl rfl) | exact .inr (.inr rfl)) rfl ?_
  | refine ew_name 2 rfl (by first | exact .inl rfl | exact .inr (.inl rfl) | exact .inr (.inr rfl)) rfl ?_
  | refine ew_name 3 rfl (by first | exact .inl rfl | exact .inr (.inl rfl) | exact .inr (.inr rfl)) rfl ?_
  | refine ew_name 4 rfl (by first | exact .inl rfl | exact .inr (.inl rfl) | exact .inr (.inr rfl)) rfl ?_
  | refine ew_name 5 rfl (by first | exact .inl rfl | exact .inr (.inl rfl) | exact .inr (.inr rfl)) rfl ?_
  | refine ew_name 6 rfl (by first | exact .inl rfl | exact .inr (.inl rfl) | exact .inr (.inr rfl)) rfl ?_
  | refine ew_name 7 rfl (by first | exact .inl rfl | exact .inr (.inl rfl) | exact .inr (.inr rfl)) rfl ?_
  | refine ew_name 8 rfl (by first | exact .inl rfl | exact .inr (.inl rfl) | exact .inr (.inr rfl)) rfl ?_
  | refine ew_name 9 rfl (by first | exact .inl rfl | exact .inr (.inl rfl) | exact .inr (.inr rfl)) rfl ?_
  | refine ew_name 10 rfl (by first | exact .inl rfl | exact .inr (.inl rfl) | exact .inr (.inr rfl)) rfl ?_
  | refine ew_name 11 rfl (by first | exact .inl rfl | exact .inr (.inl rfl) | exact .inr (.inr rfl)) rfl ?_
  | refine ew_name 12 rfl (by first | exact .inl rfl | exact .inr (.inl rfl) | exact .inr (.inr rfl)) rfl ?_)
local macro_rules | `(tactic| walk_at "i") => `(tactic| (refine' cl_isi (.ty _) ?a ?b ?_; (case a => constructor); (case b => with_reducible first | exact kit_int_int | exact kit_int_bool | exact kit_bool_int | exact kit_bool_bool | exact kit_NoneType_int | exact kit_str_int | exact kit_list_int | exact kit_tuple_int | exact kit_dict_int | exact kit_tuple_tuple | exact kit_int_tuple | exact kit_NoneType_tuple | exact kit_bool_tuple | exact kit_str_tuple | exact kit_list_tuple | exact kit_dict_tuple)))
local macro_rules | `(tactic| walk_at "l") => `(tactic| first
  | refine ew_isinstance (Tx.f_isinstance (by assumption)) ?_ | refine ew_len (Tx.f_len (by assumption)) ?_ | refine ew_vint (Tx.f_int (by assumption)) ?_ | refine ew_vbool (Tx.f_bool (by assumption)) ?_ | refine ew_vtuple (Tx.f_tuple (by assumption)) ?_ | refine ew_vstr (Tx.f_str (by assumption)) ?_
  | refine ew_gint (Tx.i_MOST_PERIOD (by assumption)) (by rfl) ?_ | refine ew_gint (Tx.i_DIGITS (by assumption)) (by rfl) ?_ | refine ew_gint (Tx.i_FAR (by assumption)) (by rfl) ?_ | refine ew_gint (Tx.i_MOST_MODULUS (by assumption)) (by rfl) ?_ | refine ew_gint (Tx.i_MOST_PERIODS (by assumption)) (by rfl) ?_
  | refine cl_len ?_ | refine cl_lenT ?_ | refine ix_tpl rfl ?_ | refine od_is (by intro _ h; cases h) ?_)
local macro_rules | `(tactic| walk_at "x") => `(tactic| repeat (first | walk_at "c" | walk_at "n" | walk_at "l" | walk_at "i"))
def fitN (t s p : Nat) (r : Int) (k : Nat) : Bool := decide (((t + k * s : Nat) : Int) % (p : Int) = r)
def ltGo : List Nat → List Int → Nat → Nat → Option Nat
  | p :: ps, r :: rs, t, s => match (List.range p).find? (fitN t s p r) with
    | none => none
    | some k => ltGo ps rs (t + k * s) (Nat.lcm s p)
  | _, _, t, _ => some t
def leastN (ps : List Nat) (rs : List Int) : Option Nat := ltGo ps rs 0 1
def optD : Option Nat → D
  | none => .non
  | some n => dN n
/-- the totals that fit, of the first j -/
def fitL (t s p : Nat) (r : Int) (j : Nat) : List D := ((List.range j).filter (fitN t s p r)).map fun k => dN (t + k * s)
theorem fitL_next (t s p : Nat) (r : Int) (j : Nat) : fitL t s p r (j + 1) = fitL t s p r j ++ (if fitN t s p r j = true then [dN (t + j * s)] else []) := by
  unfold fitL
  rw [List.range_succ, List.filter_append, List.map_append]
  congr 1
  by_cases h : fitN t s p r j = true
  · rw [if_pos h, List.filter_cons_of_pos h]
    rfl
  · rw [if_neg h, List.filter_cons_of_neg h]
    rfl
theorem fitL_len (t s p : Nat) (r : Int) (j : Nat) : (fitL t s p r j).length ≤ j := by
  unfold fitL
  rw [List.length_map]
  have := List.length_filter_le (fitN t s p r) (List.range j)
  rw [List.length_range] at this
  exact this
theorem fitL_find (t s p : Nat) (r : Int) : (fitL t s p r p = [] ∧ (List.range p).find? (fitN t s p r) = none) ∨ ∃ k rest, fitL t s p r p = dN (t + k * s) :: rest ∧ (List.range p).find? (fitN t s p r) = some k ∧ k < p := by
  unfold fitL
  have hh := List.head?_filter (p := fitN t s p r) (l := List.range p)
  cases q : (List.range p).filter (fitN t s p r) with
  | nil =>
    rw [q] at hh
    exact .inl ⟨rfl, hh.symm⟩
  | cons k rest =>
    rw [q] at hh
    have m : k ∈ (List.range p).filter (fitN t s p r) := by rw [q]; exact List.mem_cons_self
    exact .inr ⟨k, rest.map fun k => dN (t + k * s), rfl, hh.symm, List.mem_range.mp (List.mem_filter.mp m).1⟩
section
variable {P : Program} {w : World} {K : PySem.W.Frag} {mg : Str → Option Value} {base : Heap}
def F_least : FT := fun ds cs Kk _ => ∃ (ps : List Nat) (rs : List Int), ds = [.tup (ps.map dN), .tup (rs.map D.int)] ∧ ps.length ≤ 6 ∧ (∀ p ∈ ps, 2 ≤ p ∧ p ≤ 1000) ∧ rs.length = ps.length ∧ Kk (optD (leastN ps rs)) cs
def NE : List Str := ["periods", "rests", "total", "step", "period", "rest", "fits", "k"]
theorem ndE : NE.Nodup := by decide +kernel
theorem d_least (T : Tx K mg) : Dfs.Dfn P w K mg base (L2.CX P w) 1 "least_total" ["periods", "rests"] (spF F_least) := by
  refine dfnF T.q_least_total T.g_least_total (N := NE) ⟨rfl, rfl, rfl, ndE, rfl, by decide +kernel, by decide +kernel⟩ (fun kV doc pm an cdv ct => Vls.bind2 fun a b => rfl) (fun ds cs Kk KE h => ?_) (fun cdv A outer s H E ds cs Kk KE hr h => ?_)
  · obtain ⟨_, _, rfl, _⟩ := h
    rfl
  · obtain ⟨ps, rs, rfl, hn, hp, hl, q⟩ := h
    refine sw_cons (s1_asg (vs := [2, 3]) ?_)
    refine ew_tup (aw_cons (ew_int (aw_cons (ew_int (aw_nil ⟨szl (Nat.le_of_ble_eq_true rfl), ?_⟩)))))
    refine tg_tup rfl (tgs_cons (tg_name 2 ndE rfl (.inr rfl) (tgs_cons (tg_name 3 ndE rfl (.inr rfl) (tgs_nil ?_)))))
    refine sw_cons (s1_forZ [4, 5] (passes_of rfl) rfl T.f_zip (aw_cons ?_))
    walk_at "n"
    refine aw_cons ?_
    walk_at "n"
    refine aw_nil ⟨_, _, rfl, fun i s => ∃ (t sp : Nat) (x4 x5 x6 : Option D), s = ⟨[some (.tup (ps.map dN)), some (.tup (rs.map D.int)), some (dN t), some (dN sp), x4, x5, x6, none], cs⟩ ∧ sp = lcms (ps.take i) ∧ leastN ps rs = ltGo (ps.drop i) (rs.drop i) t sp, ⟨0, 1, none, none, none, rfl, rfl, rfl⟩, fun i d1 d2 s' h1 h2 hI => ?_, fun s' hI => ?_⟩
    · obtain ⟨t, sp, x4, x5, x6, rfl, rfl, hg⟩ := hI
      rw [List.getElem?_map] at h1 h2
      obtain ⟨p, hp1, rfl⟩ : ∃ p, ps[i]? = some p ∧ d1 = dN p := by
        cases z : ps[i]? with
        | none => rw [z] at h1; cases h1
        | some p => rw [z] at h1; cases h1; exact ⟨p, rfl, rfl⟩
      obtain ⟨r, hr1, rfl⟩ : ∃ r, rs[i]? = some r ∧ d2 = .int r := by
        cases z : rs[i]? with
        | none => rw [z] at h2; cases h2
        | some p => rw [z] at h2; cases h2; exact ⟨p, rfl, rfl⟩
      obtain ⟨p2, p3⟩ := hp p (List.mem_of_getElem? hp1)
      have hi := (List.getElem?_eq_some_iff.mp hp1).1
      obtain ⟨Lp, Lb⟩ := lcms_bd hp i
      have Lb2 : lcms (ps.take i) ≤ 1000 ^ 5 := Nat.le_trans Lb (Nat.pow_le_pow_right (by decide) (by omega))
      have Lb3 : lcms (ps.take i) < 2 ^ 63 := Nat.lt_of_le_of_lt Lb2 (by decide)
      have nx := lcms_next hp1
      generalize lcms (ps.take i) = L at Lp Lb3 nx hg ⊢
      have hg2 : leastN ps rs = match (List.range p).find? (fitN t L p r) with
          | none => none
          | some k => ltGo (ps.drop (i + 1)) (rs.drop (i + 1)) (t + k * L) (Nat.lcm L p) := by
        rw [hg, List.drop_eq_getElem_cons hi, List.drop_eq_getElem_cons (by omega : i < rs.length), (List.getElem?_eq_some_iff.mp hp1).2, (List.getElem?_eq_some_iff.mp hr1).2]
        rfl
      refine tg_tup rfl (tgs_cons (tg_name 4 ndE rfl (.inr rfl) (tgs_cons (tg_name 5 ndE rfl (.inr rfl) (tgs_nil ?_)))))
      refine sw_cons (s1_lcR 6 [("k", 7)] 0 rfl ndE rfl rfl (Vls.blk_by (N := NE) (sc := defScope s_least_total) (by decide +kernel)) T.f_range ?_)
      walk_at "n"
      refine ⟨p, rfl, by omega, fun j acc cs' => cs' = cs ∧ acc = fitL t L p r j, ⟨rfl, rfl⟩, fun j acc cs' hj hI => ?_, fun acc cs' hI => ?_⟩
      · obtain ⟨rfl, rfl⟩ := hI
        have cm : CMul ((j : Nat) : Int) ((L : Nat) : Int) := .inl ⟨by omega, by omega⟩
        refine ⟨fitL_len _ _ _ _ _, fun lx _ _ _ _ _ => ?_⟩
        refine tg_name 7 ndE rfl (.inl rfl) ?_
        intro _ _ _ _ _
        refine ts_one (tw_cmp (ew_bin (ew_bin ?_)))
        walk_at "n"
        refine ew_bin ?_
        walk_at "n"
        walk_at "n"
        refine od_mul cm (od_add ?_)
        walk_at "n"
        refine od_mod (by omega) ?_
        walk_at "n"
        refine od_eq hr.units (by rfl) (by rfl) ?_
        have e : D.eqv (.int ((((t : Nat) : Int) + (j : Int) * (L : Int)) % (p : Int))) (.int r) = fitN t L p r j := by
          rw [eqv_int]
          unfold fitN
          rw [Int.natCast_add, Int.natCast_mul]
        rw [e]
        refine isB ⟨fun hf => ?_, fun hf => ?_⟩
        · intro _ _ _ _ _
          refine ew_bin ?_
          walk_at "n"
          refine ew_bin ?_
          walk_at "n"
          walk_at "n"
          refine od_mul cm (od_add ?_)
          refine ⟨cs', rfl, rfl, ?_⟩
          rw [fitL_next, if_pos hf]
          unfold dN
          rw [Int.natCast_add, Int.natCast_mul]
        · refine ⟨cs', rfl, rfl, ?_⟩
          rw [fitL_next, if_neg (by rw [hf]; simp), List.append_nil]
      · obtain ⟨rfl, rfl⟩ := hI
        refine sw_cons (s1_if (tw_not (tw_truth ?_)))
        walk_at "n"
        rcases fitL_find t L p r with ⟨f1, f2⟩ | ⟨k, rest, f1, f2, f3⟩
        · rw [f1]
          rw [f2] at hg2
          refine br_t (sw_cons (s1_ret (ew_non ?_)))
          have hg2 : leastN ps rs = none := hg2
          rw [hg2] at q
          exact q
        · rw [f1]
          rw [f2] at hg2
          refine br_f (sw_nil (sw_cons (s1_set 2 ndE rfl (.inr rfl) (ew_ix ?_))))
          walk_at "n"
          refine ew_int (ix_lst (d := dN (t + k * L)) (atI_nat (j := 0) rfl) ?_)
          refine sw_cons (s1_set 3 ndE rfl (.inr rfl) ?_)
          refine ew_callF T.g_lcm (by rfl) (aw_cons ?_)
          walk_at "n"
          refine aw_cons ?_
          walk_at "n"
          refine aw_nil (cl_lcm Lp (by omega) (by omega) (by omega) ?_)
          exact sw_nil ⟨t + k * L, Nat.lcm L p, _, _, _, rfl, nx.symm, hg2⟩
    · obtain ⟨t, sp, x4, x5, x6, rfl, rfl, hg⟩ := hI
      rw [List.length_map, List.length_map, hl, Nat.min_self, List.drop_length, List.drop_eq_nil_of_le (by omega)] at hg
      refine sw_cons (s1_ret ?_)
      walk_at "n"
      have hg : leastN ps rs = some t := hg
      rw [hg] at q
      exact q
end
end K24
set_option Elab.async false
set_option linter.all false
set_option maxRecDepth 100000
set_option maxHeartbeats 4000000
namespace K24
open PySem PySem.Spec PyProof.Rows L2 Sx
local macro_rules | `(tactic| walk_at "c") => `(tactic| first
  | refine aw_cons ?_ | refine aw_nil ?_
  | refine ew_int ?_ | refine ew_non ?_ | refine ew_bl ?_ | refine ew_str ?_
  | refine ew_bin ?_ | refine ew_cmp ?_ | refine tw_cmp ?_ | refine tw_not ?_ | refine ew_chain ?_ | refine tw_chain ?_ | refine ew_and ?_ | refine ew_or ?_ | refine ew_one ?_ | refine ew_not ?_ | refine ew_neg ?_ | refine ew_if ?_
  | refine tw_w (ww_and ?_) | refine tw_w (ww_or ?_) | refine ww_and ?_ | refine ww_or ?_ | refine ww_and1 ?_ | refine ww_or1 ?_
  | refine tw_val (e := .Call _ _ _ _) ?_ | refine ew_tup ?_ | refine ew_ix ?_ | refine ew_lst ?_
  | refine sw_cons ?_ | refine s1_ret ?_ | refine s1_if ?_ | refine sw_nil ?_ | refine s1_expr ?_
  | refine od_add ?_ | refine od_sub ?_ | refine od_lt ?_ | refine od_le ?_ | refine od_gt ?_ | refine od_ge ?_
  | refine isB ?_ | refine intD ?_ | refine br_t ?_ | refine br_f ?_
  | refine ⟨szl (Nat.le_of_ble_eq_true rfl), ?_⟩)
local macro_rules | `(tactic| walk_at "n") => `(tactic| first
  | refine ew_name 0 rfl (by first | exact .inl rfl | exact .inr (.inl rfl) | exact .inr (.inr rfl)) rfl ?_
  | refine ew_name 1 rfl (by first | exact .inl rfl | exact .inr (.inl rfl) | exact .inr (.inr rfl)) rfl ?_
  | refine ew_name 2 rfl (by first | exact .inl rfl | exact .inr (.inl rfl) | exact .inr (.inr rfl)) rfl ?_
  | refine ew_name 3 rfl (by first | exact .inl rfl | exact .inr (.inl rfl) | exact .inr (.inr rfl)) rfl ?_
  | refine ew_name 4 rfl (by first | exact .inl rfl | exact .inr (.inl rfl) | exact .inr (.inr rfl)) rfl ?_
  | refine ew_name 5 rfl (by first | exact .inl rfl | exact .inr (.inl rfl) | exact .inr (.inr rfl)) rfl ?_
  | refine ew_name 6 rfl (by first | exact .inl rfl | exact .inr (.inl rfl) | exact .inr (.inr rfl)) rfl ?_
  | refine ew_name 7 rfl (by first | exact .inl rfl | exact .inr (.inl rfl) | exact .inr (.inr rfl)) rfl ?_
  | refine ew_name 8 rfl (by first | exact .inl rfl | exact .inr (.inl rfl) | exact .inr (.inr rfl)) rfl ?_
  | refine ew_name 9 rfl (by first | exact .inl rfl | exact .inr (.inl rfl) | exact .inr (.inr rfl)) rfl ?_
  | refine ew_name 10 rfl (by first | exact .inl rfl | exact .inr (.inl rfl) | exact .inr (.inr rfl)) rfl ?_
  | refine ew_name 11 rfl (by first | exact .inl rfl | exact .inr (.inl rfl) | exact .inr (.inr rfl)) rfl ?_
  | refine ew_name 12 rfl (by first | exact .inl rfl | exact .inr (.inl rfl) | exact .inr (.inr rfl)) rfl ?_)
local macro_rules | `(tactic| walk_at "i") => `(tactic| (refine' cl_isi (.ty _) ?a ?b ?_; (case a => constructor); (case b => with_reducible first | exact kit_int_int | exact kit_int_bool | exact kit_bool_int | exact kit_bool_bool | exact kit_NoneType_int | exact kit_str_int | exact kit_list_int | exact kit_tuple_int | exact kit_dict_int | exact kit_tuple_tuple | exact kit_int_tuple | exact kit_NoneType_tuple | exact kit_bool_tuple | exact kit_str_tuple | exact kit_list_tuple | exact kit_dict_tuple)))
local macro_rules | `(tactic| walk_at "l") => `(tactic| first
  | refine ew_isinstance (Tx.f_isinstance (by assumption)) ?_ | refine ew_len (Tx.f_len (by assumption)) ?_ | refine ew_vint (Tx.f_int (by assumption)) ?_ | refine ew_vbool (Tx.f_bool (by assumption)) ?_ | refine ew_vtuple (Tx.f_tuple (by assumption)) ?_ | refine ew_vstr (Tx.f_str (by assumption)) ?_
  | refine ew_gint (Tx.i_MOST_PERIOD (by assumption)) (by rfl) ?_ | refine ew_gint (Tx.i_DIGITS (by assumption)) (by rfl) ?_ | refine ew_gint (Tx.i_FAR (by assumption)) (by rfl) ?_ | refine ew_gint (Tx.i_MOST_MODULUS (by assumption)) (by rfl) ?_ | refine ew_gint (Tx.i_MOST_PERIODS (by assumption)) (by rfl) ?_
  | refine cl_len ?_ | refine cl_lenT ?_ | refine ix_tpl rfl ?_ | refine od_is (by intro _ h; cases h) ?_)
local macro_rules | `(tactic| walk_at "x") => `(tactic| repeat (first | walk_at "c" | walk_at "n" | walk_at "l" | walk_at "i"))
def CK (K : PySem.W.Frag) : Kd → Addr
  | .pl => CPl K
  | .rs => CRs K
  | .md _ => CMd K
  | .dl _ => CDl K
/-- bounds of a kind -/
def Kd.Good : Kd → Prop
  | .pl => True
  | .rs => True
  | .md m => 2 ≤ m ∧ m ≤ 10 ^ 18
  | .dl ps => 1 ≤ ps.length ∧ ps.length ≤ 6 ∧ ∀ p ∈ ps, 2 ≤ p ∧ p ≤ 1000
/-- the reading of a total -/
def shD : Kd → Int → Int → D
  | .pl, i, _ => .int i
  | .rs, i, j => .tup [.int j, .int i]
  | .md m, i, _ => .int (i % (m : Int))
  | .dl ps, i, _ => .tup (ps.map fun p : Nat => .int (i % ((p : Nat) : Int)))
/-- no attribute of an instance hides its class's -/
theorem isI_k {K : PySem.W.Frag} {m : Str} {cs : Cs} (k : Kd) (h1 : m ≠ "modulus") (h2 : m ≠ "periods") : IsI (CK K k) m (rO K k) cs := by
  have e1 : (m == ("modulus" : Str)) = false := beq_eq_false_iff_ne.mpr h1
  have e2 : (m == ("periods" : Str)) = false := beq_eq_false_iff_ne.mpr h2
  cases k with
  | pl => exact .obj (by simp [List.lookup, e1])
  | rs => exact .obj (by simp [List.lookup, e1])
  | md m => exact .obj (by simp [List.lookup, e1])
  | dl ps => exact .obj (by simp [List.lookup, e1, e2])
section
variable {P : Program} {w : World} {K : PySem.W.Frag} {mg : Str → Option Value} {base : Heap}
def F_cshown (K : PySem.W.Frag) : FT := fun ds cs Kk KE => ∃ t l, ds = [t, l] ∧ Pln t ∧ Pln l ∧ (inR 0 (10 ^ 40) t = false → KE (He.ga K "BadNumber") [("value", t)] cs) ∧
  (inR 0 (10 ^ 40) t = true → inR 0 (10 ^ 40) l = false → KE (He.ga K "BadNumber") [("value", l)] cs) ∧ (inR 0 (10 ^ 40) t = true → inR 0 (10 ^ 40) l = true → Kk .non cs)
theorem d_cshown (T : Tx K mg) : Dfs.Dfn P w K mg base (L2.CX P w) 4 "check_shown" ["total", "life"] (spF (F_cshown K)) := by
  refine dfnF T.q_check_shown T.g_check_shown (N := ["total", "life"]) ⟨rfl, rfl, rfl, by decide +kernel, rfl, by decide +kernel, by decide +kernel⟩ (fun kV doc pm an cdv ct => Vls.bind2 fun a b => rfl) (fun ds cs Kk KE h => ?_) (fun cdv A outer s H E ds cs Kk KE hr h => ?_)
  · obtain ⟨_, _, rfl, _⟩ := h
    rfl
  · obtain ⟨t, l, rfl, pt, pl, q1, q2, q3⟩ := h
    refine sw_cons (s1_expr ?_)
    refine ew_call .same (d_check T) hr (by rfl) pc ?_
    walk_at "x"
    refine ⟨t, _, _, rfl, pt, fun h1 => ?_, fun h1 => q1 h1⟩
    refine sw_cons (s1_expr ?_)
    refine ew_call .same (d_check T) hr (by rfl) pc ?_
    walk_at "x"
    exact ⟨l, _, _, rfl, pl, fun h2 => sw_nil (q3 h1 h2), fun h2 => q2 h1 h2⟩
/-- what comes of k.shows(t, l) -/
def F_shows (K : PySem.W.Frag) (k : Kd) : FT := fun ds cs Kk KE => ∃ t l, ds = [rO K k, t, l] ∧ k.Good ∧ Pln t ∧ Pln l ∧ (inR 0 (10 ^ 40) t = false → KE (He.ga K "BadNumber") [("value", t)] cs) ∧
  (inR 0 (10 ^ 40) t = true → inR 0 (10 ^ 40) l = false → KE (He.ga K "BadNumber") [("value", l)] cs) ∧ (∀ i j, t = .int i → l = .int j → 0 ≤ i → i ≤ 10 ^ 40 → 0 ≤ j → j ≤ 10 ^ 40 → Kk (shD k i j) cs)
theorem g_shows (T : Tx K mg) (k : Kd) : ∃ g fd, Cls K (CK K k) ∧ Meth K (CK K k) "shows" g ∧ FnOk P w K mg base (L2.CX P w) 5 g fd ["self", "total", "life"] (spF (F_shows K k)) ∧ L2.Binds K fd ["self", "total", "life"] [] ∧ ∃ us, L2.Binds K fd ["self", "total", "life"] us ∧ Vals [V.int 0] us := by
  have len : ∀ ds cs Kk KE, F_shows K k ds cs Kk KE → ds.length = ["self", "total", "life"].length := fun ds cs Kk KE h => by
    obtain ⟨_, _, rfl, _⟩ := h
    rfl
  have go : ∀ (f : Addr) (fd : FuncData) (qual : Str) (params : Arguments) (body : List Stmt) (scope : Scope) (F : FunD K "shows" qual params body scope [.int 0] [] f fd),
      (∀ (T : Addr) (kV doc pm : Value) (an : Option Addr) (cdv ct : Value) (a b c : Value), ∃ k, bindArgs (PySem.W.fnOf "shows" qual params body scope (.ref T) kV doc pm an cdv ct) ⟨[a, b], []⟩ = seqItems? (.ref T) >>= k ∧ k (some #[c]) = pure ((["self", "total", "life"] : List Str).zip [a, b, c])) →
      (∀ (T : Addr) (kV doc pm : Value) (an : Option Addr) (cdv ct : Value) (a b c d : Value), ∃ k, bindArgs (PySem.W.fnOf "shows" qual params body scope (.ref T) kV doc pm an cdv ct) ⟨[a, b, c], []⟩ = seqItems? (.ref T) >>= k ∧ k (some #[d]) = pure ((["self", "total", "life"] : List Str).zip [a, b, c])) →
      L2.Binds K fd ["self", "total", "life"] [] ∧ ∃ us, L2.Binds K fd ["self", "total", "life"] us ∧ Vals [V.int 0] us := fun f fd qual params body scope F h1 h2 => by
    obtain ⟨u1, d1, b1⟩ := F.binds1 (ps := ["self", "total", "life"]) 3 1 (by simp) rfl (fun T kV doc pm an cdv ct us its l1 l2 => by
      match us, its, l1, l2 with
      | [a, b, c], [d], _, _ => exact h2 T kV doc pm an cdv ct a b c d)
    obtain ⟨u2, d2, b2⟩ := F.binds1 (ps := ["self", "total", "life"]) 2 0 (by simp) rfl (fun T kV doc pm an cdv ct us its l1 l2 => by
      match us, its, l1, l2 with
      | [a, b], [d], _, _ => exact h1 T kV doc pm an cdv ct a b d)
    cases d1
    exact ⟨b1, u2, b2, d2⟩
  have body0 : ∀ {X : Cx} {B : Bs} {k' : Kt} {rest : List Stmt} {cs : Cs} {t l : D} {sl : List (Option D)} (a1 a2 a3 a4 a5 : Pos), True := fun _ _ _ _ _ => trivial
  cases k with
  | pl =>
    obtain ⟨fd, F⟩ := T.q_Plain_shows
    refine ⟨_, fd, T.c_Plain, T.m_Plain_shows, okF F (N := ["self", "total", "life"]) ⟨rfl, rfl, rfl, by decide +kernel, rfl, by decide +kernel, by decide +kernel⟩ len (fun cdv A outer s H E ds cs Kk KE hr h => ?_), go _ _ _ _ _ _ F (fun T kV doc pm an cdv ct a b c => ⟨_, rfl, rfl⟩) (fun T kV doc pm an cdv ct a b c d => ⟨_, rfl, rfl⟩)⟩
    obtain ⟨t, l, rfl, gk, pt, pl, q1, q2, q3⟩ := h
    refine sw_cons (s1_expr ?_)
    refine ew_call .same (d_cshown T) hr (by rfl) pc ?_
    walk_at "x"
    refine ⟨t, l, rfl, pt, pl, q1, q2, fun h1 h2 => ?_⟩
    obtain ⟨i, rfl, i0, i1⟩ := inR_int h1
    obtain ⟨j, rfl, j0, j1⟩ := inR_int h2
    refine sw_cons (s1_ret ?_)
    walk_at "n"
    exact q3 i j rfl rfl i0 i1 j0 j1
  | rs =>
    obtain ⟨fd, F⟩ := T.q_Restarting_shows
    refine ⟨_, fd, T.c_Restarting, T.m_Restarting_shows, okF F (N := ["self", "total", "life"]) ⟨rfl, rfl, rfl, by decide +kernel, rfl, by decide +kernel, by decide +kernel⟩ len (fun cdv A outer s H E ds cs Kk KE hr h => ?_), go _ _ _ _ _ _ F (fun T kV doc pm an cdv ct a b c => ⟨_, rfl, rfl⟩) (fun T kV doc pm an cdv ct a b c d => ⟨_, rfl, rfl⟩)⟩
    obtain ⟨t, l, rfl, gk, pt, pl, q1, q2, q3⟩ := h
    refine sw_cons (s1_expr ?_)
    refine ew_call .same (d_cshown T) hr (by rfl) pc ?_
    walk_at "x"
    refine ⟨t, l, rfl, pt, pl, q1, q2, fun h1 h2 => ?_⟩
    obtain ⟨i, rfl, i0, i1⟩ := inR_int h1
    obtain ⟨j, rfl, j0, j1⟩ := inR_int h2
    refine sw_cons (s1_ret (ew_tup (aw_cons ?_)))
    walk_at "n"
    refine aw_cons ?_
    walk_at "n"
    exact aw_nil ⟨szl (Nat.le_of_ble_eq_true rfl), q3 i j rfl rfl i0 i1 j0 j1⟩
  | md m =>
    obtain ⟨fd, F⟩ := T.q_Wrapping_shows
    refine ⟨_, fd, T.c_Wrapping, T.m_Wrapping_shows, okF F (N := ["self", "total", "life"]) ⟨rfl, rfl, rfl, by decide +kernel, rfl, by decide +kernel, by decide +kernel⟩ len (fun cdv A outer s H E ds cs Kk KE hr h => ?_), go _ _ _ _ _ _ F (fun T kV doc pm an cdv ct a b c => ⟨_, rfl, rfl⟩) (fun T kV doc pm an cdv ct a b c d => ⟨_, rfl, rfl⟩)⟩
    obtain ⟨t, l, rfl, gk, pt, pl, q1, q2, q3⟩ := h
    refine sw_cons (s1_expr ?_)
    refine ew_call .same (d_cshown T) hr (by rfl) pc ?_
    walk_at "x"
    refine ⟨t, l, rfl, pt, pl, q1, q2, fun h1 h2 => ?_⟩
    obtain ⟨i, rfl, i0, i1⟩ := inR_int h1
    obtain ⟨j, rfl, j0, j1⟩ := inR_int h2
    refine sw_cons (s1_ret (ew_bin ?_))
    walk_at "n"
    refine ew_fld T.c_Wrapping T.n_Wrapping_modulus ?_
    walk_at "n"
    refine ⟨dN m, .obj rfl, ?_⟩
    have g1 := gk.1
    exact od_mod (by omega) (q3 i j rfl rfl i0 i1 j0 j1)
  | dl ps =>
    have nd : (["self", "total", "life", "period"] : List Str).Nodup := by decide +kernel
    obtain ⟨fd, F⟩ := T.q_Dials_shows
    refine ⟨_, fd, T.c_Dials, T.m_Dials_shows, okF F (N := ["self", "total", "life", "period"]) ⟨rfl, rfl, rfl, by decide +kernel, rfl, by decide +kernel, by decide +kernel⟩ len (fun cdv A outer s H E ds cs Kk KE hr h => ?_), go _ _ _ _ _ _ F (fun T kV doc pm an cdv ct a b c => ⟨_, rfl, rfl⟩) (fun T kV doc pm an cdv ct a b c d => ⟨_, rfl, rfl⟩)⟩
    obtain ⟨t, l, rfl, gk, pt, pl, q1, q2, q3⟩ := h
    obtain ⟨g1, g2, g3⟩ := gk
    refine sw_cons (s1_expr ?_)
    refine ew_call .same (d_cshown T) hr (by rfl) pc ?_
    walk_at "x"
    refine ⟨t, l, rfl, pt, pl, q1, q2, fun h1 h2 => ?_⟩
    obtain ⟨i, rfl, i0, i1⟩ := inR_int h1
    obtain ⟨j, rfl, j0, j1⟩ := inR_int h2
    refine sw_cons (s1_ret ?_)
    refine ew_ttuple T.f_tuple (aw_cons ?_)
    refine ew_lcT [("period", 3)] 0 rfl nd (Vls.blk_by (N := ["self", "total", "life", "period"]) (sc := defScope s_Dials_shows) (by decide +kernel)) ?_
    refine ew_fld T.c_Dials T.n_Dials_periods ?_
    walk_at "n"
    refine ⟨_, .obj rfl, ps.map dN, rfl, szl (by rw [List.length_map]; omega), fun z acc cs' => cs' = cs ∧ acc = (ps.take z).map fun p : Nat => D.int (i % ((p : Nat) : Int)), ⟨rfl, rfl⟩, fun z d acc cs' hd hI => ?_, fun acc cs' hI => ?_⟩
    · obtain ⟨rfl, rfl⟩ := hI
      rw [List.getElem?_map] at hd
      obtain ⟨p, hp1, rfl⟩ : ∃ p, ps[z]? = some p ∧ d = dN p := by
        cases y : ps[z]? with
        | none => rw [y] at hd; cases hd
        | some p => rw [y] at hd; cases hd; exact ⟨p, rfl, rfl⟩
      have p2 := (g3 p (List.mem_of_getElem? hp1)).1
      refine ⟨by rw [List.length_map, List.length_take]; omega, fun lx _ _ _ _ _ => ?_⟩
      refine tg_name 3 nd rfl (.inl rfl) ?_
      intro _ _ _ _ _
      refine ts_nil ⟨fun _ => ?_, fun e => by cases e⟩
      intro _ _ _ _ _
      refine ew_bin ?_
      walk_at "n"
      walk_at "n"
      refine od_mod (by omega) ⟨cs', rfl, rfl, ?_⟩
      rw [List.take_add_one, hp1, List.map_append]
      rfl
    · obtain ⟨rfl, rfl⟩ := hI
      rw [List.length_map, List.take_length]
      exact aw_nil (cl_tuple (q3 i j rfl rfl i0 i1 j0 j1))
end
end K24
set_option Elab.async false
set_option linter.all false
set_option maxRecDepth 100000
set_option maxHeartbeats 4000000
namespace K24
open PySem PySem.Spec PyProof.Rows L2 Sx
local macro_rules | `(tactic| walk_at "c") => `(tactic| first
  | refine aw_cons ?_ | refine aw_nil ?_
  | refine ew_int ?_ | refine ew_non ?_ | refine ew_bl ?_ | refine ew_str ?_
  | refine ew_bin ?_ | refine ew_cmp ?_ | refine tw_cmp ?_ | refine tw_not ?_ | refine ew_chain ?_ | refine tw_chain ?_ | refine ew_and ?_ | refine ew_or ?_ | refine ew_one ?_ | refine ew_not ?_ | refine ew_neg ?_ | refine ew_if ?_
  | refine tw_w (ww_and ?_) | refine tw_w (ww_or ?_) | refine ww_and ?_ | refine ww_or ?_ | refine ww_and1 ?_ | refine ww_or1 ?_
  | refine tw_val (e := .Call _ _ _ _) ?_ | refine ew_tup ?_ | refine ew_ix ?_ | refine ew_lst ?_
  | refine sw_cons ?_ | refine s1_ret ?_ | refine s1_if ?_ | refine sw_nil ?_ | refine s1_expr ?_
  | refine od_add ?_ | refine od_sub ?_ | refine od_lt ?_ | refine od_le ?_ | refine od_gt ?_ | refine od_ge ?_
  | refine isB ?_ | refine intD ?_ | refine br_t ?_ | refine br_f ?_
  | refine ⟨szl (Nat.le_of_ble_eq_true rfl), ?_⟩)
local macro_rules | `(tactic| walk_at "n") => `(tactic| first
  | refine ew_name 0 rfl (by first | exact .inl rfl | exact .inr (.inl rfl) | exact .inr (.inr rfl)) rfl ?_
  | refine ew_name 1 rfl (by first | exact .inl rfl | exact .inr (.inl rfl) | exact .inr (.inr rfl)) rfl ?_
  | refine ew_name 2 rfl (by first | exact .inl rfl | exact .inr (.inl rfl) | exact .inr (.inr rfl)) rfl ?_
  | refine ew_name 3 rfl (by first | exact .inl rfl | exact .inr (.inl rfl) | exact .inr (.inr rfl)) rfl ?_
  | refine ew_name 4 rfl (by first | exact .inl rfl | exact .inr (.inl rfl) | exact .inr (.inr rfl)) rfl ?_
  | refine ew_name 5 rfl (by first | exact .inl rfl | exact .inr (.inl rfl) | exact .inr (.inr rfl)) rfl ?_
  | refine ew_name 6 rfl (by first | exact .inl rfl | exact .inr (.inl rfl) | exact .inr (.inr rfl)) rfl ?_
  | refine ew_name 7 rfl (by first | exact .inl rfl | exact .inr (.inl rfl) | exact .inr (.inr rfl)) rfl ?_
  | refine ew_name 8 rfl (by first | exact .inl rfl | exact .inr (.inl rfl) | exact .inr (.inr rfl)) rfl ?_
  | refine ew_name 9 rfl (by first | exact .inl rfl | exact .inr (.inl rfl) | exact .inr (.inr rfl)) rfl ?_
  | refine ew_name 10 rfl (by first | exact .inl rfl | exact .inr (.inl rfl) | exact .inr (.inr rfl)) rfl ?_
  | refine ew_name 11 rfl (by first | exact .inl rfl | exact .inr (.inl rfl) | exact .inr (.inr rfl)) rfl ?_
  | refine ew_name 12 rfl (by first | exact .inl rfl | exact .inr (.inl rfl) | exact .inr (.inr rfl)) rfl ?_)
local macro_rules | `(tactic| walk_at "i") => `(tactic| (refine' cl_isi (.ty _) ?a ?b ?_; (case a => constructor); (case b => with_reducible first | exact kit_int_int | exact kit_int_bool | exact kit_bool_int | exact kit_bool_bool | exact kit_NoneType_int | exact kit_str_int | exact kit_list_int | exact kit_tuple_int | exact kit_dict_int | exact kit_tuple_tuple | exact kit_int_tuple | exact kit_NoneType_tuple | exact kit_bool_tuple | exact kit_str_tuple | exact kit_list_tuple | exact kit_dict_tuple)))
local macro_rules | `(tactic| walk_at "l") => `(tactic| first
  | refine ew_isinstance (Tx.f_isinstance (by assumption)) ?_ | refine ew_len (Tx.f_len (by assumption)) ?_ | refine ew_vint (Tx.f_int (by assumption)) ?_ | refine ew_vbool (Tx.f_bool (by assumption)) ?_ | refine ew_vtuple (Tx.f_tuple (by assumption)) ?_ | refine ew_vstr (Tx.f_str (by assumption)) ?_
  | refine ew_gint (Tx.i_MOST_PERIOD (by assumption)) (by rfl) ?_ | refine ew_gint (Tx.i_DIGITS (by assumption)) (by rfl) ?_ | refine ew_gint (Tx.i_FAR (by assumption)) (by rfl) ?_ | refine ew_gint (Tx.i_MOST_MODULUS (by assumption)) (by rfl) ?_ | refine ew_gint (Tx.i_MOST_PERIODS (by assumption)) (by rfl) ?_
  | refine cl_len ?_ | refine cl_lenT ?_ | refine ix_tpl rfl ?_ | refine od_is (by intro _ h; cases h) ?_)
local macro_rules | `(tactic| walk_at "x") => `(tactic| repeat (first | walk_at "c" | walk_at "n" | walk_at "l" | walk_at "i"))
def cnt (v : D) : Bool := isW v && (match v with | .int i => decide (0 ≤ i) | _ => false)
/-- whether rests lie within their periods -/
def restsIn : List D → List Nat → List Bool
  | x :: xs, p :: ps => inR 0 ((p : Int) - 1) x :: restsIn xs ps
  | _, _ => []
def intsOf : List D → List Int
  | .int i :: r => i :: intsOf r
  | _ => []
/-- whether any value is a reading -/
def isr : Kd → D → Bool
  | .pl, v => cnt v
  | .md m, v => inR 0 ((m : Int) - 1) v
  | .rs, .tup [a, b] => cnt a && cnt b
  | .rs, _ => false
  | .dl ps, .tup xs => decide (xs.length = ps.length) && ((restsIn xs ps).all id && (leastN ps (intsOf xs)).isSome)
  | .dl _, _ => false
/-- plain, its items plain -/
def Pln2 : D → Prop
  | .tup xs => (∀ x ∈ xs, Pln x) ∧ xs.length ≤ 100
  | d => Pln d
theorem Pln2.pln {v : D} (h : Pln2 v) : Pln v := by
  cases v <;> first | exact h | trivial
theorem restsIn_at : ∀ {xs : List D} {ps : List Nat} {i : Nat} {x : D} {p : Nat}, xs[i]? = some x → ps[i]? = some p → (restsIn xs ps).take (i + 1) = (restsIn xs ps).take i ++ [inR 0 ((p : Int) - 1) x]
  | [], _, _, _, _, h, _ => by simp at h
  | _ :: _, [], _, _, _, _, h => by simp at h
  | y :: xs, q :: ps, 0, x, p, h1, h2 => by
    simp at h1 h2
    subst h1 h2
    rfl
  | y :: xs, q :: ps, i + 1, x, p, h1, h2 => by
    have ih := restsIn_at (xs := xs) (ps := ps) (i := i) (by simpa using h1) (by simpa using h2)
    show inR 0 ((q : Int) - 1) y :: (restsIn xs ps).take (i + 1) = inR 0 ((q : Int) - 1) y :: (restsIn xs ps).take i ++ _
    rw [ih]
    rfl
theorem restsIn_len : ∀ {xs : List D} {ps : List Nat}, (restsIn xs ps).length = min xs.length ps.length
  | [], _ => by simp [restsIn]
  | _ :: _, [] => by simp [restsIn]
  | y :: xs, q :: ps => by
    show (restsIn xs ps).length + 1 = _
    rw [restsIn_len (xs := xs) (ps := ps)]
    simp only [List.length_cons]
    omega
theorem restsIn_ints : ∀ {xs : List D} {ps : List Nat}, xs.length = ps.length → (restsIn xs ps).all id = true → xs = (intsOf xs).map D.int ∧ (intsOf xs).length = xs.length
  | [], _, _, _ => ⟨rfl, rfl⟩
  | _ :: _, [], h, _ => by simp at h
  | y :: xs, q :: ps, hl, h => by
    have h : (inR 0 ((q : Int) - 1) y && (restsIn xs ps).all id) = true := h
    rw [Bool.and_eq_true] at h
    obtain ⟨i, rfl, _, _⟩ := inR_int h.1
    obtain ⟨a, b⟩ := restsIn_ints (xs := xs) (ps := ps) (by simpa using hl) h.2
    refine ⟨?_, ?_⟩
    · show D.int i :: xs = D.int i :: (intsOf xs).map D.int
      rw [← a]
    · show (intsOf xs).length + 1 = xs.length + 1
      rw [b]
section
variable {P : Program} {w : World} {K : PySem.W.Frag} {mg : Str → Option Value} {base : Heap}
def F_count : FT := fun ds cs Kk _ => ∃ d, ds = [d] ∧ Pln d ∧ Kk (.bl (cnt d)) cs
theorem d_count (T : Tx K mg) : Dfs.Dfn P w K mg base (L2.CX P w) 2 "is_count" ["value"] (spF F_count) := by
  refine dfnF T.q_is_count T.g_is_count (N := ["value"]) ⟨rfl, rfl, rfl, by decide +kernel, rfl, by decide +kernel, by decide +kernel⟩ (fun kV doc pm an cdv ct => Vls.bind1 fun a => rfl) (fun ds cs Kk KE h => ?_) (fun cdv A outer s H E ds cs Kk KE hr h => ?_)
  · obtain ⟨_, rfl, _⟩ := h
    rfl
  · obtain ⟨d, rfl, hp, q⟩ := h
    refine sw_cons (s1_ret (ew_and ?_))
    refine ew_call .same (d_whole T) hr (by rfl) pc ?_
    walk_at "x"
    refine ⟨d, rfl, hp, isB ⟨fun hw => ?_, fun hw => ?_⟩⟩
    · cases d with
      | int i =>
        refine ew_one (ew_cmp ?_)
        walk_at "n"
        refine ew_int (od_ge ?_)
        have e : cnt (.int i) = decide (0 ≤ i) := rfl
        rw [e] at q
        exact q
      | _ => cases hw
    · have e : cnt d = false := by unfold cnt; rw [hw, Bool.false_and]
      rw [e] at q
      exact q
def F_isr (K : PySem.W.Frag) (k : Kd) : FT := fun ds cs Kk _ => ∃ v, ds = [rO K k, v] ∧ k.Good ∧ Pln2 v ∧ Kk (.bl (isr k v)) cs
theorem g_isr (T : Tx K mg) (k : Kd) : Dfs.Mfn P w K mg base (L2.CX P w) 4 (CK K k) "is_reading" ["self", "value"] (spF (F_isr K k)) := by
  have len : ∀ ds cs Kk KE, F_isr K k ds cs Kk KE → ds.length = ["self", "value"].length := fun ds cs Kk KE h => by
    obtain ⟨_, rfl, _⟩ := h
    rfl
  cases k with
  | pl =>
    refine mfnF T.q_Plain_is_reading T.c_Plain T.m_Plain_is_reading (N := ["self", "value"]) ⟨rfl, rfl, rfl, by decide +kernel, rfl, by decide +kernel, by decide +kernel⟩ (fun kV doc pm an cdv ct => Vls.bind2 fun a b => rfl) len (fun cdv A outer s H E ds cs Kk KE hr h => ?_)
    obtain ⟨v, rfl, gk, hp, q⟩ := h
    refine sw_cons (s1_ret ?_)
    refine ew_call .same (d_count T) (hr.mono (by decide)) (by rfl) pc ?_
    walk_at "x"
    exact ⟨v, rfl, hp.pln, q⟩
  | md m =>
    refine mfnF T.q_Wrapping_is_reading T.c_Wrapping T.m_Wrapping_is_reading (N := ["self", "value"]) ⟨rfl, rfl, rfl, by decide +kernel, rfl, by decide +kernel, by decide +kernel⟩ (fun kV doc pm an cdv ct => Vls.bind2 fun a b => rfl) len (fun cdv A outer s H E ds cs Kk KE hr h => ?_)
    obtain ⟨v, rfl, gk, hp, q⟩ := h
    refine sw_cons (s1_ret ?_)
    refine ew_call .same (d_within T) (hr.mono (by decide)) (by rfl) pc ?_
    walk_at "x"
    refine ew_fld T.c_Wrapping T.n_Wrapping_modulus ?_
    walk_at "n"
    refine ⟨dN m, .obj rfl, ?_⟩
    walk_at "x"
    exact ⟨v, _, _, rfl, hp.pln, q⟩
  | rs =>
    refine mfnF T.q_Restarting_is_reading T.c_Restarting T.m_Restarting_is_reading (N := ["self", "value"]) ⟨rfl, rfl, rfl, by decide +kernel, rfl, by decide +kernel, by decide +kernel⟩ (fun kV doc pm an cdv ct => Vls.bind2 fun a b => rfl) len (fun cdv A outer s H E ds cs Kk KE hr h => ?_)
    obtain ⟨v, rfl, gk, hp, q⟩ := h
    cases v with
    | obj _ _ => exact hp.elim
    | exc _ _ => exact hp.elim
    | own _ => exact hp.elim
    | raw _ => exact hp.elim
    | tup xs =>
      obtain ⟨hx, hl⟩ := hp
      walk_at "x"
      refine od_ne hr.units (by rfl) (by rfl) ?_
      rw [eqv_int]
      by_cases h2 : xs.length = 2
      · match xs, h2, hx, q with
        | [a, b], _, hx, q =>
          have q : Kk (.bl (cnt a && cnt b)) cs := q
          refine isB (br_f' (by rfl) (sw_nil ?_))
          refine sw_cons (s1_ret (ew_and ?_))
          refine ew_call .same (d_count T) (hr.mono (by decide)) (by rfl) pc ?_
          walk_at "x"
          refine ⟨a, rfl, hx a (by simp), isB ⟨fun h1 => ?_, fun h1 => ?_⟩⟩
          · refine ew_one ?_
            refine ew_call .same (d_count T) (hr.mono (by decide)) (by rfl) pc ?_
            walk_at "x"
            rw [h1, Bool.true_and] at q
            exact ⟨b, rfl, hx b (by simp), q⟩
          · rw [h1] at q
            exact q
      · rw [decide_eq_false (show ¬ ((xs.length : Int) = 2) by omega)]
        refine isB (br_t ?_)
        refine sw_cons (s1_ret (ew_bl ?_))
        have e : isr .rs (.tup xs) = false := by
          match xs, h2 with
          | [], _ => rfl
          | [_], _ => rfl
          | [_, _], h => exact absurd rfl h
          | _ :: _ :: _ :: _, _ => rfl
        rw [e] at q
        exact q
    | _ =>
      walk_at "x"
      exact q
  | dl ps =>
    have nd : (["self", "value", "rest", "period"] : List Str).Nodup := by decide +kernel
    refine mfnF T.q_Dials_is_reading T.c_Dials T.m_Dials_is_reading (N := ["self", "value", "rest", "period"]) ⟨rfl, rfl, rfl, nd, rfl, by decide +kernel, by decide +kernel⟩ (fun kV doc pm an cdv ct => Vls.bind2 fun a b => rfl) len (fun cdv A outer s H E ds cs Kk KE hr h => ?_)
    obtain ⟨v, rfl, gk, hp, q⟩ := h
    obtain ⟨g1, g2, g3⟩ := gk
    cases v with
    | obj _ _ => exact hp.elim
    | exc _ _ => exact hp.elim
    | own _ => exact hp.elim
    | raw _ => exact hp.elim
    | tup xs =>
      obtain ⟨hx, hl⟩ := hp
      have q : Kk (.bl (decide (xs.length = ps.length) && ((restsIn xs ps).all id && (leastN ps (intsOf xs)).isSome))) cs := q
      walk_at "x"
      refine ew_fld T.c_Dials T.n_Dials_periods ?_
      walk_at "n"
      refine ⟨_, .obj rfl, ?_⟩
      walk_at "x"
      refine od_ne hr.units (by rfl) (by rfl) ?_
      rw [eqv_int, List.length_map]
      by_cases h2 : xs.length = ps.length
      · rw [decide_eq_true (show ((xs.length : Int) = (ps.length : Int)) by omega)]
        rw [decide_eq_true h2, Bool.true_and] at q
        refine isB (br_f (sw_nil ?_))
        refine sw_cons (s1_if (tw_not ?_))
        refine tw_val (e := .Call _ _ _ _) ?_
        refine ew_callB (id := "all") T.f_all (by rfl) (by kernel_rfl) (aw_cons ?_)
        refine ew_lcZ [("rest", 2), ("period", 3)] 0 rfl nd (Vls.blk_by (N := ["self", "value", "rest", "period"]) (sc := defScope s_Dials_is_reading) (by decide +kernel)) T.f_zip (aw_cons ?_)
        walk_at "n"
        refine aw_cons (ew_fld T.c_Dials T.n_Dials_periods ?_)
        walk_at "n"
        refine ⟨_, .obj rfl, ?_⟩
        refine aw_nil ⟨xs, ps.map dN, rfl, by omega, fun i acc cs' => cs' = cs ∧ acc = ((restsIn xs ps).take i).map D.bl, ⟨rfl, rfl⟩, fun i d1 d2 acc cs' hd1 hd2 hI => ?_, fun acc cs' hI => ?_⟩
        · obtain ⟨rfl, rfl⟩ := hI
          rw [List.getElem?_map] at hd2
          obtain ⟨p, hp1, rfl⟩ : ∃ p, ps[i]? = some p ∧ d2 = dN p := by
            cases y : ps[i]? with
            | none => rw [y] at hd2; cases hd2
            | some p => rw [y] at hd2; cases hd2; exact ⟨p, rfl, rfl⟩
          refine ⟨by rw [List.length_map, List.length_take]; omega, fun lx _ _ _ _ _ => ?_⟩
          refine tg_tup rfl (tgs_cons (tg_name 2 nd rfl (.inl rfl) (tgs_cons (tg_name 3 nd rfl (.inl rfl) (tgs_nil ?_)))))
          intro _ _ _ _ _
          refine ts_nil ⟨fun _ => ?_, fun e => by cases e⟩
          intro _ _ _ _ _
          refine ew_call (.none fun _ _ _ => False) (d_within T) (hr.mono (by decide)) (by rfl) pF ?_
          walk_at "x"
          refine ⟨d1, _, _, rfl, hx d1 (List.mem_of_getElem? hd1), ⟨cs', rfl, rfl, ?_⟩⟩
          rw [restsIn_at hd1 hp1, List.map_append]
          rfl
        · obtain ⟨rfl, rfl⟩ := hI
          rw [List.length_map, ← restsIn_len, List.take_length]
          refine aw_nil (cl_all rfl ?_)
          by_cases h3 : (restsIn xs ps).all id = true
          · rw [h3, Bool.true_and] at q
            rw [h3]
            refine isB (br_f (sw_nil ?_))
            obtain ⟨a, b⟩ := restsIn_ints h2 h3
            refine sw_cons (s1_ret (ew_cmp ?_))
            refine ew_call .same (d_least T) (hr.mono (by decide)) (by rfl) pc (aw_cons ?_)
            refine ew_fld T.c_Dials T.n_Dials_periods ?_
            walk_at "n"
            refine ⟨_, .obj rfl, aw_cons ?_⟩
            walk_at "n"
            refine aw_nil ⟨ps, intsOf xs, by rw [← a], g2, g3, by omega, ?_⟩
            refine ew_non ?_
            cases e : leastN ps (intsOf xs) with
            | none =>
              rw [e] at q
              exact od_isnot (by intro _ h; cases h) q
            | some n =>
              rw [e] at q
              exact od_isnot (by intro _ h; cases h) q
          · rw [show (restsIn xs ps).all id = false by simpa using h3] at q ⊢
            refine isB (br_t ?_)
            exact sw_cons (s1_ret (ew_bl q))
      · rw [decide_eq_false (show ¬ ((xs.length : Int) = (ps.length : Int)) by omega)]
        rw [decide_eq_false h2] at q
        refine isB (br_t ?_)
        exact sw_cons (s1_ret (ew_bl q))
    | _ =>
      walk_at "x"
      exact q
/-- check_reading(k, v, at) -/
def F_cread (K : PySem.W.Frag) (k : Kd) : FT := fun ds cs Kk KE => ∃ v a, ds = [rO K k, v, a] ∧ k.Good ∧ Pln2 v ∧ (isr k v = true → Kk .non cs) ∧ (isr k v = false → KE (He.ga K "BadReading") [("at", a)] cs)
theorem d_cread (T : Tx K mg) (k : Kd) : Dfs.Dfn P w K mg base (L2.CX P w) 5 "check_reading" ["display", "reading", "at"] (spF (F_cread K k)) := by
  obtain ⟨fi, Fi, Bi⟩ := i_BadReading (P := P) (w := w) (base := base) T
  refine dfnF T.q_check_reading T.g_check_reading (N := ["display", "reading", "at"]) ⟨rfl, rfl, rfl, by decide +kernel, rfl, by decide +kernel, by decide +kernel⟩ (fun kV doc pm an cdv ct => Vls.bind3 fun a b c => rfl) (fun ds cs Kk KE h => ?_) (fun cdv A outer s H E ds cs Kk KE hr h => ?_)
  · obtain ⟨_, _, rfl, _⟩ := h
    rfl
  · obtain ⟨v, a, rfl, gk, hp, q1, q2⟩ := h
    refine sw_cons (s1_if (tw_not ?_))
    refine tw_val (e := .Call _ _ _ _) ?_
    refine ew_meth .same (g_isr T k) hr pc ?_
    walk_at "n"
    refine ⟨isI_k k (by decide) (by decide), ?_⟩
    walk_at "x"
    refine ⟨v, rfl, gk, hp, isB ?_⟩
    by_cases h : isr k v = true
    · rw [h]
      exact br_f (sw_nil (sw_nil (q1 h)))
    · have h : isr k v = false := by simpa using h
      rw [h]
      refine br_t (sw_cons ?_)
      refine s1_raise1 T.o_BadReading T.m_BadReading_init.at_ T.t_BadReading Fi (hr.mono (by decide)) Bi (by rfl) T.g_BadReading rfl tk ?_
      walk_at "n"
      exact q2 h
def F_creads (K : PySem.W.Frag) (k : Kd) : FT := fun ds cs Kk KE => ∃ v u, ds = [rO K k, v, u] ∧ k.Good ∧ Pln2 v ∧ Pln2 u ∧ (isr k v = true → isr k u = true → Kk .non cs) ∧ (isr k v = false → KE (He.ga K "BadReading") [("at", .str "earlier")] cs) ∧ (isr k v = true → isr k u = false → KE (He.ga K "BadReading") [("at", .str "later")] cs)
theorem d_creads (T : Tx K mg) (k : Kd) : Dfs.Dfn P w K mg base (L2.CX P w) 6 "check_readings" ["display", "earlier", "later"] (spF (F_creads K k)) := by
  refine dfnF T.q_check_readings T.g_check_readings (N := ["display", "earlier", "later"]) ⟨rfl, rfl, rfl, by decide +kernel, rfl, by decide +kernel, by decide +kernel⟩ (fun kV doc pm an cdv ct => Vls.bind3 fun a b c => rfl) (fun ds cs Kk KE h => ?_) (fun cdv A outer s H E ds cs Kk KE hr h => ?_)
  · obtain ⟨_, _, rfl, _⟩ := h
    rfl
  · obtain ⟨v, u, rfl, gk, hp, hu, q1, q2, q3⟩ := h
    refine sw_cons (s1_expr ?_)
    refine ew_call .same (d_cread T k) hr (by rfl) pc ?_
    walk_at "x"
    refine ⟨v, _, rfl, gk, hp, fun h1 => ?_, fun h1 => q2 h1⟩
    refine sw_cons (s1_expr ?_)
    refine ew_call .same (d_cread T k) hr (by rfl) pc ?_
    walk_at "x"
    exact ⟨u, _, rfl, gk, hu, fun h2 => sw_nil (q1 h1 h2), fun h2 => q3 h1 h2⟩
end
end K24
set_option Elab.async false
set_option linter.all false
set_option maxRecDepth 100000
set_option maxHeartbeats 4000000
namespace K24
open PySem PySem.Spec PyProof.Rows L2 Sx
local macro_rules | `(tactic| walk_at "c") => `(tactic| first
  | refine aw_cons ?_ | refine aw_nil ?_
  | refine ew_int ?_ | refine ew_non ?_ | refine ew_bl ?_ | refine ew_str ?_
  | refine ew_bin ?_ | refine ew_cmp ?_ | refine tw_cmp ?_ | refine tw_not ?_ | refine ew_chain ?_ | refine tw_chain ?_ | refine ew_and ?_ | refine ew_or ?_ | refine ew_one ?_ | refine ew_not ?_ | refine ew_neg ?_ | refine ew_if ?_
  | refine tw_w (ww_and ?_) | refine tw_w (ww_or ?_) | refine ww_and ?_ | refine ww_or ?_ | refine ww_and1 ?_ | refine ww_or1 ?_
  | refine tw_val (e := .Call _ _ _ _) ?_ | refine ew_tup ?_ | refine ew_ix ?_ | refine ew_lst ?_
  | refine sw_cons ?_ | refine s1_ret ?_ | refine s1_if ?_ | refine sw_nil ?_ | refine s1_expr ?_
  | refine od_add ?_ | refine od_sub ?_ | refine od_lt ?_ | refine od_le ?_ | refine od_gt ?_ | refine od_ge ?_
  | refine isB ?_ | refine intD ?_ | refine br_t ?_ | refine br_f ?_
  | refine ⟨szl (Nat.le_of_ble_eq_true rfl), ?_⟩)
local macro_rules | `(tactic| walk_at "n") => `(tactic| first
  | refine ew_name 0 rfl (by first | exact .inl rfl | exact .inr (.inl rfl) | exact .inr (.inr rfl)) rfl ?_
  | refine ew_name 1 rfl (by first | exact .inl rfl | exact .inr (.inl rfl) | exact .inr (.inr rfl)) rfl ?_
  | refine ew_name 2 rfl (by first | exact .inl rfl | exact .inr (.inl rfl) | exact .inr (.inr rfl)) rfl ?_
  | refine ew_name 3 rfl (by first | exact .inl rfl | exact .inr (.inl rfl) | exact .inr (.inr rfl)) rfl ?_
  | refine ew_name 4 rfl (by first | exact .inl rfl | exact .inr (.inl rfl) | exact .inr (.inr rfl)) rfl ?_
  | refine ew_name 5 rfl (by first | exact .inl rfl | exact .inr (.inl rfl) | exact .inr (.inr rfl)) rfl ?_
  | refine ew_name 6 rfl (by first | exact .inl rfl | exact .inr (.inl rfl) | exact .inr (.inr rfl)) rfl ?_
  | refine ew_name 7 rfl (by first | exact .inl rfl | exact .inr (.inl rfl) | exact .inr (.inr rfl)) rfl ?_
  | refine ew_name 8 rfl (by first | exact .inl rfl | exact .inr (.inl rfl) | exact .inr (.inr rfl)) rfl ?_
  | refine ew_name 9 rfl (by first | exact .inl rfl | exact .inr (.inl rfl) | exact .inr (.inr rfl)) rfl ?_
  | refine ew_name 10 rfl (by first | exact .inl rfl | exact .inr (.inl rfl) | exact .inr (.inr rfl)) rfl ?_
  | refine ew_name 11 rfl (by first | exact .inl rfl | exact .inr (.inl rfl) | exact .inr (.inr rfl)) rfl ?_
  | refine ew_name 12 rfl (by first | exact .inl rfl | exact .inr (.inl rfl) | exact .inr (.inr rfl)) rfl ?_)
local macro_rules | `(tactic| walk_at "i") => `(tactic| (refine' cl_isi (.ty _) ?a ?b ?_; (case a => constructor); (case b => with_reducible first | exact kit_int_int | exact kit_int_bool | exact kit_bool_int | exact kit_bool_bool | exact kit_NoneType_int | exact kit_str_int | exact kit_list_int | exact kit_tuple_int | exact kit_dict_int | exact kit_tuple_tuple | exact kit_int_tuple | exact kit_NoneType_tuple | exact kit_bool_tuple | exact kit_str_tuple | exact kit_list_tuple | exact kit_dict_tuple)))
local macro_rules | `(tactic| walk_at "l") => `(tactic| first
  | refine ew_isinstance (Tx.f_isinstance (by assumption)) ?_ | refine ew_len (Tx.f_len (by assumption)) ?_ | refine ew_vint (Tx.f_int (by assumption)) ?_ | refine ew_vbool (Tx.f_bool (by assumption)) ?_ | refine ew_vtuple (Tx.f_tuple (by assumption)) ?_ | refine ew_vstr (Tx.f_str (by assumption)) ?_
  | refine ew_gint (Tx.i_MOST_PERIOD (by assumption)) (by rfl) ?_ | refine ew_gint (Tx.i_DIGITS (by assumption)) (by rfl) ?_ | refine ew_gint (Tx.i_FAR (by assumption)) (by rfl) ?_ | refine ew_gint (Tx.i_MOST_MODULUS (by assumption)) (by rfl) ?_ | refine ew_gint (Tx.i_MOST_PERIODS (by assumption)) (by rfl) ?_
  | refine cl_len ?_ | refine cl_lenT ?_ | refine ix_tpl rfl ?_ | refine od_is (by intro _ h; cases h) ?_)
local macro_rules | `(tactic| walk_at "x") => `(tactic| repeat (first | walk_at "c" | walk_at "n" | walk_at "l" | walk_at "i"))
/-- the number's text -/
def num (n : Nat) : Str := Str.ofString (toString ((n : Nat) : Int))
theorem num_tl (n : Nat) : (num n).cps.toList = TL.numL n := TL.tl_num n
theorem num_len {n : Nat} (h : n < 10 ^ 40) : 1 ≤ (num n).length ∧ (num n).length ≤ 40 := by
  have e : (num n).length = (TL.numL n).length := by
    rw [← num_tl]
    rfl
  rw [e]
  refine ⟨?_, TL.numL_len (by decide) h⟩
  cases q : TL.numL n with
  | nil => exact absurd q (TL.numL_ne n)
  | cons a r => simp
theorem num_digit {n i c : Nat} (h : (num n).cps[i]? = some c) : 48 ≤ c ∧ c ≤ 57 := by
  have h2 : c ∈ (num n).cps.toList := by
    rw [← Array.getElem?_toList] at h
    exact List.mem_of_getElem? h
  rw [num_tl] at h2
  exact TL.numL_digits n c h2
theorem num_neg (n : Nat) : Txt.startswith (num n) "-" = false := by
  cases q : Txt.startswith (num n) "-" with
  | false => rfl
  | true =>
    unfold Txt.startswith at q
    obtain ⟨_, h2⟩ := Bool.and_eq_true_iff.mp q
    unfold Builtin.Str.subAt at h2
    have h3 := congrArg (fun a : Array Nat => a[0]?) (beq_iff_eq.mp h2)
    have h4 : (("-" : Str)).cps[0]? = some 45 := by decide
    simp only [h4, Array.getElem?_extract] at h3
    split at h3
    · have h5 : (num n).cps[0]? = some 45 := h3
      have := num_digit h5
      omega
    · cases h3
theorem num_int {n : Nat} (h : n < 10 ^ 40) : intText? (num n) = some (n : Int) := TL.int_num (Nat.le_trans (TL.numL_len (by decide) h) (by decide))
theorem num_dg (n : Nat) : dg (num n) = num n := by
  unfold dg
  rw [if_neg (by rw [num_neg]; simp)]
theorem num_lenOk {n : Nat} (h : n < 10 ^ 40) : lenOk (num n) = true := by
  obtain ⟨a, b⟩ := num_len h
  unfold lenOk
  rw [num_dg, decide_eq_true (by omega), decide_eq_true (by omega)]
  rfl
theorem num_digOk (n : Nat) : digOk (num n) = true := by
  unfold digOk
  rw [num_dg, List.all_eq_true]
  intro c hc
  obtain ⟨i, hi⟩ := List.getElem?_of_mem hc
  rw [Array.getElem?_toList] at hi
  obtain ⟨c1, c2⟩ := num_digit hi
  unfold isDig
  refine decide_eq_true ?_
  have : c = 48 ∨ c = 49 ∨ c = 50 ∨ c = 51 ∨ c = 52 ∨ c = 53 ∨ c = 54 ∨ c = 55 ∨ c = 56 ∨ c = 57 := by omega
  rcases this with rfl | rfl | rfl | rfl | rfl | rfl | rfl | rfl | rfl | rfl <;> decide
theorem num_val {n : Nat} (h : n < 10 ^ 40) : valN (num n) = n := by
  unfold valN
  rw [num_int h]
  rfl
theorem num_isN {n : Nat} (h : n < 10 ^ 40) : isN (num n) = true := by
  unfold isN
  rw [num_lenOk h, num_digOk, num_val h, Bool.true_and, Bool.true_and]
  exact decide_eq_true rfl
theorem num_wd {n : Nat} (h : n < 10 ^ 40) : Wd (num n) ∧ PyData.strOk (num n) = true := by
  obtain ⟨a, b⟩ := num_len h
  refine ⟨⟨by omega, by rw [num_dg]; omega, fun _ _ => ⟨n, num_int h, ?_⟩⟩, strOk_of _⟩
  rw [Int.natAbs_natCast]
  exact Nat.lt_trans h (by decide)
end K24
set_option Elab.async false
set_option linter.all false
set_option maxRecDepth 100000
set_option maxHeartbeats 2000000
/-! codes of made texts -/
namespace Sho
open PySem PySem.Spec PyProof.Rows L2 Sx
theorem ok_iff {z : Str} : PyData.strOk z = true ↔ ∀ c ∈ z.cps.toList, c < 1114112 := by
  unfold PyData.strOk
  rw [Array.all_eq_true_iff_forall_mem]
  simp only [decide_eq_true_eq, Array.mem_toList_iff]
theorem ok_of (x : String) : PyData.strOk (Str.ofString x) = true := by
  unfold PyData.strOk
  rw [Str.ofString_eq_toList]
  simp only [List.all_toArray, List.all_map, List.all_eq_true]
  intro c _
  have v := c.valid
  refine decide_eq_true ?_
  show c.val.toNat < 0x110000
  have v : c.val.toNat < 0xD800 ∨ (0xDFFF < c.val.toNat ∧ c.val.toNat < 0x110000) := v
  omega
theorem ok_app {a b : Str} (h1 : PyData.strOk a = true) (h2 : PyData.strOk b = true) : PyData.strOk (a ++ b) = true := by
  rw [ok_iff] at *
  intro c hc
  have hc : c ∈ (a.cps ++ b.cps).toList := hc
  rw [Array.toList_append] at hc
  rcases List.mem_append.mp hc with hc | hc
  · exact h1 c hc
  · exact h2 c hc
theorem ok_join {y : Str} (hy : PyData.strOk y = true) : ∀ {zs : List Str}, (∀ z ∈ zs, PyData.strOk z = true) → PyData.strOk (Str.join y zs) = true
  | [], _ => ok_of ""
  | [z], h => h z (by simp)
  | x :: z :: r, h => by
    show PyData.strOk (x ++ y ++ Str.join y (z :: r)) = true
    exact ok_app (ok_app (h x (by simp)) hy) (ok_join hy fun w hw => h w (List.mem_cons_of_mem _ hw))
theorem ok_tjoin {y : Str} (hy : PyData.strOk y = true) {zs : List Str} (h : ∀ z ∈ zs, PyData.strOk z = true) : PyData.strOk (Txt.join y zs) = true := by
  rw [TL.join_eq]
  exact ok_join hy h
theorem len_app (a b : Str) : (a ++ b).length = a.length + b.length := by
  show (a.cps ++ b.cps).size = _
  rw [Array.size_append]
  rfl
theorem join_len (y : Str) : ∀ zs : List Str, (Str.join y zs).length ≤ (zs.map (·.length)).sum + zs.length * y.length
  | [] => Nat.zero_le _
  | [z] => by
    show z.length ≤ z.length + 0 + 1 * y.length
    omega
  | x :: z :: r => by
    have ih := join_len y (z :: r)
    show (x ++ y ++ Str.join y (z :: r)).length ≤ _
    rw [len_app, len_app]
    rw [List.map_cons, List.sum_cons, List.length_cons, Nat.succ_mul]
    omega
theorem sum_le {k : Nat} : ∀ {zs : List Str}, (∀ z ∈ zs, z.length ≤ k) → (zs.map (·.length)).sum ≤ zs.length * k
  | [], _ => Nat.zero_le _
  | x :: r, h => by
    have a := h x (by simp)
    have b := sum_le (zs := r) fun z hz => h z (List.mem_cons_of_mem _ hz)
    rw [List.map_cons, List.sum_cons, List.length_cons, Nat.succ_mul]
    omega
mutual
/-- data without texts -/
def dry : D → Bool
  | .non => true
  | .bl _ => true
  | .int _ => true
  | .lst xs => dryL xs
  | .tup xs => dryL xs
  | _ => false
def dryL : List D → Bool
  | [] => true
  | d :: ds => dry d && dryL ds
end
mutual
theorem dry_ok : ∀ d : D, dry d = true → PyData.strOk d.py.shown = true
  | .non, _ => by
    have e : (D.non).py.shown = ("None" : Str) := PyData.shown_none
    rw [e]
    exact ok_of _
  | .bl b, _ => by
    have e : (D.bl b).py.shown = (if b then "True" else "False" : Str) := PyData.shown_bool b
    rw [e]
    cases b <;> exact ok_of _
  | .int i, _ => by
    have e : (D.int i).py.shown = ((toString i : String) : Str) := PyData.shown_int i
    rw [e]
    exact ok_of _
  | .lst xs, h => by
    have e : (D.lst xs).py.shown = ("[" : Str) ++ Str.join ", " (PyData.shownAll (D.pyL xs)) ++ "]" := PyData.shown_list _
    rw [e]
    exact ok_app (ok_app (ok_of _) (ok_join (ok_of _) (dryL_ok xs (by simpa only [dry] using h)))) (ok_of _)
  | .tup xs, h => by
    have e : (D.tup xs).py.shown = ("(" : Str) ++ Str.join ", " (PyData.shownAll (D.pyL xs)) ++ (if (D.pyL xs).length == 1 then ",)" else ")" : String) := PyData.shown_tuple _
    rw [e]
    exact ok_app (ok_app (ok_of _) (ok_join (ok_of _) (dryL_ok xs (by simpa only [dry] using h)))) (ok_of _)
  | .str _, h => by simp only [dry] at h; cases h
  | .obj _ _, h => by simp only [dry] at h; cases h
  | .exc _ _, h => by simp only [dry] at h; cases h
  | .dct0, h => by simp only [dry] at h; cases h
  | .own _, h => by simp only [dry] at h; cases h
  | .raw _, h => by simp only [dry] at h; cases h
theorem dryL_ok : ∀ xs : List D, dryL xs = true → ∀ z ∈ PyData.shownAll (D.pyL xs), PyData.strOk z = true
  | [], _, z, hz => by
    rw [D.pyL, PyData.shownAll_nil] at hz
    cases hz
  | d :: ds, h, z, hz => by
    simp only [dryL, Bool.and_eq_true] at h
    rw [D.pyL, PyData.shownAll_cons] at hz
    rcases List.mem_cons.mp hz with rfl | hz
    · exact dry_ok d h.1
    · exact dryL_ok ds h.2 z hz
end
end Sho
set_option Elab.async false
set_option linter.all false
set_option maxRecDepth 100000
set_option maxHeartbeats 4000000
namespace K24
open PySem PySem.Spec PyProof.Rows L2 Sx
local macro_rules | `(tactic| walk_at "c") => `(tactic| first
  | refine aw_cons ?_ | refine aw_nil ?_
  | refine ew_int ?_ | refine ew_non ?_ | refine ew_bl ?_ | refine ew_str ?_
  | refine ew_bin ?_ | refine ew_cmp ?_ | refine tw_cmp ?_ | refine tw_not ?_ | refine ew_chain ?_ | refine tw_chain ?_ | refine ew_and ?_ | refine ew_or ?_ | refine ew_one ?_ | refine ew_not ?_ | refine ew_neg ?_ | refine ew_if ?_
  | refine tw_w (ww_and ?_) | refine tw_w (ww_or ?_) | refine ww_and ?_ | refine ww_or ?_ | refine ww_and1 ?_ | refine ww_or1 ?_
  | refine tw_val (e := .Call _ _ _ _) ?_ | refine ew_tup ?_ | refine ew_ix ?_ | refine ew_lst ?_
  | refine sw_cons ?_ | refine s1_ret ?_ | refine s1_if ?_ | refine sw_nil ?_ | refine s1_expr ?_
  | refine od_add ?_ | refine od_sub ?_ | refine od_lt ?_ | refine od_le ?_ | refine od_gt ?_ | refine od_ge ?_
  | refine isB ?_ | refine intD ?_ | refine br_t ?_ | refine br_f ?_
  | refine ⟨szl (Nat.le_of_ble_eq_true rfl), ?_⟩)
local macro_rules | `(tactic| walk_at "n") => `(tactic| first
  | refine ew_name 0 rfl (by first | exact .inl rfl | exact .inr (.inl rfl) | exact .inr (.inr rfl)) rfl ?_
  | refine ew_name 1 rfl (by first | exact .inl rfl | exact .inr (.inl rfl) | exact .inr (.inr rfl)) rfl ?_
  | refine ew_name 2 rfl (by first | exact .inl rfl | exact .inr (.inl rfl) | exact .inr (.inr rfl)) rfl ?_
  | refine ew_name 3 rfl (by first | exact .inl rfl | exact .inr (.inl rfl) | exact .inr (.inr rfl)) rfl ?_
  | refine ew_name 4 rfl (by first | exact .inl rfl | exact .inr (.inl rfl) | exact .inr (.inr rfl)) rfl ?_
  | refine ew_name 5 rfl (by first | exact .inl rfl | exact .inr (.inl rfl) | exact .inr (.inr rfl)) rfl ?_
  | refine ew_name 6 rfl (by first | exact .inl rfl | exact .inr (.inl rfl) | exact .inr (.inr rfl)) rfl ?_
  | refine ew_name 7 rfl (by first | exact .inl rfl | exact .inr (.inl rfl) | exact .inr (.inr rfl)) rfl ?_
  | refine ew_name 8 rfl (by first | exact .inl rfl | exact .inr (.inl rfl) | exact .inr (.inr rfl)) rfl ?_
  | refine ew_name 9 rfl (by first | exact .inl rfl | exact .inr (.inl rfl) | exact .inr (.inr rfl)) rfl ?_
  | refine ew_name 10 rfl (by first | exact .inl rfl | exact .inr (.inl rfl) | exact .inr (.inr rfl)) rfl ?_
  | refine ew_name 11 rfl (by first | exact .inl rfl | exact .inr (.inl rfl) | exact .inr (.inr rfl)) rfl ?_
  | refine ew_name 12 rfl (by first | exact .inl rfl | exact .inr (.inl rfl) | exact .inr (.inr rfl)) rfl ?_)
local macro_rules | `(tactic| walk_at "i") => `(tactic| (refine' cl_isi (.ty _) ?a ?b ?_; (case a => constructor); (case b => with_reducible first | exact kit_int_int | exact kit_int_bool | exact kit_bool_int | exact kit_bool_bool | exact kit_NoneType_int | exact kit_str_int | exact kit_list_int | exact kit_tuple_int | exact kit_dict_int | exact kit_tuple_tuple | exact kit_int_tuple | exact kit_NoneType_tuple | exact kit_bool_tuple | exact kit_str_tuple | exact kit_list_tuple | exact kit_dict_tuple)))
local macro_rules | `(tactic| walk_at "l") => `(tactic| first
  | refine ew_isinstance (Tx.f_isinstance (by assumption)) ?_ | refine ew_len (Tx.f_len (by assumption)) ?_ | refine ew_vint (Tx.f_int (by assumption)) ?_ | refine ew_vbool (Tx.f_bool (by assumption)) ?_ | refine ew_vtuple (Tx.f_tuple (by assumption)) ?_ | refine ew_vstr (Tx.f_str (by assumption)) ?_
  | refine ew_gint (Tx.i_MOST_PERIOD (by assumption)) (by rfl) ?_ | refine ew_gint (Tx.i_DIGITS (by assumption)) (by rfl) ?_ | refine ew_gint (Tx.i_FAR (by assumption)) (by rfl) ?_ | refine ew_gint (Tx.i_MOST_MODULUS (by assumption)) (by rfl) ?_ | refine ew_gint (Tx.i_MOST_PERIODS (by assumption)) (by rfl) ?_
  | refine cl_len ?_ | refine cl_lenT ?_ | refine ix_tpl rfl ?_ | refine od_is (by intro _ h; cases h) ?_)
local macro_rules | `(tactic| walk_at "x") => `(tactic| repeat (first | walk_at "c" | walk_at "n" | walk_at "l" | walk_at "i"))
/-- the words of a kind's text -/
def Kd.words : Kd → List Str
  | .pl => ["plain"]
  | .rs => ["restarting"]
  | .md m => ["modulo", num m]
  | .dl ps => "dials" :: ps.map num
section
variable {P : Program} {w : World} {K : PySem.W.Frag} {mg : Str → Option Value} {base : Heap}
def F_totR (K : PySem.W.Frag) (k : Kd) : FT := fun ds cs _ KE => ∃ v, ds = [rO K k, v] ∧ k.Good ∧ Pln2 v ∧ isr k v = false ∧ KE (He.ga K "BadReading") [("at", .str "reading")] cs
theorem g_totR (T : Tx K mg) (k : Kd) : Dfs.Mfn P w K mg base (L2.CX P w) 6 (CK K k) "total_of" ["self", "reading"] (spF (F_totR K k)) := by
  have len : ∀ ds cs Kk KE, F_totR K k ds cs Kk KE → ds.length = (["self", "reading"] : List Str).length := fun ds cs Kk KE h => by
    obtain ⟨_, rfl, _⟩ := h
    rfl
  cases k with
  | pl =>
    refine mfnF T.q_Plain_total_of T.c_Plain T.m_Plain_total_of (N := ["self", "reading"]) ⟨rfl, rfl, rfl, by decide +kernel, rfl, by decide +kernel, by decide +kernel⟩ (fun kV doc pm an cdv ct => Vls.bind2 fun a b => rfl) len (fun cdv A outer s H E ds cs Kk KE hr h => ?_)
    obtain ⟨v, rfl, gk, hp, hv, q⟩ := h
    refine sw_cons (s1_expr ?_)
    refine ew_call .same (d_cread T .pl) hr (by rfl) pc ?_
    walk_at "x"
    exact ⟨v, _, rfl, gk, hp, fun h1 => by (rw [hv] at h1; cases h1), fun _ => q⟩
  | rs =>
    refine mfnF T.q_Restarting_total_of T.c_Restarting T.m_Restarting_total_of (N := ["self", "reading"]) ⟨rfl, rfl, rfl, by decide +kernel, rfl, by decide +kernel, by decide +kernel⟩ (fun kV doc pm an cdv ct => Vls.bind2 fun a b => rfl) len (fun cdv A outer s H E ds cs Kk KE hr h => ?_)
    obtain ⟨v, rfl, gk, hp, hv, q⟩ := h
    refine sw_cons (s1_expr ?_)
    refine ew_call .same (d_cread T .rs) hr (by rfl) pc ?_
    walk_at "x"
    exact ⟨v, _, rfl, gk, hp, fun h1 => by (rw [hv] at h1; cases h1), fun _ => q⟩
  | md m =>
    refine mfnF T.q_Wrapping_total_of T.c_Wrapping T.m_Wrapping_total_of (N := ["self", "reading"]) ⟨rfl, rfl, rfl, by decide +kernel, rfl, by decide +kernel, by decide +kernel⟩ (fun kV doc pm an cdv ct => Vls.bind2 fun a b => rfl) len (fun cdv A outer s H E ds cs Kk KE hr h => ?_)
    obtain ⟨v, rfl, gk, hp, hv, q⟩ := h
    refine sw_cons (s1_expr ?_)
    refine ew_call .same (d_cread T (.md m)) hr (by rfl) pc ?_
    walk_at "x"
    exact ⟨v, _, rfl, gk, hp, fun h1 => by (rw [hv] at h1; cases h1), fun _ => q⟩
  | dl ps =>
    refine mfnF T.q_Dials_total_of T.c_Dials T.m_Dials_total_of (N := ["self", "reading"]) ⟨rfl, rfl, rfl, by decide +kernel, rfl, by decide +kernel, by decide +kernel⟩ (fun kV doc pm an cdv ct => Vls.bind2 fun a b => rfl) len (fun cdv A outer s H E ds cs Kk KE hr h => ?_)
    obtain ⟨v, rfl, gk, hp, hv, q⟩ := h
    refine sw_cons (s1_expr ?_)
    refine ew_call .same (d_cread T (.dl ps)) hr (by rfl) pc ?_
    walk_at "x"
    exact ⟨v, _, rfl, gk, hp, fun h1 => by (rw [hv] at h1; cases h1), fun _ => q⟩
def F_btwR (K : PySem.W.Frag) (k : Kd) : FT := fun ds cs _ KE => ∃ v u, ds = [rO K k, v, u] ∧ k.Good ∧ Pln2 v ∧ Pln2 u ∧ ((isr k v = false ∧ KE (He.ga K "BadReading") [("at", .str "earlier")] cs) ∨ (isr k v = true ∧ isr k u = false ∧ KE (He.ga K "BadReading") [("at", .str "later")] cs))
theorem g_btwR (T : Tx K mg) (k : Kd) : Dfs.Mfn P w K mg base (L2.CX P w) 7 (CK K k) "between" ["self", "earlier", "later"] (spF (F_btwR K k)) := by
  have len : ∀ ds cs Kk KE, F_btwR K k ds cs Kk KE → ds.length = (["self", "earlier", "later"] : List Str).length := fun ds cs Kk KE h => by
    obtain ⟨_, _,  rfl, _⟩ := h
    rfl
  cases k with
  | pl =>
    refine mfnF T.q_Plain_between T.c_Plain T.m_Plain_between (N := ["self", "earlier", "later"]) ⟨rfl, rfl, rfl, by decide +kernel, rfl, by decide +kernel, by decide +kernel⟩ (fun kV doc pm an cdv ct => Vls.bind3 fun a b c => rfl) len (fun cdv A outer s H E ds cs Kk KE hr h => ?_)
    obtain ⟨v, u, rfl, gk, hp, hu, q⟩ := h
    refine sw_cons (s1_expr ?_)
    refine ew_call .same (d_creads T .pl) hr (by rfl) pc ?_
    walk_at "x"
    refine ⟨v, u, rfl, gk, hp, hu, fun h1 h2 => ?_, fun h1 => ?_, fun h1 h2 => ?_⟩
    · rcases q with ⟨a, _⟩ | ⟨a, b, _⟩
      · rw [a] at h1; cases h1
      · rw [b] at h2; cases h2
    · rcases q with ⟨a, q⟩ | ⟨a, b, _⟩
      · exact q
      · rw [a] at h1; cases h1
    · rcases q with ⟨a, _⟩ | ⟨a, b, q⟩
      · rw [a] at h1; cases h1
      · exact q
  | rs =>
    refine mfnF T.q_Restarting_between T.c_Restarting T.m_Restarting_between (N := ["self", "earlier", "later"]) ⟨rfl, rfl, rfl, by decide +kernel, rfl, by decide +kernel, by decide +kernel⟩ (fun kV doc pm an cdv ct => Vls.bind3 fun a b c => rfl) len (fun cdv A outer s H E ds cs Kk KE hr h => ?_)
    obtain ⟨v, u, rfl, gk, hp, hu, q⟩ := h
    refine sw_cons (s1_expr ?_)
    refine ew_call .same (d_creads T .rs) hr (by rfl) pc ?_
    walk_at "x"
    refine ⟨v, u, rfl, gk, hp, hu, fun h1 h2 => ?_, fun h1 => ?_, fun h1 h2 => ?_⟩
    · rcases q with ⟨a, _⟩ | ⟨a, b, _⟩
      · rw [a] at h1; cases h1
      · rw [b] at h2; cases h2
    · rcases q with ⟨a, q⟩ | ⟨a, b, _⟩
      · exact q
      · rw [a] at h1; cases h1
    · rcases q with ⟨a, _⟩ | ⟨a, b, q⟩
      · rw [a] at h1; cases h1
      · exact q
  | md m =>
    refine mfnF T.q_Wrapping_between T.c_Wrapping T.m_Wrapping_between (N := ["self", "earlier", "later"]) ⟨rfl, rfl, rfl, by decide +kernel, rfl, by decide +kernel, by decide +kernel⟩ (fun kV doc pm an cdv ct => Vls.bind3 fun a b c => rfl) len (fun cdv A outer s H E ds cs Kk KE hr h => ?_)
    obtain ⟨v, u, rfl, gk, hp, hu, q⟩ := h
    refine sw_cons (s1_expr ?_)
    refine ew_call .same (d_creads T (.md m)) hr (by rfl) pc ?_
    walk_at "x"
    refine ⟨v, u, rfl, gk, hp, hu, fun h1 h2 => ?_, fun h1 => ?_, fun h1 h2 => ?_⟩
    · rcases q with ⟨a, _⟩ | ⟨a, b, _⟩
      · rw [a] at h1; cases h1
      · rw [b] at h2; cases h2
    · rcases q with ⟨a, q⟩ | ⟨a, b, _⟩
      · exact q
      · rw [a] at h1; cases h1
    · rcases q with ⟨a, _⟩ | ⟨a, b, q⟩
      · rw [a] at h1; cases h1
      · exact q
  | dl ps =>
    refine mfnF T.q_Dials_between T.c_Dials T.m_Dials_between (N := ["self", "earlier", "later"]) ⟨rfl, rfl, rfl, by decide +kernel, rfl, by decide +kernel, by decide +kernel⟩ (fun kV doc pm an cdv ct => Vls.bind3 fun a b c => rfl) len (fun cdv A outer s H E ds cs Kk KE hr h => ?_)
    obtain ⟨v, u, rfl, gk, hp, hu, q⟩ := h
    refine sw_cons (s1_expr ?_)
    refine ew_call .same (d_creads T (.dl ps)) hr (by rfl) pc ?_
    walk_at "x"
    refine ⟨v, u, rfl, gk, hp, hu, fun h1 h2 => ?_, fun h1 => ?_, fun h1 h2 => ?_⟩
    · rcases q with ⟨a, _⟩ | ⟨a, b, _⟩
      · rw [a] at h1; cases h1
      · rw [b] at h2; cases h2
    · rcases q with ⟨a, q⟩ | ⟨a, b, _⟩
      · exact q
      · rw [a] at h1; cases h1
    · rcases q with ⟨a, _⟩ | ⟨a, b, q⟩
      · rw [a] at h1; cases h1
      · exact q
def F_rstr (K : PySem.W.Frag) (k : Kd) : FT := fun ds cs Kk _ => ds = [rO K k] ∧ k.Good ∧ Kk (.str (Txt.join " " k.words)) cs
theorem m_rstr (T : Tx K mg) (k : Kd) : Dfs.Mfn P w K mg base (L2.CX P w) 1 (CK K k) "__str__" ["self"] (spF (F_rstr K k)) := by
  have len : ∀ ds cs Kk KE, F_rstr K k ds cs Kk KE → ds.length = (["self"] : List Str).length := fun ds cs Kk KE h => by
    obtain ⟨ rfl, _⟩ := h
    rfl
  cases k with
  | pl =>
    refine mfnF T.q_Plain_str T.c_Plain T.m_Plain_str (N := ["self"]) ⟨rfl, rfl, rfl, by decide +kernel, rfl, by decide +kernel, by decide +kernel⟩ (fun kV doc pm an cdv ct => Vls.bind1 fun a => rfl) len (fun cdv A outer s H E ds cs Kk KE hr h => ?_)
    obtain ⟨rfl, gk, q⟩ := h
    refine sw_cons (s1_ret (ew_str ?_))
    have e : Txt.join " " [("plain" : Str)] = ("plain" : Str) := by rw [TL.join_eq]; rfl
    have q : Kk (.str (Txt.join " " [("plain" : Str)])) cs := q
    rw [e] at q
    exact q
  | rs =>
    refine mfnF T.q_Restarting_str T.c_Restarting T.m_Restarting_str (N := ["self"]) ⟨rfl, rfl, rfl, by decide +kernel, rfl, by decide +kernel, by decide +kernel⟩ (fun kV doc pm an cdv ct => Vls.bind1 fun a => rfl) len (fun cdv A outer s H E ds cs Kk KE hr h => ?_)
    obtain ⟨rfl, gk, q⟩ := h
    refine sw_cons (s1_ret (ew_str ?_))
    have e : Txt.join " " [("restarting" : Str)] = ("restarting" : Str) := by rw [TL.join_eq]; rfl
    have q : Kk (.str (Txt.join " " [("restarting" : Str)])) cs := q
    rw [e] at q
    exact q
  | md m =>
    refine mfnF T.q_Wrapping_str T.c_Wrapping T.m_Wrapping_str (N := ["self"]) ⟨rfl, rfl, rfl, by decide +kernel, rfl, by decide +kernel, by decide +kernel⟩ (fun kV doc pm an cdv ct => Vls.bind1 fun a => rfl) len (fun cdv A outer s H E ds cs Kk KE hr h => ?_)
    obtain ⟨rfl, gk, q⟩ := h
    obtain ⟨g1, g2⟩ := gk
    have hm : m < 10 ^ 40 := Nat.lt_of_le_of_lt g2 (by decide)
    have l3 := (num_len hm).2
    have e7 : (Str.empty ++ ("modulo " : Str)).length = 7 := by decide
    refine sw_cons (s1_ret (ew_js ?_))
    refine ew_str ⟨_, rfl, szl (by rw [e7]; decide), ?_⟩
    refine ew_fmt (ew_fld T.c_Wrapping T.n_Wrapping_modulus ?_)
    walk_at "n"
    refine ⟨dN m, .obj rfl, ?_⟩
    refine ⟨by have := Flat.log_of (n := ((m : Int)).natAbs) (by rw [Int.natAbs_natCast]; exact Nat.lt_of_le_of_lt g2 (by decide)); omega, _, rfl, szl (by rw [Sho.len_app, e7]; show 7 + (num m).length ≤ _; omega), ?_⟩
    have e : Txt.join " " [("modulo" : Str), num m] = (Str.empty ++ ("modulo " : Str)) ++ num m := by
      rw [TL.join_eq]
      show ("modulo" : Str) ++ " " ++ num m = _
      rw [show (("modulo" : Str) ++ " ") = Str.empty ++ ("modulo " : Str) by decide]
    have q : Kk (.str (Txt.join " " [("modulo" : Str), num m])) cs := q
    rw [e] at q
    exact q
  | dl ps =>
    refine mfnF T.q_Dials_str T.c_Dials T.m_Dials_str (N := ["self", "period"]) ⟨rfl, rfl, rfl, by decide +kernel, rfl, by decide +kernel, by decide +kernel⟩ (fun kV doc pm an cdv ct => Vls.bind1 fun a => rfl) len (fun cdv A outer s H E ds cs Kk KE hr h => ?_)
    have nd : (["self", "period"] : List Str).Nodup := by decide +kernel
    obtain ⟨rfl, gk, q⟩ := h
    obtain ⟨g1, g2, g3⟩ := gk
    refine sw_cons (s1_ret (ew_join (ew_str ⟨_, rfl, ?_⟩)))
    refine ew_lst (aw_cons (ew_str (aw_star ?_)))
    refine ew_lcT [("period", 1)] 0 rfl nd (Vls.blk_by (N := ["self", "period"]) (sc := defScope s_Dials_str) (by decide +kernel)) ?_
    refine ew_fld T.c_Dials T.n_Dials_periods ?_
    walk_at "n"
    refine ⟨_, .obj rfl, ps.map dN, rfl, szl (by rw [List.length_map]; omega), fun z acc cs' => cs' = cs ∧ acc = (ps.take z).map fun p : Nat => D.str (num p), ⟨rfl, rfl⟩, fun z d acc cs' hd hI => ?_, fun acc cs' hI => ?_⟩
    · obtain ⟨rfl, rfl⟩ := hI
      rw [List.getElem?_map] at hd
      obtain ⟨p, hp1, rfl⟩ : ∃ p, ps[z]? = some p ∧ d = dN p := by
        cases y : ps[z]? with
        | none => rw [y] at hd; cases hd
        | some p => rw [y] at hd; cases hd; exact ⟨p, rfl, rfl⟩
      have p2 := (g3 p (List.mem_of_getElem? hp1)).2
      refine ⟨by rw [List.length_map, List.length_take]; omega, fun lx _ _ _ _ _ => ?_⟩
      refine tg_name 1 nd rfl (.inl rfl) ?_
      intro _ _ _ _ _
      refine ts_nil ⟨fun _ => ?_, fun e => by cases e⟩
      intro _ _ _ _ _
      refine ew_callT (T := "str") T.f_str (by rfl) (by kernel_rfl) (aw_cons ?_)
      walk_at "n"
      refine aw_nil (cl_strI (by have := Flat.log_of (n := ((p : Int)).natAbs) (by rw [Int.natAbs_natCast]; exact Nat.lt_of_le_of_lt p2 (by decide)); omega) ?_)
      refine ⟨cs', rfl, rfl, ?_⟩
      rw [List.take_add_one, hp1, List.map_append]
      rfl
    · obtain ⟨rfl, rfl⟩ := hI
      rw [List.length_map, List.take_length]
      refine ⟨_, .inr rfl, aw_nil ⟨szl (by rw [List.length_cons, List.append_nil, List.length_map]; omega), ?_⟩⟩
      refine ⟨"dials" :: ps.map num, .inl (by rw [List.append_nil, List.map_cons, List.map_map]; rfl), ?_, q⟩
      have sm := Sho.sum_le (k := 40) (zs := ("dials" : Str) :: ps.map num) fun z hz => by
        rcases List.mem_cons.mp hz with rfl | hz
        · decide
        · obtain ⟨p, hp, rfl⟩ := List.mem_map.mp hz
          exact (num_len (Nat.lt_of_le_of_lt (g3 p hp).2 (by decide))).2
      have e1 : (" " : Str).length = 1 := by decide
      have el : (("dials" : Str) :: ps.map num).length = ps.length + 1 := by rw [List.length_cons, List.length_map]
      rw [el] at sm
      rw [e1, el]
      omega
end
end K24
set_option Elab.async false
set_option linter.all false
set_option maxRecDepth 100000
set_option maxHeartbeats 4000000
namespace K24
open PySem PySem.Spec PyProof.Rows L2 Sx
local macro_rules | `(tactic| walk_at "c") => `(tactic| first
  | refine aw_cons ?_ | refine aw_nil ?_
  | refine ew_int ?_ | refine ew_non ?_ | refine ew_bl ?_ | refine ew_str ?_
  | refine ew_bin ?_ | refine ew_cmp ?_ | refine tw_cmp ?_ | refine tw_not ?_ | refine ew_chain ?_ | refine tw_chain ?_ | refine ew_and ?_ | refine ew_or ?_ | refine ew_one ?_ | refine ew_not ?_ | refine ew_neg ?_ | refine ew_if ?_
  | refine tw_w (ww_and ?_) | refine tw_w (ww_or ?_) | refine ww_and ?_ | refine ww_or ?_ | refine ww_and1 ?_ | refine ww_or1 ?_
  | refine tw_val (e := .Call _ _ _ _) ?_ | refine ew_tup ?_ | refine ew_ix ?_ | refine ew_lst ?_
  | refine sw_cons ?_ | refine s1_ret ?_ | refine s1_if ?_ | refine sw_nil ?_ | refine s1_expr ?_
  | refine od_add ?_ | refine od_sub ?_ | refine od_lt ?_ | refine od_le ?_ | refine od_gt ?_ | refine od_ge ?_
  | refine isB ?_ | refine intD ?_ | refine br_t ?_ | refine br_f ?_
  | refine ⟨szl (Nat.le_of_ble_eq_true rfl), ?_⟩)
local macro_rules | `(tactic| walk_at "n") => `(tactic| first
  | refine ew_name 0 rfl (by first | exact .inl rfl | exact .inr (.inl rfl) | exact .inr (.inr rfl)) rfl ?_
  | refine ew_name 1 rfl (by first | exact .inl rfl | exact .inr (.inl rfl) | exact .inr (.inr rfl)) rfl ?_
  | refine ew_name 2 rfl (by first | exact .inl rfl | exact .inr (.inl rfl) | exact .inr (.inr rfl)) rfl ?_
  | refine ew_name 3 rfl (by first | exact .inl rfl | exact .inr (.inl rfl) | exact .inr (.inr rfl)) rfl ?_
  | refine ew_name 4 rfl (by first | exact .inl rfl | exact .inr (.inl rfl) | exact .inr (.inr rfl)) rfl ?_
  | refine ew_name 5 rfl (by first | exact .inl rfl | exact .inr (.inl rfl) | exact .inr (.inr rfl)) rfl ?_
  | refine ew_name 6 rfl (by first | exact .inl rfl | exact .inr (.inl rfl) | exact .inr (.inr rfl)) rfl ?_
  | refine ew_name 7 rfl (by first | exact .inl rfl | exact .inr (.inl rfl) | exact .inr (.inr rfl)) rfl ?_
  | refine ew_name 8 rfl (by first | exact .inl rfl | exact .inr (.inl rfl) | exact .inr (.inr rfl)) rfl ?_
  | refine ew_name 9 rfl (by first | exact .inl rfl | exact .inr (.inl rfl) | exact .inr (.inr rfl)) rfl ?_
  | refine ew_name 10 rfl (by first | exact .inl rfl | exact .inr (.inl rfl) | exact .inr (.inr rfl)) rfl ?_
  | refine ew_name 11 rfl (by first | exact .inl rfl | exact .inr (.inl rfl) | exact .inr (.inr rfl)) rfl ?_
  | refine ew_name 12 rfl (by first | exact .inl rfl | exact .inr (.inl rfl) | exact .inr (.inr rfl)) rfl ?_)
local macro_rules | `(tactic| walk_at "i") => `(tactic| (refine' cl_isi (.ty _) ?a ?b ?_; (case a => constructor); (case b => with_reducible first | exact kit_int_int | exact kit_int_bool | exact kit_bool_int | exact kit_bool_bool | exact kit_NoneType_int | exact kit_str_int | exact kit_list_int | exact kit_tuple_int | exact kit_dict_int | exact kit_tuple_tuple | exact kit_int_tuple | exact kit_NoneType_tuple | exact kit_bool_tuple | exact kit_str_tuple | exact kit_list_tuple | exact kit_dict_tuple)))
local macro_rules | `(tactic| walk_at "l") => `(tactic| first
  | refine ew_isinstance (Tx.f_isinstance (by assumption)) ?_ | refine ew_len (Tx.f_len (by assumption)) ?_ | refine ew_vint (Tx.f_int (by assumption)) ?_ | refine ew_vbool (Tx.f_bool (by assumption)) ?_ | refine ew_vtuple (Tx.f_tuple (by assumption)) ?_ | refine ew_vstr (Tx.f_str (by assumption)) ?_
  | refine ew_gint (Tx.i_MOST_PERIOD (by assumption)) (by rfl) ?_ | refine ew_gint (Tx.i_DIGITS (by assumption)) (by rfl) ?_ | refine ew_gint (Tx.i_FAR (by assumption)) (by rfl) ?_ | refine ew_gint (Tx.i_MOST_MODULUS (by assumption)) (by rfl) ?_ | refine ew_gint (Tx.i_MOST_PERIODS (by assumption)) (by rfl) ?_
  | refine cl_len ?_ | refine cl_lenT ?_ | refine ix_tpl rfl ?_ | refine od_is (by intro _ h; cases h) ?_)
local macro_rules | `(tactic| walk_at "x") => `(tactic| repeat (first | walk_at "c" | walk_at "n" | walk_at "l" | walk_at "i"))
def kw : Kd → Str
  | .pl => "plain"
  | .rs => "restarting"
  | .md _ => "modulo"
  | .dl _ => "dials"
def ns : Kd → List Nat
  | .pl => []
  | .rs => []
  | .md m => [m]
  | .dl ps => ps
/-- the numbers behind the first one: f more may come -/
def dlR (ws : List Str) : Nat → Nat → List Nat → (Kd × Nat) ⊕ Nat
  | 0, n, ps => .inl (.dl ps, n)
  | f + 1, n, ps => if n = ws.length then .inl (.dl ps, n) else if numIn (wd ws n) 2 1000 = true then dlR ws f (n + 1) (ps ++ [(valN (wd ws n)).toNat]) else .inr n
/-- what the words tell, ahead of the end: a kind and the place behind it, or the place that cannot stand -/
def rg0 (ws : List Str) : (Kd × Nat) ⊕ Nat :=
  if wd ws 0 = "plain" then .inl (.pl, 1) else if wd ws 0 = "restarting" then .inl (.rs, 1)
  else if wd ws 0 = "modulo" then (if numIn (wd ws 1) 2 (10 ^ 18) = true then .inl (.md (valN (wd ws 1)).toNat, 2) else .inr 1)
  else if wd ws 0 = "dials" then (if numIn (wd ws 1) 2 1000 = true then dlR ws 5 2 [(valN (wd ws 1)).toNat] else .inr 1) else .inr 0
def rg (ws : List Str) : Kd ⊕ Nat := match rg0 ws with
  | .inl (k, n) => if n = ws.length then .inl k else .inr n
  | .inr n => .inr n
theorem numIn_in {ws : List Str} {n : Nat} {lo hi : Int} (hn : n ≤ ws.length) (h : numIn (wd ws n) lo hi = true) : n < ws.length := by
  unfold numIn at h
  rw [Bool.and_eq_true] at h
  exact isN_in hn h.1
theorem numIn_val {z : Str} {lo hi : Int} (h : numIn z lo hi = true) : lo ≤ valN z ∧ valN z ≤ hi := by
  unfold numIn at h
  simp only [Bool.and_eq_true, decide_eq_true_eq] at h
  exact h.2
theorem dN_val {z : Str} (h : 0 ≤ valN z) : D.int (valN z) = dN (valN z).toNat := by
  unfold dN
  rw [Int.toNat_of_nonneg h]
theorem dlR_good {ws : List Str} {k : Kd} {m : Nat} : ∀ (f n : Nat) (ps : List Nat), n ≤ ws.length → 1 ≤ ps.length → ps.length + f ≤ 6 → (∀ p ∈ ps, 2 ≤ p ∧ p ≤ 1000) → dlR ws f n ps = .inl (k, m) → k.Good ∧ m ≤ ws.length
  | 0, n, ps, hn, h1, h2, h3, h => by
    have h : (Sum.inl (Kd.dl ps, n) : (Kd × Nat) ⊕ Nat) = .inl (k, m) := h
    cases h
    exact ⟨⟨h1, by omega, h3⟩, hn⟩
  | f + 1, n, ps, hn, h1, h2, h3, h => by
    have h : (if n = ws.length then (Sum.inl (Kd.dl ps, n) : (Kd × Nat) ⊕ Nat) else if numIn (wd ws n) 2 1000 = true then dlR ws f (n + 1) (ps ++ [(valN (wd ws n)).toNat]) else .inr n) = .inl (k, m) := h
    split at h
    · cases h
      exact ⟨⟨h1, by omega, h3⟩, hn⟩
    · split at h
      · rename_i hi
        have v := numIn_val hi
        have := numIn_in hn hi
        refine dlR_good f (n + 1) _ (by omega) (by simp) (by simp; omega) (fun p hp => ?_) h
        rcases List.mem_append.mp hp with hp | hp
        · exact h3 p hp
        · obtain rfl := List.mem_singleton.mp hp
          omega
      · cases h
theorem rg0_good {ws : List Str} {k : Kd} {m : Nat} (ne : ws ≠ []) (h : rg0 ws = .inl (k, m)) : k.Good ∧ m ≤ ws.length := by
  have l1 : 1 ≤ ws.length := by
    cases ws with
    | nil => exact absurd rfl ne
    | cons _ _ => simp
  unfold rg0 at h
  split at h
  · cases h
    exact ⟨trivial, l1⟩
  · split at h
    · cases h
      exact ⟨trivial, l1⟩
    · split at h
      · split at h
        · rename_i hi
          have v := numIn_val hi
          have i := numIn_in l1 hi
          cases h
          exact ⟨⟨by omega, by omega⟩, by omega⟩
        · cases h
      · split at h
        · split at h
          · rename_i hi
            have v := numIn_val hi
            have i := numIn_in l1 hi
            refine dlR_good 5 2 _ (by omega) (by simp) (by simp) (fun p hp => ?_) h
            obtain rfl := List.mem_singleton.mp hp
            omega
          · cases h
        · cases h
section
variable {P : Program} {w : World} {K : PySem.W.Frag} {mg : Str → Option Value} {base : Heap}
/-- what comes of the words, ahead of the end -/
structure Rs0 (K : PySem.W.Frag) (a : Addr) (ln : Int) (ws : List Str) (cs1 : Cs) (Kk : Kd → Cs → Prop) (KE : Addr → List (Str × D) → Cs → Prop) : Prop where
  yes : ∀ k n, rg0 ws = .inl (k, n) → Kk k ((a, Cell.ins (CW K) (wF ln ws n)) :: cs1)
  no : ∀ n, rg0 ws = .inr n → ∀ ex, KE (He.ga K "BadText") (btF ln n) (ex ++ cs1)
def opts4 : List Str := ["plain", "modulo", "restarting", "dials"]
def F_tn (K : PySem.W.Frag) : FT := fun ds cs Kk KE => ∃ a ln ws cs1, ds = [.own a, .str (wd ws 0)] ∧ cs = (a, Cell.ins (CW K) (wF ln ws 1)) :: cs1 ∧ WsOk ws ∧ ws ≠ [] ∧ wd ws 0 ∈ opts4 ∧ Rs0 K a ln ws cs1 (fun k cs => Kk (.lst ((ns k).map dN)) cs) KE
theorem d_tn (T : Tx K mg) : Dfs.Dfn P w K mg base (L2.CX P w) 6 "take_numbers" ["words", "kind"] (spF (F_tn K)) := by
  have nd : (["words", "kind", "periods"] : List Str).Nodup := by decide +kernel
  refine dfnF T.q_take_numbers T.g_take_numbers (N := ["words", "kind", "periods"]) ⟨rfl, rfl, rfl, by decide +kernel, rfl, by decide +kernel, by decide +kernel⟩ (fun kV doc pm an cdv ct => Vls.bind2 fun a b => rfl) (fun ds cs Kk KE h => ?_) (fun cdv A outer s0 H E ds cs Kk KE hr h => ?_)
  · obtain ⟨_, _, _, _, rfl, _⟩ := h
    rfl
  · obtain ⟨a, ln, ws, cs1, rfl, rfl, hw, ne, ho, q1, q2⟩ := h
    have l1 : 1 ≤ ws.length := by
      cases ws with
      | nil => exact absurd rfl ne
      | cons _ _ => simp
    have so := (hw.at_ 0).2
    refine sw_cons (s1_if (tw_cmp ?_))
    walk_at "n"
    refine ew_str (od_eq hr.units (str_ok so) (str_ok (strOk_of "modulo")) ?_)
    rw [eqv_str]
    by_cases hm : wd ws 0 = "modulo"
    · have e0 : rg0 ws = (if numIn (wd ws 1) 2 (10 ^ 18) = true then .inl (.md (valN (wd ws 1)).toNat, 2) else .inr 1) := by
        unfold rg0
        rw [if_neg (by rw [hm]; decide), if_neg (by rw [hm]; decide), if_pos hm]
      rw [decide_eq_true hm]
      refine isB (br_t (sw_cons (s1_ret (ew_lst (aw_cons ?_)))))
      refine ew_meth .same (m_tnum T) (hr.mono (by decide)) pc ?_
      walk_at "n"
      refine ⟨.own 0 rfl rfl, ?_⟩
      walk_at "x"
      refine ⟨a, 0, ln, ws, 1, 2, 10 ^ 18, rfl, ⟨rfl, hw, l1⟩, fun h0 => ?_, fun h0 => ?_⟩
      · rw [if_pos h0] at e0
        have v := numIn_val h0
        refine aw_nil ⟨szl (Nat.le_of_ble_eq_true rfl), ?_⟩
        rw [dN_val (by omega)]
        exact q1 _ _ e0
      · rw [if_neg (by rw [h0]; simp)] at e0
        exact q2 1 e0 [_]
    · rw [decide_eq_false hm]
      refine isB (br_f (sw_nil (sw_cons (s1_if (tw_cmp ?_)))))
      walk_at "n"
      refine ew_str (od_ne hr.units (str_ok so) (str_ok (strOk_of "dials")) ?_)
      rw [eqv_str]
      by_cases hd : wd ws 0 = "dials"
      · have e0 : rg0 ws = (if numIn (wd ws 1) 2 1000 = true then dlR ws 5 2 [(valN (wd ws 1)).toNat] else .inr 1) := by
          unfold rg0
          rw [if_neg (by rw [hd]; decide), if_neg (by rw [hd]; decide), if_neg hm, if_pos hd]
        rw [decide_eq_true hd]
        refine isB (br_f (sw_nil (sw_cons (s1_set 2 nd rfl (.inl rfl) (ew_lstO 1 (aw_cons ?_))))))
        refine ew_meth .same (m_tnum T) (hr.mono (by decide)) pc ?_
        walk_at "n"
        refine ⟨.own 0 rfl rfl, ?_⟩
        walk_at "x"
        refine ⟨a, 0, ln, ws, 1, 2, 1000, rfl, ⟨rfl, hw, l1⟩, fun h0 => ?_, fun h0 => ?_⟩
        · rw [if_pos h0] at e0
          have v := numIn_val h0
          have i1 := numIn_in l1 h0
          refine aw_nil ⟨szl (Nat.le_of_ble_eq_true rfl), fun y => ?_⟩
          rw [dN_val (by omega)]
          refine sw_cons (s1_while (passes_of rfl) ⟨fun m s => ∃ n ps, s = ⟨[some (.own a), some (.str (wd ws 0)), some (.own y)], (a, Cell.ins (CW K) (wF ln ws n)) :: (y, Cell.lst (ps.map dN)) :: cs1⟩ ∧ n ≤ ws.length ∧ ps.length + m = 6 ∧ 1 ≤ ps.length ∧ rg0 ws = dlR ws m n ps, ⟨5, 2, [(valN (wd ws 1)).toNat], rfl, by omega, rfl, Nat.le_refl 1, e0⟩, ?_⟩)
          rintro m s ⟨n, ps, rfl, hn, hm6, hp1, hrg⟩
          refine tw_w (ww_and (tw_cmp ?_))
          refine ew_len T.f_len (aw_cons ?_)
          walk_at "n"
          refine aw_nil (cl_lenO 1 rfl ?_)
          refine ew_gint T.i_MOST_PERIODS (by rfl) (od_lt ?_)
          rw [List.length_map]
          have fin : dlR ws m n ps = .inl (.dl ps, n) → SW (cxOf (L2.CX P w) P w K mg base ["words", "kind", "periods"] "take_numbers" (defScope s_take_numbers) (He.ga K "take_numbers") cdv A outer s0 H E) ⟨H, (a, Cell.ins (CW K) (wF ln ws 1)) :: cs1, E, KE⟩ ((defBody s_take_numbers).drop 4) ⟨[some (.own a), some (.str (wd ws 0)), some (.own y)], (a, Cell.ins (CW K) (wF ln ws n)) :: (y, Cell.lst (ps.map dN)) :: cs1⟩ { nx := fun s => Kk .non s.cs, rt := fun d s => Kk d s.cs } := fun e => by
            refine sw_freeze 1 2 rfl rfl ?_
            refine sw_cons (s1_ret ?_)
            walk_at "n"
            exact q1 _ _ (hrg.trans e)
          cases m with
          | zero =>
            refine isB (br_f' (decide_eq_false (by omega)) (br_f (fin rfl)))
          | succ f =>
            refine isB (br_t' (decide_eq_true (by omega)) (ww_and1 (tw_not ?_)))
            refine tw_val (e := .Call _ _ _ _) ?_
            refine ew_meth0 (.none fun _ _ _ => False) (m_done T) (hr.mono (by decide)) pF ?_
            walk_at "n"
            refine ⟨.own 0 rfl rfl, a, 0, ln, ws, n, rfl, ⟨rfl, hw, hn⟩, isB ?_⟩
            by_cases hl : n = ws.length
            · rw [decide_eq_true hl]
              refine br_f (fin ?_)
              rw [dlR, if_pos hl]
            · rw [decide_eq_false hl]
              have e2 : rg0 ws = if numIn (wd ws n) 2 1000 = true then dlR ws f (n + 1) (ps ++ [(valN (wd ws n)).toNat]) else .inr n := by rw [hrg, dlR, if_neg hl]
              refine br_t (sw_cons (s1_expr (ew_append ?_)))
              walk_at "n"
              refine ⟨y, 1, ps.map dN, rfl, rfl, ?_⟩
              refine ew_meth .same (m_tnum T) (hr.mono (by decide)) pc ?_
              walk_at "n"
              refine ⟨.own 0 rfl rfl, ?_⟩
              walk_at "x"
              refine ⟨a, 0, ln, ws, n, 2, 1000, rfl, ⟨rfl, hw, hn⟩, fun h1 => ?_, fun h1 => ?_⟩
              · rw [if_pos h1] at e2
                have v := numIn_val h1
                have i2 := numIn_in hn h1
                refine ⟨1, _, rfl, szt (by rw [List.length_map]; omega), sw_nil ?_⟩
                refine ⟨f, Nat.lt_succ_self f, n + 1, ps ++ [(valN (wd ws n)).toNat], ?_, by omega, by simp; omega, by simp, e2⟩
                rw [dN_val (by omega), List.map_append]
                rfl
              · rw [if_neg (by rw [h1]; simp)] at e2
                exact q2 n e2 [_, _]
        · rw [if_neg (by rw [h0]; simp)] at e0
          exact q2 1 e0 [_]
      · rw [decide_eq_false hd]
        refine isB (br_t (sw_cons (s1_ret (ew_lst (aw_nil ⟨szl (Nat.le_of_ble_eq_true rfl), ?_⟩)))))
        have ho : wd ws 0 = "plain" ∨ wd ws 0 = "modulo" ∨ wd ws 0 = "restarting" ∨ wd ws 0 = "dials" := by
          unfold opts4 at ho
          simpa using ho
        rcases ho with h | h | h | h
        · exact q1 .pl 1 (by unfold rg0; rw [if_pos h])
        · exact absurd h hm
        · exact q1 .rs 1 (by unfold rg0; rw [if_neg (by rw [h]; decide), if_pos h])
        · exact absurd h hd
theorem dlR_dl {ws : List Str} {k : Kd} {m : Nat} : ∀ (f n : Nat) (ps : List Nat), dlR ws f n ps = .inl (k, m) → ∃ qs, k = .dl qs
  | 0, n, ps, h => by
    have h : (Sum.inl (Kd.dl ps, n) : (Kd × Nat) ⊕ Nat) = .inl (k, m) := h
    cases h
    exact ⟨_, rfl⟩
  | f + 1, n, ps, h => by
    rw [dlR] at h
    split at h
    · cases h
      exact ⟨_, rfl⟩
    · split at h
      · exact dlR_dl f _ _ h
      · cases h
theorem rg0_kw {ws : List Str} {k : Kd} {m : Nat} (h : rg0 ws = .inl (k, m)) : wd ws 0 = kw k := by
  unfold rg0 at h
  split at h
  · rename_i e
    cases h
    exact e
  · split at h
    · rename_i e
      cases h
      exact e
    · split at h
      · rename_i e
        split at h
        · cases h
          exact e
        · cases h
      · split at h
        · rename_i e
          split at h
          · obtain ⟨qs, rfl⟩ := dlR_dl _ _ _ h
            exact e
          · cases h
        · cases h
theorem rg0_opt {ws : List Str} (h : wd ws 0 ∉ opts4) : rg0 ws = .inr 0 := by
  unfold opts4 at h
  simp only [List.mem_cons, List.not_mem_nil, or_false, not_or] at h
  obtain ⟨h1, h2, h3, h4⟩ := h
  unfold rg0
  rw [if_neg h1, if_neg h3, if_neg h2, if_neg h4]
def F_tdis (K : PySem.W.Frag) : FT := fun ds cs Kk KE => ∃ a ln ws cs1, ds = [.own a] ∧ cs = (a, Cell.ins (CW K) (wF ln ws 0)) :: cs1 ∧ WsOk ws ∧ ws ≠ [] ∧ Rs0 K a ln ws cs1 (fun k cs => Kk (.tup [.str (kw k), .lst ((ns k).map dN)]) cs) KE
theorem d_tdis (T : Tx K mg) : Dfs.Dfn P w K mg base (L2.CX P w) 7 "take_display" ["words"] (spF (F_tdis K)) := by
  have nd : (["words", "kind"] : List Str).Nodup := by decide +kernel
  refine dfnF T.q_take_display T.g_take_display (N := ["words", "kind"]) ⟨rfl, rfl, rfl, by decide +kernel, rfl, by decide +kernel, by decide +kernel⟩ (fun kV doc pm an cdv ct => Vls.bind1 fun a => rfl) (fun ds cs Kk KE h => ?_) (fun cdv A outer s0 H E ds cs Kk KE hr h => ?_)
  · obtain ⟨_, _, _, _, rfl, _⟩ := h
    rfl
  · obtain ⟨a, ln, ws, cs1, rfl, rfl, hw, ne, q1, q2⟩ := h
    have l1 : 0 < ws.length := by
      cases ws with
      | nil => exact absurd rfl ne
      | cons _ _ => simp
    refine sw_cons (s1_set 1 nd rfl (.inl rfl) ?_)
    refine ew_methR .same T.c_Words T.m_Words_take (r_take T) (hr.mono (by decide)) pc ?_
    walk_at "n"
    refine ⟨.own 0 rfl rfl, ?_⟩
    walk_at "x"
    refine ⟨a, 0, ln, ws, 0, opts4, rfl, by decide, ⟨rfl, hw, Nat.zero_le _⟩, fun h => ?_, fun h => ?_⟩
    · refine sw_cons (s1_ret (ew_tup (aw_cons ?_)))
      walk_at "n"
      refine aw_cons ?_
      refine ew_call .same (d_tn T) hr (by rfl) pc ?_
      walk_at "x"
      refine ⟨a, ln, ws, cs1, rfl, rfl, hw, ne, h.2, fun k n e => ?_, fun n e ex => q2 n e ex⟩
      refine aw_nil ⟨szl (Nat.le_of_ble_eq_true rfl), ?_⟩
      rw [rg0_kw e]
      exact q1 k n e
    · exact q2 0 (rg0_opt fun z => h ⟨l1, z⟩) [_]
def F_dof (K : PySem.W.Frag) : FT := fun ds cs Kk _ => ∃ k, ds = [.str (kw k), .lst ((ns k).map dN)] ∧ k.Good ∧ Kk (rO K k) cs
theorem d_dof (T : Tx K mg) (px : Px P base) : Dfs.Dfn P w K mg base (L2.CX P w) 7 "display_of" ["kind", "numbers"] (spF (F_dof K)) := by
  refine dfnF T.q_display_of T.g_display_of (N := ["kind", "numbers"]) ⟨rfl, rfl, rfl, by decide +kernel, rfl, by decide +kernel, by decide +kernel⟩ (fun kV doc pm an cdv ct => Vls.bind2 fun a b => rfl) (fun ds cs Kk KE h => ?_) (fun cdv A outer s0 H E ds cs Kk KE hr h => ?_)
  · obtain ⟨_, rfl, _⟩ := h
    rfl
  · obtain ⟨k, rfl, gk, q⟩ := h
    obtain ⟨fp, Fp, Bp⟩ := g_plain (P := P) (w := w) (base := base) T
    obtain ⟨fr, Fr, Br_⟩ := g_rest (P := P) (w := w) (base := base) T
    obtain ⟨fw, Fw, Bw⟩ := g_wrap (P := P) (w := w) (base := base) T
    have sk : ∀ x : String, (D.str (Str.ofString x)).ok = true := fun x => str_ok (strOk_of x)
    refine sw_cons (s1_if (tw_cmp ?_))
    walk_at "n"
    cases k with
    | pl =>
      refine ew_str (od_eq hr.units (sk "plain") (sk "plain") ?_)
      rw [eqv_str]
      refine isB (br_t' (decide_eq_true rfl) (sw_cons (s1_ret ?_)))
      refine ew_makeR0 .same T.k_Plain ((Fp.raw Bp .nil).imp fun vs H Q E h => by rw [List.append_nil]; exact h) (hr.mono (by decide)) (by rfl) T.g_Plain pc ?_
      exact fun y => ⟨y, cs, rfl, rfl, rfl, _, _, rfl, q⟩
    | rs =>
      refine ew_str (od_eq hr.units (sk "restarting") (sk "plain") ?_)
      rw [eqv_str]
      refine isB (br_f' (decide_eq_false (show ("restarting" : Str) ≠ ("plain" : Str) by decide)) (sw_nil (sw_cons (s1_if (tw_cmp ?_)))))
      walk_at "n"
      refine ew_str (od_eq hr.units (sk "restarting") (sk "restarting") ?_)
      rw [eqv_str]
      refine isB (br_t' (decide_eq_true rfl) (sw_cons (s1_ret ?_)))
      refine ew_makeR0 .same T.k_Restarting ((Fr.raw Br_ .nil).imp fun vs H Q E h => by rw [List.append_nil]; exact h) (hr.mono (by decide)) (by rfl) T.g_Restarting pc ?_
      exact fun y => ⟨y, cs, rfl, rfl, rfl, _, _, rfl, q⟩
    | md m =>
      refine ew_str (od_eq hr.units (sk "modulo") (sk "plain") ?_)
      rw [eqv_str]
      refine isB (br_f' (decide_eq_false (show ("modulo" : Str) ≠ ("plain" : Str) by decide)) (sw_nil (sw_cons (s1_if (tw_cmp ?_)))))
      walk_at "n"
      refine ew_str (od_eq hr.units (sk "modulo") (sk "restarting") ?_)
      rw [eqv_str]
      refine isB (br_f' (decide_eq_false (show ("modulo" : Str) ≠ ("restarting" : Str) by decide)) (sw_nil (sw_cons (s1_ret (ew_if (tw_cmp ?_))))))
      walk_at "n"
      refine ew_str (od_eq hr.units (sk "modulo") (sk "modulo") ?_)
      rw [eqv_str]
      refine isB (br_t' (decide_eq_true rfl) ?_)
      refine ew_makeS (.none fun _ _ _ => False) T.k_Wrapping ((Fw.raw Bw .nil).imp fun vs H Q E h => by rw [List.append_nil]; exact h) (hr.mono (by decide)) (by rfl) T.g_Wrapping pF ?_
      walk_at "n"
      obtain ⟨g1, g2⟩ := gk
      have e : inR 2 (10 ^ 18) (dN m) = true := by
        show (decide ((2 : Int) ≤ (m : Int)) && decide ((m : Int) ≤ 10 ^ 18)) = true
        rw [decide_eq_true (by omega), decide_eq_true (by omega)]
        rfl
      exact ⟨_, .inr rfl, fun y => ⟨y, CMd K, dN m, cs, rfl, rfl, T.c_Wrapping, T.n_Wrapping_modulus, trivial, fun _ => ⟨rfl, _, _, rfl, q⟩, fun h => by (rw [e] at h; cases h)⟩⟩
    | dl ps =>
      refine ew_str (od_eq hr.units (sk "dials") (sk "plain") ?_)
      rw [eqv_str]
      refine isB (br_f' (decide_eq_false (show ("dials" : Str) ≠ ("plain" : Str) by decide)) (sw_nil (sw_cons (s1_if (tw_cmp ?_)))))
      walk_at "n"
      refine ew_str (od_eq hr.units (sk "dials") (sk "restarting") ?_)
      rw [eqv_str]
      refine isB (br_f' (decide_eq_false (show ("dials" : Str) ≠ ("restarting" : Str) by decide)) (sw_nil (sw_cons (s1_ret (ew_if (tw_cmp ?_))))))
      walk_at "n"
      refine ew_str (od_eq hr.units (sk "dials") (sk "modulo") ?_)
      rw [eqv_str]
      refine isB (br_f' (decide_eq_false (show ("dials" : Str) ≠ ("modulo" : Str) by decide)) ?_)
      refine ew_makeS (.none fun _ _ _ => False) T.k_Dials (r_dials T px) (hr.mono (by decide)) (by rfl) T.g_Dials pF ?_
      walk_at "n"
      obtain ⟨g1, g2, g3⟩ := gk
      refine ⟨_, .inr rfl, fun y => ⟨y, ps.map dN, cs, rfl, rfl, ⟨fun v hv => ?_, by rw [List.length_map]; omega⟩, ?_⟩⟩
      · obtain ⟨p, _, rfl⟩ := List.mem_map.mp hv
        trivial
      · unfold Dc
        rw [List.length_map, if_neg (by omega), badP_ok g3]
        intro qs e hq
        rw [← map_dN_inj e]
        exact ⟨rfl, _, _, rfl, q⟩
def F_rread (K : PySem.W.Frag) : FT := fun ds cs Kk KE => ∃ t, ds = [.raw (.ref (He.ga K "Register")), t] ∧
  ((∃ z, t = .str z ∧ z.length ≤ 9000 ∧ WsOk (Txt.split z " ") ∧ Txt.split z " " ≠ [] ∧ (∀ k, rg (Txt.split z " ") = .inl k → Kk (rO K k) cs) ∧ ∀ n, rg (Txt.split z " ") = .inr n → ∀ ex, KE (He.ga K "BadText") (btF 0 n) (ex ++ cs)) ∨
   (∃ ty : Value, (∀ cs, TyD K t cs ty) ∧ PySem.W.kitOne K ty (.type "str") = some false ∧ ∀ ex, KE (He.ga K "BadText") (btF 0 0) (ex ++ cs)))
theorem rg_good {ws : List Str} {k : Kd} (ne : ws ≠ []) (h : rg ws = .inl k) : k.Good := by
  unfold rg at h
  split at h
  · rename_i k' n e
    split at h
    · cases h
      exact (rg0_good ne e).1
    · cases h
  · cases h
theorem g_rread (T : Tx K mg) (px : Px P base) : ∃ fd, FnOk P w K mg base (L2.CX P w) 9 (Hkc.gm K (He.ga K "Register") "read") fd ["cls", "text"] (spF (F_rread K)) ∧ L2.Binds K fd ["cls", "text"] [] ∧ KBn K fd ["cls", "text"] 1 ["text"] (fun us ws => us ++ ws) (fun vs zs => vs ++ zs) := by
  have nd : (["cls", "text", "words", "kind", "numbers"] : List Str).Nodup := by decide +kernel
  obtain ⟨oc, od, kV, doc, pm, an, cdv, ct, osl, lk, hcd⟩ := Hkc.fn_md (m := m_Register_read) T.v_Register_read rfl T.cm_Register_read.2.2
  obtain ⟨fi, us, Fi, Bi, Vi⟩ := f_wini (P := P) (w := w) (base := base) T
  have G := fn_of (P := P) (w := w) (mg := mg) (base := base) (CX := L2.CX P w) (k := 8) (N := ["cls", "text", "words", "kind", "numbers"]) (ps := ["cls", "text"]) (sp := spF (F_rread K)) lk hcd ⟨rfl, rfl, rfl, by decide +kernel, rfl, by decide +kernel, by decide +kernel⟩ (fun vs H Q E h => ?_) (fun A outer s H vs Q E hr h => ?_)
  · exact ⟨_, G, L2.Binds.all (Vls.bind2 fun a b => rfl), Mk0.kb1 fun s a b _ => .of_eq rfl⟩
  · obtain ⟨ds, cs, Kk, KE, r, ok, ⟨t, rfl, _⟩, _⟩ := h
    exact r.len
  · obtain ⟨ds, cs, Kk, KE, r, ok, f, q1, q2⟩ := h
    refine body_go r ok q1 q2 ?_
    obtain ⟨t, rfl, f⟩ := f
    show SW _ _ (defBody s_Register_read) _ _
    refine sw_cons (s1_set 2 nd rfl (.inl rfl) ?_)
    refine ew_makeO (dds := [.int 0]) .same T.k_Words Fi (hr.mono (by decide)) (by rfl) T.g_Words Bi Vi (fun H M => .cons (.int 0) .nil) (passes_call (takes_of rfl rfl rfl rfl) fun _ _ _ _ h => h) ?_
    walk_at "x"
    intro y
    rcases f with ⟨z, rfl, hz, hw, hne, g1, g2⟩ | ⟨ty, ht, he, g⟩
    · refine ⟨y, .str z, 0, cs, rfl, rfl, .inl ⟨z, rfl, hz, ?_⟩⟩
      refine ⟨rfl, ?_⟩
      generalize Txt.split z " " = ws at hw hne g1 g2
      refine sw_cons (s1_asg (vs := [3, 4]) ?_)
      refine ew_call .same (d_tdis T) (hr.mono (by decide)) (by rfl) (passes_call (takes_of rfl rfl rfl rfl) fun _ _ _ _ h => h) (aw_cons ?_)
      walk_at "n"
      refine aw_nil ⟨y, 0, ws, cs, rfl, rfl, hw, hne, fun k n hk => ?_, fun n hn ex => ?_⟩
      · obtain ⟨gk, hn⟩ := rg0_good hne hk
        refine tg_tup rfl (tgs_cons (tg_name 3 nd rfl (.inl rfl) (tgs_cons (tg_name 4 nd rfl (.inl rfl) (tgs_nil ?_)))))
        refine sw_cons (s1_expr ?_)
        refine ew_meth0 .same (m_fin T) (hr.mono (by decide)) (passes_call (takes_of rfl rfl rfl rfl) fun _ _ _ _ h => h) ?_
        walk_at "n"
        refine ⟨.own 0 rfl rfl, y, 0, 0, ws, n, rfl, ⟨rfl, hw, hn⟩, fun h => ?_, fun h => ?_⟩
        · refine sw_drop (sw_cons (s1_ret ?_))
          refine ew_call (.none fun _ _ _ => False) (d_dof T px) (hr.mono (by decide)) (by rfl) pF (aw_cons ?_)
          walk_at "n"
          refine aw_cons ?_
          walk_at "n"
          refine aw_nil ⟨k, rfl, gk, g1 k ?_⟩
          unfold rg
          rw [hk]
          show (if n = ws.length then (Sum.inl k : Kd ⊕ Nat) else .inr n) = .inl k
          rw [if_pos h]
        · refine g2 n ?_ [_]
          unfold rg
          rw [hk]
          show (if n = ws.length then (Sum.inl k : Kd ⊕ Nat) else .inr n) = .inr n
          rw [if_neg h]
      · refine g2 n ?_ ex
        unfold rg
        rw [hn]
    · refine ⟨y, t, 0, cs, rfl, rfl, .inr ⟨ty, ht _, he, ?_⟩⟩
      exact ⟨_, _, rfl, g []⟩
theorem r_rread (T : Tx K mg) (px : Px P base) : FnR P w K mg base (L2.CX P w) 9 (Hkc.gm K (He.ga K "Register") "read") (spF (F_rread K)) := by
  obtain ⟨fd, G, B, _⟩ := g_rread (P := P) (w := w) (base := base) T px
  exact (G.raw B .nil).imp fun vs H Q E h => by rw [List.append_nil]; exact h
end
end K24
set_option Elab.async false
set_option linter.all false
set_option maxRecDepth 100000
set_option maxHeartbeats 4000000
namespace K24
open PySem PySem.Spec PyProof.Rows L2 Pre Dfs Vls
/-- the pen at p: the cells at a, s draws so far, what is left of a great cell -/
structure Pen (K : PySem.W.Frag) (H : Hp) (p a : Addr) (ns : List Int) (s g : Int) : Prop where
  at_ : H p = some (.lst [.ref a, .int s, .int g])
  cells : H a = some (.lst (ns.map V.int))
  len : ns.length ≤ 63
  s0 : 0 ≤ s
  g0 : 0 ≤ g
theorem Pen.ne {K : PySem.W.Frag} {H : Hp} {p a : Addr} {ns : List Int} {s g : Int} (R : Pen K H p a ns s g) : a ≠ p := by
  refine ne_of R.cells R.at_ fun q => ?_
  have q2 := HO.lst.inj q
  cases ns with
  | nil => cases q2
  | cons y r => cases q2
theorem Pen.next {K : PySem.W.Frag} {H H' : Hp} {p a : Addr} {ns : List Int} {s g s' g' : Int} (R : Pen K H p a ns s g) (b : But p H H')
    (e : H' p = some (.lst [.ref a, .int s', .int g'])) (h1 : 0 ≤ s') (h2 : 0 ≤ g') : Pen K H' p a ns s' g' :=
  ⟨e, b _ _ R.ne R.cells, R.len, h1, h2⟩
theorem same_none {H H' : Hp} {b : Addr} (s : Same H H') (h : H' b = none) : H b = none := by
  cases q : H b with
  | none => rfl
  | some o =>
    rw [s _ _ q] at h
    cases h
theorem Pen.same {K : PySem.W.Frag} {H H' : Hp} {p a : Addr} {ns : List Int} {s g : Int} (R : Pen K H p a ns s g) (S : Same H H') : Pen K H' p a ns s g := ⟨S _ _ R.at_, S _ _ R.cells, R.len, R.s0, R.g0⟩
def spDraw (K : PySem.W.Frag) : Sp := fun vs H Q _ => ∃ (p a : Addr) (ns : List Int) (s g m : Int),
  vs = [.ref p, .int m] ∧ Pen K H p a ns s g ∧ s < 1000000 ∧ 0 < m ∧ m < 10 ^ 60 ∧
  ∀ (H' : Hp) (s' g' r : Int), But p H H' → Pen K H' p a ns s' g' → s ≤ s' → s' ≤ s + 1 → 0 ≤ r → r < m → Q (.int r) H'
section
variable {P : Program} {w : World} {K : PySem.W.Frag} {mg : Str → Option Value} {base : Heap}
theorem scDraw : FnScope ["_law_pen_here", "_law_many", "_law_digit", "_law_spot", "_law_cell", "_law_great", "_law_mixed"] ["_law_pen_here", "_law_many"] (defScope s_law_draw) :=
  ⟨rfl, rfl, rfl, by decide +kernel, rfl, by decide +kernel, by decide +kernel⟩
theorem item_of {ns : List Int} {t : Int} (h0 : 0 ≤ t) (hn : ns ≠ []) : ∃ v, atI (ns.map V.int) (t % (((ns.map V.int).length : Nat) : Int)) = some (V.int v) := by
  have hp : (0 : Int) < (((ns.map V.int).length : Nat) : Int) := by
    cases ns with
    | nil => exact absurd rfl hn
    | cons y r => simp
  have a1 := Int.emod_nonneg t (show (((ns.map V.int).length : Nat) : Int) ≠ 0 by omega)
  have a2 := Int.emod_lt_of_pos t hp
  obtain ⟨j, hj⟩ := Int.eq_ofNat_of_zero_le a1
  rw [hj] at a2 ⊢
  have hj2 : j < ns.length := by
    rw [List.length_map] at a2
    omega
  refine ⟨ns[j], atI_nat ?_⟩
  rw [List.getElem?_map, List.getElem?_eq_getElem hj2]
  rfl
theorem wideM {i m : Int} (h0 : 0 < m) (h1 : m < 10 ^ 60) : CDivW i m := by
  refine wide_div h0 (b := 200) ?_ (by decide) (by decide)
  have e : (10 : Nat) ^ 60 < 2 ^ 200 := by decide
  have e2 : (10 : Int) ^ 60 = ((10 ^ 60 : Nat) : Int) := by decide
  rw [e2] at h1
  generalize (10 : Nat) ^ 60 = t at e h1
  generalize (2 : Nat) ^ 200 = u at e
  omega
theorem d_draw (T : Tx K mg) : Dfn P w K mg base CX0 1 "_law_draw" ["_law_pen_here", "_law_many"] (spDraw K) := by
  have nd := scDraw.nd
  refine dfn T.q_law_draw T.g_law_draw (N := ["_law_pen_here", "_law_many", "_law_digit", "_law_spot", "_law_cell", "_law_great", "_law_mixed"]) scDraw (fun vs H Q E h => ?_) (fun kV doc pm an cdv ct => bind2 fun a b => rfl) (fun cdv A outer s H vs Q E hr h => ?_)
  · obtain ⟨_, _, _, _, _, _, rfl, _⟩ := h
    rfl
  · obtain ⟨p, a, ns, z, g, m, rfl, R, hz, m0, m1, k⟩ := h
    refine ⟨_, pss_cons (ps_if (pt_cmpR op_gt (pe_ix ix_list (pv 0) pe_int (fun _ _ => rfl)) pe_int (nomark _))
        (pss_cons (ps_set (i := 2) nd rfl (Or.inl rfl) (pe_op op_mod (pe_callTy call_int1 (by rfl) T.f_int (by decide +kernel) (pa_cons (pe_ix ix_list (pv 0) pe_int (fun _ _ => rfl)) pa_nil)) (pv 1)))
        (pss_cons (ps_asg (pe_op op_fdivW (pe_callTy call_int1 (by rfl) T.f_int (by decide +kernel) (pa_cons (pe_ix ix_list (pv 0) pe_int (fun _ _ => rfl)) pa_nil)) (pv 1)) (pg_sub (pv 0) pe_int set_list))
        (pss_one (ps_ret (pv 2))))) pss_nil)
      (pss_cons (ps_set (i := 3) nd rfl (Or.inl rfl) (pe_ix ix_list (pv 0) pe_int (fun _ _ => rfl)))
      (pss_cons (ps_asg (pe_op op_add (pv 3) pe_int) (pg_sub (pv 0) pe_int set_list))
      (pss_cons (ps_set (i := 4) nd rfl (Or.inl rfl) (pe_op op_add (pe_op op_mul pe_int (pv 3)) pe_int))
      (Evl.pss_cut (ps_if (pt_cmpR (op_neD hr.units) (pe_ix ix_list (pv 0) pe_int (fun _ _ => rfl)) (pe_lst pa_nil) (nomark _))
        (pss_one (ps_set (i := 4) nd rfl (Or.inl rfl) (pe_ix ix_list (pe_ix ix_list (pv 0) pe_int (fun _ _ => rfl))
          (pe_op op_mod (pe_callTy call_int1 (by rfl) T.f_int (by decide +kernel) (pa_cons (pv 3) pa_nil)) (pe_callB call_len_seq (by rfl) T.f_len PySem.boot_len (pa_cons (pe_ix ix_list (pv 0) pe_int (fun _ _ => rfl)) pa_nil))) (fun _ _ => rfl)))) pss_nil)
      (Evl.pss_cut (ps_if (PW.pt (pw_and (pt_cmpR op_lt (pv 3) (pe_callB call_len_seq (by rfl) T.f_len PySem.boot_len (pa_cons (pe_ix ix_list (pv 0) pe_int (fun _ _ => rfl)) pa_nil)) (nomark _))
          (pw_and1 (pt_cmpR op_ge (pe_callB call_abs (by rfl) T.f_abs (by decide +kernel) (pa_cons (pv 4) pa_nil)) (pe_op op_pow pe_int pe_int) (nomark _)))))
        (pss_cons (ps_set (i := 5) nd rfl (Or.inl rfl) (pe_op op_add (pe_op op_mul pe_int (pe_op op_sub (pe_callB call_abs (by rfl) T.f_abs (by decide +kernel) (pa_cons (pv 4) pa_nil)) (pe_op op_pow pe_int pe_int)))
            (pe_callTy call_int1 (by rfl) T.f_int (by decide +kernel) (pa_cons (pe_cmpR op_lt (pv 4) pe_int (nomark _)) pa_nil))))
        (pss_cons (ps_asg (pe_op op_fdivW (pe_callTy call_int1 (by rfl) T.f_int (by decide +kernel) (pa_cons (pv 5) pa_nil)) (pv 1)) (pg_sub (pv 0) pe_int set_list))
        (pss_one (ps_ret (pe_op op_mod (pe_callTy call_int1 (by rfl) T.f_int (by decide +kernel) (pa_cons (pv 5) pa_nil)) (pv 1)))))) pss_nil)
      (pss_cons (ps_set (i := 6) nd rfl (Or.inl rfl) (pe_op op_mod (pe_callTy call_int1 (by rfl) T.f_int (by decide +kernel) (pa_cons
          (pe_op op_pow (pe_op op_add (pe_op op_add (pe_op op_mod (pe_callTy call_int1 (by rfl) T.f_int (by decide +kernel) (pa_cons (pv 4) pa_nil)) pe_int) (pe_op op_mul pe_int (pv 3))) pe_int) pe_int) pa_nil)) pe_int))
      (pss_cons (ps_set (i := 6) nd rfl (Or.inl rfl) (pe_op op_mod (pe_callTy call_int1 (by rfl) T.f_int (by decide +kernel) (pa_cons
          (pe_op op_pow (pe_op op_add (pe_op op_add (pe_op op_mul (pv 6) (pe_op op_add (pe_op op_mul pe_int (pv 3)) pe_int)) (pe_op op_mul (pe_op op_mul pe_int (pv 3)) (pv 3))) pe_int) pe_int) pa_nil)) pe_int))
      (pss_one (ps_ret (pe_op op_mod (pe_callTy call_int1 (by rfl) T.f_int (by decide +kernel) (pa_cons (pe_op op_fdiv (pv 6) pe_int) pa_nil)) (pv 1))))))))))), ?_⟩
    have n0 := R.s0
    have p1 : upd H p (.lst [.ref a, .int (z + 1), .int g]) p = some (.lst [.ref a, .int (z + 1), .int g]) := upd_same
    refine ⟨_, rfl, p, _, _, _, rfl, rfl, SqL.of R.at_, rfl, _, _, rfl, rfl, _, rfl, ?_⟩
    refine ite2 (fun h1 => ?_) (fun h1 => ?_)
    · refine ⟨_, rfl, p, _, _, _, rfl, rfl, SqL.of R.at_, rfl, .inl ⟨_, rfl, _, rfl, _, _, rfl, rfl, m0, ?_⟩⟩
      refine ⟨_, rfl, p, _, _, _, rfl, rfl, SqL.of R.at_, rfl, .inl ⟨_, rfl, _, rfl, _, _, rfl, rfl, wideM m0 m1, ?_⟩⟩
      refine ⟨_, rfl, p, _, _, _, rfl, rfl, R.at_, rfl, ?_⟩
      refine ⟨_, rfl, ?_⟩
      have g1 : 0 ≤ g / m := Int.ediv_nonneg R.g0 (by omega)
      exact k _ z (g / m) (g % m) But.at_ (R.next But.at_ upd_same n0 g1) (Int.le_refl _) (by omega) (Int.emod_nonneg _ (by omega)) (Int.emod_lt_of_pos _ m0)
    · refine ⟨_, rfl, p, _, _, _, rfl, rfl, SqL.of R.at_, rfl, ?_⟩
      refine ⟨_, rfl, _, _, rfl, rfl, _, rfl, p, _, _, _, rfl, rfl, R.at_, rfl, ?_⟩
      refine ⟨_, rfl, _, _, rfl, rfl, .inl ⟨by decide, by decide⟩, _, _, rfl, rfl, ?_⟩
      refine ⟨fun σ1 H1 => ∃ c : Int, σ1 = [some (.ref p), some (.int m), none, some (.int z), some (.int c), none, none] ∧ But p H H1 ∧ Pen K H1 p a ns (z + 1) g, ?_, ?_⟩
      · have R1 : Pen K (upd H p (.lst [.ref a, .int (z + 1), .int g])) p a ns (z + 1) g := R.next But.at_ p1 (by omega) R.g0
        refine ⟨_, rfl, p, _, _, _, rfl, rfl, SqL.of R1.at_, rfl, Nat.zero_le _, fun q hq => ?_⟩
        have nq : a ≠ q := ne_of_none R1.cells hq
        have nq2 : p ≠ q := ne_of_none R1.at_ hq
        refine ⟨_, _, .lst (SqL.of (by rw [upd_ne nq]; exact R1.cells)) (dp_ints ns), .lst (SqL.of upd_same) .nil, shaped_ints ns, by decide, _, rfl, ?_⟩
        have b2 : But p H (upd (upd H p (.lst [.ref a, .int (z + 1), .int g])) q (.lst [])) := But.at_.new hq
        have R2 : Pen K (upd (upd H p (.lst [.ref a, .int (z + 1), .int g])) q (.lst [])) p a ns (z + 1) g := R.next b2 (by rw [upd_ne nq2]; exact p1) (by omega) R.g0
        rw [eqv_nil]
        refine ite2 (fun h2 => ?_) (fun h2 => ?_)
        · have hn : ns ≠ [] := fun e => by
            rw [e] at h2
            cases h2
          obtain ⟨v, hv⟩ := item_of (ns := ns) n0 hn
          have hpos : (0 : Int) < (((ns.map V.int).length : Nat) : Int) := by
            cases ns with
            | nil => exact absurd rfl hn
            | cons y r => simp
          refine ⟨_, rfl, p, _, _, _, rfl, rfl, SqL.of R2.at_, rfl, _, rfl, .inl ⟨_, rfl, _, rfl, p, _, _, _, rfl, rfl, SqL.of R2.at_, rfl, a, _, rfl, .inl (SqL.of R2.cells), _, _, rfl, rfl, hpos, a, _, _, _, rfl, rfl, SqL.of R2.cells, hv, ?_⟩⟩
          exact ⟨v, rfl, b2, R2⟩
        · exact ⟨_, rfl, b2, R2⟩
      · rintro σ1 H1 ⟨c, rfl, b1, R1⟩
        refine ⟨fun σ2 H2 => σ2 = [some (.ref p), some (.int m), none, some (.int z), some (.int c), none, none] ∧ H2 = H1, ?_, ?_⟩
        · refine ⟨_, rfl, _, rfl, p, _, _, _, rfl, rfl, SqL.of R1.at_, rfl, a, _, rfl, .inl (SqL.of R1.cells), _, _, rfl, rfl, _, rfl, ?_⟩
          refine ite2 (fun _ => ?_) (fun _ => ⟨rfl, rfl⟩)
          refine ⟨_, rfl, _, rfl, _, _, rfl, rfl, ⟨by decide, by decide, by decide⟩, _, _, rfl, rfl, _, rfl, ?_⟩
          refine ite2 (fun h3 => ?_) (fun _ => ⟨rfl, rfl⟩)
          have big : (10 : Int) ^ (18 : Int).toNat ≤ (if c < 0 then -c else c) := of_decide_eq_true h3
          refine ⟨_, rfl, _, rfl, _, _, rfl, rfl, ⟨by decide, by decide, by decide⟩, _, _, rfl, rfl, _, _, rfl, rfl, .inl ⟨by decide, by decide⟩, _, rfl, _, _, rfl, rfl, .inr ⟨_, rfl, _, _, rfl, rfl, ?_⟩⟩
          refine ⟨_, rfl, .inl ⟨_, rfl, _, rfl, _, _, rfl, rfl, wideM m0 m1, ?_⟩⟩
          refine ⟨_, rfl, p, _, _, _, rfl, rfl, R1.at_, rfl, ?_⟩
          refine ⟨_, rfl, .inl ⟨_, rfl, _, rfl, _, _, rfl, rfl, m0, ?_⟩⟩
          have g1 : 0 ≤ (2 * ((if c < 0 then -c else c) - 10 ^ (18 : Int).toNat) + (if decide (c < 0) = true then 1 else 0)) / m := by
            refine Int.ediv_nonneg ?_ (by omega)
            have e1 : (0 : Int) ≤ (if decide (c < 0) = true then 1 else 0) := by split <;> decide
            omega
          exact k _ (z + 1) _ _ b1.set (R.next b1.set upd_same (by omega) g1) (by omega) (by omega) (Int.emod_nonneg _ (by omega)) (Int.emod_lt_of_pos _ m0)
        · rintro σ2 H2 ⟨rfl, rfl⟩
          have c0 : 0 ≤ c % 2147483549 := Int.emod_nonneg _ (by decide)
          have c1 : c % 2147483549 < 2147483549 := Int.emod_lt_of_pos _ (by decide)
          refine ⟨_, rfl, .inl ⟨_, rfl, _, _, rfl, rfl, (by show (0 : Int) < _; decide), _, rfl, _, _, rfl, rfl, .inl ⟨by decide, by decide⟩, _, _, rfl, rfl, _, _, rfl, rfl, _, _, rfl, rfl, ⟨by decide, by decide, ?_⟩, .inl ⟨_, rfl, _, _, rfl, rfl, (by show (0 : Int) < _; decide), ?_⟩⟩⟩
          · omega
          have y0 : 0 ≤ (c % 2147483549 + 63457 * z + 812) ^ (5 : Int).toNat % 2147483629 := Int.emod_nonneg _ (by decide)
          have y1 : (c % 2147483549 + 63457 * z + 812) ^ (5 : Int).toNat % 2147483629 < 2147483629 := Int.emod_lt_of_pos _ (by decide)
          show gName 6 (V.int ((c % 2147483549 + 63457 * z + 812) ^ (5 : Int).toNat % 2147483629)) _ _ _
          generalize (c % 2147483549 + 63457 * z + 812) ^ (5 : Int).toNat % 2147483629 = y at y0 y1 ⊢
          have b1' : 64733 * z * z ≤ 64733 * 1000000 * 1000000 := Int.mul_le_mul (by omega) (by omega) n0 (by decide)
          have b2' : y * (2 * z + 99) ≤ 2147483629 * 2000099 := Int.mul_le_mul (by omega) (by omega) (by omega) (by decide)
          have b3' : 0 ≤ 64733 * z * z := Int.mul_nonneg (by omega) n0
          have b4' : 0 ≤ y * (2 * z + 99) := Int.mul_nonneg y0 (by omega)
          refine ⟨_, rfl, _, rfl, _, _, rfl, rfl, .inl ⟨by decide, by decide⟩, _, _, rfl, rfl, _, _, rfl, rfl, .inl ⟨by omega, by omega⟩, _, rfl, _, _, rfl, rfl, .inl ⟨by decide, by decide⟩, _, rfl, _, _, rfl, rfl, .inl ⟨by omega, by omega⟩, _, _, rfl, rfl, _, _, rfl, rfl, _, _, rfl, rfl,
            ⟨by decide, by decide, ?_⟩, .inl ⟨_, rfl, _, _, rfl, rfl, (by show (0 : Int) < _; decide), ?_⟩⟩
          · omega
          refine ⟨_, rfl, _, _, rfl, rfl, ⟨by decide, by decide⟩, .inl ⟨_, rfl, _, rfl, _, _, rfl, rfl, m0, ?_⟩⟩
          exact k _ (z + 1) g _ b1 R1 (by omega) (by omega) (Int.emod_nonneg _ (by omega)) (Int.emod_lt_of_pos _ m0)
end
theorem cut63 {xs : List V} (h : xs.length ≤ 63) : cutV xs none (some 63) = xs := by
  have e : HT.sIx xs.length xs.length (some 63) = min 63 xs.length := HT.sIx_nat _ _ 63
  unfold cutV
  rw [HT.sIx_none, e, List.drop_zero, Nat.sub_zero, Nat.min_eq_right h, List.take_length]
section
variable {P : Program} {w : World} {K : PySem.W.Frag} {mg : Str → Option Value} {base : Heap}
def spPen (K : PySem.W.Frag) : Sp := fun vs H Q _ => ∃ (a : Addr) (ns : List Int), vs = [.ref a] ∧ SqL K H a (ns.map V.int) ∧ ns.length ≤ 63 ∧ ∀ (H' : Hp) (p c : Addr), Same H H' → H p = none → H c = none → Pen K H' p c ns 0 0 → Q (.ref p) H'
theorem d_pen (T : Tx K mg) : Dfn P w K mg base CX0 1 "_law_pen" ["_law_script"] (spPen K) := by
  refine dfn T.q_law_pen T.g_law_pen (N := ["_law_script"]) ⟨rfl, rfl, rfl, by decide +kernel, rfl, by decide +kernel, by decide +kernel⟩ (fun vs H Q E h => ?_) (fun kV doc pm an cdv ct => bind1 fun a => rfl) (fun cdv A outer s H vs Q E hr h => ?_)
  · obtain ⟨_, _, rfl, _⟩ := h
    rfl
  · obtain ⟨a, ns, rfl, e, few, q⟩ := h
    refine ⟨_, pss_one (ps_ret (pe_lst (pa_cons (pe_callTy call_list_of (by rfl) T.f_list (by kernel_rfl) (pa_cons (pe_slice sl_list (pv 0) po_none (po_some pe_int)) pa_nil)) (pa_cons pe_int (pa_cons pe_int pa_nil))))), ?_⟩
    refine ⟨_, rfl, 63, rfl, a, _, rfl, e, fun p1 hp1 => ⟨p1, _, rfl, .inl (SqL.of upd_same), fun c hc => ⟨(by show (3 : Nat) ≤ sizeLine; rw [sizeLine_eq]; decide), fun p hp => ?_⟩⟩⟩
    have s1 : Same H (upd (upd H p1 (.lst (cutV (ns.map V.int) none (some 63)))) c (.lst (cutV (ns.map V.int) none (some 63)))) := Same.new (Same.upd hp1) hc
    have ncp : c ≠ p := ne_of_none upd_same hp
    refine q _ p c (Same.new s1 hp) (same_none s1 hp) (same_none (Same.upd hp1) hc) ⟨upd_same, ?_, few, Int.le_refl _, Int.le_refl _⟩
    rw [upd_ne ncp, upd_same, cut63 (by rw [List.length_map]; exact few)]
/-- pick -/
def spPick (K : PySem.W.Frag) : Sp := fun vs H Q _ => ∃ (p a b : Addr) (ns : List Int) (s g : Int) (xs : List V), vs = [.ref p, .ref b] ∧ Pen K H p a ns s g ∧ s < 1000000 ∧ b ≠ p ∧ H b = some (.lst xs) ∧ 0 < xs.length ∧ xs.length < 1000 ∧
  ∀ (H' : Hp) (s' g' : Int) (x : V), But p H H' → Pen K H' p a ns s' g' → s ≤ s' → s' ≤ s + 1 → x ∈ xs → Q x H'
theorem d_pick (T : Tx K mg) : Dfn P w K mg base CX0 2 "_law_pick" ["_law_pen_here", "_law_some"] (spPick K) := by
  refine dfn T.q_law_pick T.g_law_pick (N := ["_law_pen_here", "_law_some"]) ⟨rfl, rfl, rfl, by decide +kernel, rfl, by decide +kernel, by decide +kernel⟩ (fun vs H Q E h => ?_) (fun kV doc pm an cdv ct => bind2 fun a b => rfl) (fun cdv A outer s H vs Q E hr h => ?_)
  · obtain ⟨_, _, _, _, _, _, _, rfl, _⟩ := h
    rfl
  · obtain ⟨p, a, b, ns, z, g, xs, rfl, R, hz, nb, sb, h0, h1, q⟩ := h
    refine ⟨_, pss_one (ps_ret (pe_ix ix_list (pv 1) (pe_d (d_draw T) hr (by rfl) (E := E) pass0 (pa_cons (pv 0) (pa_cons (pe_callB call_len_seq (by rfl) T.f_len PySem.boot_len (pa_cons (pv 1) pa_nil)) pa_nil))) (fun _ _ => rfl))), ?_⟩
    refine ⟨_, rfl, _, rfl, _, rfl, b, _, rfl, .inl (SqL.of sb), p, a, ns, z, g, _, rfl, R, hz, by omega, by omega, fun H' s' g' r bt R' h2 h3 h4 h5 => ?_⟩
    obtain ⟨n, rfl⟩ := Int.eq_ofNat_of_zero_le h4
    have hn : n < xs.length := by omega
    exact ⟨b, xs, _, xs[n], rfl, rfl, SqL.of (bt _ _ nb sb), atI_nat (j := n) (by simp [hn]), q H' s' g' _ bt R' h2 h3 (List.getElem_mem hn)⟩
end
end K24
set_option Elab.async false
set_option linter.all false
set_option maxRecDepth 100000
set_option maxHeartbeats 4000000
namespace K24
open PySem PySem.Spec PyProof.Rows L2 Sx
local macro_rules | `(tactic| walk_at "c") => `(tactic| first
  | refine aw_cons ?_ | refine aw_nil ?_
  | refine ew_int ?_ | refine ew_non ?_ | refine ew_bl ?_ | refine ew_str ?_
  | refine ew_bin ?_ | refine ew_cmp ?_ | refine tw_cmp ?_ | refine tw_not ?_ | refine ew_chain ?_ | refine tw_chain ?_ | refine ew_and ?_ | refine ew_or ?_ | refine ew_one ?_ | refine ew_not ?_ | refine ew_neg ?_ | refine ew_if ?_
  | refine tw_w (ww_and ?_) | refine tw_w (ww_or ?_) | refine ww_and ?_ | refine ww_or ?_ | refine ww_and1 ?_ | refine ww_or1 ?_
  | refine tw_val (e := .Call _ _ _ _) ?_ | refine ew_tup ?_ | refine ew_ix ?_ | refine ew_lst ?_
  | refine sw_cons ?_ | refine s1_ret ?_ | refine s1_if ?_ | refine sw_nil ?_ | refine s1_expr ?_
  | refine od_add ?_ | refine od_sub ?_ | refine od_lt ?_ | refine od_le ?_ | refine od_gt ?_ | refine od_ge ?_
  | refine isB ?_ | refine intD ?_ | refine br_t ?_ | refine br_f ?_
  | refine ⟨szl (Nat.le_of_ble_eq_true rfl), ?_⟩)
local macro_rules | `(tactic| walk_at "n") => `(tactic| first
  | refine ew_name 0 rfl (by first | exact .inl rfl | exact .inr (.inl rfl) | exact .inr (.inr rfl)) rfl ?_
  | refine ew_name 1 rfl (by first | exact .inl rfl | exact .inr (.inl rfl) | exact .inr (.inr rfl)) rfl ?_
  | refine ew_name 2 rfl (by first | exact .inl rfl | exact .inr (.inl rfl) | exact .inr (.inr rfl)) rfl ?_
  | refine ew_name 3 rfl (by first | exact .inl rfl | exact .inr (.inl rfl) | exact .inr (.inr rfl)) rfl ?_
  | refine ew_name 4 rfl (by first | exact .inl rfl | exact .inr (.inl rfl) | exact .inr (.inr rfl)) rfl ?_
  | refine ew_name 5 rfl (by first | exact .inl rfl | exact .inr (.inl rfl) | exact .inr (.inr rfl)) rfl ?_
  | refine ew_name 6 rfl (by first | exact .inl rfl | exact .inr (.inl rfl) | exact .inr (.inr rfl)) rfl ?_
  | refine ew_name 7 rfl (by first | exact .inl rfl | exact .inr (.inl rfl) | exact .inr (.inr rfl)) rfl ?_
  | refine ew_name 8 rfl (by first | exact .inl rfl | exact .inr (.inl rfl) | exact .inr (.inr rfl)) rfl ?_
  | refine ew_name 9 rfl (by first | exact .inl rfl | exact .inr (.inl rfl) | exact .inr (.inr rfl)) rfl ?_
  | refine ew_name 10 rfl (by first | exact .inl rfl | exact .inr (.inl rfl) | exact .inr (.inr rfl)) rfl ?_
  | refine ew_name 11 rfl (by first | exact .inl rfl | exact .inr (.inl rfl) | exact .inr (.inr rfl)) rfl ?_
  | refine ew_name 12 rfl (by first | exact .inl rfl | exact .inr (.inl rfl) | exact .inr (.inr rfl)) rfl ?_)
local macro_rules | `(tactic| walk_at "i") => `(tactic| (refine' cl_isi (.ty _) ?a ?b ?_; (case a => constructor); (case b => with_reducible first | exact kit_int_int | exact kit_int_bool | exact kit_bool_int | exact kit_bool_bool | exact kit_NoneType_int | exact kit_str_int | exact kit_list_int | exact kit_tuple_int | exact kit_dict_int | exact kit_tuple_tuple | exact kit_int_tuple | exact kit_NoneType_tuple | exact kit_bool_tuple | exact kit_str_tuple | exact kit_list_tuple | exact kit_dict_tuple)))
local macro_rules | `(tactic| walk_at "l") => `(tactic| first
  | refine ew_isinstance (Tx.f_isinstance (by assumption)) ?_ | refine ew_len (Tx.f_len (by assumption)) ?_ | refine ew_vint (Tx.f_int (by assumption)) ?_ | refine ew_vbool (Tx.f_bool (by assumption)) ?_ | refine ew_vtuple (Tx.f_tuple (by assumption)) ?_ | refine ew_vstr (Tx.f_str (by assumption)) ?_
  | refine ew_gint (Tx.i_MOST_PERIOD (by assumption)) (by rfl) ?_ | refine ew_gint (Tx.i_DIGITS (by assumption)) (by rfl) ?_ | refine ew_gint (Tx.i_FAR (by assumption)) (by rfl) ?_ | refine ew_gint (Tx.i_MOST_MODULUS (by assumption)) (by rfl) ?_ | refine ew_gint (Tx.i_MOST_PERIODS (by assumption)) (by rfl) ?_
  | refine cl_len ?_ | refine cl_lenT ?_ | refine ix_tpl rfl ?_ | refine od_is (by intro _ h; cases h) ?_)
local macro_rules | `(tactic| walk_at "x") => `(tactic| repeat (first | walk_at "c" | walk_at "n" | walk_at "l" | walk_at "i"))
def F_draw : FT := fun ds cs Kk _ => ∃ p ns k cs1 m, ds = [.own p, .int m] ∧ cs = (p, Cell.pen ns k) :: cs1 ∧ k < 1000000 ∧ 0 < m ∧ m < 10 ^ 60 ∧ ∀ r : Int, 0 ≤ r → r < m → Kk (.int r) ((p, Cell.pen ns (k + 1)) :: cs1)
theorem draw_in {K : PySem.W.Frag} {vs : List V} {H : Hp} {Q : VK} {E : XK} (h : spF F_draw vs H Q E) : spDraw K vs H Q E := by
  obtain ⟨ds, cs, Kk, KE, r, ok, ⟨p, ns, k, cs1, m, rfl, rfl, hk, m0, m1, f⟩, q1, _⟩ := h
  cases r with
  | cons a r =>
    cases r with
    | cons b r =>
      cases r
      cases a
      cases b
      obtain ⟨a, s, g, e1, e2, e3, e4, s0, sk, g0⟩ := ok.ok p _ List.mem_cons_self
      refine ⟨p, a, ns, s, g, m, rfl, ⟨e1, e2, e4, s0, g0⟩, by omega, m0, m1, fun H' s' g' r b R' h1 h2 h3 h4 => ?_⟩
      have ext : Ext (ow ((p, Cell.pen ns k) :: cs1)) H (ow ((p, Cell.pen ns (k + 1)) :: cs1)) H' := ⟨fun c o n nt h => b _ _ (fun e => n (by
        rw [e]
        exact List.mem_cons_self)) h, fun c h => .inl h⟩
      have ok' : CsOk H' ((p, Cell.pen ns (k + 1)) :: cs1) := ⟨fun c d hm => by
        rcases List.mem_cons.mp hm with z | z
        · cases z
          exact ⟨a, s', g', R'.at_, R'.cells, e3, e4, R'.s0, by omega, R'.g0⟩
        · refine (ok.ok c d (List.mem_cons_of_mem _ z)).ext ext fun o e => b c o (fun e2 => ?_) e
          have nd := (List.nodup_cons.mp ok.nd).1
          exact nd (by rw [← e2]; exact List.mem_map.mpr ⟨_, z, rfl⟩), ok.nd⟩
      exact q1 _ _ _ _ (f r h3 h4) ext ok' (.int r)
theorem vl_nums {H : Hp} {M : Addr → Prop} : ∀ {ns : List Int} {vs : List V}, VlL H M vs (ns.map D.int) → vs = ns.map V.int
  | [], _, r => by cases r; rfl
  | n :: ns, _, r => by
    cases r with
    | cons a b =>
      cases a
      rw [vl_nums b]
      rfl
def F_pen : FT := fun ds cs Kk _ => ∃ ns, ds = [.lst (ns.map D.int)] ∧ ns.length ≤ 63 ∧ ∀ p, Kk (.own p) ((p, Cell.pen ns 0) :: cs)
theorem pen_in {K : PySem.W.Frag} {vs : List V} {H : Hp} {Q : VK} {E : XK} (h : spF F_pen vs H Q E) : spPen K vs H Q E := by
  obtain ⟨ds, cs, Kk, KE, r, ok, ⟨ns, rfl, few, f⟩, q1, _⟩ := h
  cases r with
  | cons a r =>
    cases r
    cases a with
    | lst e n r =>
      rw [vl_nums r] at e
      refine ⟨_, ns, rfl, SqL.of e, few, fun H' p c S hp hc R => ?_⟩
      have np : ¬ ow cs p := fun m => by
        obtain ⟨o, e⟩ := ok.there m
        rw [hp] at e
        cases e
      have nc : ¬ ow cs c := fun m => by
        obtain ⟨o, e⟩ := ok.there m
        rw [hc] at e
        cases e
      have ext : Ext (ow cs) H (ow ((p, Cell.pen ns 0) :: cs)) H' := ⟨fun c o n nt h => S _ _ h, fun b h => by
        rcases List.mem_cons.mp h with z | z
        · exact .inr (nwN (by rw [z]; exact hp))
        · exact .inl z⟩
      refine q1 _ _ _ _ (f p) ext ⟨fun b d hm => ?_, List.nodup_cons.mpr ⟨np, ok.nd⟩⟩ (.own p)
      rcases List.mem_cons.mp hm with z | z
      · cases z
        exact ⟨c, 0, 0, R.at_, R.cells, fun z => (List.mem_cons.mp z).elim R.ne nc, R.len, Int.le_refl _, Int.le_refl _, Int.le_refl _⟩
      · exact (ok.ok b d z).ext ext fun o e => S _ _ e
section
variable {P : Program} {w : World} {K : PySem.W.Frag} {mg : Str → Option Value} {base : Heap}
theorem x_draw (T : Tx K mg) : Dfs.Dfn P w K mg base CX0 1 "_law_draw" ["_law_pen_here", "_law_many"] (spF F_draw) := by
  obtain ⟨a, b, fd, F, c⟩ := d_draw (P := P) (w := w) (base := base) T
  exact ⟨a, b, fd, F.imp fun _ _ _ _ h => draw_in h, c⟩
theorem x_pen (T : Tx K mg) : Dfs.Dfn P w K mg base CX0 1 "_law_pen" ["_law_script"] (spF F_pen) := by
  obtain ⟨a, b, fd, F, c⟩ := d_pen (P := P) (w := w) (base := base) T
  exact ⟨a, b, fd, F.imp fun _ _ _ _ h => pen_in h, c⟩
def F_pick : FT := fun ds cs Kk _ => ∃ p ns k cs1 xs, ds = [.own p, .lst xs] ∧ cs = (p, Cell.pen ns k) :: cs1 ∧ k < 1000000 ∧ 0 < xs.length ∧ xs.length < 1000 ∧ ∀ x, x ∈ xs → Kk x ((p, Cell.pen ns (k + 1)) :: cs1)
theorem x_pick (T : Tx K mg) : Dfs.Dfn P w K mg base (L2.CX P w) 2 "_law_pick" ["_law_pen_here", "_law_some"] (spF F_pick) := by
  refine dfnF T.q_law_pick T.g_law_pick (N := ["_law_pen_here", "_law_some"]) ⟨rfl, rfl, rfl, by decide +kernel, rfl, by decide +kernel, by decide +kernel⟩ (fun kV doc pm an cdv ct => Vls.bind2 fun a b => rfl) (fun ds cs Kk KE h => ?_) (fun cdv A outer s H E ds cs Kk KE hr h => ?_)
  · obtain ⟨_, _, _, _, _, rfl, _⟩ := h
    rfl
  · obtain ⟨p, ns, k, cs1, xs, rfl, rfl, hk, h0, h1, q⟩ := h
    walk_at "x"
    refine ew_call (.none fun _ _ _ => False) (x_draw T) hr (by rfl) pass0 ?_
    walk_at "x"
    refine ⟨p, ns, k, cs1, _, rfl, rfl, hk, by omega, by omega, fun r r0 r1 => ?_⟩
    obtain ⟨n, rfl⟩ := Int.eq_ofNat_of_zero_le r0
    have hn : n < xs.length := by omega
    exact ix_lst (atI_nat (j := n) (List.getElem?_eq_getElem hn)) (q _ (List.getElem_mem hn))
end
end K24
set_option Elab.async false
set_option linter.all false
set_option maxRecDepth 100000
set_option maxHeartbeats 4000000
namespace K24
open PySem PySem.Spec PyProof.Rows L2 Sx Vls
theorem extDrop {H : Hp} {ex cs : Cs} : Ext (ow (ex ++ cs)) H (ow cs) H := Ext.less fun a h => by
  unfold ow at h ⊢
  rw [List.map_append]
  exact List.mem_append.mpr (.inr h)
theorem csDrop {H : Hp} {ex cs : Cs} (ok : CsOk H (ex ++ cs)) : CsOk H cs := by
  refine ⟨fun a c hm => (ok.ok a c (List.mem_append.mpr (.inr hm))).ext extDrop fun _ h => h, ?_⟩
  have nd := ok.nd
  rw [List.map_append] at nd
  exact (List.nodup_append.mp nd).2.1
/-- what repr shows -/
def Shn (d : D) : Prop := d.dat = true ∧ d.py.showable = true ∧ d.py.hasDict = false ∧ d.py.depth ≤ 60 ∧ d.py.shown.length ≤ sizeLine
def ans (w : Str) (d : D) : D := .tup [.str w, .str d.py.shown]
/-- what _law_heard makes of an error -/
def HR (K : PySem.W.Frag) : HRt := fun C fs cs R => ∃ ex cs0, cs = ex ++ cs0 ∧
  ((∃ ln n, C = He.ga K "BadText" ∧ fs = [(("word" : Str), n), (("line" : Str), ln)] ∧ R (.tup [.str "text", ln, n]) cs0) ∨
   (∃ d, C = He.ga K "BadRegister" ∧ fs = [(("part" : Str), d)] ∧ Shn d ∧ R (ans "register" d) cs0) ∨
   (∃ d, C = He.ga K "BadReading" ∧ fs = [(("at" : Str), d)] ∧ Shn d ∧ R (ans "reading" d) cs0) ∨
   (∃ d, C = He.ga K "BadNumber" ∧ fs = [(("value" : Str), d)] ∧ Shn d ∧ R (ans "number" d) cs0))
theorem pe_never {X : Cx} {e : Expr} : PE X e (fun _ _ _ => False) := ⟨fun _ _ _ _ _ _ h => h.elim⟩
theorem ite3 {c : Bool} {p q : Prop} (h1 : c = true → p) (h2 : c = false → q) : if c = true then p else q := by
  cases c
  · exact h2 rfl
  · exact h1 rfl
theorem takes_len {X : Cx} {W : WX} (t : Takes X W) : Takes X (fun cls d σ H => σ.length = X.N.length → W cls d σ H) := fun u s' ⟨a, B, sI, pins, σ, H, cls, d, e, I, nb, up, sky, na, os, ag, w⟩ =>
  t u s' ⟨a, B, sI, pins, σ, H, cls, d, e, I, nb, up, sky, na, os, ag, w I.len⟩
theorem show_go {X : Cx} {j : Nat} (hr : Room j X.A) (still : X.A.guards = some []) {H : Hp} {M : Addr → Prop} {v : V} {d : D} (r : Vl H M v d) (h : Shn d) {Q : VK} (q : Q (.str d.py.shown) H) : clAny X (.builtin "repr") [v] H Q := by
  obtain ⟨h1, h2, h3, h4, h5⟩ := h
  exact ⟨_, Shw.call_repr hr still, _, _, rfl, r.dp h1, h2, h3, h4, h5, q⟩
theorem vlf1 {H : Hp} {M : Addr → Prop} {vs : List (Str × V)} {f : Str} {d : D} (r : VlF H M vs [(f, d)]) : ∃ v, vs = [(f, v)] ∧ Vl H M v d := by
  cases r with
  | cons h r =>
    cases r
    exact ⟨_, rfl, h⟩
theorem vlf2 {H : Hp} {M : Addr → Prop} {vs : List (Str × V)} {f g : Str} {d e : D} (r : VlF H M vs [(f, d), (g, e)]) : ∃ v u, vs = [(f, v), (g, u)] ∧ Vl H M v d ∧ Vl H M u e := by
  cases r with
  | cons h r =>
    cases r with
    | cons h2 r =>
      cases r
      exact ⟨_, _, rfl, h, h2⟩
theorem two_le : (2 : Nat) ≤ sizeLine := by rw [sizeLine_eq]; decide
theorem not_ow {H : Hp} {cs : Cs} (ok : CsOk H cs) {t : Addr} (ht : H t = none) : ¬ ow cs t := fun m => by
  obtain ⟨o, e⟩ := ok.there m
  rw [ht] at e
  cases e
theorem three_le : (3 : Nat) ≤ sizeLine := by rw [sizeLine_eq]; decide
theorem heard_gives {X : Cx} {cdv : Value} {q : Str} {j : Nat} (hr : Room (j + 1) X.A) (still : X.A.guards = some []) (T : Tx X.K X.mg) :
    LamX.GivesTo X ["_law_ask", "_law_caught", "error"] "_law_heard" (defScope s_law_heard) (He.ga X.K "_law_heard") cdv (defBody s_law_heard) "_law_ask" q (TThD (HR X.K)) := by
  have nd : (["_law_ask", "_law_caught", "error"] : List Str).Nodup := by decide +kernel
  intro f c' s H Q tl act hc h
  refine ⟨_, pss_cons (ps_set (i := 1) nd rfl (Or.inl rfl) pe_non)
    (pss_cons (Kept.ps_try_kept (X := (cxOf C8.CX0 X.prog X.w X.K X.mg X.base ["_law_ask", "_law_caught", "error"] "_law_heard" (defScope s_law_heard) (He.ga X.K "_law_heard") cdv X.A X.stack s H C8.E0).nox) (i := 2) (c := .ref (He.ga X.K "RoadError"))
        (tb := fun W D σ H => ∃ Ech : XK, (∀ cls d σ' H', Ech cls d H' → σ'.length = 3 → W cls d σ' H') ∧ σ[0]? = some (some (.ref f)) ∧ H c' = some (LamX.CodeO c' q) ∧ tl Ech H fun v H1 => ∀ l, H1 l = none → D.rt (.ref l) (upd H1 l (.lst [v])))
        rfl rfl rfl nd rfl rfl ⟨rfl, by decide, .inl T.g_RoadError⟩ LamX.takes0 (fun W pn xe tk _ => ?_) (fun a oe cls d pn _ _ => pss_one (ps_set (i := 1) nd rfl (Or.inl rfl) (pv 2))))
    (pss_cons (ps_if (pt_val (pe_callB Kept.call_isErr (by rfl) T.f_isinstance (by decide +kernel) (pa_cons (pv 1) (pa_cons (pe_glob (v := .ref (He.ga X.K "BadText")) (by rfl) T.g_BadText rfl) pa_nil))))
        (pss_one (ps_ret (pe_tup (pa_cons pe_str (pa_cons (Kept.pe_errF (pv 1)) (pa_cons (Kept.pe_errF (pv 1)) pa_nil)))))) pss_nil)
    (pss_cons (ps_if (pt_val (pe_callB Kept.call_isErrT (by rfl) T.f_isinstance (by decide +kernel) (pa_cons (pv 1) (pa_cons (pe_tup (pa_cons (pe_glob (v := .ref (He.ga X.K "BadRegister")) (by rfl) T.g_BadRegister rfl) (pa_cons (pe_glob (v := .ref (He.ga X.K "BadReading")) (by rfl) T.g_BadReading rfl) pa_nil))) pa_nil))))
        (pss_one (ps_ret (pe_ifExp (pt_val (pe_callB Kept.call_isErr (by rfl) T.f_isinstance (by decide +kernel) (pa_cons (pv 1) (pa_cons (pe_glob (v := .ref (He.ga X.K "BadRegister")) (by rfl) T.g_BadRegister rfl) pa_nil)))) (pe_tup (pa_cons pe_str (pa_cons (pe_callB (id := "repr") cl_any (by rfl) T.f_repr (by decide +kernel) (pa_cons (Kept.pe_errF (pv 1)) pa_nil)) pa_nil))) (pe_tup (pa_cons pe_str (pa_cons (pe_callB (id := "repr") cl_any (by rfl) T.f_repr (by decide +kernel) (pa_cons (Kept.pe_errF (pv 1)) pa_nil)) pa_nil)))))) pss_nil)
    (pss_one (ps_ret (pe_ifExp (pt_val (pe_callB Kept.call_isErr (by rfl) T.f_isinstance (by decide +kernel) (pa_cons (pv 1) (pa_cons (pe_glob (v := .ref (He.ga X.K "BadNumber")) (by rfl) T.g_BadNumber rfl) pa_nil)))) (pe_tup (pa_cons pe_str (pa_cons (pe_callB (id := "repr") cl_any (by rfl) T.f_repr (by decide +kernel) (pa_cons (Kept.pe_errF (pv 1)) pa_nil)) pa_nil))) pe_never)))))), ?_⟩
  · refine ⟨fun pins s' σ H' D I h' => ?_⟩
    obtain ⟨Ech, hW, h1, h2, h3⟩ := h'
    refine PSs.run (pss_one (ps_ret (pe_lst (pa_cons (act _ pn xe Ech _ _ (takes_len tk) ?hh) pa_nil)))) pins s' σ H' D I ?_
    case hh => exact fun cls d σ' H' e hl => hW cls d σ' H' e hl
    have e : (fun (v : V) (H1 : Hp) => ([v] : List V).length ≤ sizeLine ∧ ∀ l, H1 l = none → D.rt (.ref l) (upd H1 l (.lst [v]))) = fun v H1 => ∀ l, H1 l = none → D.rt (.ref l) (upd H1 l (.lst [v])) := by
      funext v H1
      exact propext ⟨fun h => h.2, fun h => ⟨by show (1 : Nat) ≤ sizeLine; rw [sizeLine_eq]; decide, h⟩⟩
    refine ⟨h1, h2, ?_⟩
    show tl Ech H' (fun (v : V) (H1 : Hp) => ([v] : List V).length ≤ sizeLine ∧ ∀ l, H1 l = none → D.rt (.ref l) (upd H1 l (.lst [v])))
    rw [e]
    exact h3
  · refine ⟨_, ?_, rfl, hc, h⟩
    rintro cls d σ' H1 ⟨C, x, vs, fs, cs, rfl, rfl, hx, ok, rf, R, ⟨ex, cs0, rfl, hh⟩, q0⟩ hl
    obtain ⟨y0, y1, y2, rfl⟩ : ∃ y0 y1 y2, σ' = [y0, y1, y2] := by
      match σ', hl with
      | [y0, y1, y2], _ => exact ⟨y0, y1, y2, rfl⟩
    have ok0 := csDrop ok
    have back : ∀ (w : Str) (d : D) (H2 : Hp) (t : Addr), R (ans w d) cs0 → Same H1 H2 → H2 t = none → Q (.ref t) (upd H2 t (.tup [.str w, .str d.py.shown])) := fun w d H2 t q1 S1 ht => by
      have S2 := Pre.Same.new S1 ht (o := .tup [.str w, .str d.py.shown])
      exact q0 _ _ _ _ q1 (extDrop.trans (Ext.same S2)) (ok0.same S2) (.tup upd_same (not_ow (ok0.same S1) ht) (.cons (.str _) (.cons (.str _) .nil)))
    rcases hh with ⟨ln, n, rfl, rfl, q1⟩ | ⟨d, rfl, rfl, sh, q1⟩ | ⟨d, rfl, rfl, sh, q1⟩ | ⟨d, rfl, rfl, sh, q1⟩
    · obtain ⟨v, u, rfl, rv, ru⟩ := vlf2 rf
      refine ⟨true, T.xm_BadText, fun _ a ha => ?_, fun e => by cases e⟩
      have nx : x ≠ a := ne_of_none hx ha
      have S1 : Same H1 (upd H1 a (Kept.errO a (.ref (He.ga X.K "BadText")) (some x))) := Pre.Same.upd ha
      have hx2 : upd H1 a (Kept.errO a (.ref (He.ga X.K "BadText")) (some x)) x = some (.xd [("word", v), ("line", u)]) := (upd_ne nx).trans hx
      refine ⟨_, rfl, ?_⟩
      refine ⟨_, rfl, a, _, some x, _, _, true, rfl, upd_same, fun dd e => ⟨_, by cases e; exact hx2⟩, T.e_BadText, .own _, T.ki_BadText_BadText, _, rfl, ite3 (fun _ => ?_) (fun h => by cases h)⟩
      refine ⟨_, rfl, a, _, x, _, u, rfl, upd_same, hx2, T.e_BadText, T.n_BadText_line, rfl, _, rfl, a, _, x, _, v, rfl, upd_same, hx2, T.e_BadText, T.n_BadText_word, rfl, three_le, fun t ht => ?_⟩
      have S2 := Pre.Same.new S1 ht (o := .tup [.str "text", u, v])
      exact q0 _ _ _ _ q1 (extDrop.trans (Ext.same S2)) (ok0.same S2) (.tup upd_same (not_ow (ok0.same S1) ht) (.cons (.str _) (.cons (ru.ext (extDrop.trans (Ext.same S2))) (.cons (rv.ext (extDrop.trans (Ext.same S2))) .nil))))
    · obtain ⟨v, rfl, rv⟩ := vlf1 rf
      refine ⟨true, T.xm_BadRegister, fun _ a ha => ?_, fun e => by cases e⟩
      have nx : x ≠ a := ne_of_none hx ha
      have S1 : Same H1 (upd H1 a (Kept.errO a (.ref (He.ga X.K "BadRegister")) (some x))) := Pre.Same.upd ha
      have hx2 : upd H1 a (Kept.errO a (.ref (He.ga X.K "BadRegister")) (some x)) x = some (.xd [("part", v)]) := (upd_ne nx).trans hx
      refine ⟨_, rfl, ?_⟩
      refine ⟨_, rfl, a, _, some x, _, _, false, rfl, upd_same, fun dd e => ⟨_, by cases e; exact hx2⟩, T.e_BadRegister, .own _, T.ki_BadRegister_BadText, _, rfl, ite3 (fun h => by cases h) (fun _ => ?_)⟩
      refine ⟨_, rfl, two_le, fun tp htp => ?_⟩
      have ntp : tp ≠ a := (ne_of_none upd_same htp).symm
      have S2 := Pre.Same.new S1 htp (o := .tup [.ref (He.ga X.K "BadRegister"), .ref (He.ga X.K "BadReading")])
      have ha2 : upd (upd H1 a (Kept.errO a (.ref (He.ga X.K "BadRegister")) (some x))) tp (.tup [.ref (He.ga X.K "BadRegister"), .ref (He.ga X.K "BadReading")]) a = some (Kept.errO a (.ref (He.ga X.K "BadRegister")) (some x)) := (upd_ne ntp.symm).trans upd_same
      have hx3 := S2 _ _ hx
      refine ⟨a, _, tp, some x, _, _, true, rfl, ha2, fun dd e => ⟨_, by cases e; exact hx3⟩, T.e_BadRegister, upd_same, .cons (.own _) (.cons (.own _) .nil), T.ka_BadRegister, _, rfl, ite3 (fun _ => ?_) (fun h => by cases h)⟩
      refine ⟨_, rfl, a, _, some x, _, _, true, rfl, ha2, fun dd e => ⟨_, by cases e; exact hx3⟩, T.e_BadRegister, .own _, T.ki_BadRegister_BadRegister, _, rfl, ite3 (fun _ => ?_) (fun h => by cases h)⟩
      refine ⟨_, rfl, a, _, x, _, v, rfl, ha2, hx3, T.e_BadRegister, T.n_BadRegister_part, rfl, ?_⟩
      refine show_go (X := (cxOf C8.CX0 X.prog X.w X.K X.mg X.base ["_law_ask", "_law_caught", "error"] "_law_heard" (defScope s_law_heard) (He.ga X.K "_law_heard") cdv X.A X.stack s H C8.E0).nox) (hr.deeper _) still (rv.ext (Ext.same S2)) sh ?_
      exact ⟨two_le, fun t ht => back _ _ _ t q1 S2 ht⟩
    · obtain ⟨v, rfl, rv⟩ := vlf1 rf
      refine ⟨true, T.xm_BadReading, fun _ a ha => ?_, fun e => by cases e⟩
      have nx : x ≠ a := ne_of_none hx ha
      have S1 : Same H1 (upd H1 a (Kept.errO a (.ref (He.ga X.K "BadReading")) (some x))) := Pre.Same.upd ha
      have hx2 : upd H1 a (Kept.errO a (.ref (He.ga X.K "BadReading")) (some x)) x = some (.xd [("at", v)]) := (upd_ne nx).trans hx
      refine ⟨_, rfl, ?_⟩
      refine ⟨_, rfl, a, _, some x, _, _, false, rfl, upd_same, fun dd e => ⟨_, by cases e; exact hx2⟩, T.e_BadReading, .own _, T.ki_BadReading_BadText, _, rfl, ite3 (fun h => by cases h) (fun _ => ?_)⟩
      refine ⟨_, rfl, two_le, fun tp htp => ?_⟩
      have ntp : tp ≠ a := (ne_of_none upd_same htp).symm
      have S2 := Pre.Same.new S1 htp (o := .tup [.ref (He.ga X.K "BadRegister"), .ref (He.ga X.K "BadReading")])
      have ha2 : upd (upd H1 a (Kept.errO a (.ref (He.ga X.K "BadReading")) (some x))) tp (.tup [.ref (He.ga X.K "BadRegister"), .ref (He.ga X.K "BadReading")]) a = some (Kept.errO a (.ref (He.ga X.K "BadReading")) (some x)) := (upd_ne ntp.symm).trans upd_same
      have hx3 := S2 _ _ hx
      refine ⟨a, _, tp, some x, _, _, true, rfl, ha2, fun dd e => ⟨_, by cases e; exact hx3⟩, T.e_BadReading, upd_same, .cons (.own _) (.cons (.own _) .nil), T.ka_BadReading, _, rfl, ite3 (fun _ => ?_) (fun h => by cases h)⟩
      refine ⟨_, rfl, a, _, some x, _, _, false, rfl, ha2, fun dd e => ⟨_, by cases e; exact hx3⟩, T.e_BadReading, .own _, T.ki_BadReading_BadRegister, _, rfl, ite3 (fun h => by cases h) (fun _ => ?_)⟩
      refine ⟨_, rfl, a, _, x, _, v, rfl, ha2, hx3, T.e_BadReading, T.n_BadReading_at, rfl, ?_⟩
      refine show_go (X := (cxOf C8.CX0 X.prog X.w X.K X.mg X.base ["_law_ask", "_law_caught", "error"] "_law_heard" (defScope s_law_heard) (He.ga X.K "_law_heard") cdv X.A X.stack s H C8.E0).nox) (hr.deeper _) still (rv.ext (Ext.same S2)) sh ?_
      exact ⟨two_le, fun t ht => back _ _ _ t q1 S2 ht⟩
    · obtain ⟨v, rfl, rv⟩ := vlf1 rf
      refine ⟨true, T.xm_BadNumber, fun _ a ha => ?_, fun e => by cases e⟩
      have nx : x ≠ a := ne_of_none hx ha
      have S1 : Same H1 (upd H1 a (Kept.errO a (.ref (He.ga X.K "BadNumber")) (some x))) := Pre.Same.upd ha
      have hx2 : upd H1 a (Kept.errO a (.ref (He.ga X.K "BadNumber")) (some x)) x = some (.xd [("value", v)]) := (upd_ne nx).trans hx
      refine ⟨_, rfl, ?_⟩
      refine ⟨_, rfl, a, _, some x, _, _, false, rfl, upd_same, fun dd e => ⟨_, by cases e; exact hx2⟩, T.e_BadNumber, .own _, T.ki_BadNumber_BadText, _, rfl, ite3 (fun h => by cases h) (fun _ => ?_)⟩
      refine ⟨_, rfl, two_le, fun tp htp => ?_⟩
      have ntp : tp ≠ a := (ne_of_none upd_same htp).symm
      have S2 := Pre.Same.new S1 htp (o := .tup [.ref (He.ga X.K "BadRegister"), .ref (He.ga X.K "BadReading")])
      have ha2 : upd (upd H1 a (Kept.errO a (.ref (He.ga X.K "BadNumber")) (some x))) tp (.tup [.ref (He.ga X.K "BadRegister"), .ref (He.ga X.K "BadReading")]) a = some (Kept.errO a (.ref (He.ga X.K "BadNumber")) (some x)) := (upd_ne ntp.symm).trans upd_same
      have hx3 := S2 _ _ hx
      refine ⟨a, _, tp, some x, _, _, false, rfl, ha2, fun dd e => ⟨_, by cases e; exact hx3⟩, T.e_BadNumber, upd_same, .cons (.own _) (.cons (.own _) .nil), T.ka_BadNumber, _, rfl, ite3 (fun h => by cases h) (fun _ => ?_)⟩
      refine ⟨_, rfl, a, _, some x, _, _, true, rfl, ha2, fun dd e => ⟨_, by cases e; exact hx3⟩, T.e_BadNumber, .own _, T.ki_BadNumber_BadNumber, _, rfl, ite3 (fun _ => ?_) (fun h => by cases h)⟩
      refine ⟨_, rfl, a, _, x, _, v, rfl, ha2, hx3, T.e_BadNumber, T.n_BadNumber_value, rfl, ?_⟩
      refine show_go (X := (cxOf C8.CX0 X.prog X.w X.K X.mg X.base ["_law_ask", "_law_caught", "error"] "_law_heard" (defScope s_law_heard) (He.ga X.K "_law_heard") cdv X.A X.stack s H C8.E0).nox) (hr.deeper _) still (rv.ext (Ext.same S2)) sh ?_
      exact ⟨two_le, fun t ht => back _ _ _ t q1 S2 ht⟩
end K24
set_option Elab.async false
set_option linter.all false
set_option maxRecDepth 100000
set_option maxHeartbeats 4000000
namespace K24
open PySem PySem.Spec PyProof.Rows L2 Sx
local macro_rules | `(tactic| walk_at "c") => `(tactic| first
  | refine aw_cons ?_ | refine aw_nil ?_
  | refine ew_int ?_ | refine ew_non ?_ | refine ew_bl ?_ | refine ew_str ?_
  | refine ew_bin ?_ | refine ew_cmp ?_ | refine tw_cmp ?_ | refine tw_not ?_ | refine ew_chain ?_ | refine tw_chain ?_ | refine ew_and ?_ | refine ew_or ?_ | refine ew_one ?_ | refine ew_not ?_ | refine ew_neg ?_ | refine ew_if ?_
  | refine tw_w (ww_and ?_) | refine tw_w (ww_or ?_) | refine ww_and ?_ | refine ww_or ?_ | refine ww_and1 ?_ | refine ww_or1 ?_
  | refine tw_val (e := .Call _ _ _ _) ?_ | refine ew_tup ?_ | refine ew_ix ?_ | refine ew_lst ?_
  | refine sw_cons ?_ | refine s1_ret ?_ | refine s1_if ?_ | refine sw_nil ?_ | refine s1_expr ?_
  | refine od_add ?_ | refine od_sub ?_ | refine od_lt ?_ | refine od_le ?_ | refine od_gt ?_ | refine od_ge ?_
  | refine isB ?_ | refine intD ?_ | refine br_t ?_ | refine br_f ?_
  | refine ⟨szl (Nat.le_of_ble_eq_true rfl), ?_⟩)
local macro_rules | `(tactic| walk_at "n") => `(tactic| first
  | refine ew_name 0 rfl (by first | exact .inl rfl | exact .inr (.inl rfl) | exact .inr (.inr rfl)) rfl ?_
  | refine ew_name 1 rfl (by first | exact .inl rfl | exact .inr (.inl rfl) | exact .inr (.inr rfl)) rfl ?_
  | refine ew_name 2 rfl (by first | exact .inl rfl | exact .inr (.inl rfl) | exact .inr (.inr rfl)) rfl ?_
  | refine ew_name 3 rfl (by first | exact .inl rfl | exact .inr (.inl rfl) | exact .inr (.inr rfl)) rfl ?_
  | refine ew_name 4 rfl (by first | exact .inl rfl | exact .inr (.inl rfl) | exact .inr (.inr rfl)) rfl ?_
  | refine ew_name 5 rfl (by first | exact .inl rfl | exact .inr (.inl rfl) | exact .inr (.inr rfl)) rfl ?_
  | refine ew_name 6 rfl (by first | exact .inl rfl | exact .inr (.inl rfl) | exact .inr (.inr rfl)) rfl ?_
  | refine ew_name 7 rfl (by first | exact .inl rfl | exact .inr (.inl rfl) | exact .inr (.inr rfl)) rfl ?_
  | refine ew_name 8 rfl (by first | exact .inl rfl | exact .inr (.inl rfl) | exact .inr (.inr rfl)) rfl ?_
  | refine ew_name 9 rfl (by first | exact .inl rfl | exact .inr (.inl rfl) | exact .inr (.inr rfl)) rfl ?_
  | refine ew_name 10 rfl (by first | exact .inl rfl | exact .inr (.inl rfl) | exact .inr (.inr rfl)) rfl ?_
  | refine ew_name 11 rfl (by first | exact .inl rfl | exact .inr (.inl rfl) | exact .inr (.inr rfl)) rfl ?_
  | refine ew_name 12 rfl (by first | exact .inl rfl | exact .inr (.inl rfl) | exact .inr (.inr rfl)) rfl ?_)
local macro_rules | `(tactic| walk_at "i") => `(tactic| (refine' cl_isi (.ty _) ?a ?b ?_; (case a => constructor); (case b => with_reducible first | exact kit_int_int | exact kit_int_bool | exact kit_bool_int | exact kit_bool_bool | exact kit_NoneType_int | exact kit_str_int | exact kit_list_int | exact kit_tuple_int | exact kit_dict_int | exact kit_tuple_tuple | exact kit_int_tuple | exact kit_NoneType_tuple | exact kit_bool_tuple | exact kit_str_tuple | exact kit_list_tuple | exact kit_dict_tuple)))
local macro_rules | `(tactic| walk_at "l") => `(tactic| first
  | refine ew_isinstance (Tx.f_isinstance (by assumption)) ?_ | refine ew_len (Tx.f_len (by assumption)) ?_ | refine ew_vint (Tx.f_int (by assumption)) ?_ | refine ew_vbool (Tx.f_bool (by assumption)) ?_ | refine ew_vtuple (Tx.f_tuple (by assumption)) ?_ | refine ew_vstr (Tx.f_str (by assumption)) ?_
  | refine ew_gint (Tx.i_MOST_PERIOD (by assumption)) (by rfl) ?_ | refine ew_gint (Tx.i_DIGITS (by assumption)) (by rfl) ?_ | refine ew_gint (Tx.i_FAR (by assumption)) (by rfl) ?_ | refine ew_gint (Tx.i_MOST_MODULUS (by assumption)) (by rfl) ?_ | refine ew_gint (Tx.i_MOST_PERIODS (by assumption)) (by rfl) ?_
  | refine cl_len ?_ | refine cl_lenT ?_ | refine ix_tpl rfl ?_ | refine od_is (by intro _ h; cases h) ?_)
local macro_rules | `(tactic| walk_at "x") => `(tactic| repeat (first | walk_at "c" | walk_at "n" | walk_at "l" | walk_at "i"))
theorem eqv_emp (acc : List D) : D.eqv (.lst acc) (.lst []) = acc.isEmpty := by
  cases acc <;> simp [D.eqv, D.py, D.pyL, PyData.eqv, PyData.eqvAll]
theorem strOk1 {z : Str} {ch : Nat} (h : PyData.strOk z = true) (m : ch ∈ z.cps.toList) : PyData.strOk (⟨#[ch]⟩ : Str) = true := by
  unfold PyData.strOk at h ⊢
  rw [Array.all_eq_true_iff_forall_mem] at h ⊢
  intro x hx
  obtain rfl : x = ch := by simpa using hx
  exact h x (Array.mem_toList_iff.mp m)
theorem neg_head {z : Str} (q : Txt.startswith z "-" = true) : z.cps[0]? = some 45 := by
  unfold Txt.startswith at q
  obtain ⟨_, h2⟩ := Bool.and_eq_true_iff.mp q
  unfold Builtin.Str.subAt at h2
  have h3 := congrArg (fun a : Array Nat => a[0]?) (beq_iff_eq.mp h2)
  have h4 : (("-" : Str)).cps[0]? = some 45 := by decide
  simp only [h4, Array.getElem?_extract] at h3
  split at h3
  · exact h3
  · cases h3
theorem numIn_neg {z : Str} {lo hi : Int} (q : Txt.startswith z "-" = true) (h : 1 ≤ lo) : numIn z lo hi = false := by
  cases e : numIn z lo hi with
  | false => rfl
  | true =>
    have v := (numIn_val e).1
    unfold numIn at e
    rw [Bool.and_eq_true] at e
    have e := e.1
    unfold isN at e
    simp only [Bool.and_eq_true, decide_eq_true_eq] at e
    have e2 := e.2.2
    have e3 : Txt.startswith (num (valN z).toNat) "-" = true := by
      unfold num
      rw [Int.toNat_of_nonneg (by omega)]
      have : (Str.ofString (toString (valN z))) = z := e2
      rw [this]
      exact q
    rw [num_neg] at e3
    cases e3
section
variable {P : Program} {w : World} {K : PySem.W.Frag} {mg : Str → Option Value} {base : Heap}
def F_isnum : FT := fun ds cs Kk _ => ∃ z lo hi, ds = [.str z, .int lo, .int hi] ∧ Wd z ∧ PyData.strOk z = true ∧ 1 ≤ lo ∧ Kk (.bl (numIn z lo hi)) cs
def NI : List Str := ["_law_word", "_law_low", "_law_high", "_law_sign"]
theorem ndI : NI.Nodup := by decide +kernel
theorem x_isnum (T : Tx K mg) : Dfs.Dfn P w K mg base (L2.CX P w) 1 "_law_is_number" ["_law_word", "_law_low", "_law_high"] (spF F_isnum) := by
  refine dfnF T.q_law_is_number T.g_law_is_number (N := NI) ⟨rfl, rfl, rfl, ndI, rfl, by decide +kernel, by decide +kernel⟩ (fun kV doc pm an cdv ct => Vls.bind3 fun a b c => rfl) (fun ds cs Kk KE h => ?_) (fun cdv A outer s H E ds cs Kk KE hr h => ?_)
  · obtain ⟨_, _, _, rfl, _⟩ := h
    rfl
  · obtain ⟨z, lo, hi, rfl, wz, so, hlo, q⟩ := h
    have hlen := wz.len
    have no : numIn z lo hi = false → Kk (.bl false) cs := fun e => by
      rw [e] at q
      exact q
    refine sw_cons (s1_if (tw_w (ww_or (tw_cmp ?_))))
    walk_at "n"
    refine ew_str (od_eq hr.units (str_ok so) (str_ok (strOk_of "")) ?_)
    rw [eqv_str]
    by_cases z0 : z = ""
    · rw [decide_eq_true z0]
      refine isB (br_t (br_t (sw_cons (s1_ret (ew_bl (no ?_))))))
      rw [z0]
      have e1 : isN "" = false := by decide
      unfold numIn
      rw [e1, Bool.false_and]
    · rw [decide_eq_false z0]
      refine isB (br_f (ww_or (tw_cmp ?_)))
      refine ew_lcS [("_law_sign", 3)] 0 rfl ndI (Vls.blk_by (N := NI) (sc := defScope s_law_is_number) (by decide +kernel)) ?_
      walk_at "n"
      refine ⟨z, rfl, szl (by omega), fun i acc cs' => cs' = cs ∧ acc.length ≤ i ∧ (∀ d ∈ acc, d.tm 0 = true) ∧ acc.isEmpty = (z.cps.toList.take i).all isDig, ⟨rfl, Nat.le_refl _, (by intro d hd; cases hd), rfl⟩, fun i ch acc cs' hd hI => ?_, fun acc cs' hI => ?_⟩
      · obtain ⟨rfl, hl, ht, hI⟩ := hI
        have hd2 : z.cps.toList[i]? = some ch := by rw [Array.getElem?_toList]; exact hd
        have nx : (z.cps.toList.take (i + 1)).all isDig = ((z.cps.toList.take i).all isDig && isDig ch) := by
          rw [List.take_add_one, hd2, List.all_append]
          simp
        refine ⟨hl, fun lx _ _ _ _ _ => ?_⟩
        refine tg_name 3 ndI rfl (.inl rfl) ?_
        intro _ _ _ _ _
        refine ts_one ?_
        refine tw_cmp ?_ (by with_unfolding_all rfl)
        walk_at "n"
        refine ew_str ?_
        refine od_nsign ?_
        refine isB ?_
        refine ⟨fun h => ?_, fun h => ?_⟩
        · intro _ _ _ _ _
          walk_at "n"
          refine ⟨cs', rfl, rfl, by rw [List.length_append, List.length_singleton]; omega, fun d hd => ?_, ?_⟩
          · rcases List.mem_append.mp hd with hd | hd
            · exact ht d hd
            · obtain rfl := List.mem_singleton.mp hd
              have so := strOk1 so (List.mem_of_getElem? hd2)
              simpa only [D.tm] using so
          · have hb : isDig ch = false := by unfold isDig; simpa using h
            rw [nx, hb, Bool.and_false]
            cases acc <;> rfl
        · have hb : isDig ch = true := by unfold isDig; simpa using h
          exact ⟨cs', rfl, rfl, by omega, ht, by rw [nx, hb, Bool.and_true]; exact hI⟩
      · obtain ⟨rfl, _, ht, hI⟩ := hI
        have hI : acc.isEmpty = z.cps.toList.all isDig := by
          rw [hI, show z.cps.size = z.cps.toList.length by simp, List.take_length]
        have okA : (D.lst acc).ok = true := tm_ok (n := 1) (by
          simp only [D.tm, Bool.and_eq_true]
          have z := tmL_map (fun d : D => d) 0 acc ht
          rw [List.map_id'] at z
          exact ⟨rfl, z⟩) (by decide)
        refine ew_lst (aw_nil ⟨szl (Nat.le_of_ble_eq_true rfl), ?_⟩)
        refine od_ne hr.units okA (by rfl) ?_
        rw [eqv_emp, hI]
        by_cases neg : Txt.startswith z "-" = true
        · have h0 := neg_head neg
          have e : z.cps.toList.all isDig = false := by
            have m : (45 : Nat) ∈ z.cps.toList := by
              rw [← Array.getElem?_toList] at h0
              exact List.mem_of_getElem? h0
            cases a : z.cps.toList.all isDig with
            | false => rfl
            | true =>
              have := List.all_eq_true.mp a 45 m
              exact absurd this (by decide)
          rw [e]
          refine isB (br_t (br_t (sw_cons (s1_ret (ew_bl (no (numIn_neg neg hlo)))))))
        · have ed : dg z = z := by
            unfold dg
            rw [if_neg neg]
          have e2 : z.cps.toList.all isDig = digOk z := by
            unfold digOk
            rw [ed]
          rw [e2]
          by_cases hd : digOk z = true
          · rw [hd]
            refine isB (br_f (ww_or1 (tw_cmp ?_)))
            refine ew_len T.f_len (aw_cons ?_)
            walk_at "n"
            refine aw_nil (cl_lenS (szl (by omega)) (ew_int (od_gt (isB ?_))))
            have zne : 1 ≤ z.length := by
              cases z with
              | mk a =>
                cases hs : a.size with
                | zero =>
                  refine absurd ?_ z0
                  have : a = #[] := Array.eq_empty_of_size_eq_zero hs
                  rw [this]
                  rfl
                | succ n =>
                  show 1 ≤ a.size
                  omega
            by_cases h40 : z.length ≤ 40
            · rw [decide_eq_false (show ¬ ((40 : Int) < (z.length : Int)) by omega)]
              refine br_f (sw_nil ?_)
              have lo1 : lenOk z = true := by
                unfold lenOk
                rw [ed, decide_eq_true (by omega), decide_eq_true (by omega)]
                rfl
              obtain ⟨i, hi1, hs⟩ := wz.int lo1 hd
              have ev : valN z = i := by
                unfold valN
                rw [hi1]
                rfl
              have en : numIn z lo hi = (decide ((toString i : Str) = z) && (decide (lo ≤ i) && decide (i ≤ hi))) := by
                unfold numIn isN
                rw [lo1, hd, ev]
                rfl
              rw [en] at q
              refine sw_cons (s1_ret (ew_and (ew_cmp ?_)))
              refine ew_callT (T := "str") T.f_str (by rfl) (by kernel_rfl) (aw_cons ?_)
              refine ew_tint T.f_int (aw_cons ?_)
              walk_at "n"
              refine aw_nil (cl_intS hi1 (by omega) (aw_nil ?_))
              refine cl_strI (by have := Flat.log_of hs; omega) ?_
              walk_at "n"
              refine od_eq hr.units (str_ok (strOk_of _)) (str_ok so) ?_
              rw [eqv_str]
              refine isB ⟨fun e => ?_, fun e => ?_⟩
              · rw [e, Bool.true_and] at q
                refine ew_one (ew_chain ?_)
                walk_at "n"
                refine ew_tint T.f_int (aw_cons ?_)
                walk_at "n"
                refine aw_nil (cl_intS hi1 (by omega) (od_le (isB ⟨fun e1 => ?_, fun e1 => ?_⟩)))
                · walk_at "n"
                  rw [e1, Bool.true_and] at q
                  exact od_le q
                · rw [e1] at q
                  exact q
              · rw [e] at q
                exact q
            · rw [decide_eq_true (show ((40 : Int) < (z.length : Int)) by omega)]
              refine br_t (sw_cons (s1_ret (ew_bl (no ?_))))
              unfold numIn isN lenOk
              rw [ed, show decide ((z.length : Int) ≤ 40) = false from decide_eq_false (by omega), Bool.and_false, Bool.false_and, Bool.false_and]
          · have hd : digOk z = false := by simpa using hd
            rw [hd]
            refine isB (br_t (br_t (sw_cons (s1_ret (ew_bl (no ?_))))))
            unfold numIn isN
            rw [hd, Bool.false_and, Bool.and_false, Bool.false_and]
end
end K24
set_option Elab.async false
set_option linter.all false
set_option maxRecDepth 100000
set_option maxHeartbeats 4000000
namespace K24
open PySem PySem.Spec PyProof.Rows L2 Sx
local macro_rules | `(tactic| walk_at "c") => `(tactic| first
  | refine aw_cons ?_ | refine aw_nil ?_
  | refine ew_int ?_ | refine ew_non ?_ | refine ew_bl ?_ | refine ew_str ?_
  | refine ew_bin ?_ | refine ew_cmp ?_ | refine tw_cmp ?_ | refine tw_not ?_ | refine ew_chain ?_ | refine tw_chain ?_ | refine ew_and ?_ | refine ew_or ?_ | refine ew_one ?_ | refine ew_not ?_ | refine ew_neg ?_ | refine ew_if ?_
  | refine tw_w (ww_and ?_) | refine tw_w (ww_or ?_) | refine ww_and ?_ | refine ww_or ?_ | refine ww_and1 ?_ | refine ww_or1 ?_
  | refine tw_val (e := .Call _ _ _ _) ?_ | refine ew_tup ?_ | refine ew_ix ?_ | refine ew_lst ?_
  | refine sw_cons ?_ | refine s1_ret ?_ | refine s1_if ?_ | refine sw_nil ?_ | refine s1_expr ?_
  | refine od_add ?_ | refine od_sub ?_ | refine od_lt ?_ | refine od_le ?_ | refine od_gt ?_ | refine od_ge ?_
  | refine isB ?_ | refine intD ?_ | refine br_t ?_ | refine br_f ?_
  | refine ⟨szl (Nat.le_of_ble_eq_true rfl), ?_⟩)
local macro_rules | `(tactic| walk_at "n") => `(tactic| first
  | refine ew_name 0 rfl (by first | exact .inl rfl | exact .inr (.inl rfl) | exact .inr (.inr rfl)) rfl ?_
  | refine ew_name 1 rfl (by first | exact .inl rfl | exact .inr (.inl rfl) | exact .inr (.inr rfl)) rfl ?_
  | refine ew_name 2 rfl (by first | exact .inl rfl | exact .inr (.inl rfl) | exact .inr (.inr rfl)) rfl ?_
  | refine ew_name 3 rfl (by first | exact .inl rfl | exact .inr (.inl rfl) | exact .inr (.inr rfl)) rfl ?_
  | refine ew_name 4 rfl (by first | exact .inl rfl | exact .inr (.inl rfl) | exact .inr (.inr rfl)) rfl ?_
  | refine ew_name 5 rfl (by first | exact .inl rfl | exact .inr (.inl rfl) | exact .inr (.inr rfl)) rfl ?_
  | refine ew_name 6 rfl (by first | exact .inl rfl | exact .inr (.inl rfl) | exact .inr (.inr rfl)) rfl ?_
  | refine ew_name 7 rfl (by first | exact .inl rfl | exact .inr (.inl rfl) | exact .inr (.inr rfl)) rfl ?_
  | refine ew_name 8 rfl (by first | exact .inl rfl | exact .inr (.inl rfl) | exact .inr (.inr rfl)) rfl ?_
  | refine ew_name 9 rfl (by first | exact .inl rfl | exact .inr (.inl rfl) | exact .inr (.inr rfl)) rfl ?_
  | refine ew_name 10 rfl (by first | exact .inl rfl | exact .inr (.inl rfl) | exact .inr (.inr rfl)) rfl ?_
  | refine ew_name 11 rfl (by first | exact .inl rfl | exact .inr (.inl rfl) | exact .inr (.inr rfl)) rfl ?_
  | refine ew_name 12 rfl (by first | exact .inl rfl | exact .inr (.inl rfl) | exact .inr (.inr rfl)) rfl ?_)
local macro_rules | `(tactic| walk_at "i") => `(tactic| (refine' cl_isi (.ty _) ?a ?b ?_; (case a => constructor); (case b => with_reducible first | exact kit_int_int | exact kit_int_bool | exact kit_bool_int | exact kit_bool_bool | exact kit_NoneType_int | exact kit_str_int | exact kit_list_int | exact kit_tuple_int | exact kit_dict_int | exact kit_tuple_tuple | exact kit_int_tuple | exact kit_NoneType_tuple | exact kit_bool_tuple | exact kit_str_tuple | exact kit_list_tuple | exact kit_dict_tuple)))
local macro_rules | `(tactic| walk_at "l") => `(tactic| first
  | refine ew_isinstance (Tx.f_isinstance (by assumption)) ?_ | refine ew_len (Tx.f_len (by assumption)) ?_ | refine ew_vint (Tx.f_int (by assumption)) ?_ | refine ew_vbool (Tx.f_bool (by assumption)) ?_ | refine ew_vtuple (Tx.f_tuple (by assumption)) ?_ | refine ew_vstr (Tx.f_str (by assumption)) ?_
  | refine ew_gint (Tx.i_MOST_PERIOD (by assumption)) (by rfl) ?_ | refine ew_gint (Tx.i_DIGITS (by assumption)) (by rfl) ?_ | refine ew_gint (Tx.i_FAR (by assumption)) (by rfl) ?_ | refine ew_gint (Tx.i_MOST_MODULUS (by assumption)) (by rfl) ?_ | refine ew_gint (Tx.i_MOST_PERIODS (by assumption)) (by rfl) ?_
  | refine cl_len ?_ | refine cl_lenT ?_ | refine ix_tpl rfl ?_ | refine od_is (by intro _ h; cases h) ?_)
local macro_rules | `(tactic| walk_at "x") => `(tactic| repeat (first | walk_at "c" | walk_at "n" | walk_at "l" | walk_at "i"))
def dueD (ws : List Str) : D := match rg ws with
  | .inl _ => .non
  | .inr n => dN n
/-- a word that is no period, or one too many -/
def badW (ws : List Str) (n : Nat) : Bool := decide (6 < n) || !numIn (wd ws n) 2 1000
def fbF (ws : List Str) : Nat → Nat → Option Nat
  | 0, _ => none
  | f + 1, n => if badW ws n = true then some n else fbF ws f (n + 1)
def accL (ws : List Str) : Nat → Nat → List Nat
  | 0, _ => []
  | f + 1, n => (if badW ws n = true then [n] else []) ++ accL ws f (n + 1)
theorem accL_next (ws : List Str) : ∀ (j n : Nat), accL ws (j + 1) n = accL ws j n ++ (if badW ws (n + j) = true then [n + j] else [])
  | 0, n => by
    show (if badW ws n = true then [n] else []) ++ [] = [] ++ _
    rw [List.append_nil, List.nil_append, Nat.add_zero]
  | j + 1, n => by
    have ih := accL_next ws j (n + 1)
    show (if badW ws n = true then [n] else []) ++ accL ws (j + 1) (n + 1) = ((if badW ws n = true then [n] else []) ++ accL ws j (n + 1)) ++ _
    rw [ih, List.append_assoc, show n + 1 + j = n + (j + 1) by omega]
theorem accL_head (ws : List Str) : ∀ (j n : Nat), (accL ws j n).head? = fbF ws j n
  | 0, _ => rfl
  | j + 1, n => by
    have ih := accL_head ws j (n + 1)
    show ((if badW ws n = true then [n] else []) ++ accL ws j (n + 1)).head? = if badW ws n = true then some n else fbF ws j (n + 1)
    by_cases h : badW ws n = true
    · rw [if_pos h, if_pos h]
      rfl
    · rw [if_neg h, if_neg h]
      exact ih
theorem accL_len (ws : List Str) : ∀ (j n : Nat), (accL ws j n).length ≤ j
  | 0, _ => Nat.le_refl _
  | j + 1, n => by
    have ih := accL_len ws j (n + 1)
    show ((if badW ws n = true then [n] else []) ++ accL ws j (n + 1)).length ≤ _
    rw [List.length_append]
    split <;> simp <;> omega
def endR (ws : List Str) : (Kd × Nat) ⊕ Nat → Option Nat
  | .inl (_, m) => if m = ws.length then none else some m
  | .inr m => some m
theorem rg_end (ws : List Str) : dueD ws = optD (endR ws (rg0 ws)) := by
  unfold dueD rg
  cases rg0 ws with
  | inl p =>
    obtain ⟨k, m⟩ := p
    show (match (if m = ws.length then (Sum.inl k : Kd ⊕ Nat) else .inr m) with | .inl _ => D.non | .inr n => dN n) = optD (if m = ws.length then none else some m)
    by_cases h : m = ws.length
    · rw [if_pos h, if_pos h]
      rfl
    · rw [if_neg h, if_neg h]
      rfl
  | inr m => rfl
theorem dlR_end {ws : List Str} : ∀ (f n : Nat) (ps : List Nat), n ≤ ws.length → n + f = 7 → endR ws (dlR ws f n ps) = fbF ws (ws.length - n) n
  | 0, n, ps, hn, h => by
    show (if n = ws.length then none else some n) = _
    by_cases e : n = ws.length
    · rw [if_pos e, e, Nat.sub_self]
      rfl
    · rw [if_neg e]
      obtain ⟨j, hj⟩ : ∃ j, ws.length - n = j + 1 := ⟨ws.length - n - 1, by omega⟩
      rw [hj]
      show _ = if badW ws n = true then some n else _
      rw [if_pos (by unfold badW; rw [decide_eq_true (by omega)]; rfl)]
  | f + 1, n, ps, hn, h => by
    show endR ws (if n = ws.length then .inl (.dl ps, n) else if numIn (wd ws n) 2 1000 = true then dlR ws f (n + 1) (ps ++ [(valN (wd ws n)).toNat]) else .inr n) = _
    by_cases e : n = ws.length
    · rw [if_pos e, e, Nat.sub_self]
      show (if ws.length = ws.length then none else some ws.length) = none
      rw [if_pos rfl]
    · rw [if_neg e]
      obtain ⟨j, hj⟩ : ∃ j, ws.length - n = j + 1 := ⟨ws.length - n - 1, by omega⟩
      rw [hj]
      show _ = if badW ws n = true then some n else fbF ws j (n + 1)
      have b : badW ws n = !numIn (wd ws n) 2 1000 := by
        unfold badW
        rw [decide_eq_false (by omega), Bool.false_or]
      by_cases g : numIn (wd ws n) 2 1000 = true
      · rw [if_pos g, if_neg (by rw [b, g]; simp), dlR_end f (n + 1) _ (by omega) (by omega)]
        congr 1
        omega
      · rw [if_neg g, if_pos (by rw [b]; simpa using g)]
        rfl
theorem due_dials {ws : List Str} (h : wd ws 0 = "dials") (hl : 2 ≤ ws.length) : dueD ws = optD (fbF ws (ws.length - 1) 1) := by
  rw [rg_end]
  congr 1
  have e0 : rg0 ws = (if numIn (wd ws 1) 2 1000 = true then dlR ws 5 2 [(valN (wd ws 1)).toNat] else .inr 1) := by
    unfold rg0
    rw [if_neg (by rw [h]; decide), if_neg (by rw [h]; decide), if_neg (by rw [h]; decide), if_pos h]
  obtain ⟨j, hj⟩ : ∃ j, ws.length - 1 = j + 1 := ⟨ws.length - 2, by omega⟩
  rw [hj, e0]
  show _ = if badW ws 1 = true then some 1 else fbF ws j 2
  have b : badW ws 1 = !numIn (wd ws 1) 2 1000 := by
    unfold badW
    rw [decide_eq_false (by omega), Bool.false_or]
  by_cases g : numIn (wd ws 1) 2 1000 = true
  · rw [if_pos g, if_neg (by rw [b, g]; simp), dlR_end 5 2 _ (by omega) (by omega)]
    congr 1
    omega
  · rw [if_neg g, if_pos (by rw [b]; simpa using g)]
    rfl
section
variable {P : Program} {w : World} {K : PySem.W.Frag} {mg : Str → Option Value} {base : Heap}
def F_ldue : FT := fun ds cs Kk _ => ∃ z, ds = [.str z] ∧ z.length ≤ 9000 ∧ WsOk (Txt.split z " ") ∧ Txt.split z " " ≠ [] ∧ Kk (dueD (Txt.split z " ")) cs
def NU : List Str := ["_law_text", "_law_words", "_law_wrong", "_law_at"]
theorem ndU : NU.Nodup := by decide +kernel
theorem x_due (T : Tx K mg) : Dfs.Dfn P w K mg base (L2.CX P w) 2 "_law_due" ["_law_text"] (spF F_ldue) := by
  refine dfnF T.q_law_due T.g_law_due (N := NU) ⟨rfl, rfl, rfl, ndU, rfl, by decide +kernel, by decide +kernel⟩ (fun kV doc pm an cdv ct => Vls.bind1 fun a => rfl) (fun ds cs Kk KE h => ?_) (fun cdv A outer s0 H E ds cs Kk KE hr h => ?_)
  · obtain ⟨_, rfl, _⟩ := h
    rfl
  · obtain ⟨z, rfl, hz, hw, ne, q⟩ := h
    refine sw_cons (s1_set 1 ndU rfl (.inr rfl) (ew_split ?_))
    walk_at "n"
    refine ⟨z, rfl, ?_⟩
    refine ew_str ⟨" ", rfl, by decide, szl (by omega), ?_⟩
    generalize Txt.split z " " = ws at hw ne q
    have l1 : 0 < ws.length := by
      cases ws with
      | nil => exact absurd rfl ne
      | cons _ _ => simp
    have few := hw.few
    have so := (hw.at_ 0).2
    have at_ : ∀ n, n < ws.length → (ws.map D.str)[n]? = some (.str (wd ws n)) := fun n hn => by
      rw [List.getElem?_map, List.getElem?_eq_getElem hn]
      unfold wd
      rw [List.getElem?_eq_getElem hn]
      rfl
    have sk : ∀ x : String, (D.str (Str.ofString x)).ok = true := fun x => str_ok (strOk_of x)
    refine sw_cons (s1_if (tw_cmp ?_ (by with_unfolding_all rfl)))
    refine ew_ix ?_
    walk_at "n"
    refine ew_int (ix_lst (d := .str (wd ws 0)) (atI_nat (j := 0) (at_ 0 l1)) ?_)
    refine ew_tup (aw_cons (ew_str (aw_cons (ew_str (aw_nil ⟨szl (Nat.le_of_ble_eq_true rfl), ?_⟩)))))
    refine od_inT (opts := ["plain", "restarting"]) (isB ?_)
    by_cases hp : wd ws 0 ∈ (["plain", "restarting"] : List Str)
    · rw [decide_eq_true hp]
      have ed : dueD ws = optD (if 1 = ws.length then none else some 1) := by
        rw [rg_end]
        congr 1
        simp only [List.mem_cons, List.not_mem_nil, or_false] at hp
        rcases hp with hp | hp
        · have e0 : rg0 ws = .inl (.pl, 1) := by unfold rg0; rw [if_pos hp]
          rw [e0]
          rfl
        · have e0 : rg0 ws = .inl (.rs, 1) := by unfold rg0; rw [if_neg (by rw [hp]; decide), if_pos hp]
          rw [e0]
          rfl
      rw [ed] at q
      refine br_t (sw_cons (s1_ret (ew_if (tw_cmp ?_))))
      refine ew_len T.f_len (aw_cons ?_)
      walk_at "n"
      refine aw_nil (cl_len (ew_int (od_gt (isB ?_))))
      rw [List.length_map]
      by_cases h1 : 1 = ws.length
      · rw [if_pos h1] at q
        refine br_f' (decide_eq_false (by omega)) (ew_non ?_)
        exact q
      · rw [if_neg h1] at q
        refine br_t' (decide_eq_true (by omega)) (ew_int ?_)
        exact q
    · rw [decide_eq_false hp]
      simp only [List.mem_cons, List.not_mem_nil, or_false, not_or] at hp
      obtain ⟨hp1, hp2⟩ := hp
      refine br_f (sw_nil (sw_cons (s1_if (tw_cmp (ew_ix ?_)))))
      walk_at "n"
      refine ew_int (ix_lst (d := .str (wd ws 0)) (atI_nat (j := 0) (at_ 0 l1)) ?_)
      refine ew_str (od_eq hr.units (str_ok so) (sk "modulo") ?_)
      rw [eqv_str]
      by_cases hm : wd ws 0 = "modulo"
      · have e0 : rg0 ws = (if numIn (wd ws 1) 2 (10 ^ 18) = true then .inl (.md (valN (wd ws 1)).toNat, 2) else .inr 1) := by
          unfold rg0
          rw [if_neg hp1, if_neg hp2, if_pos hm]
        rw [rg_end, e0] at q
        rw [decide_eq_true hm]
        refine isB (br_t (sw_cons (s1_if (tw_w (ww_or (tw_cmp ?_))))))
        refine ew_len T.f_len (aw_cons ?_)
        walk_at "n"
        refine aw_nil (cl_len (ew_int (od_lt (isB ?_))))
        rw [List.length_map]
        by_cases h2 : ws.length < 2
        · refine br_t' (decide_eq_true (by omega)) (br_t (sw_cons (s1_ret (ew_int ?_))))
          have n1 : ¬ numIn (wd ws 1) 2 (10 ^ 18) = true := fun h => by
            have := numIn_in l1 h
            omega
          rw [if_neg n1] at q
          exact q
        · refine br_f' (decide_eq_false (by omega)) (ww_or1 (tw_not ?_))
          refine tw_val (e := .Call _ _ _ _) ?_
          refine ew_call .same (x_isnum T) (hr.mono (by decide)) (by rfl) pc (aw_cons (ew_ix ?_))
          walk_at "n"
          refine ew_int (ix_lst (d := .str (wd ws 1)) (atI_nat (j := 1) (at_ 1 (by omega))) ?_)
          refine aw_cons (ew_int (aw_cons (ew_bin (ew_int (ew_int (od_pow ⟨by decide, by decide, by decide⟩ (aw_nil ?_)))))))
          refine ⟨wd ws 1, 2, 10 ^ 18, rfl, (hw.at_ 1).1, (hw.at_ 1).2, by decide, isB ?_⟩
          by_cases g : numIn (wd ws 1) 2 (10 ^ 18) = true
          · rw [if_pos g] at q
            rw [g]
            refine br_f (sw_nil (sw_cons (s1_ret (ew_if (tw_cmp ?_)))))
            refine ew_len T.f_len (aw_cons ?_)
            walk_at "n"
            refine aw_nil (cl_len (ew_int (od_gt (isB ?_))))
            rw [List.length_map]
            have q : Kk (optD (if 2 = ws.length then none else some 2)) cs := q
            by_cases h3 : 2 = ws.length
            · rw [if_pos h3] at q
              refine br_f' (decide_eq_false (by omega)) (ew_non ?_)
              exact q
            · rw [if_neg h3] at q
              refine br_t' (decide_eq_true (by omega)) (ew_int ?_)
              exact q
          · rw [if_neg g] at q
            rw [show numIn (wd ws 1) 2 (10 ^ 18) = false by simpa using g]
            refine br_t (sw_cons (s1_ret (ew_int ?_)))
            exact q
      · rw [decide_eq_false hm]
        refine isB (br_f (sw_nil (sw_cons (s1_if (tw_cmp (ew_ix ?_))))))
        walk_at "n"
        refine ew_int (ix_lst (d := .str (wd ws 0)) (atI_nat (j := 0) (at_ 0 l1)) ?_)
        refine ew_str (od_ne hr.units (str_ok so) (sk "dials") ?_)
        rw [eqv_str]
        by_cases hd : wd ws 0 = "dials"
        · rw [decide_eq_true hd]
          refine isB (br_f (sw_nil (sw_cons (s1_if (tw_cmp ?_)))))
          refine ew_len T.f_len (aw_cons ?_)
          walk_at "n"
          refine aw_nil (cl_len (ew_int (od_lt (isB ?_))))
          rw [List.length_map]
          by_cases h2 : ws.length < 2
          · refine br_t' (decide_eq_true (by omega)) (sw_cons (s1_ret (ew_int ?_)))
            have n1 : ¬ numIn (wd ws 1) 2 1000 = true := fun h => by
              have := numIn_in l1 h
              omega
            have e0 : rg0 ws = .inr 1 := by
              unfold rg0
              rw [if_neg hp1, if_neg hp2, if_neg hm, if_pos hd, if_neg n1]
            rw [rg_end, e0] at q
            exact q
          · rw [due_dials hd (by omega)] at q
            refine br_f' (decide_eq_false (by omega)) (sw_nil ?_)
            refine sw_cons (s1_lcR2 2 [("_law_at", 3)] 0 rfl ndU rfl rfl (Vls.blk_by (N := NU) (sc := defScope s_law_due) (by decide +kernel)) T.f_range (aw_cons (ew_int (aw_cons ?_))))
            refine ew_len T.f_len (aw_cons ?_)
            walk_at "n"
            refine aw_nil (cl_len (aw_nil ?_))
            rw [List.length_map]
            refine ⟨1, ws.length - 1, by rw [show ((1 : Int) + ((ws.length - 1 : Nat) : Int)) = (ws.length : Int) by omega], by decide, by decide, by omega, fun j acc cs' => cs' = cs ∧ acc = (accL ws j 1).map dN, ⟨rfl, rfl⟩, fun j acc cs' hj hI => ?_, fun acc cs' hI => ?_⟩
            · obtain ⟨rfl, rfl⟩ := hI
              refine ⟨by rw [List.length_map]; exact accL_len ws j 1, fun lx _ _ _ _ _ => ?_⟩
              refine tg_name 3 ndU rfl (.inl rfl) ?_
              rw [show ((1 : Int) + (j : Int)) = ((1 + j : Nat) : Int) by omega]
              intro _ _ _ _ _
              refine ts_one (tw_w (ww_or (tw_cmp ?_)))
              walk_at "n"
              refine ew_int (od_gt (isB ?_))
              by_cases h6 : 6 < 1 + j
              · have hb : badW ws (1 + j) = true := by
                  unfold badW
                  rw [decide_eq_true h6]
                  rfl
                refine br_t' (decide_eq_true (by omega)) (br_t ?_)
                intro _ _ _ _ _
                walk_at "n"
                refine ⟨cs', rfl, rfl, ?_⟩
                rw [accL_next, if_pos hb, List.map_append]
                rfl
              · refine br_f' (decide_eq_false (by omega)) (ww_or1 (tw_not ?_))
                refine tw_val (e := .Call _ _ _ _) ?_
                refine ew_call (.none fun _ _ _ => False) (x_isnum T) (hr.mono (by decide)) (by rfl) pF (aw_cons (ew_ix ?_))
                walk_at "n"
                walk_at "n"
                refine ix_lst (d := .str (wd ws (1 + j))) (atI_nat (at_ (1 + j) (by omega))) ?_
                refine aw_cons (ew_int (aw_cons (ew_int (aw_nil ?_))))
                refine ⟨wd ws (1 + j), 2, 1000, rfl, (hw.at_ _).1, (hw.at_ _).2, by decide, isB ?_⟩
                have eb : badW ws (1 + j) = !numIn (wd ws (1 + j)) 2 1000 := by
                  unfold badW
                  rw [decide_eq_false h6, Bool.false_or]
                by_cases g : numIn (wd ws (1 + j)) 2 1000 = true
                · rw [g]
                  refine br_f ⟨cs', rfl, rfl, ?_⟩
                  rw [accL_next, if_neg (by rw [eb, g]; simp), List.append_nil]
                · have g : numIn (wd ws (1 + j)) 2 1000 = false := by simpa using g
                  rw [g]
                  refine br_t ?_
                  intro _ _ _ _ _
                  walk_at "n"
                  refine ⟨cs', rfl, rfl, ?_⟩
                  rw [accL_next, if_pos (by rw [eb, g]; rfl), List.map_append]
                  rfl
            · obtain ⟨rfl, rfl⟩ := hI
              have okA : (D.lst ((accL ws (ws.length - 1) 1).map dN)).ok = true := tm_ok (n := 1) (by
                simp only [D.tm, Bool.and_eq_true]
                exact ⟨rfl, tmL_map _ 0 _ fun x _ => rfl⟩) (by decide)
              refine sw_cons (s1_ret (ew_if (tw_cmp ?_)))
              walk_at "n"
              refine ew_lst (aw_nil ⟨szl (Nat.le_of_ble_eq_true rfl), ?_⟩)
              refine od_ne hr.units okA (by rfl) ?_
              rw [eqv_emp]
              have hh := accL_head ws (ws.length - 1) 1
              cases e : accL ws (ws.length - 1) 1 with
              | nil =>
                rw [e] at hh
                rw [← hh] at q
                exact isB (br_f (ew_non q))
              | cons a r =>
                rw [e] at hh
                rw [← hh] at q
                refine isB (br_t (ew_ix ?_))
                walk_at "n"
                exact ew_int (ix_lst (d := dN a) (atI_nat (j := 0) rfl) q)
        · rw [decide_eq_false hd]
          have e0 : rg0 ws = .inr 0 := by
            unfold rg0
            rw [if_neg hp1, if_neg hp2, if_neg hm, if_neg hd]
          rw [rg_end, e0] at q
          refine isB (br_t (sw_cons (s1_ret (ew_int ?_))))
          exact q
end
end K24
set_option Elab.async false
set_option linter.all false
set_option maxRecDepth 100000
set_option maxHeartbeats 4000000
namespace K24
open PySem PySem.Spec PyProof.Rows L2 Sx
local macro_rules | `(tactic| walk_at "c") => `(tactic| first
  | refine aw_cons ?_ | refine aw_nil ?_
  | refine ew_int ?_ | refine ew_non ?_ | refine ew_bl ?_ | refine ew_str ?_
  | refine ew_bin ?_ | refine ew_cmp ?_ | refine tw_cmp ?_ | refine tw_not ?_ | refine ew_chain ?_ | refine tw_chain ?_ | refine ew_and ?_ | refine ew_or ?_ | refine ew_one ?_ | refine ew_not ?_ | refine ew_neg ?_ | refine ew_if ?_
  | refine tw_w (ww_and ?_) | refine tw_w (ww_or ?_) | refine ww_and ?_ | refine ww_or ?_ | refine ww_and1 ?_ | refine ww_or1 ?_
  | refine tw_val (e := .Call _ _ _ _) ?_ | refine ew_tup ?_ | refine ew_ix ?_ | refine ew_lst ?_
  | refine sw_cons ?_ | refine s1_ret ?_ | refine s1_if ?_ | refine sw_nil ?_ | refine s1_expr ?_
  | refine od_add ?_ | refine od_sub ?_ | refine od_lt ?_ | refine od_le ?_ | refine od_gt ?_ | refine od_ge ?_
  | refine isB ?_ | refine intD ?_ | refine br_t ?_ | refine br_f ?_
  | refine ⟨szl (Nat.le_of_ble_eq_true rfl), ?_⟩)
local macro_rules | `(tactic| walk_at "n") => `(tactic| first
  | refine ew_name 0 rfl (by first | exact .inl rfl | exact .inr (.inl rfl) | exact .inr (.inr rfl)) rfl ?_
  | refine ew_name 1 rfl (by first | exact .inl rfl | exact .inr (.inl rfl) | exact .inr (.inr rfl)) rfl ?_
  | refine ew_name 2 rfl (by first | exact .inl rfl | exact .inr (.inl rfl) | exact .inr (.inr rfl)) rfl ?_
  | refine ew_name 3 rfl (by first | exact .inl rfl | exact .inr (.inl rfl) | exact .inr (.inr rfl)) rfl ?_
  | refine ew_name 4 rfl (by first | exact .inl rfl | exact .inr (.inl rfl) | exact .inr (.inr rfl)) rfl ?_
  | refine ew_name 5 rfl (by first | exact .inl rfl | exact .inr (.inl rfl) | exact .inr (.inr rfl)) rfl ?_
  | refine ew_name 6 rfl (by first | exact .inl rfl | exact .inr (.inl rfl) | exact .inr (.inr rfl)) rfl ?_
  | refine ew_name 7 rfl (by first | exact .inl rfl | exact .inr (.inl rfl) | exact .inr (.inr rfl)) rfl ?_
  | refine ew_name 8 rfl (by first | exact .inl rfl | exact .inr (.inl rfl) | exact .inr (.inr rfl)) rfl ?_
  | refine ew_name 9 rfl (by first | exact .inl rfl | exact .inr (.inl rfl) | exact .inr (.inr rfl)) rfl ?_
  | refine ew_name 10 rfl (by first | exact .inl rfl | exact .inr (.inl rfl) | exact .inr (.inr rfl)) rfl ?_
  | refine ew_name 11 rfl (by first | exact .inl rfl | exact .inr (.inl rfl) | exact .inr (.inr rfl)) rfl ?_
  | refine ew_name 12 rfl (by first | exact .inl rfl | exact .inr (.inl rfl) | exact .inr (.inr rfl)) rfl ?_)
local macro_rules | `(tactic| walk_at "i") => `(tactic| (refine' cl_isi (.ty _) ?a ?b ?_; (case a => constructor); (case b => with_reducible first | exact kit_int_int | exact kit_int_bool | exact kit_bool_int | exact kit_bool_bool | exact kit_NoneType_int | exact kit_str_int | exact kit_list_int | exact kit_tuple_int | exact kit_dict_int | exact kit_tuple_tuple | exact kit_int_tuple | exact kit_NoneType_tuple | exact kit_bool_tuple | exact kit_str_tuple | exact kit_list_tuple | exact kit_dict_tuple)))
local macro_rules | `(tactic| walk_at "l") => `(tactic| first
  | refine ew_isinstance (Tx.f_isinstance (by assumption)) ?_ | refine ew_len (Tx.f_len (by assumption)) ?_ | refine ew_vint (Tx.f_int (by assumption)) ?_ | refine ew_vbool (Tx.f_bool (by assumption)) ?_ | refine ew_vtuple (Tx.f_tuple (by assumption)) ?_ | refine ew_vstr (Tx.f_str (by assumption)) ?_
  | refine ew_gint (Tx.i_MOST_PERIOD (by assumption)) (by rfl) ?_ | refine ew_gint (Tx.i_DIGITS (by assumption)) (by rfl) ?_ | refine ew_gint (Tx.i_FAR (by assumption)) (by rfl) ?_ | refine ew_gint (Tx.i_MOST_MODULUS (by assumption)) (by rfl) ?_ | refine ew_gint (Tx.i_MOST_PERIODS (by assumption)) (by rfl) ?_
  | refine cl_len ?_ | refine cl_lenT ?_ | refine ix_tpl rfl ?_ | refine od_is (by intro _ h; cases h) ?_)
local macro_rules | `(tactic| walk_at "x") => `(tactic| repeat (first | walk_at "c" | walk_at "n" | walk_at "l" | walk_at "i"))
def chkW (z : Str) : Bool := decide (z.length ≤ 600) && (decide ((dg z).length ≤ 600) && ((!(lenOk z && digOk z) || (match intText? z with
  | some i => decide (i.natAbs < 10 ^ 50)
  | none => false)) && PyData.strOk z))
theorem wd_of {z : Str} (h : chkW z = true) : Wd z ∧ PyData.strOk z = true := by
  unfold chkW at h
  simp only [Bool.and_eq_true, decide_eq_true_eq, Bool.or_eq_true, Bool.not_eq_true'] at h
  obtain ⟨h1, h2, h3, h4⟩ := h
  refine ⟨⟨h1, h2, fun a b => ?_⟩, h4⟩
  rcases h3 with h3 | h3
  · rw [a, b] at h3
    cases h3
  · cases e : intText? z with
    | none => rw [e] at h3; cases h3
    | some i => rw [e] at h3; exact ⟨i, rfl, of_decide_eq_true h3⟩
/-- a word of the texts here -/
structure Wz (n : Nat) (z : Str) : Prop where
  wd : Wd z
  ok : PyData.strOk z = true
  fr : 32 ∉ z.cps.toList
  sh : z.length ≤ n
theorem Wz.mono {n m : Nat} {z : Str} (h : Wz n z) (l : n ≤ m) : Wz m z := ⟨h.wd, h.ok, h.fr, Nat.le_trans h.sh l⟩
def fixed : List Str := ["", "plain", "modulo", "dials", "restarting", "0", "1", "2", "6", "06", "-3", "+4", "1000", "1001", "7"]
theorem fixed_all : fixed.all (fun z => chkW z && (decide (32 ∉ z.cps.toList) && decide (z.length ≤ 40))) = true := by decide +kernel
theorem wz_fixed {z : Str} (h : z ∈ fixed) : Wz 40 z := by
  have a := List.all_eq_true.mp fixed_all z h
  simp only [Bool.and_eq_true, decide_eq_true_eq] at a
  obtain ⟨a1, a2, a3⟩ := a
  exact ⟨(wd_of a1).1, (wd_of a1).2, a2, a3⟩
theorem wz_num {n : Nat} (h : n < 10 ^ 40) : Wz 40 (num n) := ⟨(num_wd h).1, (num_wd h).2, by rw [num_tl]; exact TL.numL_free (.inl (by decide)), (num_len h).2⟩
theorem cut1 {z : Str} : (cutS z (some 1) none).cps.toList = z.cps.toList.drop 1 := by
  have e : HT.sIx z.length 0 (some (1 : Int)) = min 1 z.length := HT.sIx_nat _ _ 1
  unfold cutS
  rw [HT.sIx_none, e]
  have el : z.length = z.cps.toList.length := by simp [Str.length]
  show ((z.cps.toList.drop (min 1 z.length)).take (z.length - min 1 z.length)) = _
  rw [el]
  by_cases h : 1 ≤ z.cps.toList.length
  · rw [Nat.min_eq_left h]
    exact List.take_of_length_le (by rw [List.length_drop]; omega)
  · have : z.cps.toList = [] := List.length_eq_zero_iff.mp (by omega)
    rw [this]
    rfl
theorem nl_list (z : Str) : (z ++ ("\n" : Str)).cps.toList = z.cps.toList ++ [10] := by
  show (z.cps ++ (("\n" : Str)).cps).toList = _
  rw [Array.toList_append]
  rfl
theorem nl_dig (z : Str) : digOk (z ++ ("\n" : Str)) = false := by
  have m : (10 : Nat) ∈ (dg (z ++ ("\n" : Str))).cps.toList := by
    unfold dg
    by_cases h : Txt.startswith (z ++ ("\n" : Str)) "-" = true
    · rw [if_pos h, cut1, nl_list]
      have h0 := neg_head h
      rw [← Array.getElem?_toList, nl_list] at h0
      cases e : z.cps.toList with
      | nil =>
        rw [e] at h0
        exact absurd h0 (by decide)
      | cons a r => simp
    · rw [if_neg h, nl_list]
      simp
  unfold digOk
  cases a : (dg (z ++ ("\n" : Str))).cps.toList.all isDig with
  | false => rfl
  | true => exact absurd (List.all_eq_true.mp a 10 m) (by decide)
theorem Wz.nl {n : Nat} {z : Str} (h : Wz n z) (hn : n ≤ 500) : Wz (n + 1) (z ++ ("\n" : Str)) := by
  have l : (z ++ ("\n" : Str)).length = z.length + 1 := by
    rw [Sho.len_app]
    rfl
  have sh := h.sh
  refine ⟨⟨by omega, ?_, fun _ b => by rw [nl_dig] at b; cases b⟩, Sho.ok_app h.ok (strOk_of _), ?_, by omega⟩
  · unfold dg
    split
    · have := cutS_length (z ++ ("\n" : Str)) (some 1) none
      omega
    · omega
  · rw [nl_list]
    intro m
    rcases List.mem_append.mp m with m | m
    · exact h.fr m
    · exact absurd m (by decide)
/-- some words: t changes so far -/
structure Wks (t : Nat) (ws : List Str) : Prop where
  all : ∀ z ∈ ws, Wz (40 + t) z
  ne : ws ≠ []
  few : ws.length ≤ 8 + t
theorem Wks.split {t : Nat} {ws : List Str} (g : Wks t ws) : Txt.split (Txt.join " " ws) " " = ws := TL.split_join (s := 32) (S := []) (by decide +kernel) (by decide +kernel) g.ne fun z hz => (g.all z hz).fr
theorem blank_len : (" " : Str).length = 1 := by decide
theorem Wks.sum {t : Nat} {ws : List Str} (g : Wks t ws) (ht : t ≤ 10) : (ws.map (·.length)).sum ≤ 1000 := by
  have a := Sho.sum_le (k := 50) (zs := ws) fun z hz => Nat.le_trans (g.all z hz).sh (by omega)
  have b := g.few
  omega
theorem Wks.len {t : Nat} {ws : List Str} (g : Wks t ws) (ht : t ≤ 10) : (Txt.join " " ws).length ≤ 1500 := by
  have a := Sho.join_len " " ws
  have b := g.sum ht
  have c := g.few
  rw [blank_len] at a
  rw [TL.join_eq]
  omega
theorem Wks.ok {t : Nat} {ws : List Str} (g : Wks t ws) : PyData.strOk (Txt.join " " ws) = true := Sho.ok_tjoin (Sho.ok_of _) fun z hz => (g.all z hz).ok
theorem Wks.wsok {t : Nat} {ws : List Str} (g : Wks t ws) (ht : t ≤ 10) : WsOk ws := ⟨fun z hz => ⟨(g.all z hz).wd, (g.all z hz).ok⟩, by have := g.few; omega⟩
theorem str_ext {a b : Str} (h : a.cps.toList = b.cps.toList) : a = b := by
  cases a
  cases b
  exact congrArg Str.mk (Array.ext' h)
theorem joinL_snoc (S x : List Nat) : ∀ ps : List (List Nat), ps ≠ [] → TL.joinL S (ps ++ [x]) = TL.joinL S ps ++ (S ++ x)
  | [], h => absurd rfl h
  | [p], _ => by simp [TL.joinL]
  | p :: q :: r, _ => by
    have ih := joinL_snoc S x (q :: r) (by simp)
    show p ++ (S ++ TL.joinL S ((q :: r) ++ [x])) = (p ++ (S ++ TL.joinL S (q :: r))) ++ _
    rw [ih]
    simp
theorem joinL_last (S x c : List Nat) : ∀ ps : List (List Nat), TL.joinL S (ps ++ [x ++ c]) = TL.joinL S (ps ++ [x]) ++ c
  | [] => rfl
  | [p] => by simp [TL.joinL]
  | p :: q :: r => by
    have ih := joinL_last S x c (q :: r)
    show p ++ (S ++ TL.joinL S ((q :: r) ++ [x ++ c])) = (p ++ (S ++ TL.joinL S ((q :: r) ++ [x]))) ++ c
    rw [ih]
    simp
theorem tl_app (a b : Str) : TL.tl (a ++ b) = TL.tl a ++ TL.tl b := by
  show (a.cps ++ b.cps).toList = _
  rw [Array.toList_append]
theorem join_snoc {ws : List Str} (x : Str) (ne : ws ≠ []) : Txt.join " " (ws ++ [x]) = Txt.join " " ws ++ ((" " : Str) ++ x) := by
  refine str_ext ?_
  show TL.tl (Txt.join " " (ws ++ [x])) = TL.tl (Txt.join " " ws ++ ((" " : Str) ++ x))
  rw [tl_app, tl_app, TL.join_eq, TL.join_eq, TL.tl_join, TL.tl_join, List.map_append]
  exact joinL_snoc _ _ _ (by simpa using ne)
theorem join_last (l : List Str) (x c : Str) : Txt.join " " (l ++ [x ++ c]) = Txt.join " " (l ++ [x]) ++ c := by
  refine str_ext ?_
  show TL.tl (Txt.join " " (l ++ [x ++ c])) = TL.tl (Txt.join " " (l ++ [x]) ++ c)
  rw [tl_app, TL.join_eq, TL.join_eq, TL.tl_join, TL.tl_join, List.map_append, List.map_append]
  show TL.joinL _ (l.map TL.tl ++ [TL.tl (x ++ c)]) = _
  rw [tl_app]
  exact joinL_last _ _ _ _
theorem Wks.blank {t : Nat} {ws : List Str} (g : Wks t ws) : Wks (t + 1) (ws ++ [("" : Str)]) ∧ Txt.join " " (ws ++ [("" : Str)]) = Txt.join " " ws ++ (" " : Str) :=
  ⟨⟨fun z hz => by
    rcases List.mem_append.mp hz with hz | hz
    · exact (g.all z hz).mono (by omega)
    · obtain rfl := List.mem_singleton.mp hz
      exact (wz_fixed (by decide)).mono (by omega), by simp, by have := g.few; simp; omega⟩, by
    rw [join_snoc _ g.ne]
    rfl⟩
theorem Wks.seven {t : Nat} {ws : List Str} (g : Wks t ws) : Wks (t + 1) (ws ++ [("7" : Str)]) ∧ Txt.join " " (ws ++ [("7" : Str)]) = Txt.join " " ws ++ (" 7" : Str) :=
  ⟨⟨fun z hz => by
    rcases List.mem_append.mp hz with hz | hz
    · exact (g.all z hz).mono (by omega)
    · obtain rfl := List.mem_singleton.mp hz
      exact (wz_fixed (by decide)).mono (by omega), by simp, by have := g.few; simp; omega⟩, by
    rw [join_snoc _ g.ne]
    rfl⟩
theorem Wks.newline {t : Nat} {ws : List Str} (g : Wks t ws) (ht : t ≤ 10) : ∃ us, Wks (t + 1) us ∧ Txt.join " " us = Txt.join " " ws ++ ("\n" : Str) := by
  have e := List.dropLast_concat_getLast g.ne
  refine ⟨ws.dropLast ++ [ws.getLast g.ne ++ ("\n" : Str)], ⟨fun z hz => ?_, by simp, ?_⟩, ?_⟩
  · rcases List.mem_append.mp hz with hz | hz
    · exact (g.all z (List.mem_of_mem_take (by rw [List.dropLast_eq_take] at hz; exact hz))).mono (by omega)
    · obtain rfl := List.mem_singleton.mp hz
      exact (g.all _ (List.getLast_mem g.ne)).nl (by omega)
  · have := g.few
    simp
    omega
  · rw [join_last, e]
/-- the words of a kind's text -/
theorem words_wks {kd : Kd} (g : kd.Good) (l4 : (ns kd).length ≤ 6) : Wks 0 kd.words := by
  cases kd with
  | pl => exact ⟨fun z hz => by
      obtain rfl := List.mem_singleton.mp hz
      exact wz_fixed (by decide), by simp [Kd.words], by decide⟩
  | rs => exact ⟨fun z hz => by
      obtain rfl := List.mem_singleton.mp hz
      exact wz_fixed (by decide), by simp [Kd.words], by decide⟩
  | md m => exact ⟨fun z hz => by
      have hz : z ∈ [("modulo" : Str), num m] := hz
      simp only [List.mem_cons, List.not_mem_nil, or_false] at hz
      rcases hz with rfl | rfl
      · exact wz_fixed (by decide)
      · exact wz_num (Nat.lt_of_le_of_lt g.2 (by decide)), by simp [Kd.words], by show 2 ≤ 8 + 0; decide⟩
  | dl ps => exact ⟨fun z hz => by
      have hz : z ∈ ("dials" : Str) :: ps.map num := hz
      rcases List.mem_cons.mp hz with rfl | hz
      · exact wz_fixed (by decide)
      · obtain ⟨p, hp, rfl⟩ := List.mem_map.mp hz
        exact wz_num (Nat.lt_of_le_of_lt (g.2.2 p hp).2 (by decide)), by simp [Kd.words], by
    show (("dials" : Str) :: ps.map num).length ≤ 8 + 0
    have l4 : ps.length ≤ 6 := l4
    rw [List.length_cons, List.length_map]
    omega⟩
end K24
set_option Elab.async false
set_option linter.all false
set_option maxRecDepth 100000
set_option maxHeartbeats 4000000
namespace K24
open PySem PySem.Spec PyProof.Rows L2 Sx
local macro_rules | `(tactic| walk_at "c") => `(tactic| first
  | refine aw_cons ?_ | refine aw_nil ?_
  | refine ew_int ?_ | refine ew_non ?_ | refine ew_bl ?_ | refine ew_str ?_
  | refine ew_bin ?_ | refine ew_cmp ?_ | refine tw_cmp ?_ | refine tw_not ?_ | refine ew_chain ?_ | refine tw_chain ?_ | refine ew_and ?_ | refine ew_or ?_ | refine ew_one ?_ | refine ew_not ?_ | refine ew_neg ?_ | refine ew_if ?_
  | refine tw_w (ww_and ?_) | refine tw_w (ww_or ?_) | refine ww_and ?_ | refine ww_or ?_ | refine ww_and1 ?_ | refine ww_or1 ?_
  | refine tw_val (e := .Call _ _ _ _) ?_ | refine ew_tup ?_ | refine ew_ix ?_ | refine ew_lst ?_
  | refine sw_cons ?_ | refine s1_ret ?_ | refine s1_if ?_ | refine sw_nil ?_ | refine s1_expr ?_
  | refine od_add ?_ | refine od_sub ?_ | refine od_lt ?_ | refine od_le ?_ | refine od_gt ?_ | refine od_ge ?_
  | refine isB ?_ | refine intD ?_ | refine br_t ?_ | refine br_f ?_
  | refine ⟨szl (Nat.le_of_ble_eq_true rfl), ?_⟩)
local macro_rules | `(tactic| walk_at "n") => `(tactic| first
  | refine ew_name 0 rfl (by first | exact .inl rfl | exact .inr (.inl rfl) | exact .inr (.inr rfl)) rfl ?_
  | refine ew_name 1 rfl (by first | exact .inl rfl | exact .inr (.inl rfl) | exact .inr (.inr rfl)) rfl ?_
  | refine ew_name 2 rfl (by first | exact .inl rfl | exact .inr (.inl rfl) | exact .inr (.inr rfl)) rfl ?_
  | refine ew_name 3 rfl (by first | exact .inl rfl | exact .inr (.inl rfl) | exact .inr (.inr rfl)) rfl ?_
  | refine ew_name 4 rfl (by first | exact .inl rfl | exact .inr (.inl rfl) | exact .inr (.inr rfl)) rfl ?_
  | refine ew_name 5 rfl (by first | exact .inl rfl | exact .inr (.inl rfl) | exact .inr (.inr rfl)) rfl ?_
  | refine ew_name 6 rfl (by first | exact .inl rfl | exact .inr (.inl rfl) | exact .inr (.inr rfl)) rfl ?_
  | refine ew_name 7 rfl (by first | exact .inl rfl | exact .inr (.inl rfl) | exact .inr (.inr rfl)) rfl ?_
  | refine ew_name 8 rfl (by first | exact .inl rfl | exact .inr (.inl rfl) | exact .inr (.inr rfl)) rfl ?_
  | refine ew_name 9 rfl (by first | exact .inl rfl | exact .inr (.inl rfl) | exact .inr (.inr rfl)) rfl ?_
  | refine ew_name 10 rfl (by first | exact .inl rfl | exact .inr (.inl rfl) | exact .inr (.inr rfl)) rfl ?_
  | refine ew_name 11 rfl (by first | exact .inl rfl | exact .inr (.inl rfl) | exact .inr (.inr rfl)) rfl ?_
  | refine ew_name 12 rfl (by first | exact .inl rfl | exact .inr (.inl rfl) | exact .inr (.inr rfl)) rfl ?_)
local macro_rules | `(tactic| walk_at "i") => `(tactic| (refine' cl_isi (.ty _) ?a ?b ?_; (case a => constructor); (case b => with_reducible first | exact kit_int_int | exact kit_int_bool | exact kit_bool_int | exact kit_bool_bool | exact kit_NoneType_int | exact kit_str_int | exact kit_list_int | exact kit_tuple_int | exact kit_dict_int | exact kit_tuple_tuple | exact kit_int_tuple | exact kit_NoneType_tuple | exact kit_bool_tuple | exact kit_str_tuple | exact kit_list_tuple | exact kit_dict_tuple)))
local macro_rules | `(tactic| walk_at "l") => `(tactic| first
  | refine ew_isinstance (Tx.f_isinstance (by assumption)) ?_ | refine ew_len (Tx.f_len (by assumption)) ?_ | refine ew_vint (Tx.f_int (by assumption)) ?_ | refine ew_vbool (Tx.f_bool (by assumption)) ?_ | refine ew_vtuple (Tx.f_tuple (by assumption)) ?_ | refine ew_vstr (Tx.f_str (by assumption)) ?_
  | refine ew_gint (Tx.i_MOST_PERIOD (by assumption)) (by rfl) ?_ | refine ew_gint (Tx.i_DIGITS (by assumption)) (by rfl) ?_ | refine ew_gint (Tx.i_FAR (by assumption)) (by rfl) ?_ | refine ew_gint (Tx.i_MOST_MODULUS (by assumption)) (by rfl) ?_ | refine ew_gint (Tx.i_MOST_PERIODS (by assumption)) (by rfl) ?_
  | refine cl_len ?_ | refine cl_lenT ?_ | refine ix_tpl rfl ?_ | refine od_is (by intro _ h; cases h) ?_)
local macro_rules | `(tactic| walk_at "x") => `(tactic| repeat (first | walk_at "c" | walk_at "n" | walk_at "l" | walk_at "i"))
section
variable {P : Program} {w : World} {K : PySem.W.Frag} {mg : Str → Option Value} {base : Heap}
def F_lreg : FT := fun ds cs Kk _ => ∃ p qs k cs1, ds = [.own p] ∧ cs = (p, Cell.pen qs k) :: cs1 ∧ k < 900000 ∧ ∀ (kd : Kd) (j : Int), kd.Good → (ns kd).length ≤ 4 → j ≤ k + 10 → Kk (.tup [.str (kw kd), .lst ((ns kd).map dN)]) ((p, Cell.pen qs j) :: cs1)
def NG : List Str := ["_law_pen_here", "_law_way", "_law_some", "_law_turn"]
theorem ndG : NG.Nodup := by decide +kernel
theorem x_reg (T : Tx K mg) : Dfs.Dfn P w K mg base (L2.CX P w) 3 "_law_register" ["_law_pen_here"] (spF F_lreg) := by
  refine dfnF T.q_law_register T.g_law_register (N := NG) ⟨rfl, rfl, rfl, ndG, rfl, by decide +kernel, by decide +kernel⟩ (fun kV doc pm an cdv ct => Vls.bind1 fun a => rfl) (fun ds cs Kk KE h => ?_) (fun cdv A outer s0 H E ds cs Kk KE hr h => ?_)
  · obtain ⟨_, _, _, _, rfl, _⟩ := h
    rfl
  · obtain ⟨p, qs, k, cs1, rfl, rfl, hk, q⟩ := h
    refine sw_cons (s1_set 1 ndG rfl (.inl rfl) ?_)
    refine ew_call (.none fun _ _ _ => False) (x_draw T) (hr.mono (by decide)) (by rfl) pass0 (aw_cons ?_)
    walk_at "n"
    refine aw_cons (ew_int (aw_nil ⟨p, qs, k, _, 6, rfl, rfl, by omega, by decide, by decide, fun u u0 u1 => ?_⟩))
    refine sw_cons (s1_if (tw_cmp ?_))
    walk_at "n"
    refine ew_int (od_lt (isB ?_))
    by_cases h2 : u < 2
    · refine br_t' (decide_eq_true h2) (sw_pen (k2 := k + 8) (by omega) ?_)
      refine sw_cons (s1_ret (ew_tup (aw_cons (ew_str (aw_cons (ew_lst (aw_cons ?_)))))))
      refine ew_call (.none fun _ _ _ => False) (x_pick T) (hr.mono (by decide)) (by rfl) pF (aw_cons ?_)
      walk_at "n"
      refine aw_cons (ew_lst ?_)
      walk_at "x"
      refine od_pow ⟨by decide, by decide, by decide⟩ ?_
      walk_at "x"
      refine od_pow ⟨by decide, by decide, by decide⟩ ?_
      walk_at "x"
      refine ew_call (.none fun _ _ _ => False) (x_draw T) (hr.mono (by decide)) (by rfl) pass0 (aw_cons ?_)
      walk_at "n"
      refine aw_cons (ew_int (aw_nil ⟨p, qs, _, _, 40, rfl, rfl, by omega, by decide, by decide, fun v v0 v1 => ?_⟩))
      walk_at "x"
      refine ⟨p, qs, _, _, _, rfl, rfl, by omega, by simp, by simp, fun x hx => ?_⟩
      obtain ⟨m, rfl, m1, m2⟩ : ∃ m : Nat, x = dN m ∧ 2 ≤ m ∧ m ≤ 10 ^ 18 := by
        simp only [List.mem_cons, List.not_mem_nil, or_false] at hx
        rcases hx with rfl | rfl | rfl | rfl | rfl | rfl | rfl | rfl
        · exact ⟨2, rfl, by decide, by decide⟩
        · exact ⟨3, rfl, by decide, by decide⟩
        · exact ⟨10, rfl, by decide, by decide⟩
        · exact ⟨12, rfl, by decide, by decide⟩
        · exact ⟨100, rfl, by decide, by decide⟩
        · exact ⟨10 ^ 9, rfl, by decide, by decide⟩
        · exact ⟨10 ^ 18, rfl, by decide, by decide⟩
        · refine ⟨(2 + v).toNat, ?_, by omega, by omega⟩
          unfold dN
          rw [Int.toNat_of_nonneg (by omega)]
      walk_at "x"
      exact q (.md m) _ ⟨m1, m2⟩ (by show (1 : Nat) ≤ 4; decide) (by omega)
    · refine br_f' (decide_eq_false h2) (sw_nil (sw_cons (s1_if (tw_cmp ?_))))
      walk_at "n"
      refine ew_int (od_lt (isB ?_))
      by_cases h4 : u < 4
      · refine br_t' (decide_eq_true h4) ?_
        refine sw_cons (s1_set 2 ndG rfl (.inr rfl) ?_)
        refine ew_lst ?_
        repeat (refine aw_cons (ew_int ?_))
        refine aw_nil ⟨szl (Nat.le_of_ble_eq_true rfl), ?_⟩
        refine sw_cons (s1_ret (ew_tup (aw_cons (ew_str (aw_cons ?_)))))
        refine ew_lcR [("_law_turn", 3)] 1 rfl ndG (Vls.blk_by (N := NG) (sc := defScope s_law_register) (by decide +kernel)) T.f_range (ew_bin (ew_int ?_))
        refine ew_call (.none fun _ _ _ => False) (x_draw T) (hr.mono (by decide)) (by rfl) pass0 (aw_cons ?_)
        walk_at "n"
        refine aw_cons (ew_int (aw_nil ⟨p, qs, _, _, 4, rfl, rfl, by omega, by decide, by decide, fun v v0 v1 => ?_⟩))
        refine od_add ?_
        refine ⟨(1 + v).toNat, by rw [Int.toNat_of_nonneg (by omega)], by omega, fun j acc cs' => ∃ ps : List Nat, cs' = (p, Cell.pen qs (k + 1 + 1 + j)) :: cs1 ∧ acc = ps.map dN ∧ ps.length = j ∧ j ≤ 4 ∧ ∀ p ∈ ps, 2 ≤ p ∧ p ≤ 1000, ⟨[], by simp, rfl, rfl, by decide, fun p hp => by cases hp⟩, fun j acc cs' hj hI => ?_, fun acc cs' hI => ?_⟩
        · obtain ⟨ps, rfl, rfl, hl, h4', hb⟩ := hI
          refine ⟨by rw [List.length_map]; omega, fun lx _ _ _ _ _ => ?_⟩
          refine tg_name 3 ndG rfl (.inl rfl) ?_
          intro _ _ _ _ _
          refine ts_nil ⟨fun _ => ?_, fun e => by cases e⟩
          intro _ _ _ _ _
          refine ew_call (.none fun _ _ _ => False) (x_pick T) (hr.mono (by decide)) (by rfl) pF (aw_cons ?_)
          walk_at "n"
          refine aw_cons ?_
          walk_at "n"
          refine aw_nil ⟨p, qs, _, (lx, Cell.lst (ps.map dN)) :: cs1, _, rfl, rfl, by omega, by simp, by simp, fun x hx => ?_⟩
          obtain ⟨m, rfl, m1, m2⟩ : ∃ m : Nat, x = dN m ∧ 2 ≤ m ∧ m ≤ 1000 := by
            simp only [List.mem_cons, List.not_mem_nil, or_false] at hx
            rcases hx with rfl | rfl | rfl | rfl | rfl | rfl | rfl | rfl | rfl
            · exact ⟨2, rfl, by decide, by decide⟩
            · exact ⟨3, rfl, by decide, by decide⟩
            · exact ⟨4, rfl, by decide, by decide⟩
            · exact ⟨6, rfl, by decide, by decide⟩
            · exact ⟨9, rfl, by decide, by decide⟩
            · exact ⟨10, rfl, by decide, by decide⟩
            · exact ⟨12, rfl, by decide, by decide⟩
            · exact ⟨1000, rfl, by decide, by decide⟩
            · exact ⟨999, rfl, by decide, by decide⟩
          refine ⟨(p, Cell.pen qs (k + 1 + 1 + j + 1)) :: cs1, rfl, ps ++ [m], ?_, by rw [List.map_append]; rfl, by simp [hl], by omega, fun p hp => ?_⟩
          · rw [show k + 1 + 1 + ((j + 1 : Nat) : Int) = k + 1 + 1 + (j : Int) + 1 by omega]
          · rcases List.mem_append.mp hp with hp | hp
            · exact hb p hp
            · obtain rfl := List.mem_singleton.mp hp
              exact ⟨m1, m2⟩
        · obtain ⟨ps, rfl, rfl, hl, h4', hb⟩ := hI
          refine aw_nil ⟨szl (Nat.le_of_ble_eq_true rfl), ?_⟩
          exact q (.dl ps) _ ⟨by omega, by omega, hb⟩ (by show ps.length ≤ 4; omega) (by omega)
      · refine br_f' (decide_eq_false h4) (sw_nil (sw_pen (k2 := k + 10) (by omega) ?_))
        refine sw_cons (s1_ret (ew_tup (aw_cons (ew_ix ?_))))
        refine ew_lst (aw_cons (ew_str (aw_cons (ew_str (aw_nil ⟨szl (Nat.le_of_ble_eq_true rfl), ?_⟩)))))
        refine ew_bin ?_
        walk_at "n"
        refine ew_int (od_sub ?_)
        have hu : u - 4 = ((0 : Nat) : Int) ∨ u - 4 = ((1 : Nat) : Int) := by omega
        rcases hu with e | e
        · rw [e]
          refine ix_lst (d := .str "plain") (atI_nat (j := 0) rfl) ?_
          refine aw_cons (ew_lst (aw_nil ⟨szl (Nat.le_of_ble_eq_true rfl), aw_nil ⟨szl (Nat.le_of_ble_eq_true rfl), ?_⟩⟩))
          exact q .pl _ trivial (by decide) (by omega)
        · rw [e]
          refine ix_lst (d := .str "restarting") (atI_nat (j := 1) rfl) ?_
          refine aw_cons (ew_lst (aw_nil ⟨szl (Nat.le_of_ble_eq_true rfl), aw_nil ⟨szl (Nat.le_of_ble_eq_true rfl), ?_⟩⟩))
          exact q .rs _ trivial (by decide) (by omega)
end
end K24
set_option Elab.async false
set_option linter.all false
set_option maxRecDepth 100000
set_option maxHeartbeats 4000000
namespace K24
open PySem PySem.Spec PyProof.Rows L2 Sx
local macro_rules | `(tactic| walk_at "c") => `(tactic| first
  | refine aw_cons ?_ | refine aw_nil ?_
  | refine ew_int ?_ | refine ew_non ?_ | refine ew_bl ?_ | refine ew_str ?_
  | refine ew_bin ?_ | refine ew_cmp ?_ | refine tw_cmp ?_ | refine tw_not ?_ | refine ew_chain ?_ | refine tw_chain ?_ | refine ew_and ?_ | refine ew_or ?_ | refine ew_one ?_ | refine ew_not ?_ | refine ew_neg ?_ | refine ew_if ?_
  | refine tw_w (ww_and ?_) | refine tw_w (ww_or ?_) | refine ww_and ?_ | refine ww_or ?_ | refine ww_and1 ?_ | refine ww_or1 ?_
  | refine tw_val (e := .Call _ _ _ _) ?_ | refine ew_tup ?_ | refine ew_ix ?_ | refine ew_lst ?_
  | refine sw_cons ?_ | refine s1_ret ?_ | refine s1_if ?_ | refine sw_nil ?_ | refine s1_expr ?_
  | refine od_add ?_ | refine od_sub ?_ | refine od_lt ?_ | refine od_le ?_ | refine od_gt ?_ | refine od_ge ?_
  | refine isB ?_ | refine intD ?_ | refine br_t ?_ | refine br_f ?_
  | refine ⟨szl (Nat.le_of_ble_eq_true rfl), ?_⟩)
local macro_rules | `(tactic| walk_at "n") => `(tactic| first
  | refine ew_name 0 rfl (by first | exact .inl rfl | exact .inr (.inl rfl) | exact .inr (.inr rfl)) rfl ?_
  | refine ew_name 1 rfl (by first | exact .inl rfl | exact .inr (.inl rfl) | exact .inr (.inr rfl)) rfl ?_
  | refine ew_name 2 rfl (by first | exact .inl rfl | exact .inr (.inl rfl) | exact .inr (.inr rfl)) rfl ?_
  | refine ew_name 3 rfl (by first | exact .inl rfl | exact .inr (.inl rfl) | exact .inr (.inr rfl)) rfl ?_
  | refine ew_name 4 rfl (by first | exact .inl rfl | exact .inr (.inl rfl) | exact .inr (.inr rfl)) rfl ?_
  | refine ew_name 5 rfl (by first | exact .inl rfl | exact .inr (.inl rfl) | exact .inr (.inr rfl)) rfl ?_
  | refine ew_name 6 rfl (by first | exact .inl rfl | exact .inr (.inl rfl) | exact .inr (.inr rfl)) rfl ?_
  | refine ew_name 7 rfl (by first | exact .inl rfl | exact .inr (.inl rfl) | exact .inr (.inr rfl)) rfl ?_
  | refine ew_name 8 rfl (by first | exact .inl rfl | exact .inr (.inl rfl) | exact .inr (.inr rfl)) rfl ?_
  | refine ew_name 9 rfl (by first | exact .inl rfl | exact .inr (.inl rfl) | exact .inr (.inr rfl)) rfl ?_
  | refine ew_name 10 rfl (by first | exact .inl rfl | exact .inr (.inl rfl) | exact .inr (.inr rfl)) rfl ?_
  | refine ew_name 11 rfl (by first | exact .inl rfl | exact .inr (.inl rfl) | exact .inr (.inr rfl)) rfl ?_
  | refine ew_name 12 rfl (by first | exact .inl rfl | exact .inr (.inl rfl) | exact .inr (.inr rfl)) rfl ?_)
local macro_rules | `(tactic| walk_at "i") => `(tactic| (refine' cl_isi (.ty _) ?a ?b ?_; (case a => constructor); (case b => with_reducible first | exact kit_int_int | exact kit_int_bool | exact kit_bool_int | exact kit_bool_bool | exact kit_NoneType_int | exact kit_str_int | exact kit_list_int | exact kit_tuple_int | exact kit_dict_int | exact kit_tuple_tuple | exact kit_int_tuple | exact kit_NoneType_tuple | exact kit_bool_tuple | exact kit_str_tuple | exact kit_list_tuple | exact kit_dict_tuple)))
local macro_rules | `(tactic| walk_at "l") => `(tactic| first
  | refine ew_isinstance (Tx.f_isinstance (by assumption)) ?_ | refine ew_len (Tx.f_len (by assumption)) ?_ | refine ew_vint (Tx.f_int (by assumption)) ?_ | refine ew_vbool (Tx.f_bool (by assumption)) ?_ | refine ew_vtuple (Tx.f_tuple (by assumption)) ?_ | refine ew_vstr (Tx.f_str (by assumption)) ?_
  | refine ew_gint (Tx.i_MOST_PERIOD (by assumption)) (by rfl) ?_ | refine ew_gint (Tx.i_DIGITS (by assumption)) (by rfl) ?_ | refine ew_gint (Tx.i_FAR (by assumption)) (by rfl) ?_ | refine ew_gint (Tx.i_MOST_MODULUS (by assumption)) (by rfl) ?_ | refine ew_gint (Tx.i_MOST_PERIODS (by assumption)) (by rfl) ?_
  | refine cl_len ?_ | refine cl_lenT ?_ | refine ix_tpl rfl ?_ | refine od_is (by intro _ h; cases h) ?_)
local macro_rules | `(tactic| walk_at "x") => `(tactic| repeat (first | walk_at "c" | walk_at "n" | walk_at "l" | walk_at "i"))
theorem isN_num {z : Str} (h : isN z = true) (h0 : 0 ≤ valN z) : num (valN z).toNat = z := by
  unfold isN at h
  simp only [Bool.and_eq_true, decide_eq_true_eq] at h
  unfold num
  rw [Int.toNat_of_nonneg h0]
  exact h.2.2
theorem numIn_at {ws : List Str} {n : Nat} {lo hi : Int} (hn : n ≤ ws.length) (hlo : 0 ≤ lo) (h : numIn (wd ws n) lo hi = true) : ws[n]? = some (num (valN (wd ws n)).toNat) := by
  have i := numIn_in hn h
  have v := numIn_val h
  unfold numIn at h
  rw [Bool.and_eq_true] at h
  rw [isN_num h.1 (by omega)]
  unfold wd
  rw [List.getElem?_eq_getElem i]
  rfl
theorem dlR_words {ws : List Str} {k : Kd} {m : Nat} : ∀ (f n : Nat) (ps : List Nat), n ≤ ws.length → ("dials" : Str) :: ps.map num = ws.take n → dlR ws f n ps = .inl (k, m) → k.words = ws.take m
  | 0, n, ps, hn, hw, h => by
    have h : (Sum.inl (Kd.dl ps, n) : (Kd × Nat) ⊕ Nat) = .inl (k, m) := h
    cases h
    exact hw
  | f + 1, n, ps, hn, hw, h => by
    rw [dlR] at h
    split at h
    · cases h
      exact hw
    · split at h
      · rename_i hi
        have i := numIn_in hn hi
        refine dlR_words f (n + 1) _ (by omega) ?_ h
        rw [List.take_add_one, numIn_at hn (by decide) hi, ← hw, List.map_append]
        rfl
      · cases h
theorem rg_words {ws : List Str} {k : Kd} (ne : ws ≠ []) (h : rg ws = .inl k) : k.words = ws := by
  have l1 : 0 < ws.length := by
    cases ws with
    | nil => exact absurd rfl ne
    | cons _ _ => simp
  have w0 : ws[0]? = some (wd ws 0) := by
    unfold wd
    rw [List.getElem?_eq_getElem l1]
    rfl
  have all : ∀ m, m = ws.length → ws.take m = ws := fun m e => by rw [e, List.take_length]
  unfold rg at h
  split at h
  · rename_i k' n e
    split at h
    · rename_i hn
      cases h
      rw [← all n hn]
      unfold rg0 at e
      split at e
      · rename_i hw
        cases e
        rw [hw] at w0
        rw [List.take_add_one, w0]
        rfl
      · split at e
        · rename_i hw
          cases e
          rw [hw] at w0
          rw [List.take_add_one, w0]
          rfl
        · split at e
          · rename_i hw
            split at e
            · rename_i hi
              cases e
              rw [hw] at w0
              rw [List.take_add_one, List.take_add_one, w0, numIn_at (n := 0 + 1) (by omega) (by decide) hi]
              rfl
            · cases e
          · split at e
            · rename_i hw
              split at e
              · rename_i hi
                rw [hw] at w0
                have i := numIn_in (n := 1) (by omega) hi
                refine dlR_words 5 2 _ (by omega) ?_ e
                rw [List.take_add_one, List.take_add_one, w0, numIn_at (n := 0 + 1) (by omega) (by decide) hi]
                rfl
              · cases e
            · cases e
    · cases h
  · cases h
theorem cut_from' {ds : List D} (n : Nat) : Sx.cutD ds (some (n : Int)) none = ds.drop n := by
  by_cases h : n ≤ ds.length
  · exact cut_from n h
  · have e : HT.sIx ds.length 0 (some (n : Int)) = min n ds.length := HT.sIx_nat _ _ n
    unfold Sx.cutD
    rw [HT.sIx_none, e, Nat.min_eq_right (by omega), List.drop_length, List.drop_eq_nil_of_le (by omega), List.take_nil]
section
variable {P : Program} {w : World} {K : PySem.W.Frag} {mg : Str → Option Value} {base : Heap}
def F_lbent : FT := fun ds cs Kk _ => ∃ p qs k cs1 t ws, ds = [.own p, .str (Txt.join " " ws)] ∧ cs = (p, Cell.pen qs k) :: cs1 ∧ k < 900000 ∧ t ≤ 8 ∧ Wks t ws ∧ ∀ us (j : Int), Wks (t + 1) us → j ≤ k + 4 → Kk (.str (Txt.join " " us)) ((p, Cell.pen qs j) :: cs1)
def NB : List Str := ["_law_pen_here", "_law_text", "_law_words", "_law_way", "_law_some", "_law_at", "_law_word"]
theorem ndB : NB.Nodup := by decide +kernel
theorem x_bent (T : Tx K mg) : Dfs.Dfn P w K mg base (L2.CX P w) 3 "_law_bent" ["_law_pen_here", "_law_text"] (spF F_lbent) := by
  refine dfnF T.q_law_bent T.g_law_bent (N := NB) ⟨rfl, rfl, rfl, ndB, rfl, by decide +kernel, by decide +kernel⟩ (fun kV doc pm an cdv ct => Vls.bind2 fun a b => rfl) (fun ds cs Kk KE h => ?_) (fun cdv A outer s0 H E ds cs Kk KE hr h => ?_)
  · obtain ⟨_, _, _, _, _, _, rfl, _⟩ := h
    rfl
  · obtain ⟨p, qs, k, cs1, t, ws, rfl, rfl, hk, ht, gw, q⟩ := h
    have few := gw.few
    have l1 : 1 ≤ ws.length := by
      cases hw : ws with
      | nil => exact absurd hw gw.ne
      | cons _ _ => simp
    refine sw_cons (s1_par 2 3 rfl ndB rfl rfl (by decide) rfl rfl (aw_cons (ew_split ?_)))
    walk_at "n"
    refine ⟨_, rfl, ew_str ⟨" ", rfl, by decide, szl (by have := gw.len (by omega); omega), ?_⟩⟩
    rw [gw.split]
    refine aw_cons ?_
    refine ew_call (.none fun _ _ _ => False) (x_draw T) (hr.mono (by decide)) (by rfl) pass0 (aw_cons ?_)
    walk_at "n"
    refine aw_cons (ew_int (aw_nil ⟨p, qs, k, _, 5, rfl, rfl, by omega, by decide, by decide, fun u u0 u1 => ?_⟩))
    refine aw_nil ⟨_, _, rfl, ?_⟩
    refine sw_cons (s1_set 4 ndB rfl (.inl rfl) (ew_lst ?_))
    repeat (refine aw_cons (ew_str ?_))
    refine aw_nil ⟨szl (Nat.le_of_ble_eq_true rfl), ?_⟩
    refine sw_cons (s1_set 4 ndB rfl (.inl rfl) (ew_bin ?_))
    walk_at "n"
    refine ew_lst (aw_cons ?_)
    refine ew_callT (T := "str") T.f_str (by rfl) (by kernel_rfl) (aw_cons (ew_bin (ew_int (ew_int (od_pow ⟨by decide, by decide, by decide⟩ (aw_nil ?_))))))
    refine cl_strI (by decide) (aw_cons ?_)
    refine ew_callT (T := "str") T.f_str (by rfl) (by kernel_rfl) (aw_cons (ew_bin (ew_bin (ew_int (ew_int (od_pow ⟨by decide, by decide, by decide⟩ (ew_int (od_add (aw_nil ?_)))))))))
    refine cl_strI (by decide) (aw_nil ⟨szl (Nat.le_of_ble_eq_true rfl), ?_⟩)
    refine od_cat (szl (Nat.le_of_ble_eq_true rfl)) ?_
    refine sw_cons (s1_par 5 6 rfl ndB rfl rfl (by decide) rfl rfl (aw_cons ?_))
    refine ew_call (.none fun _ _ _ => False) (x_draw T) (hr.mono (by decide)) (by rfl) pass0 (aw_cons ?_)
    walk_at "n"
    refine aw_cons (ew_bin (ew_len T.f_len (aw_cons ?_)))
    walk_at "n"
    refine aw_nil (cl_len (ew_int (od_add (aw_nil ?_))))
    rw [List.length_map]
    refine ⟨p, qs, _, _, _, rfl, rfl, by omega, by omega, by omega, fun sp sp0 sp1 => ?_⟩
    obtain ⟨n, rfl⟩ := Int.eq_ofNat_of_zero_le sp0
    refine aw_cons ?_
    refine ew_call (.none fun _ _ _ => False) (x_pick T) (hr.mono (by decide)) (by rfl) pF (aw_cons ?_)
    walk_at "n"
    refine aw_cons ?_
    walk_at "n"
    refine aw_nil ⟨p, qs, _, _, _, rfl, rfl, by omega, by simp, by simp, fun x hx => ?_⟩
    obtain ⟨wx, rfl, hwx⟩ : ∃ wx, x = .str wx ∧ Wz 40 wx := by
      rcases List.mem_append.mp hx with hx | hx
      · have hx : x ∈ (["", "plain", "modulo", "dials", "0", "1", "2", "6", "06", "-3", "+4", "1000", "1001"] : List Str).map D.str := hx
        obtain ⟨y, hy, rfl⟩ := List.mem_map.mp hx
        refine ⟨y, rfl, wz_fixed ?_⟩
        unfold fixed
        simp only [List.mem_cons, List.not_mem_nil, or_false] at hy ⊢
        rcases hy with rfl | rfl | rfl | rfl | rfl | rfl | rfl | rfl | rfl | rfl | rfl | rfl | rfl <;> simp
      · simp only [List.mem_cons, List.not_mem_nil, or_false] at hx
        rcases hx with rfl | rfl
        · exact ⟨_, rfl, wz_num (n := 10 ^ 18) (by decide)⟩
        · exact ⟨_, rfl, wz_num (n := 10 ^ 18 + 1) (by decide)⟩
    clear hx
    refine aw_nil ⟨_, _, rfl, ?_⟩
    have mt : ∀ (j : Nat), (ws.map D.str).take j = (ws.take j).map D.str := fun j => (List.map_take).symm
    have md : ∀ (j : Nat), (ws.map D.str).drop j = (ws.drop j).map D.str := fun j => (List.map_drop).symm
    have sub : ∀ (us : List Str), (∀ z ∈ us, z ∈ ws ∨ z = wx) → us ≠ [] → us.length ≤ ws.length + 1 → Wks (t + 1) us := fun us a b c => ⟨fun z hz => by
      rcases a z hz with h | rfl
      · exact (gw.all z h).mono (by omega)
      · exact hwx.mono (by omega), b, by omega⟩
    have fits : ∀ us : List Str, Wks (t + 1) us → (us.map (·.length)).sum + us.length * (" " : Str).length ≤ 16777216 := fun us g => by
      have a := g.sum (by omega)
      have b := g.few
      rw [blank_len]
      omega
    refine sw_cons (s1_if (tw_cmp ?_))
    walk_at "n"
    refine ew_int (od_eq hr.units (by rfl) (by rfl) ?_)
    rw [eqv_int]
    by_cases h0 : u = 0
    · rw [decide_eq_true h0]
      refine isB (br_t (sw_cons (s1_ret (ew_join (ew_str ⟨" ", rfl, ew_bin (ew_bin (ew_sl ?_))⟩)))))
      walk_at "n"
      show EW _ _ _ _ _
      walk_at "n"
      refine ⟨_, rfl, _, rfl, ?_⟩
      rw [cut_to, mt]
      refine ew_lst (aw_cons ?_)
      walk_at "n"
      refine aw_nil ⟨szl (Nat.le_of_ble_eq_true rfl), ?_⟩
      refine od_cat (szl (by rw [List.length_map, List.length_take]; show _ + 1 ≤ _; omega)) ?_
      refine ew_sl ?_
      walk_at "n"
      show EW _ _ _ _ _
      walk_at "n"
      refine ⟨_, rfl, _, rfl, ?_⟩
      rw [cut_from', md]
      refine od_cat (szl (by rw [List.length_append, List.length_map, List.length_map, List.length_take, List.length_drop]; show _ + 1 + _ ≤ _; omega)) ?_
      have g := sub (ws.take n ++ [wx] ++ ws.drop n) (fun z hz => by
        simp only [List.mem_append, List.mem_singleton] at hz
        rcases hz with (hz | hz) | hz
        · exact .inl (List.mem_of_mem_take hz)
        · exact .inr hz
        · exact .inl (List.mem_of_mem_drop hz)) (by simp) (by rw [List.length_append, List.length_append, List.length_take, List.length_drop]; show _ + 1 + _ ≤ _; omega)
      exact ⟨ws.take n ++ [wx] ++ ws.drop n, .inl (by rw [List.map_append, List.map_append]; rfl), fits _ g, q _ _ g (by omega)⟩
    · rw [decide_eq_false h0]
      refine isB (br_f (sw_nil (sw_cons (s1_if (tw_cmp ?_)))))
      walk_at "n"
      refine ew_int (od_eq hr.units (by rfl) (by rfl) ?_)
      rw [eqv_int]
      by_cases h1 : u = 1
      · rw [decide_eq_true h1]
        refine isB (br_t (sw_cons (s1_ret (ew_join (ew_str ⟨" ", rfl, ew_bin (ew_sl ?_)⟩)))))
        walk_at "n"
        show EW _ _ _ _ _
        walk_at "n"
        refine ⟨_, rfl, _, rfl, ?_⟩
        rw [cut_to, mt]
        refine ew_sl ?_
        walk_at "n"
        refine ew_bin ?_
        walk_at "n"
        refine ew_int (od_add ⟨_, rfl, _, rfl, ?_⟩)
        rw [show ((n : Int) + 1) = ((n + 1 : Nat) : Int) by omega, cut_from', md]
        refine od_cat (szl (by rw [List.length_map, List.length_map, List.length_take, List.length_drop]; omega)) ?_
        by_cases hz : ws.take n ++ ws.drop (n + 1) = []
        · refine ⟨ws.take n ++ ws.drop (n + 1), .inl (by rw [List.map_append]), by rw [hz]; decide, ?_⟩
          rw [hz]
          have e : Txt.join " " ([] : List Str) = Txt.join " " [("" : Str)] := by
            rw [TL.join_eq, TL.join_eq]
            rfl
          rw [e]
          refine q _ _ ⟨fun z hz => ?_, by simp, by show 1 ≤ 8 + (t + 1); omega⟩ (by omega)
          obtain rfl := List.mem_singleton.mp hz
          exact (wz_fixed (by decide)).mono (by omega)
        · have g := sub (ws.take n ++ ws.drop (n + 1)) (fun z hz => by
            simp only [List.mem_append] at hz
            rcases hz with hz | hz
            · exact .inl (List.mem_of_mem_take hz)
            · exact .inl (List.mem_of_mem_drop hz)) hz (by rw [List.length_append, List.length_take, List.length_drop]; omega)
          exact ⟨ws.take n ++ ws.drop (n + 1), .inl (by rw [List.map_append]), fits _ g, q _ _ g (by omega)⟩
      · rw [decide_eq_false h1]
        refine isB (br_f (sw_nil (sw_cons (s1_ret (ew_if (tw_cmp ?_))))))
        walk_at "n"
        refine ew_int (od_lt (isB ?_))
        by_cases h4 : u < 4
        · refine br_t' (decide_eq_true h4) (ew_join (ew_str ⟨" ", rfl, ew_bin (ew_bin (ew_sl ?_))⟩))
          walk_at "n"
          show EW _ _ _ _ _
          walk_at "n"
          refine ⟨_, rfl, _, rfl, ?_⟩
          rw [cut_to, mt]
          refine ew_lst (aw_cons ?_)
          walk_at "n"
          refine aw_nil ⟨szl (Nat.le_of_ble_eq_true rfl), ?_⟩
          refine od_cat (szl (by rw [List.length_map, List.length_take]; show _ + 1 ≤ _; omega)) ?_
          refine ew_sl ?_
          walk_at "n"
          refine ew_bin ?_
          walk_at "n"
          refine ew_int (od_add ⟨_, rfl, _, rfl, ?_⟩)
          rw [show ((n : Int) + 1) = ((n + 1 : Nat) : Int) by omega, cut_from', md]
          refine od_cat (szl (by rw [List.length_append, List.length_map, List.length_map, List.length_take, List.length_drop]; show _ + 1 + _ ≤ _; omega)) ?_
          have g := sub (ws.take n ++ [wx] ++ ws.drop (n + 1)) (fun z hz => by
            simp only [List.mem_append, List.mem_singleton] at hz
            rcases hz with (hz | hz) | hz
            · exact .inl (List.mem_of_mem_take hz)
            · exact .inr hz
            · exact .inl (List.mem_of_mem_drop hz)) (by simp) (by rw [List.length_append, List.length_append, List.length_take, List.length_drop]; show _ + 1 + _ ≤ _; omega)
          exact ⟨ws.take n ++ [wx] ++ ws.drop (n + 1), .inl (by rw [List.map_append, List.map_append]; rfl), fits _ g, q _ _ g (by omega)⟩
        · refine br_f' (decide_eq_false h4) (ew_bin ?_)
          walk_at "n"
          refine ew_call (.none fun _ _ _ => False) (x_pick T) (hr.mono (by decide)) (by rfl) pF (aw_cons ?_)
          walk_at "n"
          refine aw_cons (ew_lst (aw_cons (ew_str (aw_cons (ew_str (aw_cons (ew_str (aw_nil ⟨szl (Nat.le_of_ble_eq_true rfl), ?_⟩))))))))
          refine aw_nil ⟨p, qs, _, _, _, rfl, rfl, by omega, by simp, by simp, fun x hx => ?_⟩
          have ln := gw.len (by omega)
          simp only [List.mem_cons, List.not_mem_nil, or_false] at hx
          rcases hx with rfl | rfl | rfl
          · obtain ⟨g, e⟩ := gw.blank
            refine od_catS (szl (by show _ + 1 ≤ _; omega)) ?_
            rw [← e]
            exact q _ _ g (by omega)
          · obtain ⟨g, e⟩ := gw.seven
            refine od_catS (szl (by show _ + 2 ≤ _; omega)) ?_
            rw [← e]
            exact q _ _ g (by omega)
          · obtain ⟨us, g, e⟩ := gw.newline (by omega)
            refine od_catS (szl (by show _ + 1 ≤ _; omega)) ?_
            rw [← e]
            exact q _ _ g (by omega)
end
end K24
set_option Elab.async false
set_option linter.all false
set_option maxRecDepth 100000
set_option maxHeartbeats 4000000
namespace K24
open PySem PySem.Spec PyProof.Rows L2 Sx
local macro_rules | `(tactic| walk_at "c") => `(tactic| first
  | refine aw_cons ?_ | refine aw_nil ?_
  | refine ew_int ?_ | refine ew_non ?_ | refine ew_bl ?_ | refine ew_str ?_
  | refine ew_bin ?_ | refine ew_cmp ?_ | refine tw_cmp ?_ | refine tw_not ?_ | refine ew_chain ?_ | refine tw_chain ?_ | refine ew_and ?_ | refine ew_or ?_ | refine ew_one ?_ | refine ew_not ?_ | refine ew_neg ?_ | refine ew_if ?_
  | refine tw_w (ww_and ?_) | refine tw_w (ww_or ?_) | refine ww_and ?_ | refine ww_or ?_ | refine ww_and1 ?_ | refine ww_or1 ?_
  | refine tw_val (e := .Call _ _ _ _) ?_ | refine ew_tup ?_ | refine ew_ix ?_ | refine ew_lst ?_
  | refine sw_cons ?_ | refine s1_ret ?_ | refine s1_if ?_ | refine sw_nil ?_ | refine s1_expr ?_
  | refine od_add ?_ | refine od_sub ?_ | refine od_lt ?_ | refine od_le ?_ | refine od_gt ?_ | refine od_ge ?_
  | refine isB ?_ | refine intD ?_ | refine br_t ?_ | refine br_f ?_
  | refine ⟨szl (Nat.le_of_ble_eq_true rfl), ?_⟩)
local macro_rules | `(tactic| walk_at "n") => `(tactic| first
  | refine ew_name 0 rfl (by first | exact .inl rfl | exact .inr (.inl rfl) | exact .inr (.inr rfl)) rfl ?_
  | refine ew_name 1 rfl (by first | exact .inl rfl | exact .inr (.inl rfl) | exact .inr (.inr rfl)) rfl ?_
  | refine ew_name 2 rfl (by first | exact .inl rfl | exact .inr (.inl rfl) | exact .inr (.inr rfl)) rfl ?_
  | refine ew_name 3 rfl (by first | exact .inl rfl | exact .inr (.inl rfl) | exact .inr (.inr rfl)) rfl ?_
  | refine ew_name 4 rfl (by first | exact .inl rfl | exact .inr (.inl rfl) | exact .inr (.inr rfl)) rfl ?_
  | refine ew_name 5 rfl (by first | exact .inl rfl | exact .inr (.inl rfl) | exact .inr (.inr rfl)) rfl ?_
  | refine ew_name 6 rfl (by first | exact .inl rfl | exact .inr (.inl rfl) | exact .inr (.inr rfl)) rfl ?_
  | refine ew_name 7 rfl (by first | exact .inl rfl | exact .inr (.inl rfl) | exact .inr (.inr rfl)) rfl ?_
  | refine ew_name 8 rfl (by first | exact .inl rfl | exact .inr (.inl rfl) | exact .inr (.inr rfl)) rfl ?_
  | refine ew_name 9 rfl (by first | exact .inl rfl | exact .inr (.inl rfl) | exact .inr (.inr rfl)) rfl ?_
  | refine ew_name 10 rfl (by first | exact .inl rfl | exact .inr (.inl rfl) | exact .inr (.inr rfl)) rfl ?_
  | refine ew_name 11 rfl (by first | exact .inl rfl | exact .inr (.inl rfl) | exact .inr (.inr rfl)) rfl ?_
  | refine ew_name 12 rfl (by first | exact .inl rfl | exact .inr (.inl rfl) | exact .inr (.inr rfl)) rfl ?_)
local macro_rules | `(tactic| walk_at "i") => `(tactic| (refine' cl_isi (.ty _) ?a ?b ?_; (case a => constructor); (case b => with_reducible first | exact kit_int_int | exact kit_int_bool | exact kit_bool_int | exact kit_bool_bool | exact kit_NoneType_int | exact kit_str_int | exact kit_list_int | exact kit_tuple_int | exact kit_dict_int | exact kit_tuple_tuple | exact kit_int_tuple | exact kit_NoneType_tuple | exact kit_bool_tuple | exact kit_str_tuple | exact kit_list_tuple | exact kit_dict_tuple)))
local macro_rules | `(tactic| walk_at "l") => `(tactic| first
  | refine ew_isinstance (Tx.f_isinstance (by assumption)) ?_ | refine ew_len (Tx.f_len (by assumption)) ?_ | refine ew_vint (Tx.f_int (by assumption)) ?_ | refine ew_vbool (Tx.f_bool (by assumption)) ?_ | refine ew_vtuple (Tx.f_tuple (by assumption)) ?_ | refine ew_vstr (Tx.f_str (by assumption)) ?_
  | refine ew_gint (Tx.i_MOST_PERIOD (by assumption)) (by rfl) ?_ | refine ew_gint (Tx.i_DIGITS (by assumption)) (by rfl) ?_ | refine ew_gint (Tx.i_FAR (by assumption)) (by rfl) ?_ | refine ew_gint (Tx.i_MOST_MODULUS (by assumption)) (by rfl) ?_ | refine ew_gint (Tx.i_MOST_PERIODS (by assumption)) (by rfl) ?_
  | refine cl_len ?_ | refine cl_lenT ?_ | refine ix_tpl rfl ?_ | refine od_is (by intro _ h; cases h) ?_)
local macro_rules | `(tactic| walk_at "x") => `(tactic| repeat (first | walk_at "c" | walk_at "n" | walk_at "l" | walk_at "i"))
theorem shn_of {w k : Nat} {d : D} (h : Flat.Sm w k d.py) (hd : d.dat = true) (hw : w ≤ 100000) (hk : k ≤ 60) : Shn d := ⟨hd, h.repr hw hk⟩
theorem insD_k {K : PySem.W.Frag} {cs : Cs} (k : Kd) : InsD (CK K k) (rO K k) cs := by
  cases k <;> exact .obj
abbrev scR : Scope := defScope s_law_read_right
def qR : Str := (envOfC "_law_read_right" scR 0 0 .none).qual ++ "<lambda>"
def NR : List Str := ["_law_pen_here", "_law_plain", "_law_turn", "_law_due_here", "_law_heard_here", "_law_odd", "_law_text", "_law_number"]
theorem ndR : NR.Nodup := by decide +kernel
def bodyR (i : Nat) : List Stmt := (defBody s_law_read_right).drop i
def fB : Stmt → List Stmt
  | .For _ _ b _ _ => b
  | _ => []
def turnR (i : Nat) : List Stmt := (fB ((bodyR 2).getD 0 noS)).drop i
def tx (n : Int) : D := .tup [.str "text", .int 0, .int n]
theorem tx_ok (n : Int) : (tx n).ok = true := tm_ok (n := 1) (by
  unfold tx
  simp only [D.tm, D.tmL, strOk_of]
  rfl) (by decide)
section
variable {P : Program} {w : World} {K : PySem.W.Frag} {mg : Str → Option Value} {base : Heap}
variable {c : Addr} {A : Around} {outer : List Env} {s : Shared} {H : Hp} {E : XK} {B : Bs} {k : Kt} {p Pa : Addr} {cs : Cs}
/-- _law_heard(lambda: body), of a def whose table is at Pa -/
theorem ew_h {X : Cx} {Q : D → SS → Prop} {ss : SS} {q : Str} {j kk : Nat} {params : Arguments} {body : Expr} {lsc : Scope} {p1 lpos pos : Pos} (T : Tx X.K X.mg) (TB : LamX.TabB X.base X.mg c Pa) (hcode : X.env.code = .ref c) (hg : Gl X "_law_heard") (hq : q = X.env.qual ++ "<lambda>")
    (hj : ss.cs[j]? = some (Pa, .tab q)) (hr : Room (kk + 2) X.A) (still : X.A.guards = some []) (Ls : LamX.LamS X.env.scope lsc) (hdef : defaultsOf params X.env = ([], []))
    (hbind : ∀ (q : Str) (cl : List (Str × Addr)) (pm cv ctv : Value), bindArgs (PySem.W.kla_fn "<lambda>" q params body lsc cl pm cv ctv) ⟨[], []⟩ = pure [])
    (h : ∀ (A : Around) (outer : List Env) (s : Shared) (H Hb : Hp) (E : XK) (f c' : Addr) (Ex : Addr → List (Str × D) → Cs → Prop), Room kk (A.deeper (LamX.lamEnv X lsc s.heap.objs.size f c')) →
      (∀ (ln n : D) (ex : Cs), Q (.tup [.str "text", ln, n]) ss → Ex (He.ga X.K "BadText") [("word", n), ("line", ln)] (ex ++ ss.cs)) →
      (∀ (d : D) (ex : Cs), Shn d → Q (ans "register" d) ss → Ex (He.ga X.K "BadRegister") [("part", d)] (ex ++ ss.cs)) →
      (∀ (d : D) (ex : Cs), Shn d → Q (ans "reading" d) ss → Ex (He.ga X.K "BadReading") [("at", d)] (ex ++ ss.cs)) →
      (∀ (d : D) (ex : Cs), Shn d → Q (ans "number" d) ss → Ex (He.ga X.K "BadNumber") [("value", d)] (ex ++ ss.cs)) →
      EW (LamX.lamCx X A outer s H E lsc f c') ⟨Hb, ss.cs, E, Ex⟩ body ss fun d s' => Q (.lst [d]) ⟨ss.sl, s'.cs⟩) : EW X B (.Call (.Name "_law_heard" p1) [.Lambda params body lsc lpos] [] pos) ss Q := by
  obtain ⟨fd, F⟩ := T.q_law_heard
  have hb := F.bindsN (ps := ["_law_ask"]) fun kV doc pm an cdv ct => Vls.bind1 fun a => rfl
  have kp := F.kp
  obtain ⟨oc, od, dV, kV, doc, pm, an, cdv, ct, osl, rfl, lk, hcd, hD, hK⟩ := F.ex
  exact ew_heardT (Ng := ["_law_ask", "_law_caught", "error"]) hg T.g_law_heard kp lk hcd hb ⟨rfl, rfl, rfl, by decide +kernel, rfl, by decide +kernel, by decide +kernel⟩ rfl (by first | exact .inl rfl | exact .inr (.inl rfl)) (heard_gives hr still T) TB hcode hq hj hr Ls hdef hbind fun A outer s H Hb E f c' hr' =>
    h A outer s H Hb E f c' _ hr' (fun ln n ex q => ⟨ex, ss.cs, rfl, .inl ⟨ln, n, rfl, rfl, q⟩⟩) (fun d ex sh q => ⟨ex, ss.cs, rfl, .inr (.inl ⟨d, rfl, rfl, sh, q⟩)⟩) (fun d ex sh q => ⟨ex, ss.cs, rfl, .inr (.inr (.inl ⟨d, rfl, rfl, sh, q⟩))⟩) (fun d ex sh q => ⟨ex, ss.cs, rfl, .inr (.inr (.inr ⟨d, rfl, rfl, sh, q⟩))⟩)
abbrev XR (P : Program) (w : World) (K : PySem.W.Frag) (mg : Str → Option Value) (base : Heap) (c : Addr) (A : Around) (outer : List Env) (s : Shared) (H : Hp) (E : XK) : Cx := cxOf (L2.CX P w) P w K mg base NR "_law_read_right" scR (He.ga K "_law_read_right") (.ref c) A outer s H E
theorem pLaR {A' : Around} {outer' : List Env} {s' : Shared} {H' : Hp} {E' : XK} {scope : Scope} {f c' : Addr} : Passes (L2.CX P w) (LamX.lamCx (XR P w K mg base c A outer s H E) A' outer' s' H' E' scope f c') E' := passes_call (X := LamX.lamCx (XR P w K mg base c A outer s H E) A' outer' s' H' E' scope f c') (takes_of rfl rfl rfl rfl) fun _ _ _ _ h => h
/-- what is heard of a text -/
def heD (ws : List Str) : D := match rg ws with
  | .inl _ => .lst [.str (Txt.join " " ws)]
  | .inr n => tx n
theorem heD_ok {t : Nat} {ws : List Str} (g : Wks t ws) : (heD ws).ok = true := by
  unfold heD
  cases rg ws with
  | inl _ =>
    show (D.lst [.str (Txt.join " " ws)]).ok = true
    exact tm_ok (n := 1) (by
      simp only [D.tm, D.tmL, g.ok]
      rfl) (by decide)
  | inr n => exact tx_ok _
variable {t1 : Addr × Cell} {cs1 : Cs} {qs : List Int} {j : Int} {x1 x2 x3 x4 x5 x7 : Option D}
/-- one turn, ahead of the change -/
theorem turn1 (T : Tx K mg) (px : Px P base) (TB : LamX.TabB base mg c Pa) (hr : Room 11 (XR P w K mg base c A outer s H E).A) (still : (XR P w K mg base c A outer s H E).A.guards = some []) {t : Nat} {ws : List Str} (gw : Wks t ws) (ht : t ≤ 8)
    (h : ∀ x3 x4, SW (XR P w K mg base c A outer s H E) B (turnR 4) ⟨[some (.own p), x1, x2, x3, x4, x5, some (.str (Txt.join " " ws)), x7], (p, Cell.pen qs j) :: (Pa, Cell.tab qR) :: cs1⟩ k) :
    SW (XR P w K mg base c A outer s H E) B (turnR 0) ⟨[some (.own p), x1, x2, x3, x4, x5, some (.str (Txt.join " " ws)), x7], (p, Cell.pen qs j) :: (Pa, Cell.tab qR) :: cs1⟩ k := by
  obtain ⟨fr, Fr, Br_, Kb⟩ := g_rread (P := P) (w := w) (base := base) T px
  have ln := gw.len (by omega)
  have oks := heD_ok gw
  refine sw_cons (s1_set 3 ndR rfl (.inl rfl) ?_)
  refine ew_call (.none fun _ _ _ => False) (x_due T) (hr.mono (by decide)) (by rfl) pF (aw_cons ?_)
  walk_at "n"
  refine aw_nil ⟨_, rfl, by omega, by rw [gw.split]; exact gw.wsok (by omega), by rw [gw.split]; exact gw.ne, ?_⟩
  rw [gw.split]
  refine sw_cons (s1_set 4 ndR rfl (.inl rfl) ?_)
  have cont : SW (XR P w K mg base c A outer s H E) B (turnR 2) ⟨[some (.own p), x1, x2, some (dueD ws), some (heD ws), x5, some (.str (Txt.join " " ws)), x7], (p, Cell.pen qs j) :: (Pa, Cell.tab qR) :: cs1⟩ k := by
    refine sw_cons (s1_if (tw_cmp ?_))
    walk_at "n"
    refine ew_if (tw_cmp ?_)
    walk_at "n"
    refine ew_non ?_
    have step3 : SW (XR P w K mg base c A outer s H E) B (turnR 3) ⟨[some (.own p), x1, x2, some (dueD ws), some (heD ws), x5, some (.str (Txt.join " " ws)), x7], (p, Cell.pen qs j) :: (Pa, Cell.tab qR) :: cs1⟩ k := by
      refine sw_cons (s1_if (tw_cmp ?_))
      refine ew_h T TB rfl (by rfl) rfl (j := 1) rfl hr still (LamX.lamS_by (sc := scR) (by decide +kernel)) rfl (fun _ _ _ _ _ => rfl) fun A' outer' s' H' Hb E' f c' Ex hr' hte hrg hrd hnu => ?_
      refine ew_callT (T := "str") T.f_str (by rfl) (by kernel_rfl) (aw_cons ?_)
      refine ew_cmethK .same T.cm_Register_read.1 T.cm_Register_read.2.1 Fr (hr'.mono (by decide)) Kb pLaR ?_
      refine ew_gref T.g_Register (by rfl) ⟨rfl, kw_cons ?_⟩
      walk_at "n"
      have fin : ∀ (ps : Pos) (d : D), d = heD ws → EW (XR P w K mg base c A outer s H E) B (.Name "_law_heard_here" ps) ⟨[some (.own p), x1, x2, some (dueD ws), some (heD ws), x5, some (.str (Txt.join " " ws)), x7], (p, Cell.pen qs j) :: (Pa, Cell.tab qR) :: cs1⟩ fun d2 s2 => OpD (XR P w K mg base c A outer s H E) B (compareOp .NotEq) d d2 s2 fun d s9 => IsB d fun k' => Br k' (SW (XR P w K mg base c A outer s H E) B (ifT ((turnR 3).getD 0 noS)) s9 { k with nx := fun s9 => SW (XR P w K mg base c A outer s H E) B (turnR 4) s9 k }) (SW (XR P w K mg base c A outer s H E) B [] s9 { k with nx := fun s9 => SW (XR P w K mg base c A outer s H E) B (turnR 4) s9 k }) := by
        rintro ps d rfl
        walk_at "n"
        refine od_ne hr.units oks oks ?_
        rw [eqv_self oks]
        exact isB (br_f (sw_nil (h _ _)))
      refine kw_nil ⟨rfl, _, rfl, .inl ⟨_, rfl, by omega, by rw [gw.split]; exact gw.wsok (by omega), by rw [gw.split]; exact gw.ne, ?_, ?_⟩⟩
      · rw [gw.split]
        intro kd hk
        obtain ⟨fs, Fs, Bs_⟩ := (m_rstr (P := P) (w := w) (base := base) T kd).ok
        refine aw_nil (cl_strO (.none fun _ _ _ => False) (m_rstr (P := P) (w := w) (base := base) T kd).mt Fs Bs_ (hr'.mono (by decide)) pF (insD_k kd) ⟨rfl, rg_good gw.ne hk, _, rfl, ?_⟩)
        refine fin _ _ ?_
        unfold heD
        rw [hk, rg_words gw.ne hk]
      · rw [gw.split]
        intro n hn ex
        refine hte (.int 0) (.int (n : Nat)) ex ?_
        refine fin _ _ ?_
        unfold heD
        rw [hn]
        rfl
    have stay : ∀ d, d = heD ws → OpD (XR P w K mg base c A outer s H E) B (compareOp .NotEq) (heD ws) d ⟨[some (.own p), x1, x2, some (dueD ws), some (heD ws), x5, some (.str (Txt.join " " ws)), x7], (p, Cell.pen qs j) :: (Pa, Cell.tab qR) :: cs1⟩ fun d s9 => IsB d fun k' => Br k' (SW (XR P w K mg base c A outer s H E) B (ifT ((turnR 2).getD 0 noS)) s9 { k with nx := fun s9 => SW (XR P w K mg base c A outer s H E) B (turnR 3) s9 k }) (SW (XR P w K mg base c A outer s H E) B [] s9 { k with nx := fun s9 => SW (XR P w K mg base c A outer s H E) B (turnR 3) s9 k }) := by
      rintro d rfl
      refine od_ne hr.units oks oks ?_
      rw [eqv_self oks]
      exact isB (br_f (sw_nil step3))
    cases hk : rg ws with
    | inl kd =>
      have e1 : dueD ws = .non := by unfold dueD; rw [hk]
      have e2 : heD ws = .lst [.str (Txt.join " " ws)] := by unfold heD; rw [hk]
      rw [e1, e2] at stay ⊢
      refine od_is (by intro _ h; cases h) (isB (br_t (ew_lst (aw_cons ?_))))
      walk_at "n"
      exact aw_nil ⟨szl (Nat.le_of_ble_eq_true rfl), stay _ rfl⟩
    | inr n =>
      have e1 : dueD ws = dN n := by unfold dueD; rw [hk]
      have e2 : heD ws = tx n := by unfold heD; rw [hk]
      rw [e1, e2] at stay ⊢
      refine od_is (by intro _ h; cases h) (isB (br_f (ew_tup (aw_cons (ew_str (aw_cons (ew_int (aw_cons ?_))))))))
      walk_at "n"
      exact aw_nil ⟨szl (Nat.le_of_ble_eq_true rfl), stay _ rfl⟩
  refine ew_h T TB rfl (by rfl) rfl (j := 1) rfl hr still (LamX.lamS_by (sc := scR) (by decide +kernel)) rfl (fun _ _ _ _ _ => rfl) fun A' outer' s' H' Hb E' f c' Ex hr' hte hrg hrd hnu => ?_
  refine ew_callT (T := "str") T.f_str (by rfl) (by kernel_rfl) (aw_cons ?_)
  refine ew_cmeth .same T.cm_Register_read.1 T.cm_Register_read.2.1 (r_rread T px) (hr'.mono (by decide)) pLaR ?_
  refine ew_gref T.g_Register (by rfl) ⟨rfl, aw_cons ?_⟩
  walk_at "n"
  refine aw_nil ⟨_, rfl, .inl ⟨_, rfl, by omega, by rw [gw.split]; exact gw.wsok (by omega), by rw [gw.split]; exact gw.ne, ?_, ?_⟩⟩
  · rw [gw.split]
    intro kd hk
    obtain ⟨fs, Fs, Bs_⟩ := (m_rstr (P := P) (w := w) (base := base) T kd).ok
    refine aw_nil (cl_strO (.none fun _ _ _ => False) (m_rstr (P := P) (w := w) (base := base) T kd).mt Fs Bs_ (hr'.mono (by decide)) pF (insD_k kd) ⟨rfl, rg_good gw.ne hk, _, rfl, ?_⟩)
    have e2 : heD ws = .lst [.str (Txt.join " " kd.words)] := by
      unfold heD
      rw [hk, rg_words gw.ne hk]
    rw [← e2]
    exact cont
  · rw [gw.split]
    intro n hn ex
    refine hte (.int 0) (.int (n : Nat)) ex ?_
    have e2 : heD ws = .tup [.str "text", .int 0, .int (n : Nat)] := by
      unfold heD
      rw [hn]
      rfl
    rw [← e2]
    exact cont
end
end K24
set_option Elab.async false
set_option linter.all false
set_option maxRecDepth 100000
set_option maxHeartbeats 4000000
namespace K24
open PySem PySem.Spec PyProof.Rows L2 Sx
local macro_rules | `(tactic| walk_at "c") => `(tactic| first
  | refine aw_cons ?_ | refine aw_nil ?_
  | refine ew_int ?_ | refine ew_non ?_ | refine ew_bl ?_ | refine ew_str ?_
  | refine ew_bin ?_ | refine ew_cmp ?_ | refine tw_cmp ?_ | refine tw_not ?_ | refine ew_chain ?_ | refine tw_chain ?_ | refine ew_and ?_ | refine ew_or ?_ | refine ew_one ?_ | refine ew_not ?_ | refine ew_neg ?_ | refine ew_if ?_
  | refine tw_w (ww_and ?_) | refine tw_w (ww_or ?_) | refine ww_and ?_ | refine ww_or ?_ | refine ww_and1 ?_ | refine ww_or1 ?_
  | refine tw_val (e := .Call _ _ _ _) ?_ | refine ew_tup ?_ | refine ew_ix ?_ | refine ew_lst ?_
  | refine sw_cons ?_ | refine s1_ret ?_ | refine s1_if ?_ | refine sw_nil ?_ | refine s1_expr ?_
  | refine od_add ?_ | refine od_sub ?_ | refine od_lt ?_ | refine od_le ?_ | refine od_gt ?_ | refine od_ge ?_
  | refine isB ?_ | refine intD ?_ | refine br_t ?_ | refine br_f ?_
  | refine ⟨szl (Nat.le_of_ble_eq_true rfl), ?_⟩)
local macro_rules | `(tactic| walk_at "n") => `(tactic| first
  | refine ew_name 0 rfl (by first | exact .inl rfl | exact .inr (.inl rfl) | exact .inr (.inr rfl)) rfl ?_
  | refine ew_name 1 rfl (by first | exact .inl rfl | exact .inr (.inl rfl) | exact .inr (.inr rfl)) rfl ?_
  | refine ew_name 2 rfl (by first | exact .inl rfl | exact .inr (.inl rfl) | exact .inr (.inr rfl)) rfl ?_
  | refine ew_name 3 rfl (by first | exact .inl rfl | exact .inr (.inl rfl) | exact .inr (.inr rfl)) rfl ?_
  | refine ew_name 4 rfl (by first | exact .inl rfl | exact .inr (.inl rfl) | exact .inr (.inr rfl)) rfl ?_
  | refine ew_name 5 rfl (by first | exact .inl rfl | exact .inr (.inl rfl) | exact .inr (.inr rfl)) rfl ?_
  | refine ew_name 6 rfl (by first | exact .inl rfl | exact .inr (.inl rfl) | exact .inr (.inr rfl)) rfl ?_
  | refine ew_name 7 rfl (by first | exact .inl rfl | exact .inr (.inl rfl) | exact .inr (.inr rfl)) rfl ?_
  | refine ew_name 8 rfl (by first | exact .inl rfl | exact .inr (.inl rfl) | exact .inr (.inr rfl)) rfl ?_
  | refine ew_name 9 rfl (by first | exact .inl rfl | exact .inr (.inl rfl) | exact .inr (.inr rfl)) rfl ?_
  | refine ew_name 10 rfl (by first | exact .inl rfl | exact .inr (.inl rfl) | exact .inr (.inr rfl)) rfl ?_
  | refine ew_name 11 rfl (by first | exact .inl rfl | exact .inr (.inl rfl) | exact .inr (.inr rfl)) rfl ?_
  | refine ew_name 12 rfl (by first | exact .inl rfl | exact .inr (.inl rfl) | exact .inr (.inr rfl)) rfl ?_)
local macro_rules | `(tactic| walk_at "i") => `(tactic| (refine' cl_isi (.ty _) ?a ?b ?_; (case a => constructor); (case b => with_reducible first | exact kit_int_int | exact kit_int_bool | exact kit_bool_int | exact kit_bool_bool | exact kit_NoneType_int | exact kit_str_int | exact kit_list_int | exact kit_tuple_int | exact kit_dict_int | exact kit_tuple_tuple | exact kit_int_tuple | exact kit_NoneType_tuple | exact kit_bool_tuple | exact kit_str_tuple | exact kit_list_tuple | exact kit_dict_tuple)))
local macro_rules | `(tactic| walk_at "l") => `(tactic| first
  | refine ew_isinstance (Tx.f_isinstance (by assumption)) ?_ | refine ew_len (Tx.f_len (by assumption)) ?_ | refine ew_vint (Tx.f_int (by assumption)) ?_ | refine ew_vbool (Tx.f_bool (by assumption)) ?_ | refine ew_vtuple (Tx.f_tuple (by assumption)) ?_ | refine ew_vstr (Tx.f_str (by assumption)) ?_
  | refine ew_gint (Tx.i_MOST_PERIOD (by assumption)) (by rfl) ?_ | refine ew_gint (Tx.i_DIGITS (by assumption)) (by rfl) ?_ | refine ew_gint (Tx.i_FAR (by assumption)) (by rfl) ?_ | refine ew_gint (Tx.i_MOST_MODULUS (by assumption)) (by rfl) ?_ | refine ew_gint (Tx.i_MOST_PERIODS (by assumption)) (by rfl) ?_
  | refine cl_len ?_ | refine cl_lenT ?_ | refine ix_tpl rfl ?_ | refine od_is (by intro _ h; cases h) ?_)
local macro_rules | `(tactic| walk_at "x") => `(tactic| repeat (first | walk_at "c" | walk_at "n" | walk_at "l" | walk_at "i"))
section
variable {P : Program} {w : World} {K : PySem.W.Frag} {mg : Str → Option Value} {base : Heap}
variable {c : Addr} {A : Around} {outer : List Env} {s : Shared} {H : Hp} {E : XK} {B : Bs} {k : Kt} {p Pa : Addr} {cs1 : Cs} {qs : List Int} {j : Int} {x1 x2 x3 x4 x6 x7 : Option D}
/-- what is no text -/
theorem right2 (T : Tx K mg) (px : Px P base) (TB : LamX.TabB base mg c Pa) (hr : Room 11 (XR P w K mg base c A outer s H E).A) (still : (XR P w K mg base c A outer s H E).A.guards = some []) (hj : j < 900000)
    (h : ∀ ss, ss.cs = (p, Cell.pen qs (j + 1)) :: (Pa, Cell.tab qR) :: cs1 → k.rt (.bl true) ss) :
    SW (XR P w K mg base c A outer s H E) B (bodyR 3) ⟨[some (.own p), x1, x2, x3, x4, none, x6, x7], (p, Cell.pen qs j) :: (Pa, Cell.tab qR) :: cs1⟩ k := by
  obtain ⟨fp, Fp, Bp⟩ := g_plain (P := P) (w := w) (base := base) T
  refine sw_cons (s1_set 5 ndR rfl (.inr rfl) ?_)
  refine ew_call (.none fun _ _ _ => False) (x_pick T) (hr.mono (by decide)) (by rfl) pF (aw_cons ?_)
  walk_at "n"
  refine aw_cons (ew_lst ?_)
  walk_at "x"
  refine ew_dict0 (aw_cons ?_)
  refine ew_makeR0 (.none fun _ _ _ => False) T.k_Plain ((Fp.raw Bp .nil).imp fun vs H Q E h => by rw [List.append_nil]; exact h) (hr.mono (by decide)) (by rfl) T.g_Plain pF ?_
  refine fun y => ⟨y, _, rfl, rfl, rfl, _, _, rfl, ?_⟩
  walk_at "x"
  refine ⟨p, qs, _, _, _, rfl, rfl, by omega, by simp, by simp, fun o ho => ?_⟩
  have ty : ∃ ty : Value, (∀ cs, TyD K o cs ty) ∧ PySem.W.kitOne K ty (.type "str") = some false := by
    simp only [List.mem_cons, List.not_mem_nil, or_false] at ho
    rcases ho with rfl | rfl | rfl | rfl | rfl | rfl | rfl
    · exact ⟨_, fun _ => .non, kit_NoneType_str⟩
    · exact ⟨_, fun _ => .int, kit_int_str⟩
    · exact ⟨_, fun _ => .bl, kit_bool_str⟩
    · exact ⟨_, fun _ => .lst, kit_list_str⟩
    · exact ⟨_, fun _ => .tup, kit_tuple_str⟩
    · exact ⟨_, fun _ => .dct0, kit_dict_str⟩
    · exact ⟨_, fun _ => .obj T.is_Plain T.c_Plain, T.k_Plain_str⟩
  clear ho
  obtain ⟨ty, t1', t2⟩ := ty
  refine sw_cons (s1_ret (ew_cmp ?_))
  refine ew_h T TB rfl (by rfl) rfl (j := 1) rfl hr still (LamX.lamS_by (sc := scR) (by decide +kernel)) rfl (fun _ _ _ _ _ => rfl) fun A' outer' s' H' Hb E' f c' Ex hr' hte hrg hrd hnu => ?_
  refine ew_cmeth .same T.cm_Register_read.1 T.cm_Register_read.2.1 (r_rread T px) (hr'.mono (by decide)) pLaR ?_
  refine ew_gref T.g_Register (by rfl) ⟨rfl, aw_cons ?_⟩
  walk_at "n"
  refine aw_nil ⟨o, rfl, .inr ⟨ty, t1', t2, fun ex => ?_⟩⟩
  refine hte (.int 0) (.int (0 : Nat)) ex ?_
  refine ew_tup (aw_cons (ew_str (aw_cons (ew_int (aw_cons (ew_int (aw_nil ⟨szl (Nat.le_of_ble_eq_true rfl), ?_⟩)))))))
  refine od_eq hr.units (tx_ok 0) (tx_ok 0) ?_
  have e : D.eqv (.tup [.str "text", .int 0, .int ((0 : Nat) : Int)]) (.tup [.str "text", .int 0, .int 0]) = true := eqv_self (tx_ok 0)
  rw [e]
  exact h _ rfl
def F_right (Pa : Addr) : FT := fun ds cs Kk _ => ∃ p qs z0 cs1, ds = [.own p] ∧ cs = (p, Cell.pen qs z0) :: (Pa, Cell.tab qR) :: cs1 ∧ z0 < 90000 ∧ ∀ j : Int, j ≤ z0 + 40 → Kk (.bl true) ((p, Cell.pen qs j) :: (Pa, Cell.tab qR) :: cs1)
theorem x_right (T : Tx K mg) (px : Px P base) (TB : LamX.TabB base mg (He.codeOf K ("_law_read_right", none)) Pa) : DfnG P w K mg base (L2.CX P w) 12 "_law_read_right" ["_law_pen_here"] (spF (F_right Pa)) := by
  refine dfnGT T.q_law_read_right T.g_law_read_right (N := NR) ⟨rfl, rfl, rfl, ndR, rfl, by decide +kernel, by decide +kernel⟩ (fun kV doc pm an cdv ct => Vls.bind1 fun a => rfl) (fun ds cs Kk KE h => ?_) TB rfl (fun c TB A outer s H E ds cs Kk KE hr still h => ?_)
  · obtain ⟨_, _, _, _, rfl, _⟩ := h
    rfl
  · obtain ⟨p, qs, z0, cs1, rfl, rfl, hz, q⟩ := h
    refine sw_cons (s1_set 1 ndR rfl (.inl rfl) ?_)
    refine ew_call (.none fun _ _ _ => False) (x_reg T) (hr.mono (by decide)) (by rfl) pF (aw_cons ?_)
    walk_at "n"
    refine aw_nil ⟨p, qs, z0, _, rfl, rfl, by omega, fun kd j gk l4 hj => ?_⟩
    have gw := words_wks gk (by omega)
    refine sw_cons (s1_set 6 ndR rfl (.inr rfl) (ew_join (ew_str ⟨" ", rfl, ew_bin (ew_lst (aw_cons (ew_ix ?_)))⟩)))
    walk_at "n"
    refine ew_int (ix_tpl rfl (aw_nil ⟨szl (Nat.le_of_ble_eq_true rfl), ?_⟩))
    refine ew_lcL [("_law_number", 7)] 0 rfl ndR (Vls.blk_by (N := NR) (sc := scR) (by decide +kernel)) (ew_ix ?_)
    walk_at "n"
    refine ew_int (ix_tpl (d := .lst ((ns kd).map dN)) rfl ?_)
    refine ⟨_, rfl, szl (by rw [List.length_map]; omega), fun z acc cs' => cs' = (p, Cell.pen qs j) :: (Pa, Cell.tab qR) :: cs1 ∧ acc = ((ns kd).take z).map fun n : Nat => D.str (num n), ⟨rfl, rfl⟩, fun z d acc cs' hd hI => ?_, fun acc cs' hI => ?_⟩
    · obtain ⟨rfl, rfl⟩ := hI
      rw [List.getElem?_map] at hd
      obtain ⟨n, hn1, rfl⟩ : ∃ n, (ns kd)[z]? = some n ∧ d = dN n := by
        cases y : (ns kd)[z]? with
        | none => rw [y] at hd; cases hd
        | some n => rw [y] at hd; cases hd; exact ⟨n, rfl, rfl⟩
      have nb : n < 10 ^ 40 := by
        have m := List.mem_of_getElem? hn1
        cases kd with
        | pl => cases m
        | rs => cases m
        | md m0 =>
          obtain rfl := List.mem_singleton.mp m
          exact Nat.lt_of_le_of_lt gk.2 (by decide)
        | dl ps => exact Nat.lt_of_le_of_lt (gk.2.2 n m).2 (by decide)
      refine ⟨by rw [List.length_map, List.length_take]; omega, fun lx _ _ _ _ _ => ?_⟩
      refine tg_name 7 ndR rfl (.inl rfl) ?_
      intro _ _ _ _ _
      refine ts_nil ⟨fun _ => ?_, fun e => by cases e⟩
      intro _ _ _ _ _
      refine ew_callT (T := "str") T.f_str (by rfl) (by kernel_rfl) (aw_cons ?_)
      walk_at "n"
      refine aw_nil (cl_strI (by have := Flat.log_of (n := ((n : Int)).natAbs) (by rw [Int.natAbs_natCast]; exact Nat.lt_of_lt_of_le nb (by decide)); omega) ?_)
      refine ⟨_, rfl, rfl, ?_⟩
      rw [List.take_add_one, hn1, List.map_append]
      rfl
    · obtain ⟨rfl, rfl⟩ := hI
      rw [List.length_map, List.take_length]
      refine od_cat (szl (by rw [List.length_map]; show 1 + _ ≤ _; omega)) ?_
      have ew : [D.str (kw kd)] ++ (ns kd).map (fun n : Nat => D.str (num n)) = kd.words.map D.str := by
        cases kd with
        | dl ps =>
          show D.str "dials" :: ps.map (fun n : Nat => D.str (num n)) = D.str "dials" :: (ps.map num).map D.str
          rw [List.map_map]
          rfl
        | _ => rfl
      refine ⟨kd.words, .inl (by rw [← ew]), ?_, ?_⟩
      · have a := gw.sum (by decide)
        have b := gw.few
        rw [blank_len]
        omega
      refine sw_cons (s1_forR [2] (passes_of rfl) rfl (by rfl) T.f_range (ew_int ?_))
      refine ⟨4, rfl, by omega, fun i s' => i ≤ 4 ∧ ∃ ws x1 x2 x3 x4 x7 j, s' = ⟨[some (.own p), x1, x2, x3, x4, none, some (.str (Txt.join " " ws)), x7], (p, Cell.pen qs j) :: (Pa, Cell.tab qR) :: cs1⟩ ∧ Wks i ws ∧ j ≤ z0 + 10 + 4 * i, ⟨by omega, kd.words, _, _, _, _, _, j, rfl, gw, by omega⟩, fun i s' hi hI => ?_, fun s' hI => ?_⟩
      · obtain ⟨_, ws, x1, x2, x3, x4, x7, j, rfl, gw, hj⟩ := hI
        refine tg_name 2 ndR rfl (.inl rfl) ?_
        refine turn1 T px TB hr still gw (by omega) fun x3 x4 => ?_
        refine sw_cons (s1_set 6 ndR rfl (.inr rfl) ?_)
        refine ew_call (.none fun _ _ _ => False) (x_bent T) (hr.mono (by decide)) (by rfl) pF (aw_cons ?_)
        walk_at "n"
        refine aw_cons ?_
        walk_at "n"
        refine aw_nil ⟨p, qs, j, _, i, ws, rfl, rfl, by omega, by omega, gw, fun us j' g hj' => ?_⟩
        exact sw_nil ⟨by omega, us, _, _, _, _, _, j', rfl, g, by omega⟩
      · obtain ⟨_, ws, x1, x2, x3, x4, x7, j, rfl, gw, hj⟩ := hI
        refine right2 T px TB hr still (by omega) fun ss e => ?_
        show Kk (.bl true) ss.cs
        rw [e]
        exact q _ (by omega)
end
end K24
set_option Elab.async false
set_option linter.all false
set_option maxRecDepth 100000
set_option maxHeartbeats 4000000
namespace K24
open PySem PySem.Spec PyProof.Rows L2 Sx
local macro_rules | `(tactic| walk_at "c") => `(tactic| first
  | refine aw_cons ?_ | refine aw_nil ?_
  | refine ew_int ?_ | refine ew_non ?_ | refine ew_bl ?_ | refine ew_str ?_
  | refine ew_bin ?_ | refine ew_cmp ?_ | refine tw_cmp ?_ | refine tw_not ?_ | refine ew_chain ?_ | refine tw_chain ?_ | refine ew_and ?_ | refine ew_or ?_ | refine ew_one ?_ | refine ew_not ?_ | refine ew_neg ?_ | refine ew_if ?_
  | refine tw_w (ww_and ?_) | refine tw_w (ww_or ?_) | refine ww_and ?_ | refine ww_or ?_ | refine ww_and1 ?_ | refine ww_or1 ?_
  | refine tw_val (e := .Call _ _ _ _) ?_ | refine ew_tup ?_ | refine ew_ix ?_ | refine ew_lst ?_
  | refine sw_cons ?_ | refine s1_ret ?_ | refine s1_if ?_ | refine sw_nil ?_ | refine s1_expr ?_
  | refine od_add ?_ | refine od_sub ?_ | refine od_lt ?_ | refine od_le ?_ | refine od_gt ?_ | refine od_ge ?_
  | refine isB ?_ | refine intD ?_ | refine br_t ?_ | refine br_f ?_
  | refine ⟨szl (Nat.le_of_ble_eq_true rfl), ?_⟩)
local macro_rules | `(tactic| walk_at "n") => `(tactic| first
  | refine ew_name 0 rfl (by first | exact .inl rfl | exact .inr (.inl rfl) | exact .inr (.inr rfl)) rfl ?_
  | refine ew_name 1 rfl (by first | exact .inl rfl | exact .inr (.inl rfl) | exact .inr (.inr rfl)) rfl ?_
  | refine ew_name 2 rfl (by first | exact .inl rfl | exact .inr (.inl rfl) | exact .inr (.inr rfl)) rfl ?_
  | refine ew_name 3 rfl (by first | exact .inl rfl | exact .inr (.inl rfl) | exact .inr (.inr rfl)) rfl ?_
  | refine ew_name 4 rfl (by first | exact .inl rfl | exact .inr (.inl rfl) | exact .inr (.inr rfl)) rfl ?_
  | refine ew_name 5 rfl (by first | exact .inl rfl | exact .inr (.inl rfl) | exact .inr (.inr rfl)) rfl ?_
  | refine ew_name 6 rfl (by first | exact .inl rfl | exact .inr (.inl rfl) | exact .inr (.inr rfl)) rfl ?_
  | refine ew_name 7 rfl (by first | exact .inl rfl | exact .inr (.inl rfl) | exact .inr (.inr rfl)) rfl ?_
  | refine ew_name 8 rfl (by first | exact .inl rfl | exact .inr (.inl rfl) | exact .inr (.inr rfl)) rfl ?_
  | refine ew_name 9 rfl (by first | exact .inl rfl | exact .inr (.inl rfl) | exact .inr (.inr rfl)) rfl ?_
  | refine ew_name 10 rfl (by first | exact .inl rfl | exact .inr (.inl rfl) | exact .inr (.inr rfl)) rfl ?_
  | refine ew_name 11 rfl (by first | exact .inl rfl | exact .inr (.inl rfl) | exact .inr (.inr rfl)) rfl ?_
  | refine ew_name 12 rfl (by first | exact .inl rfl | exact .inr (.inl rfl) | exact .inr (.inr rfl)) rfl ?_)
local macro_rules | `(tactic| walk_at "i") => `(tactic| (refine' cl_isi (.ty _) ?a ?b ?_; (case a => constructor); (case b => with_reducible first | exact kit_int_int | exact kit_int_bool | exact kit_bool_int | exact kit_bool_bool | exact kit_NoneType_int | exact kit_str_int | exact kit_list_int | exact kit_tuple_int | exact kit_dict_int | exact kit_tuple_tuple | exact kit_int_tuple | exact kit_NoneType_tuple | exact kit_bool_tuple | exact kit_str_tuple | exact kit_list_tuple | exact kit_dict_tuple)))
local macro_rules | `(tactic| walk_at "l") => `(tactic| first
  | refine ew_isinstance (Tx.f_isinstance (by assumption)) ?_ | refine ew_len (Tx.f_len (by assumption)) ?_ | refine ew_vint (Tx.f_int (by assumption)) ?_ | refine ew_vbool (Tx.f_bool (by assumption)) ?_ | refine ew_vtuple (Tx.f_tuple (by assumption)) ?_ | refine ew_vstr (Tx.f_str (by assumption)) ?_
  | refine ew_gint (Tx.i_MOST_PERIOD (by assumption)) (by rfl) ?_ | refine ew_gint (Tx.i_DIGITS (by assumption)) (by rfl) ?_ | refine ew_gint (Tx.i_FAR (by assumption)) (by rfl) ?_ | refine ew_gint (Tx.i_MOST_MODULUS (by assumption)) (by rfl) ?_ | refine ew_gint (Tx.i_MOST_PERIODS (by assumption)) (by rfl) ?_
  | refine cl_len ?_ | refine cl_lenT ?_ | refine ix_tpl rfl ?_ | refine od_is (by intro _ h; cases h) ?_)
local macro_rules | `(tactic| walk_at "x") => `(tactic| repeat (first | walk_at "c" | walk_at "n" | walk_at "l" | walk_at "i"))
abbrev scF : Scope := defScope s_law_refused_right
def qF : Str := (envOfC "_law_refused_right" scF 0 0 .none).qual ++ "<lambda>"
def NF : List Str := ["_law_pen_here", "_law_heard_here", "_law_due_here", "_law_bad", "_law_far", "_law_made", "_law_odd", "_law_strange", "_law_thing"]
theorem ndF : NF.Nodup := by decide +kernel
def bodyF (i : Nat) : List Stmt := (defBody s_law_refused_right).drop i
/-- what no number from lo to hi is -/
structure Wr (lo hi : Int) (x : D) : Prop where
  r : inR lo hi x = false
  pl : Pln x
  sh : Shn x
  ok : PyData.strOk x.py.shown = true
theorem shn_by {d : D} (h1 : d.dat = true) (h2 : d.py.showable = true) (h3 : d.py.hasDict = false) (h4 : d.py.depth ≤ 60) (h5 : d.py.shown.length ≤ 1000) : Shn d := ⟨h1, h2, h3, h4, szl (Nat.le_trans h5 (by decide))⟩
theorem shn_str {x : String} (h : (Str.ofString x) = "modulus" ∨ (Str.ofString x) = "periods" ∨ (Str.ofString x) = "reading" ∨ (Str.ofString x) = "earlier" ∨ (Str.ofString x) = "later") : Shn (.str (Str.ofString x)) := by
  rcases h with h | h | h | h | h <;> rw [h] <;> exact shn_by rfl (by decide +kernel) (by decide +kernel) (by decide +kernel) (by decide +kernel)
theorem shn_int {i : Int} (h : i.natAbs < 10 ^ 50) : Shn (.int i) := shn_of (Flat.Sm.int h) rfl (by decide) (by decide)
/-- the registers asked -/
def four (kd : Kd) : Prop := kd = .pl ∨ kd = .md 7 ∨ kd = .dl [2, 4] ∨ kd = .rs
theorem four_good {kd : Kd} (h : four kd) : kd.Good := by
  rcases h with rfl | rfl | rfl | rfl
  · trivial
  · exact ⟨by decide, by decide⟩
  · exact ⟨by decide, by decide, by decide⟩
  · trivial
theorem four_five {kd : Kd} (h : four kd) : isr kd (shD kd 5 0) = true ∧ Pln2 (shD kd 5 0) := by
  rcases h with rfl | rfl | rfl | rfl
  · exact ⟨by decide, trivial⟩
  · exact ⟨by decide, trivial⟩
  · refine ⟨by decide +kernel, fun x hx => ?_, by decide⟩
    have hx : x ∈ [D.int (5 % 2), D.int (5 % 4)] := hx
    simp only [List.mem_cons, List.not_mem_nil, or_false] at hx
    rcases hx with rfl | rfl <;> trivial
  · refine ⟨by decide, fun x hx => ?_, by decide⟩
    have hx : x ∈ [D.int 0, D.int 5] := hx
    simp only [List.mem_cons, List.not_mem_nil, or_false] at hx
    rcases hx with rfl | rfl <;> trivial
def things : List D := [.non, .bl true, .int (-1), .str "0", .lst [.int 0], .lst [.int 0, .int 1], .tup [.int (-1), .int 0], .tup [.int 0, .int (-1)], .tup [.non, .int 1], .dct0, .tup [.int 0, .int 0, .int 0]]
theorem thing_no {v : D} (h : v ∈ things) {kd : Kd} (f : four kd) : isr kd v = false ∧ Pln2 v := by
  unfold things at h
  simp only [List.mem_cons, List.not_mem_nil, or_false] at h
  refine ⟨?_, ?_⟩
  · rcases h with rfl | rfl | rfl | rfl | rfl | rfl | rfl | rfl | rfl | rfl | rfl <;> rcases f with rfl | rfl | rfl | rfl <;> rfl
  · rcases h with rfl | rfl | rfl | rfl | rfl | rfl | rfl | rfl | rfl | rfl | rfl
    · trivial
    · trivial
    · trivial
    · trivial
    · trivial
    · trivial
    · refine ⟨fun x hx => ?_, by decide⟩
      simp only [List.mem_cons, List.not_mem_nil, or_false] at hx
      rcases hx with rfl | rfl <;> trivial
    · refine ⟨fun x hx => ?_, by decide⟩
      simp only [List.mem_cons, List.not_mem_nil, or_false] at hx
      rcases hx with rfl | rfl <;> trivial
    · refine ⟨fun x hx => ?_, by decide⟩
      simp only [List.mem_cons, List.not_mem_nil, or_false] at hx
      rcases hx with rfl | rfl <;> trivial
    · trivial
    · refine ⟨fun x hx => ?_, by decide⟩
      simp only [List.mem_cons, List.not_mem_nil, or_false] at hx
      rcases hx with rfl | rfl | rfl <;> trivial
def reg (t : Str) : D := .tup [.str "register", .str t]
def nine (st fa : D) : List D := [ans "register" (.str "modulus"), ans "register" (.int 1), ans "register" (.str "periods"), ans "register" (.str "periods"), ans "number" st, ans "number" fa, ans "reading" (.str "reading"), ans "reading" (.str "earlier"), ans "reading" (.str "later")]
def nine2 (st fa : D) : List D := [.tup [.str "register", .str "'modulus'"], .tup [.str "register", .str "1"], .tup [.str "register", .str "'periods'"], .tup [.str "register", .str "'periods'"], ans "number" st, ans "number" fa, .tup [.str "reading", .str "'reading'"], .tup [.str "reading", .str "'earlier'"], .tup [.str "reading", .str "'later'"]]
theorem nine_eq (st fa : D) : nine st fa = nine2 st fa := by
  have e1 : (D.str "modulus").py.shown = ("'modulus'" : Str) := by decide +kernel
  have e2 : (D.str "periods").py.shown = ("'periods'" : Str) := by decide +kernel
  have e3 : (D.str "reading").py.shown = ("'reading'" : Str) := by decide +kernel
  have e4 : (D.str "earlier").py.shown = ("'earlier'" : Str) := by decide +kernel
  have e5 : (D.str "later").py.shown = ("'later'" : Str) := by decide +kernel
  have e6 : (D.int 1).py.shown = ("1" : Str) := PyData.shown_int 1
  unfold nine nine2 ans
  rw [e1, e2, e3, e4, e5, e6]
theorem nine_ok {st fa : D} (h1 : PyData.strOk st.py.shown = true) (h2 : PyData.strOk fa.py.shown = true) : (D.lst (nine2 st fa)).ok = true := tm_ok (n := 2) (by
  unfold nine2 ans
  simp only [D.tm, D.tmL, h1, h2, strOk_of]
  rfl) (by decide)
section
variable {P : Program} {w : World} {K : PySem.W.Frag} {mg : Str → Option Value} {base : Heap} {Pa : Addr}
abbrev XF (P : Program) (w : World) (K : PySem.W.Frag) (mg : Str → Option Value) (base : Heap) (c : Addr) (A : Around) (outer : List Env) (s : Shared) (H : Hp) (E : XK) : Cx := cxOf (L2.CX P w) P w K mg base NF "_law_refused_right" scF (He.ga K "_law_refused_right") (.ref c) A outer s H E
theorem pLaF {c : Addr} {A : Around} {outer : List Env} {s : Shared} {H : Hp} {E : XK} {A' : Around} {outer' : List Env} {s' : Shared} {H' : Hp} {E' : XK} {scope : Scope} {f c' : Addr} : Passes (L2.CX P w) (LamX.lamCx (XF P w K mg base c A outer s H E) A' outer' s' H' E' scope f c') E' := passes_call (X := LamX.lamCx (XF P w K mg base c A outer s H E) A' outer' s' H' E' scope f c') (takes_of rfl rfl rfl rfl) fun _ _ _ _ h => h
def F_refused (Pa : Addr) : FT := fun ds cs Kk _ => ∃ p qs z0 t1 cs1, ds = [.own p] ∧ cs = (p, Cell.pen qs z0) :: t1 :: (Pa, Cell.tab qF) :: cs1 ∧ z0 < 90000 ∧ Kk (.bl true) ((p, Cell.pen qs (z0 + 6)) :: t1 :: (Pa, Cell.tab qF) :: cs1)
def F_shows1 (K : PySem.W.Frag) (k : Kd) : FT := fun ds cs Kk KE => F_shows K k (ds ++ [.int 0]) cs Kk KE
theorem spF_shows1 {k : Kd} {vs : List V} {H : Hp} {Q : VK} {E : XK} (h : spF (F_shows1 K k) vs H Q E) : spF (F_shows K k) (vs ++ [V.int 0]) H Q E := by
  obtain ⟨ds, cs, Kk, KE, r, ok, f, q1, q2⟩ := h
  exact ⟨ds ++ [D.int 0], cs, Kk, KE, r.app (.cons (.int 0) .nil), ok, (show F_shows K k (ds ++ [D.int 0]) cs Kk KE from f), q1, q2⟩
theorem x_refused (T : Tx K mg) (px : Px P base) (TB : LamX.TabB base mg (He.codeOf K ("_law_refused_right", none)) Pa) : DfnG P w K mg base (L2.CX P w) 12 "_law_refused_right" ["_law_pen_here"] (spF (F_refused Pa)) := by
  refine dfnGT T.q_law_refused_right T.g_law_refused_right (N := NF) ⟨rfl, rfl, rfl, ndF, rfl, by decide +kernel, by decide +kernel⟩ (fun kV doc pm an cdv ct => Vls.bind1 fun a => rfl) (fun ds cs Kk KE h => ?_) TB rfl (fun c TB A outer s H E ds cs Kk KE hr still h => ?_)
  · obtain ⟨_, _, _, _, _, rfl, _⟩ := h
    rfl
  · obtain ⟨p, qs, z0, t1, cs1, rfl, rfl, hz, q⟩ := h
    obtain ⟨fp, Fp, Bp⟩ := g_plain (P := P) (w := w) (base := base) T
    obtain ⟨frs, Frs, Brs⟩ := g_rest (P := P) (w := w) (base := base) T
    obtain ⟨fw, Fw, Bw⟩ := g_wrap (P := P) (w := w) (base := base) T
    have Rw : FnR P w K mg base (L2.CX P w) 3 (He.ma K (CMd K) "__init__") (spF (F_wrap K)) := (Fw.raw Bw .nil).imp fun vs H Q E h => by rw [List.append_nil]; exact h
    -- odd
    refine sw_cons (s1_set 6 ndF rfl (.inr rfl) ?_)
    refine ew_call (.none fun _ _ _ => False) (x_pick T) (hr.mono (by decide)) (by rfl) pF (aw_cons ?_)
    walk_at "n"
    refine aw_cons (ew_lst ?_)
    walk_at "x"
    refine od_pow ⟨by decide, by decide, by decide⟩ ?_
    walk_at "x"
    refine ⟨p, qs, _, _, _, rfl, rfl, by omega, by simp, by simp, fun od ho => ?_⟩
    have wo : Pln od ∧ inR 2 (10 ^ 18) od = false := by
      simp only [List.mem_cons, List.not_mem_nil, or_false] at ho
      rcases ho with rfl | rfl | rfl | rfl | rfl | rfl | rfl | rfl <;> exact ⟨trivial, by rfl⟩
    clear ho
    -- bad
    refine sw_cons (s1_set 3 ndF rfl (.inr rfl) ?_)
    refine ew_call (.none fun _ _ _ => False) (x_pick T) (hr.mono (by decide)) (by rfl) pF (aw_cons ?_)
    walk_at "n"
    refine aw_cons (ew_lst ?_)
    walk_at "x"
    refine ⟨p, qs, _, _, _, rfl, rfl, by omega, by simp, by simp, fun bd hb => ?_⟩
    have wb : Pln bd ∧ inR 2 1000 bd = false := by
      simp only [List.mem_cons, List.not_mem_nil, or_false] at hb
      rcases hb with rfl | rfl | rfl | rfl | rfl | rfl | rfl | rfl <;> exact ⟨trivial, by rfl⟩
    clear hb
    -- strange, far
    refine sw_cons (s1_asg (vs := [7, 4]) (ew_tup (aw_cons ?_)))
    refine ew_call (.none fun _ _ _ => False) (x_pick T) (hr.mono (by decide)) (by rfl) pF (aw_cons ?_)
    walk_at "n"
    refine aw_cons (ew_lst ?_)
    walk_at "x"
    refine od_pow ⟨by decide, by decide, by decide⟩ ?_
    walk_at "x"
    refine ⟨p, qs, _, _, _, rfl, rfl, by omega, by simp, by simp, fun st hs => ?_⟩
    have wst : Wr 0 (10 ^ 40) st := by
      simp only [List.mem_cons, List.not_mem_nil, or_false] at hs
      rcases hs with rfl | rfl | rfl | rfl | rfl | rfl
      · exact ⟨by rfl, trivial, shn_by rfl (by decide +kernel) (by decide +kernel) (by decide +kernel) (by decide +kernel), by decide +kernel⟩
      · exact ⟨by rfl, trivial, shn_int (by decide), Sho.dry_ok _ rfl⟩
      · exact ⟨by rfl, trivial, shn_by rfl (by decide +kernel) (by decide +kernel) (by decide +kernel) (by decide +kernel), by decide +kernel⟩
      · exact ⟨by rfl, trivial, shn_by rfl (by decide +kernel) (by decide +kernel) (by decide +kernel) (by decide +kernel), by decide +kernel⟩
      · exact ⟨by rfl, trivial, shn_by rfl (by decide +kernel) (by decide +kernel) (by decide +kernel) (by decide +kernel), by decide +kernel⟩
      · exact ⟨by rfl, trivial, shn_int (by decide), Sho.dry_ok _ rfl⟩
    clear hs
    refine aw_cons ?_
    refine ew_call (.none fun _ _ _ => False) (x_pick T) (hr.mono (by decide)) (by rfl) pF (aw_cons ?_)
    walk_at "n"
    refine aw_cons (ew_lst ?_)
    walk_at "x"
    refine od_pow ⟨by decide, by decide, by decide⟩ ?_
    walk_at "x"
    refine ⟨p, qs, _, _, _, rfl, rfl, by omega, by simp, by simp, fun fa hf => ?_⟩
    have wfa : Wr 0 (10 ^ 40) fa := by
      simp only [List.mem_cons, List.not_mem_nil, or_false] at hf
      rcases hf with rfl | rfl | rfl | rfl | rfl | rfl
      · exact ⟨by rfl, trivial, shn_by rfl (by decide +kernel) (by decide +kernel) (by decide +kernel) (by decide +kernel), by decide +kernel⟩
      · exact ⟨by rfl, trivial, shn_int (by decide), Sho.dry_ok _ rfl⟩
      · exact ⟨by rfl, trivial, shn_by rfl (by decide +kernel) (by decide +kernel) (by decide +kernel) (by decide +kernel), by decide +kernel⟩
      · exact ⟨by rfl, trivial, shn_by rfl (by decide +kernel) (by decide +kernel) (by decide +kernel) (by decide +kernel), by decide +kernel⟩
      · exact ⟨by rfl, trivial, shn_by rfl (by decide +kernel) (by decide +kernel) (by decide +kernel) (by decide +kernel), by decide +kernel⟩
      · exact ⟨by rfl, trivial, shn_int (by decide), Sho.dry_ok _ rfl⟩
    clear hf
    refine aw_nil ⟨szl (Nat.le_of_ble_eq_true rfl), ?_⟩
    refine tg_tup rfl (tgs_cons (tg_name 7 ndF rfl (.inr rfl) (tgs_cons (tg_name 4 ndF rfl (.inr rfl) (tgs_nil ?_)))))
    show SW (XF P w K mg base c A outer s H E) _ (bodyF 3) ⟨[some (.own p), none, none, some bd, some fa, none, some od, some st, none], (p, Cell.pen qs (z0 + 1 + 1 + 1 + 1)) :: t1 :: (Pa, Cell.tab qF) :: cs1⟩ _
    refine sw_cons (s1_set 1 ndF rfl (.inl rfl) (ew_lstO 3 (aw_cons ?_)))
    refine ew_h T TB rfl (by rfl) rfl (j := 2) rfl hr still (LamX.lamS_by (sc := scF) (by decide +kernel)) rfl (fun _ _ _ _ _ => rfl) fun A' outer' s' H' Hb E' f c' Ex hr' hte hrg hrd hnu => ?_
    refine ew_makeR .same T.k_Wrapping Rw (hr'.mono (by decide)) (by rfl) T.g_Wrapping pLaF (aw_cons ?_)
    walk_at "n"
    refine aw_nil (fun y => ⟨y, CMd K, od, _, rfl, rfl, T.c_Wrapping, T.n_Wrapping_modulus, wo.1, fun h => by (rw [wo.2] at h; cases h), fun _ => ⟨_, _, rfl, ?_⟩⟩)
    refine hrg (.str "modulus") [] (shn_str (.inl rfl)) ?_
    refine aw_nil ⟨szl (Nat.le_of_ble_eq_true rfl), fun y => ?_⟩
    -- Dials(2, bad, odd)
    refine sw_cons (s1_expr (ew_append ?_))
    walk_at "n"
    refine ⟨y, 3, _, rfl, rfl, ?_⟩
    refine ew_h T TB rfl (by rfl) rfl (j := 2) rfl hr still (LamX.lamS_by (sc := scF) (by decide +kernel)) rfl (fun _ _ _ _ _ => rfl) fun A' outer' s' H' Hb E' f c' Ex hr' hte hrg hrd hnu => ?_
    refine ew_makeR .same T.k_Dials (r_dials T px) (hr'.mono (by decide)) (by rfl) T.g_Dials pLaF (aw_cons (ew_int (aw_cons ?_)))
    walk_at "n"
    refine aw_cons ?_
    walk_at "n"
    refine aw_nil (fun y2 => ⟨y2, [.int 2, bd, od], _, rfl, rfl, ⟨fun v hv => ?_, by show (3 : Nat) ≤ 50; decide⟩, ?_⟩)
    · simp only [List.mem_cons, List.not_mem_nil, or_false] at hv
      rcases hv with rfl | rfl | rfl
      · trivial
      · exact wb.1
      · exact wo.1
    unfold Dc
    have eb : badP [.int 2, bd, od] 0 = some 1 := by
      show (if inR 2 1000 bd = true then _ else some 1) = some 1
      rw [wb.2]
      rfl
    rw [if_neg (by simp), eb]
    refine ⟨_, _, rfl, ?_⟩
    refine hrg (.int (1 : Nat)) [] (shn_int (by decide)) ?_
    refine ⟨3, _, rfl, szl (Nat.le_of_ble_eq_true rfl), ?_⟩
    -- Dials()
    refine sw_cons (s1_expr (ew_append ?_))
    walk_at "n"
    refine ⟨y, 3, _, rfl, rfl, ?_⟩
    refine ew_h T TB rfl (by rfl) rfl (j := 2) rfl hr still (LamX.lamS_by (sc := scF) (by decide +kernel)) rfl (fun _ _ _ _ _ => rfl) fun A' outer' s' H' Hb E' f c' Ex hr' hte hrg hrd hnu => ?_
    refine ew_makeR0 .same T.k_Dials (r_dials T px) (hr'.mono (by decide)) (by rfl) T.g_Dials pLaF ?_
    refine fun y2 => ⟨y2, [], _, rfl, rfl, ⟨fun v hv => (by cases hv), by decide⟩, ?_⟩
    unfold Dc
    rw [if_pos (.inl rfl)]
    refine ⟨_, _, rfl, ?_⟩
    refine hrg (.str "periods") [] (shn_str (.inr (.inl rfl))) ?_
    refine ⟨3, _, rfl, szl (Nat.le_of_ble_eq_true rfl), ?_⟩
    -- seven
    refine sw_cons (s1_expr (ew_append ?_))
    walk_at "n"
    refine ⟨y, 3, _, rfl, rfl, ?_⟩
    refine ew_h T TB rfl (by rfl) rfl (j := 2) rfl hr still (LamX.lamS_by (sc := scF) (by decide +kernel)) rfl (fun _ _ _ _ _ => rfl) fun A' outer' s' H' Hb E' f c' Ex hr' hte hrg hrd hnu => ?_
    refine ew_makeR .same T.k_Dials (r_dials T px) (hr'.mono (by decide)) (by rfl) T.g_Dials pLaF ?_
    refine aw_cons (ew_int (aw_cons (ew_int (aw_cons (ew_int (aw_cons (ew_int (aw_cons (ew_int (aw_cons (ew_int (aw_cons ?_))))))))))))
    walk_at "n"
    refine aw_nil (fun y2 => ⟨y2, [.int 2, .int 3, .int 4, .int 5, .int 6, .int 7, bd], _, rfl, rfl, ⟨fun v hv => ?_, by show (7 : Nat) ≤ 50; decide⟩, ?_⟩)
    · simp only [List.mem_cons, List.not_mem_nil, or_false] at hv
      rcases hv with rfl | rfl | rfl | rfl | rfl | rfl | rfl
      · trivial
      · trivial
      · trivial
      · trivial
      · trivial
      · trivial
      · exact wb.1
    unfold Dc
    rw [if_pos (.inr (by show (6 : Nat) < 7; decide))]
    refine ⟨_, _, rfl, ?_⟩
    refine hrg (.str "periods") [] (shn_str (.inr (.inl rfl))) ?_
    refine ⟨3, _, rfl, szl (Nat.le_of_ble_eq_true rfl), ?_⟩
    show SW (XF P w K mg base c A outer s H E) _ (bodyF 7) ⟨[some (.own p), some (.own y), none, some bd, some fa, none, some od, some st, none], (p, Cell.pen qs (z0 + 1 + 1 + 1 + 1)) :: t1 :: (Pa, Cell.tab qF) :: (y, Cell.lst [ans "register" (.str "modulus"), ans "register" (.int 1), ans "register" (.str "periods"), ans "register" (.str "periods")]) :: cs1⟩ _
    -- made
    refine sw_cons (s1_set 5 ndF rfl (.inr rfl) ?_)
    refine ew_call (.none fun _ _ _ => False) (x_pick T) (hr.mono (by decide)) (by rfl) pF (aw_cons ?_)
    walk_at "n"
    refine aw_cons (ew_lst (aw_cons ?_))
    refine ew_makeR0 (.none fun _ _ _ => False) T.k_Plain ((Fp.raw Bp .nil).imp fun vs H Q E h => by rw [List.append_nil]; exact h) (hr.mono (by decide)) (by rfl) T.g_Plain pF ?_
    refine fun y2 => ⟨y2, _, rfl, rfl, rfl, _, _, rfl, aw_cons ?_⟩
    refine ew_makeR (.none fun _ _ _ => False) T.k_Wrapping Rw (hr.mono (by decide)) (by rfl) T.g_Wrapping pF (aw_cons (ew_int (aw_nil ?_)))
    refine fun y2 => ⟨y2, CMd K, .int 7, _, rfl, rfl, T.c_Wrapping, T.n_Wrapping_modulus, trivial, fun _ => ⟨rfl, _, _, rfl, aw_cons ?_⟩, fun h => absurd h (by decide)⟩
    refine ew_makeR (.none fun _ _ _ => False) T.k_Dials (r_dials T px) (hr.mono (by decide)) (by rfl) T.g_Dials pF (aw_cons (ew_int (aw_cons (ew_int (aw_nil ?_)))))
    refine fun y2 => ⟨y2, [.int 2, .int 4], _, rfl, rfl, ⟨fun v hv => ?_, by show (2 : Nat) ≤ 50; decide⟩, ?_⟩
    · simp only [List.mem_cons, List.not_mem_nil, or_false] at hv
      rcases hv with rfl | rfl <;> trivial
    unfold Dc
    rw [if_neg (by simp), show badP [.int 2, .int 4] 0 = none by rfl]
    intro ps e hp
    obtain rfl : [2, 4] = ps := map_dN_inj e
    refine ⟨rfl, _, _, rfl, aw_cons ?_⟩
    refine ew_makeR0 (.none fun _ _ _ => False) T.k_Restarting ((Frs.raw Brs .nil).imp fun vs H Q E h => by rw [List.append_nil]; exact h) (hr.mono (by decide)) (by rfl) T.g_Restarting pF ?_
    refine fun y2 => ⟨y2, _, rfl, rfl, rfl, _, _, rfl, aw_nil ⟨szl (Nat.le_of_ble_eq_true rfl), ?_⟩⟩
    refine aw_nil ⟨p, qs, _, _, _, rfl, rfl, by omega, by simp, by simp, fun m hm => ?_⟩
    obtain ⟨kd, fk, rfl⟩ : ∃ kd, four kd ∧ m = rO K kd := by
      simp only [List.mem_cons, List.not_mem_nil, or_false] at hm
      rcases hm with rfl | rfl | rfl | rfl
      · exact ⟨.pl, .inl rfl, rfl⟩
      · exact ⟨.md 7, .inr (.inl rfl), rfl⟩
      · exact ⟨.dl [2, 4], .inr (.inr (.inl rfl)), rfl⟩
      · exact ⟨.rs, .inr (.inr (.inr rfl)), rfl⟩
    clear hm
    have gk := four_good fk
    obtain ⟨g, fd, cl, mt, Ok, B0, us, B1, V1⟩ := g_shows (P := P) (w := w) (base := base) T kd
    have R2 : FnR P w K mg base (L2.CX P w) 5 g (spF (F_shows K kd)) := (Ok.raw B0 .nil).imp fun vs H Q E h => by rw [List.append_nil]; exact h
    have R1 : FnR P w K mg base (L2.CX P w) 5 g (spF (F_shows1 K kd)) := (Ok.raw B1 V1).imp fun vs H Q E h => spF_shows1 h
    have no : ∀ {x : D}, Wr 0 (10 ^ 40) x → ∀ {p : Prop} {i : Int}, x = .int i → 0 ≤ i → i ≤ 10 ^ 40 → p := @fun x wx p i e h1 h2 => by
      have z := wx.r
      rw [e] at z
      have z : (decide (0 ≤ i) && decide (i ≤ 10 ^ 40)) = false := z
      rw [decide_eq_true h1, decide_eq_true h2] at z
      cases z
    -- shows
    refine sw_cons (s1_expr (ew_append ?_))
    walk_at "n"
    refine ⟨y, 3, _, rfl, rfl, ?_⟩
    refine ew_h T TB rfl (by rfl) rfl (j := 2) rfl hr still (LamX.lamS_by (sc := scF) (by decide +kernel)) rfl (fun _ _ _ _ _ => rfl) fun A' outer' s' H' Hb E' f c' Ex hr' hte hrg hrd hnu => ?_
    refine ew_methR .same cl mt R2 (hr'.mono (by decide)) pLaF ?_
    walk_at "n"
    refine ⟨isI_k kd (by decide) (by decide), aw_cons ?_⟩
    walk_at "n"
    refine aw_cons ?_
    walk_at "n"
    refine aw_nil ⟨st, fa, rfl, gk, wst.pl, wfa.pl, fun _ => ?_, fun h => by (rw [wst.r] at h; cases h), fun i j e _ i0 i1 _ _ => no wst e i0 i1⟩
    refine hnu st [] wst.sh ?_
    refine ⟨3, _, rfl, szl (Nat.le_of_ble_eq_true rfl), ?_⟩
    refine sw_cons (s1_expr (ew_append ?_))
    walk_at "n"
    refine ⟨y, 3, _, rfl, rfl, ?_⟩
    refine ew_h T TB rfl (by rfl) rfl (j := 2) rfl hr still (LamX.lamS_by (sc := scF) (by decide +kernel)) rfl (fun _ _ _ _ _ => rfl) fun A' outer' s' H' Hb E' f c' Ex hr' hte hrg hrd hnu => ?_
    refine ew_methR .same cl mt R2 (hr'.mono (by decide)) pLaF ?_
    walk_at "n"
    refine ⟨isI_k kd (by decide) (by decide), aw_cons (ew_int (aw_cons ?_))⟩
    walk_at "n"
    refine aw_nil ⟨.int 4, fa, rfl, gk, trivial, wfa.pl, fun h => absurd h (by decide), fun _ _ => ?_, fun i j _ e _ _ j0 j1 => no wfa e j0 j1⟩
    refine hnu fa [] wfa.sh ?_
    refine ⟨3, _, rfl, szl (Nat.le_of_ble_eq_true rfl), ?_⟩
    -- thing
    refine sw_cons (s1_set 8 ndF rfl (.inr rfl) ?_)
    refine ew_call (.none fun _ _ _ => False) (x_pick T) (hr.mono (by decide)) (by rfl) pF (aw_cons ?_)
    walk_at "n"
    refine aw_cons (ew_lst ?_)
    walk_at "x"
    refine ew_dict0 ?_
    walk_at "x"
    refine ⟨p, qs, _, _, _, rfl, rfl, by omega, by simp, by simp, fun th hth => ?_⟩
    obtain ⟨nth, pth⟩ := thing_no (v := th) hth fk
    clear hth
    refine sw_cons (s1_expr (ew_append ?_))
    walk_at "n"
    refine ⟨y, 3, _, rfl, rfl, ?_⟩
    refine ew_h T TB rfl (by rfl) rfl (j := 2) rfl hr still (LamX.lamS_by (sc := scF) (by decide +kernel)) rfl (fun _ _ _ _ _ => rfl) fun A' outer' s' H' Hb E' f c' Ex hr' hte hrg hrd hnu => ?_
    refine ew_meth .same (g_totR T kd) (hr'.mono (by decide)) pLaF ?_
    walk_at "n"
    refine ⟨isI_k kd (by decide) (by decide), aw_cons ?_⟩
    walk_at "n"
    refine aw_nil ⟨th, rfl, gk, pth, nth, ?_⟩
    refine hrd (.str "reading") [] (shn_str (.inr (.inr (.inl rfl)))) ?_
    refine ⟨3, _, rfl, szl (Nat.le_of_ble_eq_true rfl), ?_⟩
    refine sw_cons (s1_expr (ew_append ?_))
    walk_at "n"
    refine ⟨y, 3, _, rfl, rfl, ?_⟩
    refine ew_h T TB rfl (by rfl) rfl (j := 2) rfl hr still (LamX.lamS_by (sc := scF) (by decide +kernel)) rfl (fun _ _ _ _ _ => rfl) fun A' outer' s' H' Hb E' f c' Ex hr' hte hrg hrd hnu => ?_
    refine ew_meth .same (g_btwR T kd) (hr'.mono (by decide)) pLaF ?_
    walk_at "n"
    refine ⟨isI_k kd (by decide) (by decide), aw_cons ?_⟩
    walk_at "n"
    refine aw_cons ?_
    walk_at "n"
    refine aw_nil ⟨th, th, rfl, gk, pth, pth, .inl ⟨nth, ?_⟩⟩
    refine hrd (.str "earlier") [] (shn_str (.inr (.inr (.inr (.inl rfl))))) ?_
    refine ⟨3, _, rfl, szl (Nat.le_of_ble_eq_true rfl), ?_⟩
    refine sw_cons (s1_expr (ew_append ?_))
    walk_at "n"
    refine ⟨y, 3, _, rfl, rfl, ?_⟩
    refine ew_h T TB rfl (by rfl) rfl (j := 2) rfl hr still (LamX.lamS_by (sc := scF) (by decide +kernel)) rfl (fun _ _ _ _ _ => rfl) fun A' outer' s' H' Hb E' f c' Ex hr' hte hrg hrd hnu => ?_
    refine ew_meth .same (g_btwR T kd) (hr'.mono (by decide)) pLaF ?_
    walk_at "n"
    refine ⟨isI_k kd (by decide) (by decide), aw_cons ?_⟩
    refine ew_methR (.none fun _ _ _ => False) cl mt R1 (hr'.mono (by decide)) pF ?_
    walk_at "n"
    refine ⟨isI_k kd (by decide) (by decide), aw_cons (ew_int (aw_nil ?_))⟩
    obtain ⟨f5, p5⟩ := four_five fk
    refine (show F_shows K kd [rO K kd, .int 5, .int 0] _ _ _ from ⟨.int 5, .int 0, rfl, gk, trivial, trivial, fun h => absurd h (by decide), fun _ h => absurd h (by decide), fun i j e1 e2 _ _ _ _ => ?_⟩)
    cases e1
    cases e2
    refine aw_cons ?_
    walk_at "n"
    refine aw_nil ⟨shD kd 5 0, th, rfl, gk, p5, pth, .inr ⟨f5, nth, ?_⟩⟩
    refine hrd (.str "later") [] (shn_str (.inr (.inr (.inr (.inr rfl))))) ?_
    refine ⟨3, _, rfl, szl (Nat.le_of_ble_eq_true rfl), ?_⟩
    show SW (XF P w K mg base c A outer s H E) _ (bodyF 14) ⟨[some (.own p), some (.own y), none, some bd, some fa, some (rO K kd), some od, some st, some th], (p, Cell.pen qs (z0 + 1 + 1 + 1 + 1 + 1 + 1)) :: t1 :: (Pa, Cell.tab qF) :: (y, Cell.lst (nine st fa)) :: cs1⟩ _
    rw [nine_eq]
    refine sw_freeze 3 1 rfl rfl ?_
    have okn := nine_ok wst.ok wfa.ok
    refine sw_cons (s1_set 2 ndF rfl (.inl rfl) (ew_lst ?_))
    walk_at "x"
    refine s1_set 2 ndF rfl (.inl rfl) (ew_bin ?_)
    walk_at "n"
    refine ew_lst (aw_cons (ew_tup (aw_cons (ew_str (aw_cons ?_)))))
    refine ew_repr T.f_repr (aw_cons ?_)
    walk_at "n"
    refine aw_nil (cl_repr hr still wst.sh.1 wst.sh.2.1 wst.sh.2.2.1 wst.sh.2.2.2.1 wst.sh.2.2.2.2 (aw_nil ⟨szl (Nat.le_of_ble_eq_true rfl), aw_cons (ew_tup (aw_cons (ew_str (aw_cons ?_))))⟩))
    refine ew_repr T.f_repr (aw_cons ?_)
    walk_at "n"
    refine aw_nil (cl_repr hr still wfa.sh.1 wfa.sh.2.1 wfa.sh.2.2.1 wfa.sh.2.2.2.1 wfa.sh.2.2.2.2 (aw_nil ⟨szl (Nat.le_of_ble_eq_true rfl), aw_nil ⟨szl (Nat.le_of_ble_eq_true rfl), ?_⟩⟩))
    refine od_cat (szl (Nat.le_of_ble_eq_true rfl)) ?_
    refine sw_cons (s1_ret (ew_cmp ?_))
    walk_at "n"
    refine ew_bin ?_
    walk_at "n"
    refine ew_lst ?_
    walk_at "x"
    refine od_cat (szl (Nat.le_of_ble_eq_true rfl)) ?_
    refine od_eq hr.units okn okn ?_
    show Kk (.bl (D.eqv (.lst (nine2 st fa)) (.lst (nine2 st fa)))) _
    rw [eqv_self okn, show z0 + 1 + 1 + 1 + 1 + 1 + 1 = z0 + 6 by omega]
    exact q
end
end K24
set_option Elab.async false
set_option linter.all false
set_option maxRecDepth 100000
set_option maxHeartbeats 4000000
namespace K24
open PySem PySem.Spec PyProof.Rows L2 Sx
local macro_rules | `(tactic| walk_at "c") => `(tactic| first
  | refine aw_cons ?_ | refine aw_nil ?_
  | refine ew_int ?_ | refine ew_non ?_ | refine ew_bl ?_ | refine ew_str ?_
  | refine ew_bin ?_ | refine ew_cmp ?_ | refine tw_cmp ?_ | refine tw_not ?_ | refine ew_chain ?_ | refine tw_chain ?_ | refine ew_and ?_ | refine ew_or ?_ | refine ew_one ?_ | refine ew_not ?_ | refine ew_neg ?_ | refine ew_if ?_
  | refine tw_w (ww_and ?_) | refine tw_w (ww_or ?_) | refine ww_and ?_ | refine ww_or ?_ | refine ww_and1 ?_ | refine ww_or1 ?_
  | refine tw_val (e := .Call _ _ _ _) ?_ | refine ew_tup ?_ | refine ew_ix ?_ | refine ew_lst ?_
  | refine sw_cons ?_ | refine s1_ret ?_ | refine s1_if ?_ | refine sw_nil ?_ | refine s1_expr ?_
  | refine od_add ?_ | refine od_sub ?_ | refine od_lt ?_ | refine od_le ?_ | refine od_gt ?_ | refine od_ge ?_
  | refine isB ?_ | refine intD ?_ | refine br_t ?_ | refine br_f ?_
  | refine ⟨szl (Nat.le_of_ble_eq_true rfl), ?_⟩)
local macro_rules | `(tactic| walk_at "n") => `(tactic| first
  | refine ew_name 0 rfl (by first | exact .inl rfl | exact .inr (.inl rfl) | exact .inr (.inr rfl)) rfl ?_
  | refine ew_name 1 rfl (by first | exact .inl rfl | exact .inr (.inl rfl) | exact .inr (.inr rfl)) rfl ?_
  | refine ew_name 2 rfl (by first | exact .inl rfl | exact .inr (.inl rfl) | exact .inr (.inr rfl)) rfl ?_
  | refine ew_name 3 rfl (by first | exact .inl rfl | exact .inr (.inl rfl) | exact .inr (.inr rfl)) rfl ?_
  | refine ew_name 4 rfl (by first | exact .inl rfl | exact .inr (.inl rfl) | exact .inr (.inr rfl)) rfl ?_
  | refine ew_name 5 rfl (by first | exact .inl rfl | exact .inr (.inl rfl) | exact .inr (.inr rfl)) rfl ?_
  | refine ew_name 6 rfl (by first | exact .inl rfl | exact .inr (.inl rfl) | exact .inr (.inr rfl)) rfl ?_
  | refine ew_name 7 rfl (by first | exact .inl rfl | exact .inr (.inl rfl) | exact .inr (.inr rfl)) rfl ?_
  | refine ew_name 8 rfl (by first | exact .inl rfl | exact .inr (.inl rfl) | exact .inr (.inr rfl)) rfl ?_
  | refine ew_name 9 rfl (by first | exact .inl rfl | exact .inr (.inl rfl) | exact .inr (.inr rfl)) rfl ?_
  | refine ew_name 10 rfl (by first | exact .inl rfl | exact .inr (.inl rfl) | exact .inr (.inr rfl)) rfl ?_
  | refine ew_name 11 rfl (by first | exact .inl rfl | exact .inr (.inl rfl) | exact .inr (.inr rfl)) rfl ?_
  | refine ew_name 12 rfl (by first | exact .inl rfl | exact .inr (.inl rfl) | exact .inr (.inr rfl)) rfl ?_)
local macro_rules | `(tactic| walk_at "i") => `(tactic| (refine' cl_isi (.ty _) ?a ?b ?_; (case a => constructor); (case b => with_reducible first | exact kit_int_int | exact kit_int_bool | exact kit_bool_int | exact kit_bool_bool | exact kit_NoneType_int | exact kit_str_int | exact kit_list_int | exact kit_tuple_int | exact kit_dict_int | exact kit_tuple_tuple | exact kit_int_tuple | exact kit_NoneType_tuple | exact kit_bool_tuple | exact kit_str_tuple | exact kit_list_tuple | exact kit_dict_tuple)))
local macro_rules | `(tactic| walk_at "l") => `(tactic| first
  | refine ew_isinstance (Tx.f_isinstance (by assumption)) ?_ | refine ew_len (Tx.f_len (by assumption)) ?_ | refine ew_vint (Tx.f_int (by assumption)) ?_ | refine ew_vbool (Tx.f_bool (by assumption)) ?_ | refine ew_vtuple (Tx.f_tuple (by assumption)) ?_ | refine ew_vstr (Tx.f_str (by assumption)) ?_
  | refine ew_gint (Tx.i_MOST_PERIOD (by assumption)) (by rfl) ?_ | refine ew_gint (Tx.i_DIGITS (by assumption)) (by rfl) ?_ | refine ew_gint (Tx.i_FAR (by assumption)) (by rfl) ?_ | refine ew_gint (Tx.i_MOST_MODULUS (by assumption)) (by rfl) ?_ | refine ew_gint (Tx.i_MOST_PERIODS (by assumption)) (by rfl) ?_
  | refine cl_len ?_ | refine cl_lenT ?_ | refine ix_tpl rfl ?_ | refine od_is (by intro _ h; cases h) ?_)
local macro_rules | `(tactic| walk_at "x") => `(tactic| repeat (first | walk_at "c" | walk_at "n" | walk_at "l" | walk_at "i"))
abbrev P1 (K : PySem.W.Frag) : Addr := (He.cT K ("_law_read_right", none)).2
abbrev P2 (K : PySem.W.Frag) : Addr := (He.cT K ("_law_refused_right", none)).2
abbrev P3 (K : PySem.W.Frag) : Addr := (He.cT K ("law", none)).2
def NL : List Str := ["_law_script", "_law_pen_here", "_law_lap", "_law_heard_here"]
theorem ndL : NL.Nodup := by decide +kernel
abbrev scL : Scope := defScope s_law
def qL : Str := (envOfC "law" scL 0 0 .none).qual ++ "<lambda>"
def bodyL (i : Nat) : List Stmt := (defBody s_law).drop i
def ws6 : List Str := ["dials", "2", "3", "4", "5", "6", "7"]
def ws7 : List Str := ["dials", "2", "3", "4", "5", "6", "7", "8"]
theorem ws7_chk : ws7.all (fun z => chkW z && (decide (32 ∉ z.cps.toList) && decide (z.length ≤ 40))) = true := by decide +kernel
theorem wz_ws7 {z : Str} (h : z ∈ ws7) : Wz 40 z := by
  have a := List.all_eq_true.mp ws7_chk z h
  simp only [Bool.and_eq_true, decide_eq_true_eq] at a
  obtain ⟨a1, a2, a3⟩ := a
  exact ⟨(wd_of a1).1, (wd_of a1).2, a2, a3⟩
theorem wks7 : Wks 0 ws7 := ⟨fun z hz => wz_ws7 hz, by simp [ws7], by decide⟩
theorem wks6 : Wks 0 ws6 := ⟨fun z hz => wz_ws7 (by
  simp only [ws6, ws7, List.mem_cons, List.not_mem_nil, or_false] at hz ⊢
  rcases hz with h | h | h | h | h | h | h <;> simp [h]), by simp [ws6], by decide⟩
theorem tx7 : ("dials 2 3 4 5 6 7 8" : Str) = Txt.join " " ws7 := by decide +kernel
theorem tx6 : ("dials 2 3 4 5 6 7" : Str) = Txt.join " " ws6 := by decide +kernel
theorem rg7 : rg ws7 = .inr 7 := by kernel_rfl
theorem rg6 : rg ws6 = .inl (.dl [2, 3, 4, 5, 6, 7]) := by kernel_rfl
theorem lc6 : lcms [2, 3, 4, 5, 6, 7] = 420 := by decide +kernel
section
variable {P : Program} {w : World} {K : PySem.W.Frag} {mg : Str → Option Value} {base : Heap}
abbrev XL (P : Program) (w : World) (K : PySem.W.Frag) (mg : Str → Option Value) (base : Heap) (c : Addr) (A : Around) (outer : List Env) (s : Shared) (H : Hp) (E : XK) : Cx := cxOf CX0 P w K mg base NL "law" scL (He.ga K "law") (.ref c) A outer s H E
variable {c : Addr} {A : Around} {outer : List Env} {s : Shared} {H : Hp} {E : XK} {B : Bs} {p : Addr} {ns : List Int} {k : Kt}
theorem pLaL {A' : Around} {outer' : List Env} {s' : Shared} {H' : Hp} {E' : XK} {scope : Scope} {f c' : Addr} : Passes (L2.CX P w) (LamX.lamCx (XL P w K mg base c A outer s H E) A' outer' s' H' E' scope f c') E' := passes_call (X := LamX.lamCx (XL P w K mg base c A outer s H E) A' outer' s' H' E' scope f c') (takes_of rfl rfl rfl rfl) fun _ _ _ _ h => h
abbrev csL (K : PySem.W.Frag) (p : Addr) (ns : List Int) (z0 : Int) : Cs := (p, Cell.pen ns z0) :: (P1 K, Cell.tab qR) :: (P2 K, Cell.tab qF) :: (P3 K, Cell.tab qL) :: []
theorem l_loop (T : Tx K mg) (px : Px P base) (TB1 : LamX.TabB base mg (He.codeOf K ("_law_read_right", none)) (P1 K)) (TB2 : LamX.TabB base mg (He.codeOf K ("_law_refused_right", none)) (P2 K)) (TB : LamX.TabB base mg c (P3 K)) (hr : Room 12 (XL P w K mg base c A outer s H E).A) (still : (XL P w K mg base c A outer s H E).A.guards = some []) {v : V} (h : ∀ ss', k.rt (.bl true) ss') :
    SW (XL P w K mg base c A outer s H E) B (bodyL 1) ⟨[some (.raw v), some (.own p), none, none], csL K p ns 0⟩ k := by
  refine sw_cons (s1_forR [2] (passes_of rfl) rfl (by rfl) T.f_range (ew_int ?_))
  refine ⟨8, rfl, by omega, fun i s => (i : Int) ≤ 8 ∧ ∃ x2 j, s = ⟨[some (.raw v), some (.own p), x2, none], csL K p ns j⟩ ∧ j ≤ 46 * i, ⟨by omega, none, 0, rfl, by omega⟩, fun i s' hi hI => ?_, fun s' hI => ?_⟩
  · obtain ⟨_, x2, j, rfl, hj⟩ := hI
    refine tg_name 2 ndL rfl (.inl rfl) ?_
    refine sw_cons (s1_if (tw_w (ww_or (tw_not ?_))))
    refine tw_val (e := .Call _ _ _ _) ?_
    refine ew_callG (.none fun _ _ _ => False) (x_right T px TB1) (hr.mono (by decide)) still (by rfl) pF (aw_cons ?_)
    walk_at "n"
    refine aw_nil ⟨p, ns, j, _, rfl, rfl, by omega, fun j1 hj1 => ?_⟩
    refine isB (br_f (ww_or1 (tw_not ?_)))
    refine tw_val (e := .Call _ _ _ _) ?_
    refine ew_callG (.none fun _ _ _ => False) (x_refused T px TB2) (hr.mono (by decide)) still (by rfl) pF (aw_cons ?_)
    walk_at "n"
    refine aw_nil ⟨p, ns, j1, _, _, rfl, rfl, by omega, ?_⟩
    refine isB (br_f (sw_nil (sw_nil ?_)))
    exact ⟨by omega, some (.int (0 + i)), j1 + 6, rfl, by omega⟩
  · obtain ⟨_, x2, j, rfl, hj⟩ := hI
    have ln7 := wks7.len (by decide)
    have ln6 := wks6.len (by decide)
    refine sw_cons (s1_set 3 ndL rfl (.inl rfl) ?_)
    refine ew_h T TB rfl (by rfl) rfl (j := 3) rfl hr still (LamX.lamS_by (sc := scL) (by decide +kernel)) rfl (fun _ _ _ _ _ => rfl) fun A' outer' s' H' Hb E' f c' Ex hr' hte hrg hrd hnu => ?_
    refine ew_cmeth .same T.cm_Register_read.1 T.cm_Register_read.2.1 (r_rread T px) (hr'.mono (by decide)) pLaL ?_
    refine ew_gref T.g_Register (by rfl) ⟨rfl, aw_cons (ew_str ?_)⟩
    refine aw_nil ⟨_, rfl, .inl ⟨_, rfl, by rw [tx7]; omega, by rw [tx7, wks7.split]; exact wks7.wsok (by decide), by rw [tx7, wks7.split]; exact wks7.ne, ?_, ?_⟩⟩
    · rw [tx7, wks7.split, rg7]
      intro kd hk
      cases hk
    · rw [tx7, wks7.split, rg7]
      intro n hn ex
      cases hn
      refine hte (.int 0) (.int (7 : Nat)) ex ?_
      refine sw_cons (s1_ret (ew_and (ew_cmp ?_)))
      refine ew_fld T.c_Dials T.n_Dials_modulus ?_
      refine ew_cmeth (.none fun _ _ _ => False) T.cm_Register_read.1 T.cm_Register_read.2.1 (r_rread T px) (hr.mono (by decide)) pF ?_
      refine ew_gref T.g_Register (by rfl) ⟨rfl, aw_cons (ew_str ?_)⟩
      refine aw_nil ⟨_, rfl, .inl ⟨_, rfl, by rw [tx6]; omega, by rw [tx6, wks6.split]; exact wks6.wsok (by decide), by rw [tx6, wks6.split]; exact wks6.ne, ?_, ?_⟩⟩
      · rw [tx6, wks6.split, rg6]
        intro kd hk
        cases hk
        refine ⟨_, .obj rfl, ew_int (od_eq hr.units rfl rfl ?_)⟩
        unfold dN
        rw [lc6]
        rw [show D.eqv (.int ((420 : Nat) : Int)) (.int 420) = true from rfl]
        refine isB (br_t (ew_one (ew_cmp ?_)))
        walk_at "n"
        refine ew_tup (aw_cons (ew_str (aw_cons (ew_int (aw_cons (ew_int (aw_nil ⟨szl (Nat.le_of_ble_eq_true rfl), ?_⟩)))))))
        refine od_eq hr.units (tx_ok 7) (tx_ok 7) ?_
        have e : D.eqv (.tup [.str "text", .int 0, .int ((7 : Nat) : Int)]) (.tup [.str "text", .int 0, .int 7]) = true := eqv_self (tx_ok 7)
        rw [e]
        exact h _
      · rw [tx6, wks6.split, rg6]
        intro n hn
        cases hn
def spLaw (K : PySem.W.Frag) : Sp := fun vs H Q _ => ∃ (a : Addr) (ns : List Int), vs = [.ref a] ∧ SqL K H a (ns.map V.int) ∧ ns.length ≤ 63 ∧ H (P1 K) = some (.tbl #[]) ∧ H (P2 K) = some (.tbl #[]) ∧ H (P3 K) = some (.tbl #[]) ∧ ∀ H', Q (.bl true) H'
theorem ok_law (T : Tx K mg) (px : Px P base) {fd : FuncData} (F : FunD K "law" "law" (defArgs s_law) (defBody s_law) (defScope s_law) [] [] (He.ga K "law") fd)
    (TB1 : LamX.TabB base mg (He.codeOf K ("_law_read_right", none)) (P1 K)) (TB2 : LamX.TabB base mg (He.codeOf K ("_law_refused_right", none)) (P2 K)) (TB3 : LamX.TabB base mg (He.codeOf K ("law", none)) (P3 K)) : Shw.FnG P w K mg base CX0 13 (He.ga K "law") fd ["_law_script"] (spLaw K) := by
  refine okGT F (N := NL) ⟨rfl, rfl, rfl, ndL, rfl, by decide +kernel, by decide +kernel⟩ (fun vs H Q E h => ?_) TB3 rfl (fun c TB A outer s H vs Q E hr still h => ?_)
  · obtain ⟨_, _, rfl, _⟩ := h
    rfl
  · obtain ⟨a, ns, rfl, sq, hl, t1, t2, t3, q⟩ := h
    refine ⟨_, pss_cons (ps_set (i := 1) ndL rfl (Or.inl rfl) (Dfs.pe_d (d_pen T) (hr.mono (by decide)) (by rfl) (E := E) pass0 (pa_cons (pv 0) pa_nil))) (pss_any (sts := bodyL 1)), ?_⟩
    refine ⟨_, rfl, a, ns, rfl, sq, hl, fun H1 p c0 S1 hp hc R => ?_⟩
    have tab : ∀ b q, H b = some (.tbl #[]) → CellOk H1 (ow (csL K p ns 0)) b (.tab q) := fun b q e => ⟨#[], S1 _ _ e, True.intro, fun pos cv hc => by
      have z : codeAmong pos [] = some cv := hc
      simp [codeAmong] at z⟩
    have ok : CsOk H1 (csL K p ns 0) := ⟨fun b d hm => by
      simp only [csL, List.mem_cons, List.not_mem_nil, or_false, Prod.mk.injEq] at hm
      rcases hm with ⟨rfl, rfl⟩ | ⟨rfl, rfl⟩ | ⟨rfl, rfl⟩ | ⟨rfl, rfl⟩
      · refine ⟨c0, 0, 0, R.at_, R.cells, fun z => ?_, R.len, Int.le_refl _, Int.le_refl _, Int.le_refl _⟩
        simp only [ow, csL, List.map_cons, List.map_nil, List.mem_cons, List.not_mem_nil, or_false] at z
        rcases z with z | z | z | z
        · exact R.ne z
        · exact ne_of_none t1 hc z.symm
        · exact ne_of_none t2 hc z.symm
        · exact ne_of_none t3 hc z.symm
      · exact tab _ _ t1
      · exact tab _ _ t2
      · exact tab _ _ t3, by
      show [p, P1 K, P2 K, P3 K].Nodup
      simp only [List.nodup_cons, List.mem_cons, List.not_mem_nil, or_false, not_or, List.nodup_nil, and_true]
      exact ⟨⟨fun e => ne_of_none t1 hp e.symm, fun e => ne_of_none t2 hp e.symm, fun e => ne_of_none t3 hp e.symm⟩, ⟨T.apart0, T.apart1⟩, T.apart2, id⟩⟩
    refine ⟨_, (l_loop (B := ⟨H1, csL K p ns 0, E, fun _ _ _ => False⟩) (k := { nx := fun _ => False, rt := fun d _ => d = .bl true }) (v := .ref a) T px TB1 TB2 TB hr still fun _ => rfl).p, ⟨rfl, fun i d e => ?_, ok, Ext.refl, fun _ _ _ _ _ _ z => z.elim⟩, fun _ _ _ z => z.elim, fun v d s1 σ1 H2 e sat x r => ?_, fun _ _ _ z => z.elim, fun _ _ _ z => z.elim⟩
    · match i, e with
      | 0, e => cases e; exact ⟨_, rfl, .raw _⟩
      | 1, e => cases e; exact ⟨_, rfl, .own _⟩
      | 2, e => cases e
      | 3, e => cases e
      | n + 4, e => cases e
    · cases e
      cases r
      exact q _
end
end K24
set_option Elab.async false
set_option linter.all false
set_option maxRecDepth 100000
set_option maxHeartbeats 8000000
open PySem PySem.W PySem.Calls PyProof.Rows
theorem PySem.Challenge.cw_gaugeroad_k24_texts_of_registers_holds : PySem.Challenge.rw_gaugeroad_k24_texts_of_registers.Holds := by
  w_on; o_law
  refine HandSHeadRun.head_imp (r := OpenLaw.row PySem.Challenge.rw_gaugeroad_k24_texts_of_registers) (q := view (OpenLaw.row PySem.Challenge.rw_gaugeroad_k24_texts_of_registers).prog [0, 45]) (H := K24.hk) (ob := K24.ob) (M := 8000) (loose := K24.names)
    (d := HandSHeadRun.topDef (OpenLaw.row PySem.Challenge.rw_gaugeroad_k24_texts_of_registers).prog 45) (kwd := []) K24.ob_eq K24.run
    (by kernel_rfl) (by kernel_rfl) (by kernel_rfl) (by rfl) (by first | assumption | decide +kernel) (by decide +kernel) ⟨rfl, rfl, rfl, rfl, rfl, by decide +kernel⟩ ?hw ?hc
  case hw => w_witness2
  case hc =>
    refine Shw.walkG (l := PySem.Challenge.rw_gaugeroad_k24_texts_of_registers) (n := 63) (k := 13) (x := "_law_script") (CX := fun _ => L2.CX0) rfl (by decide) (by kernel_rfl) ⟨rfl, by decide, by decide⟩ ?F (fun _ _ _ _ _ z => z)
    intro w mg fa h Y G hmg0
    obtain ⟨K, KX, c⟩ := Y
    have hmg : mg ("law" : PySem.Str) = some (.ref fa) := by
      have e : (HandSHeadRun.topDef (OpenLaw.row PySem.Challenge.rw_gaugeroad_k24_texts_of_registers).prog 45).name = ("law" : PySem.Str) := by kernel_rfl
      rw [← e]
      exact hmg0
    have T : K24.Tx K mg := ⟨c.x.t.d, c.x.more, c.m, h, KX, G⟩
    have ef : fa = He.ga K "law" := by
      have z := hmg.symm.trans T.g_law
      cases z
      rfl
    subst ef
    obtain ⟨fd, F⟩ := T.q_law
    have m0 : (("_law_read_right", none) : He.Defn) ∈ K24.tf := List.mem_cons_self
    have m1 : (("_law_refused_right", none) : He.Defn) ∈ K24.tf := List.mem_cons_of_mem _ List.mem_cons_self
    have m2 : (("law", none) : He.Defn) ∈ K24.tf := List.mem_cons_of_mem _ (List.mem_cons_of_mem _ List.mem_cons_self)
    refine ⟨K, KX, fd, [He.cT K ("_law_read_right", none), He.cT K ("_law_refused_right", none), He.cT K ("law", none)], K24.spLaw K, ?_⟩
    refine ⟨fun p hp => ?_, fun p hp => ?_, fun p hp => ?_, fun s u => F.bindsA (ps := ["_law_script"]) (fun kV doc pm an cdv ct => Vls.bind1 fun a => rfl) s [u] rfl, fun H a ns hl _ hT hS => ⟨a, ns, rfl, hS, hl, hT _ List.mem_cons_self, hT _ (List.mem_cons_of_mem _ List.mem_cons_self), hT _ (List.mem_cons_of_mem _ (List.mem_cons_of_mem _ List.mem_cons_self)), fun _ => rfl⟩,
      fun base KB NB TB => K24.ok_law T ⟨Hkc.opqB_ok T.opq KB, by decide +kernel, by decide +kernel⟩ F (TB _ List.mem_cons_self) (TB _ (List.mem_cons_of_mem _ List.mem_cons_self)) (TB _ (List.mem_cons_of_mem _ (List.mem_cons_of_mem _ List.mem_cons_self)))⟩
    · simp only [List.mem_cons, List.not_mem_nil, or_false] at hp
      rcases hp with rfl | rfl | rfl
      · exact c.x.empty _ m0
      · exact c.x.empty _ m1
      · exact c.x.empty _ m2
    · simp only [List.mem_cons, List.not_mem_nil, or_false] at hp
      rcases hp with rfl | rfl | rfl
      · exact c.x.out _ m0
      · exact c.x.out _ m1
      · exact c.x.out _ m2
    · simp only [List.mem_cons, List.not_mem_nil, or_false] at hp
      rcases hp with rfl | rfl | rfl
      · exact c.x.hd _ m0
      · exact c.x.hd _ m1
      · exact c.x.hd _ m2
