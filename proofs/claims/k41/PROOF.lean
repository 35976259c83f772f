import PyProof.Rows.All
import Wide.All
import OpenK.AllK
import Wide.FinOn
import HandS.ForMost
import HandS.ForExc
import HandS.Codes
import HandS.Evl
import KE.KExcIs
import HandS.IsInst
import HandS.ExcField
import HandS.ExcInit
import HandS.Defaults
import HandS.HeadHook1
import HandS.HeadHook2
import HandS.Lambda
import HandS.EndBits
import HandS.EndTab
import PyProof.ReprRoads
import HandS.Star
import HandS.ClsMeth
import HandS.Property
import HandS.Gcd
import HandS.Zip
import KE.KSuper
import HandS.Nested
import HandS.HeadHook4
import HandS.HeadWalk
import PyProof.InstNe
import KE.KOpsOwn
import KE.KOwnIter
import HandS.ExcValue
import PyProof.TupleIter
import PyProof.WalksMore
import HandS.ExcOwn
import PySem.Challenge.RW_gaugeroad_k41_stores_refuse_looks_and_bo
import KE.KStateDown
import Lean
import HandS.Head0
import HandS.Head1
import HandS.Head2
import HandS.Head3
import HandS.HeadEnd
import HandS.Wide
import KE.GoesMore
import HandS.Walk
import PyProof.EnumMake
import HandS.Dict
import HandS.TryOnly
import HandS.Conv
import HandS.Text
import HandS.Iter
import HandS.FStr
import HandS.Steps
import KE.KCallOwn
import HandS.More
import HandS.Style
import KE.KMathG
import KE.DatumOrd
import KE.KTupSum
import OpenK.KMeth
import HandS.List
import HandS.TupAny
import KE.KItemsList
import KE.KDictZip
import HandS.ListItems
import HandS.MapObj
import HandS.MakeKw
import HandS.MakeKwOnly
import PyProof.ReprLen
import PyProof.FitsInt
set_option Elab.async false
set_option linter.all false
set_option maxRecDepth 100000
set_option maxHeartbeats 2000000
namespace Pre
open PySem PySem.Spec PyProof.Rows L2
/-- all but what stands at p is kept -/
def But (p : Addr) (H H' : Hp) : Prop := ∀ b o, b ≠ p → H b = some o → H' b = some o
theorem But.refl (p : Addr) (H : Hp) : But p H H := fun _ _ _ h => h
theorem But.trans {p : Addr} {H H1 H2 : Hp} (a : But p H H1) (b : But p H1 H2) : But p H H2 := fun c o n h => b c o n (a c o n h)
theorem But.of {p : Addr} {H H1 : Hp} (a : Same H H1) : But p H H1 := fun c o _ h => a c o h
theorem But.at_ {p : Addr} {H : Hp} {o : HO} : But p H (upd H p o) := fun c u n h => by
  rw [upd_ne n]
  exact h
theorem But.new {p q : Addr} {H H1 : Hp} {o : HO} (a : But p H H1) (n : H1 q = none) : But p H (upd H1 q o) := fun c u z h => by
  have h1 := a c u z h
  rw [upd_ne (ne_of_none h1 n)]
  exact h1
theorem But.set {p : Addr} {H H1 : Hp} {o : HO} (a : But p H H1) : But p H (upd H1 p o) := fun c u z h => by
  rw [upd_ne z]
  exact a c u z h
theorem Same.new {q : Addr} {H H1 : Hp} {o : HO} (a : Same H H1) (n : H1 q = none) : Same H (upd H1 q o) := fun c u h => by
  have h1 := a c u h
  rw [upd_ne (ne_of_none h1 n)]
  exact h1
theorem Same.upd {q : Addr} {H : Hp} {o : HO} (n : H q = none) : Same H (L2.upd H q o) := fun c u h => by
  rw [upd_ne (ne_of_none h n)]
  exact h
/-! data -/
theorem dp_ints {K : PySem.W.Frag} {H : Hp} : ∀ ns : List Int, DpAll K H (ns.map V.int) (ns.map PyData.int)
  | [] => .nil
  | n :: r => .cons (.int n) (dp_ints r)
theorem canLay_ints : ∀ ns : List Int, PyData.canLayAll0 (ns.map PyData.int) = true
  | [] => by decide
  | n :: r => by
    have h := canLay_ints r
    simp only [List.map_cons, PyData.canLayAll0, PyData.canLay0, Bool.true_and]
    exact h
theorem depth_ints : ∀ ns : List Int, PyData.depthAll (ns.map PyData.int) ≤ 1
  | [] => by decide
  | n :: r => by
    have h := depth_ints r
    simp only [List.map_cons, PyData.depthAll, PyData.depth, Nat.max_def]
    split <;> omega
theorem shaped_ints (ns : List Int) : SeqAt.shaped (.list (ns.map PyData.int)) = true := by
  unfold SeqAt.shaped
  have h := depth_ints ns
  have h2 := canLay_ints ns
  have e1 : PyData.canLay0 (.list (ns.map PyData.int)) = true := by simp only [PyData.canLay0]; exact h2
  have e2 : PyData.depth (.list (ns.map PyData.int)) ≤ 64 := by simp only [PyData.depth]; omega
  rw [e1, decide_eq_true e2]
  rfl
theorem eqv_nil (ns : List Int) : PyData.eqv (.list (ns.map PyData.int)) (.list []) = ns.isEmpty := by
  cases ns with
  | nil => simp [PyData.eqv, PyData.eqvAll]
  | cons y r => simp [PyData.eqv, PyData.eqvAll]
end Pre
set_option Elab.async false
set_option linter.all false
set_option maxRecDepth 100000
set_option maxHeartbeats 2000000
/-! An error that a clause caught and a name keeps: tracked behind the try, asked for its class, read. -/
namespace Kept
open PySem PySem.Spec PyProof.Rows L2

/-- at a: an error of the class cls, its own dict at d -/
def errO (a : Addr) (cls : Value) (d : Option Addr) : HO :=
  .ext fun h => ∃ (ob : Obj) (fl : Array Value), h.get? a = some ob ∧ Zc cls d ob ∧ ob.data = .fields fl

theorem errO_get {P : Program} {w : World} {H : Hp} {h : Heap} {a : Addr} {cls : Value} {d : Option Addr}
    (ok : HOk P w H h) (e : H a = some (errO a cls d)) :
    ∃ (ob : Obj) (fl : Array Value), h.get? a = some ob ∧ Zc cls d ob ∧ ob.data = .fields fl := by
  have z : ObjOk P w H h a (.ext fun h => ∃ (ob : Obj) (fl : Array Value), h.get? a = some ob ∧ Zc cls d ob ∧ ob.data = .fields fl) := ok a _ e
  exact z.1

section
variable {X : Cx} {pins : List (Addr × Obj)} {σ : L2.St} {H : Hp} {s : Shared} {a : Addr} {cls : Value} {d : Option Addr} {ob : Obj} {fl : Array Value}
/-- an untracked object that was made behind the def's entry comes to be tracked -/
theorem track (I : Inv X pins σ H s) (hx : X.ex = []) (new : X.s_0.heap.get? a = none) (at_ : s.heap.get? a = some ob)
    (un : H a = none) (nl : a ≠ X.env.locals) (np : ∀ p ∈ X.pn ++ pins, p.1 ≠ a) (hz : Zc cls d ob) (hf : ob.data = .fields fl) :
    Inv X pins σ (upd H a (errO a cls d)) s := by
  have away : ∀ {b : Addr} {o : HO}, H b = some o → upd H a (errO a cls d) b = some o := fun {b o} e => by
    rw [upd_ne (fun q => by rw [q, un] at e; cases e)]
    exact e
  refine ⟨I.ok, I.os, I.bare, ⟨I.base.keep, I.base.slot, ?_, I.base.there, ?_, ?_, ?_⟩, I.loc, I.cell, ?_, ?_, ?_, ?_, I.len⟩
  · intro b o e n q
    rw [upd_ne (fun z => by rw [z, new] at e; cases e)]
    exact I.base.free b o e n q
  · exact fun b xs e => away (I.base.tups b xs e)
  · exact fun b o u e => away (I.base.frzs b o u e)
  · intro b ps e
    obtain ⟨m, z⟩ := I.base.tbls b ps e
    exact ⟨m, away z⟩
  · rw [upd_ne nl.symm]
    exact I.free
  · intro x c e
    have nc : c ≠ a := fun z => by
      obtain ⟨v, o, ho, hd⟩ := I.cell x c e
      rw [z, at_] at ho
      cases ho
      rw [hf] at hd
      cases hd
    rw [upd_ne nc]
    exact I.freeC x c e
  · intro p hp
    obtain ⟨e1, e2, e3, e4, e5⟩ := I.pin p hp
    refine ⟨e1, ?_, e3, e4, e5⟩
    rw [upd_ne (np p hp)]
    exact e2
  · intro b o e
    by_cases hb : b = a
    · subst hb
      rw [upd_same] at e
      cases e
      refine ⟨⟨ob, fl, at_, hz, hf⟩, ⟨ob, at_⟩, ?_⟩
      rintro h1 h2 ⟨o1, f1, g1, g2, g3⟩ st
      exact ⟨o1, f1, st _ g1, g2, g3⟩
    · rw [upd_ne hb] at e
      exact (I.hok b o e).stay (fun _ _ _ q => q) (fun _ q => away q) (fun _ _ q => away q)
end

/-- what 'except x as n' wishes of an error of the body, the error being tracked behind the suite; slot i is n's -/
def wKept (K : PySem.W.Frag) (c : Value) (i : Nat) (ts : Addr → Value → Option Addr → TS) (Wo : WX) (D : Ends) : WX := fun cls d σ H =>
  ∃ b, PySem.W.exmOne K cls c = some b ∧
    (b = true → ∀ a, H a = none → ts a cls d
      { nx := fun σ' H' => D.nx (σ'.set i none) (upd H' a (errO a cls d)), rt := fun v H' => D.rt v (upd H' a (errO a cls d)),
        bk := fun σ' H' => D.bk (σ'.set i none) (upd H' a (errO a cls d)), ct := fun σ' H' => D.ct (σ'.set i none) (upd H' a (errO a cls d)) }
      (σ.set i (some (.ref a))) H) ∧
    (b = false → Wo cls d σ H)

section
variable {X : Cx} {x n : Str} {c : Value} {i : Nat} {body suite : List Stmt} {b0 : Stmt} {np pos pos' : Pos} {tb : WX → TS} {ts : Addr → Value → Option Addr → TS} {Wo : WX}
theorem ps_try_kept (hs : X.stack = X.env :: X.outer) (hf : X.env.frame = some X.env.locals) (hex : X.ex = []) (hN : X.N.Nodup) (hi : X.N[i]? = some n)
    (hln : X.env.kindOf n = some .local) (hc : Names X x c) (tk : Takes X Wo)
    (hb : ∀ (W : WX) (pn : List (Addr × Obj)) (xe : Value → Shared → Prop), Takes (X.tr pn xe) W →
      PassesOwn (model X.prog X.w) X.A X.env xe → PSs (X.tr pn xe) body (tb W))
    (hsu : ∀ (a : Addr) (oe : Obj) (cls : Value) (d : Option Addr) (pn : List (Addr × Obj)), Zc cls d oe → (∃ vs, oe.data = .fields vs) →
      PSs (X.suite a ((a, oe) :: pn)) (b0 :: suite) (ts a cls d)) :
    PS X (.Try body [.ExceptHandler (some (.Name x np)) (some n) (b0 :: suite) pos'] [] [] pos)
      (fun D σ H => tb (wKept X.K c i ts Wo D) D σ H) := by
  refine ⟨fun pins s σ H D I0 h0 => ?_⟩
  have fr0 : X.A.frames = some (X.env :: X.outer) := by
    rw [I0.ok.frames, hs]
  refine wpAny_Try_except (wpAny_mono ((hb (wKept X.K c i ts Wo D) (X.pn ++ pins)
    (fun e s1 => wpAny (model X.prog X.w) X.A (noteFrame e X.env) (fun _ s2 => wpAny (model X.prog X.w) X.A (setFlight e none)
      (fun _ s3 => wpAny (model X.prog X.w) X.A (handleBy e X.env [.ExceptHandler (some (.Name x np)) (some n) (b0 :: suite) pos'])
        (SP X pins D) X.xe s3) X.xe s2) X.xe s1) ?_ PassesOwn.looking).run [] s σ H D (I0.toTry _) h0) ?_ fun _ _ z => z)
  · -- the error lands
    rintro u s' ⟨a, B, sI, pq, σ1, H1, cls, d, rfl, J0, ground, ups, sky, una, os1, bare1, yes, em, wy, wn⟩
    have J : Inv X pins σ1 H1 sI := J0.ofTry I0.ok
    have sky1 : Sky B (X.env :: X.outer) a (Zc cls d) X.env.locals s'.heap := by
      rw [← hs]
      exact sky
    show wpAny (model X.prog X.w) X.A (noteFrame (.ref a) X.env) _ _ _
    refine Sky.land Zc.steady fr0 hf sky1 fun hp3 fl3 up3 => ?_
    have J3 : Inv X pins σ1 H1 { s' with heap := hp3 } := J.landed ground fl3.1 (ups.trans up3) os1 bare1
    obtain ⟨o3, v3, at3, z3, f3⟩ := fl3.there
    have out : a ∉ frs (X.env :: X.outer) := fun hm => by
      obtain ⟨_, oq, eq, nf⟩ := fl3.2.2.1.mem hm
      rw [at3] at eq
      cases eq
      exact nf _ f3
    have nl : a ≠ X.env.locals := fun q => out (List.mem_filterMap.mpr ⟨X.env, List.mem_cons_self, by rw [hf, q]⟩)
    have nf : a ∉ X.fs := fun hm => by
      obtain ⟨en, hen, q⟩ := List.mem_filterMap.mp hm
      exact out (List.mem_filterMap.mpr ⟨en, List.mem_cons_of_mem _ hen, q⟩)
    have noI : sI.heap.get? a = none := by
      cases q : sI.heap.get? a with
      | none => rfl
      | some o =>
        have z := ground a o q (by rw [hs]; exact out)
        rw [fl3.2.1] at z
        cases z
    have no0 : X.s_0.heap.get? a = none := by
      cases q : X.s_0.heap.get? a with
      | none => rfl
      | some o =>
        obtain ⟨o', z⟩ := J.base.there a o q (by rw [hex]; simp)
        rw [noI] at z
        cases z
    have npin : ∀ p ∈ X.pn ++ pins, p.1 ≠ a := fun p hp q => by
      have z := (J.pin p hp).1
      rw [q, noI] at z
      cases z
    refine wpAny_handleBy_cons (codeAny_handlers_test ?_) (by intro q; cases q)
    have tyL : PySem.W.Looks (model X.prog X.w) hp3 (typeOf (.ref a)) cls := fun A Q E s k q =>
      wpAny_typeOf_ref (k _ _ at3) (by rw [z3.1]; exact q)
    have S3 := J3.suite at3 f3 una nl nf
    have asked : ∀ {Q : Value → Shared → Prop} {E : Value → Shared → Prop}, Q c { s' with heap := hp3 } →
        wpAny (model X.prog X.w) (X.A.mark (some (.ref a))) (eval (.Name x np) X.env) Q E { s' with heap := hp3 } := by
      intro Q E q
      obtain ⟨g1, g2, g3 | ⟨g3, g4, g5⟩⟩ := hc
      · exact ld_glob (X := X.suite a ((a, o3) :: (X.pn ++ pins))) S3 g1 g3 q g2
      · exact ld_blt (X := X.suite a ((a, o3) :: (X.pn ++ pins))) S3 g1 g3 g4 q g5 g2
    refine asked ((PySem.W.exm_one (M := model X.prog X.w) J3.kIn tyL em).here ?_)
    cases yes with
    | false =>
      show wpAny _ X.A (handleBy (.ref a) X.env []) _ _ _
      refine wpAny_handleBy_nil ?_
      obtain ⟨k1, k2, k3, oq, vq, T, oT, tq, hq, hzq, hdq, h1q, hrq⟩ := id fl3
      unfold PySem.passOn
      refine wpAny_bind (wpAny_field hq hdq h1q ?_)
      rw [if_neg (show ¬ ((Value.ref T == Value.none) = true) from by simp)]
      have last : wpAny (model X.prog X.w) X.A (setFlight (.ref a) X.env.frame)
          (fun _ s4 => wpAny (model X.prog X.w) X.A (throw (.ref a) : Sem Flow) (SP X pins D) X.xe s4) X.xe { s' with heap := hp3 } := by
        rw [hf]
        refine HandSPX.setFlight_upZ fl3 fun hp4 held up4 => wpAny_throw (tk _ _ ?_)
        exact ⟨a, B, sI, pins, σ1, H1, cls, d, rfl, J, ground, (ups.trans up3).trans up4,
          .inr (.inr (by rw [hs]; exact held)), una, os1, bare1, wn rfl⟩
      first
        | exact wpAny_bind (wpAny_pure (wpAny_bind last))
        | exact wpAny_bind last
    | true =>
      refine codeAny_handlers_suite_as (HandSPX.lands_againZ fl3 fun hp4 fl4 up4 => ?_)
      have J4 : Inv X pins σ1 H1 { s' with heap := hp4 } := J.landed ground fl4.1 ((ups.trans up3).trans up4) os1 bare1
      obtain ⟨o4, v4, at4, z4, f4⟩ := fl4.there
      have S4 := J4.suite at4 f4 una nl nf
      refine store_ok (X := X.suite a ((a, o4) :: (X.pn ++ pins))) (v := .ref a) S4 hN hi (.inl hln) rfl (fun s5 S5 => ?_) (.inr hln)
      refine wpAny_mono ((hsu a o4 cls d (X.pn ++ pins) z4 ⟨_, f4⟩).run [] s5 _ H1 _ S5 (wy rfl a una)) ?_ (fun _ _ z => False.elim z)
      have over : ∀ {s6 : Shared} {σ6 : L2.St} {H6 : Hp} {Q : Shared → Prop}, Inv (X.suite a ((a, o4) :: (X.pn ++ pins))) [] σ6 H6 s6 →
          (∀ s7, Inv X pins (σ6.set i none) (upd H6 a (errO a cls d)) s7 → Q s7) →
          wpAny (model X.prog X.w) X.A (do bindName X.env n .none; unbindBehindTheSuite X.env n pos') (fun _ s7 => Q s7) X.xe s6 := by
        intro s6 σ6 H6 Q S6 hq
        have P6 : Inv X ((a, o4) :: pins) σ6 H6 s6 := ⟨I0.ok, S6.os, S6.bare, S6.base, S6.loc, S6.cell, S6.free, S6.freeC, fun p hp => by
          refine S6.pin p (List.mem_append_left _ ?_)
          rcases List.mem_append.mp hp with q | q
          · exact List.mem_cons_of_mem _ (List.mem_append_left _ q)
          · rcases List.mem_cons.mp q with q | q
            · rw [q]
              exact List.mem_cons_self
            · exact List.mem_cons_of_mem _ (List.mem_append_right _ q), S6.hok, S6.len⟩
        refine gone_ok P6 hN hi hln fun s7 J7 => hq s7 ?_
        obtain ⟨e1, e2, e3, e4, e5⟩ := J7.pin (a, o4) (List.mem_append_right _ List.mem_cons_self)
        have J8 : Inv X pins (σ6.set i none) H6 s7 := J7.pins_of fun p hp => J7.pin p (List.mem_append_right _ (List.mem_cons_of_mem _ hp))
        exact track J8 hex no0 e1 e2 e3 npin z4 f4
      intro fl6 s6 sp6
      cases fl6 with
      | next =>
        obtain ⟨σ6, H6, S6, q6⟩ := sp6
        exact over S6 fun s7 J7 => ⟨_, _, J7, q6⟩
      | brk =>
        obtain ⟨σ6, H6, S6, q6⟩ := sp6
        exact over S6 fun s7 J7 => ⟨_, _, J7, q6⟩
      | cont =>
        obtain ⟨σ6, H6, S6, q6⟩ := sp6
        exact over S6 fun s7 J7 => ⟨_, _, J7, q6⟩
      | ret u =>
        obtain ⟨v6, σ6, H6, S6, r6, q6⟩ := sp6
        exact over S6 fun s7 J7 => ⟨_, _, _, J7, r6, q6⟩
  · intro fl s1 hsp
    cases fl with
    | next =>
      obtain ⟨σ2, H2, J2, q2⟩ := hsp
      exact wpAny_execs_nil ⟨σ2, H2, J2.ofTry I0.ok, q2⟩
    | brk =>
      obtain ⟨σ2, H2, J2, q2⟩ := hsp
      exact ⟨σ2, H2, J2.ofTry I0.ok, q2⟩
    | cont =>
      obtain ⟨σ2, H2, J2, q2⟩ := hsp
      exact ⟨σ2, H2, J2.ofTry I0.ok, q2⟩
    | ret u =>
      obtain ⟨v2, σ2, H2, J2, r2, q2⟩ := hsp
      exact ⟨v2, σ2, H2, J2.ofTry I0.ok, r2, q2⟩
end
end Kept

namespace Kept
open PySem PySem.Spec PyProof.Rows L2
/-- what the error's class tells, for isinstance and for its fields -/
structure ErrC (K : PySem.W.Frag) (C : Addr) : Prop where
  cl : (PySem.W.clsIn K C).isSome = true
  ga : PySem.W.findIn K (.ref C) "__getattribute__" = some (some (.builtin "BaseException.__getattribute__"))
  gg : PySem.W.findIn K (.ref C) "__getattr__" = some none
  sb : PySem.W.subIn K (.ref C) (.type "BaseException") = some true
  ca : PySem.W.findIn K (.ref C) "__class__" = some (some (.builtin "object.__class__"))
  cg : PySem.W.specialIn K (.builtin "object.__class__") "__get__" = some (some (.builtin "getset_descriptor.__get__"))
  ct : PySem.W.takesIn K (.builtin "object.__class__") = some true
  mo : PySem.W.mroIn K C (.type "object") = some true
  hd : PySem.W.hasDictIn K C = true
def errB (K : PySem.W.Frag) (C : Addr) : Bool :=
  (PySem.W.clsIn K C).isSome &&
  (decide (PySem.W.findIn K (.ref C) "__getattribute__" = some (some (.builtin "BaseException.__getattribute__"))) &&
  (decide (PySem.W.findIn K (.ref C) "__getattr__" = some none) &&
  (decide (PySem.W.subIn K (.ref C) (.type "BaseException") = some true) &&
  (decide (PySem.W.findIn K (.ref C) "__class__" = some (some (.builtin "object.__class__"))) &&
  (decide (PySem.W.specialIn K (.builtin "object.__class__") "__get__" = some (some (.builtin "getset_descriptor.__get__"))) &&
  (decide (PySem.W.takesIn K (.builtin "object.__class__") = some true) &&
  (decide (PySem.W.mroIn K C (.type "object") = some true) && PySem.W.hasDictIn K C)))))))
theorem errB_ok {K : PySem.W.Frag} {C : Addr} (h : errB K C = true) : ErrC K C := by
  unfold errB at h
  simp only [Bool.and_eq_true, decide_eq_true_eq] at h
  obtain ⟨h1, h2, h3, h4, h5, h6, h7, h8, h9⟩ := h
  exact ⟨h1, h2, h3, h4, h5, h6, h7, h8, h9⟩

section
variable {X : Cx} {pins : List (Addr × Obj)} {σ : L2.St} {H : Hp} {s : Shared} {a C : Addr} {d : Option Addr}
theorem errO_inst (I : Inv X pins σ H s) (e : H a = some (errO a (.ref C) d))
    (hd : ∀ dd, d = some dd → ∃ fs, H dd = some (.xd fs)) :
    ∃ ob od, PySem.W.InstAt s.heap a ob C od := by
  obtain ⟨ob, fl, h1, h2, h3⟩ := errO_get I.hok e
  have nc : PySem.W.notCls ob = true := by
    unfold PySem.W.notCls
    rw [h3]
    all_goals rfl
  cases d with
  | none => exact ⟨ob, none, h1, h2.1, nc, by rw [h2.2]; trivial⟩
  | some dd =>
    obtain ⟨fs, hq⟩ := hd dd rfl
    have z : ObjOk X.prog X.w H s.heap dd (.xd fs) := I.hok dd _ hq
    obtain ⟨mA, hns, hr⟩ := z
    obtain ⟨od, ho, _⟩ := lookIn_ns hns
    exact ⟨ob, some od, h1, h2.1, nc, by rw [h2.2]; exact ho⟩
end

/-- isinstance(e, c) of such an error, one class -/
def rIsErr (K : PySem.W.Frag) : List V → Hp → VK → Prop := fun xs H Q =>
  ∃ (a C : Addr) (d : Option Addr) (c : V) (u : Value) (b : Bool), xs = [.ref a, c] ∧ H a = some (errO a (.ref C) d) ∧
    (∀ dd, d = some dd → ∃ fs, H dd = some (.xd fs)) ∧ ErrC K C ∧ ClsV c u ∧ PySem.W.kitOne K (.ref C) u = some b ∧ Q (.bl b) H
/-- isinstance(e, (c1, c2)): the tuple laid just then -/
def rIsErrT (K : PySem.W.Frag) : List V → Hp → VK → Prop := fun xs H Q =>
  ∃ (a C tp : Addr) (d : Option Addr) (cs : List V) (us : List Value) (b : Bool), xs = [.ref a, .ref tp] ∧ H a = some (errO a (.ref C) d) ∧
    (∀ dd, d = some dd → ∃ fs, H dd = some (.xd fs)) ∧ ErrC K C ∧ H tp = some (.tup cs) ∧ Paired ClsV cs us ∧
    PySem.W.kitAny K (.ref C) us = some b ∧ Q (.bl b) H
section
variable {X : Cx}
theorem call_isErr : CallR X (.builtin "isinstance") (rIsErr X.K) := by
  intro pins s σ H xs us Q I r h
  obtain ⟨a, C, d, c, u, b, rfl, ea, hd, T, k, e, q⟩ := h
  obtain ⟨u1, u2, rfl, r1, r2⟩ := vals2 r
  cases (show u1 = Value.ref a from r1)
  have e2 := k.eq r2
  subst e2
  obtain ⟨ob, od, J⟩ := errO_inst I ea hd
  exact PySem.W.kia_one (PySem.W.kitx_exc T.cl T.ga T.gg T.sb T.ca T.cg T.ct T.mo) I.kIn J e (fun z => nomatch z)
    fun tk => ⟨.bl b, H, I.tok tk, rfl, q⟩
theorem call_isErrT : CallR X (.builtin "isinstance") (rIsErrT X.K) := by
  intro pins s σ H xs us Q I r h
  obtain ⟨a, C, tp, d, cs, ws, b, rfl, ea, hd, T, et, k, e, q⟩ := h
  obtain ⟨u1, u2, rfl, r1, r2⟩ := vals2 r
  cases (show u1 = Value.ref a from r1)
  cases (show u2 = Value.ref tp from r2)
  obtain ⟨ob, od, J⟩ := errO_inst I ea hd
  obtain ⟨_, its, rv, o, h1, h2, n, h3⟩ := (show ObjOk X.prog X.w H s.heap tp (.tup cs) from I.hok tp _ et)
  have e3 := ClsV.all k rv
  subst e3
  obtain ⟨oc, oq, dt, sl⟩ := o
  simp only at h2 h3
  subst h2 h3
  exact PySem.W.kia_tup (PySem.W.kitx_exc T.cl T.ga T.gg T.sb T.ca T.cg T.ct T.mo) I.kIn J h1 e (fun z => nomatch z)
    fun tk => ⟨.bl b, H, I.tok tk, rfl, q⟩
end

/-- e.f of such an error -/
def tErrF (K : PySem.W.Frag) (ta : TE) (f : Str) : TE := fun σ H Q => ta σ H fun x H1 =>
  ∃ (a C dd : Addr) (fs : List (Str × V)) (v : V), x = .ref a ∧ H1 a = some (errO a (.ref C) (some dd)) ∧ H1 dd = some (.xd fs) ∧
    ErrC K C ∧ PySem.W.findIn K (.ref C) f = some none ∧ fs.lookup f = some v ∧ Q v H1
theorem pe_errF {X : Cx} {e : Expr} {te : TE} {pos : Pos} {f : Str} (he : PE X e te)
    (hb : attributeBase e f X.env (eval e X.env) = eval e X.env := by rfl) : PE X (.Attribute e f pos) (tErrF X.K te f) := by
  refine ⟨fun pins s σ H Q I h => attr_of hb (thn (he.run pins s σ H _ I h) ?_)⟩
  rintro u s1 ⟨x, H1, I1, rx, a, C, dd, fs, v, rfl, ea, ed, T, no, l, q⟩
  obtain rfl : u = Value.ref a := rx
  obtain ⟨ob, fl, h1, h2, h3⟩ := errO_get I1.hok ea
  have nc : PySem.W.notCls ob = true := by
    unfold PySem.W.notCls
    rw [h3]
    all_goals rfl
  have z : ObjOk X.prog X.w H1 s1.heap dd (.xd fs) := I1.hok dd _ ed
  obtain ⟨mA, hns, hr⟩ := z
  obtain ⟨od, ho, hl⟩ := lookIn_ns hns
  obtain ⟨u, hu, ru⟩ := RelO.some_of (v := v) (o := mA f) (by rw [← l]; exact hr f)
  have J : PySem.W.InstAt s1.heap a ob C (some od) := ⟨h1, h2.1, nc, by rw [h2.2]; exact ho⟩
  exact HandSPX.exc_get I1.kIn J T.ga T.gg T.sb (PySem.W.findObj_own T.hd no rfl (by rw [hl, hu])) (handed_of ru) ⟨v, H1, I1.tok _, ru, q⟩
end Kept
set_option Elab.async false
set_option linter.all false
set_option maxRecDepth 100000
set_option maxHeartbeats 2000000
/-! Errors of the program: classes below an own class below ValueError, with fields set by __init__; raised, and let out. -/
namespace Ers
open PySem PySem.Spec PyProof.Rows L2 Pre Kept

def oexB (K : PySem.W.Frag) (C : Addr) : Bool := (match K.lookup C with
  | some ⟨.type t, _, .cls cd, sl⟩ => decide (t = "type") && (match cd.mro, sl.toList with
    | .ref C' :: bm, [_, _, _, _, some (.builtin n), _] => decide (C' = C) && (decide (n = "ValueError.__new__") && (!cd.hasDel && (cd.hasDict && PySem.HandSPX.refsVE bm)))
    | _, _ => false)
  | _ => false) && (decide (PySem.W.findIn K (.ref C) "__setattr__" = some (some (.builtin "object.__setattr__"))) &&
    (decide (PySem.W.subIn K (.ref C) (.type "BaseException") = some true) && (decide (PySem.W.typeIn K (.ref C) = some (.type "type")) && PySem.W.keepIn K (.ref C))))
theorem oexB_ok {K : PySem.W.Frag} {C : Addr} (h : oexB K C = true) : OexC K C := by
  unfold oexB at h
  simp only [Bool.and_eq_true, decide_eq_true_eq] at h
  obtain ⟨h1, h2, h3, h4, h5⟩ := h
  refine ⟨?_, h2, h3, h4, h5⟩
  cases q : K.lookup C with
  | none =>
    rw [q] at h1
    cases h1
  | some o =>
    obtain ⟨oc, dd, dt, sl⟩ := o
    rw [q] at h1
    cases oc with
    | type t =>
      cases dt with
      | cls cd =>
        simp only [Bool.and_eq_true, decide_eq_true_eq] at h1
        obtain ⟨rfl, h1⟩ := h1
        obtain ⟨nm, bs, mro, ns, qn, hd, sn, sub, ab, col, del⟩ := cd
        dsimp only at h1
        split at h1
        · rename_i C' bm k0 k1 k2 k3 n k5 hs
          simp only [Bool.and_eq_true, decide_eq_true_eq, Bool.not_eq_true'] at h1
          obtain ⟨rfl, rfl, rfl, rfl, h6⟩ := h1
          obtain ⟨l⟩ := sl
          have hs' : l = [k0, k1, k2, k3, some (.builtin "ValueError.__new__"), k5] := hs
          subst hs'
          exact ⟨nm, qn, ns, bs, bm, sn, sub, ab, col, dd, k0, k1, k2, k3, k5, rfl, h6⟩
        · cases h1
      | _ => cases h1
    | _ => cases dt <;> cases h1

/-- __init__ of one field -/
def spIni1 (C : Addr) (f : Str) : Sp := fun vs H Q _ => ∃ (a : Addr) (v : V), vs = [.ref a, v] ∧ H a = some (exo a C none) ∧
  ∀ dx, H dx = none → dx ≠ a → Q .non (upd (upd H dx (exd dx [(f, v)])) a (exo a C (some dx)))
/-- .. of two -/
def spIni2 (C : Addr) (f g : Str) : Sp := fun vs H Q _ => ∃ (a : Addr) (v u : V), vs = [.ref a, v, u] ∧ H a = some (exo a C none) ∧
  ∀ dx, H dx = none → dx ≠ a → Q .non (upd (upd H dx (exd dx [(g, u), (f, v)])) a (exo a C (some dx)))
theorem del_eq {H1 : Hp} {a dx : Addr} {fs : List (Str × V)} (n : H1 a = none) (ne : dx ≠ a) (H2 : Hp)
    (e : ∀ b, b ≠ a → b ≠ dx → H2 b = H1 b) : upd (del H2 a) dx (.xd fs) = upd H1 dx (.xd fs) := by
  funext b
  by_cases h1 : b = dx
  · subst h1
    rw [upd_same, upd_same]
  · rw [upd_ne h1, upd_ne h1]
    by_cases h2 : b = a
    · subst h2
      rw [del_same, n]
    · rw [del_ne h2]
      exact e b h2 h1
/-- a reading that is weaker behind its end -/
theorem pa_weak {X : Cx} {es : List Expr} {t : TA} (h : PA X es t) : PA X es (fun σ H Q => ∃ R : List V → Hp → Prop, t σ H R ∧ ∀ vs H1, R vs H1 → Q vs H1) := ⟨fun pos pins s σ H Q I q => by
  obtain ⟨R, h1, h2⟩ := q
  exact thn (h.run pos pins s σ H R I h1) fun us s1 ⟨vs, H1, I1, r1, q1⟩ => ⟨vs, H1, I1, r1, h2 vs H1 q1⟩⟩
section
variable {X : Cx} {W : WX} {x f g : Str} {C fI : Addr} {fd : FuncData} {e e2 : Expr} {te te2 : TE} {p pos pos' : Pos}
/-- raise x(e), x's __init__ setting one field -/
theorem ps_raise1 (T : OexC X.K C) (iC : PySem.W.findIn X.K (.ref C) "__init__" = some (some (.ref fI))) (tI : PySem.W.typeIn X.K (.ref fI) = some (.type "function"))
    (F : FnOk X.prog X.w X.K X.mg X.base CX0 1 fI fd ["self", f] (spIni1 C f)) (hr : Room 2 X.A) (hb : Binds X.K fd ["self", f] []) (hg : Gl X x) (hm : X.mg x = some (.ref C))
    (hc : X.calm = true) (tk : Takes X W) (he : PE X e te) (hdb : (x == ("__debug__" : Str)) = false := by decide)
    (hst : starEach [e] X.env = (false, eval e X.env) :: starEach [] X.env := by rfl) :
    PS X (.Raise (some (.Call (.Name x p) [e] [] pos)) none pos')
      (fun _ σ H => te σ H fun v H1 => ∀ d, H1 d = none → W (.ref C) (some d) σ (upd H1 d (.xd [(f, v)]))) := by
  have weak : PE X e (fun σ H Q => ∃ R : V → Hp → Prop, te σ H R ∧ ∀ v H1, R v H1 → Q v H1) := ⟨fun pins s σ H Q I h => by
    obtain ⟨R, h1, h2⟩ := h
    exact thn (he.run pins s σ H R I h1) fun u s1 ⟨v, H1, I1, r1, q1⟩ => ⟨v, H1, I1, r1, h2 v H1 q1⟩⟩
  have mk := pmk_oex (dvs := []) (pos := pos) (p := p) T iC tI F hr hb .nil (fun _ _ _ _ _ _ _ z => z.elim) hg hm (pa_cons weak pa_nil (hs := hst)) hdb hst (by rfl)
  refine ⟨fun pins s σ H D I h => (ps_raise (pos := pos') hc tk mk).run pins s σ H D I ?_⟩
  refine ⟨_, h, fun v H1 q => ⟨Nat.le_of_ble_eq_true rfl, fun a na => ⟨a, v, rfl, upd_same, fun dx nd ne => ⟨rfl, dx, [(f, v)], upd_same, ?_, ?_, ?_⟩⟩⟩⟩
  · rw [upd_ne ne, upd_same]
  · rw [upd_ne ne] at nd
    exact nd
  · have nd' : H1 dx = none := by
      rw [upd_ne ne] at nd
      exact nd
    rw [del_eq na ne _ (fun b h1 h2 => by rw [upd_ne h1, upd_ne h2, upd_ne h1])]
    exact q dx nd'
/-- raise x(e, e2) -/
theorem ps_raise2 (T : OexC X.K C) (iC : PySem.W.findIn X.K (.ref C) "__init__" = some (some (.ref fI))) (tI : PySem.W.typeIn X.K (.ref fI) = some (.type "function"))
    (F : FnOk X.prog X.w X.K X.mg X.base CX0 1 fI fd ["self", f, g] (spIni2 C f g)) (hr : Room 2 X.A) (hb : Binds X.K fd ["self", f, g] []) (hg : Gl X x) (hm : X.mg x = some (.ref C))
    (hc : X.calm = true) (tk : Takes X W) (he : PE X e te) (he2 : PE X e2 te2) (hdb : (x == ("__debug__" : Str)) = false := by decide)
    (hst : starEach [e, e2] X.env = (false, eval e X.env) :: starEach [e2] X.env := by rfl) (hst2 : starEach [e2] X.env = (false, eval e2 X.env) :: starEach [] X.env := by rfl)
    (hpl : (backTo pos (starEach [e2] X.env)).any (·.1) = false := by rfl) :
    PS X (.Raise (some (.Call (.Name x p) [e, e2] [] pos)) none pos')
      (fun _ σ H => te σ H fun v H1 => te2 σ H1 fun u H2 => ∀ d, H2 d = none → W (.ref C) (some d) σ (upd H2 d (.xd [(g, u), (f, v)]))) := by
  have mk := pmk_oex (dvs := []) (pos := pos) (p := p) T iC tI F hr hb .nil (fun _ _ _ _ _ _ _ z => z.elim) hg hm (pa_weak (pa_cons he (pa_cons he2 pa_nil (hs := hst2)) (hs := hst))) hdb hst hpl
  refine ⟨fun pins s σ H D I h => (ps_raise (pos := pos') hc tk mk).run pins s σ H D I ?_⟩
  refine ⟨fun vs H2 => match vs with | [v, u] => ∀ d, H2 d = none → W (.ref C) (some d) σ (upd H2 d (.xd [(g, u), (f, v)])) | _ => False, h, fun vs H2 q => ?_⟩
  match vs, q with
  | [v, u], q =>
    refine ⟨Nat.le_of_ble_eq_true rfl, fun a na => ⟨a, v, u, rfl, upd_same, fun dx nd ne => ⟨rfl, dx, [(g, u), (f, v)], upd_same, ?_, ?_, ?_⟩⟩⟩
    · rw [upd_ne ne, upd_same]
    · rw [upd_ne ne] at nd
      exact nd
    · have nd' : H2 dx = none := by
        rw [upd_ne ne] at nd
        exact nd
      rw [del_eq na ne _ (fun b h1 h2 => by rw [upd_ne h1, upd_ne h2, upd_ne h1])]
      exact q dx nd'
end
/-! the defs __init__ themselves -/
section
variable {P : Program} {w : World} {K : PySem.W.Frag} {mg : Str → Option Value} {base : Heap} {fI C : Addr} {fd : FuncData} {qual f g : Str} {params : Arguments} {scope : Scope} {dvs : List V} {kws : List (Str × V)}
  {p1 p2 p3 p4 p5 p6 p7 p8 : Pos}
theorem ok_ini1 (F : FunD K "__init__" qual params [.Assign [.Attribute (.Name "self" p1) f p2] (.Name f p3) p4] scope dvs kws fI fd) (S : FnScope ["self", f] ["self", f] scope) (T : OexC K C)
    (no : PySem.W.findIn K (.ref C) f = some none) (h0 : scope.names.lookup ("self" : Str) = some .local) (h1 : scope.names.lookup f = some .local) (hd : (f == ("__debug__" : Str)) = false) (hcd : (f == ("__classdict__" : Str)) = false) (hsw : ∀ env : Env, swapsWith (.Name f p3) (some (.Attribute (.Name "self" p1) f p2)) p4.line env = pure false) :
    FnOk P w K mg base CX0 1 fI fd ["self", f] (spIni1 C f) := by
  refine F.ok S (fun vs H Q E h => ?_) (fun cdv A outer s H vs Q E hr h => ?_)
  · obtain ⟨_, _, rfl, _⟩ := h
    rfl
  · obtain ⟨a, v, rfl, ea, k⟩ := h
    refine ⟨_, PSs.nox (pss_one (ps_ost (pe_var (i := 0) rfl (.inl h0)) (pe_var (i := 1) rfl (.inl h1) hd hcd) (hsw _))), ?_⟩
    exact ⟨v, rfl, .ref a, rfl, a, C, rfl, T, no, .inl ⟨ea, k⟩⟩
theorem ok_ini2 (F : FunD K "__init__" qual params [.Assign [.Attribute (.Name "self" p1) f p2] (.Name f p3) p4, .Assign [.Attribute (.Name "self" p5) g p6] (.Name g p7) p8] scope dvs kws fI fd)
    (S : FnScope ["self", f, g] ["self", f, g] scope) (T : OexC K C)
    (no : PySem.W.findIn K (.ref C) f = some none) (no2 : PySem.W.findIn K (.ref C) g = some none) (h0 : scope.names.lookup ("self" : Str) = some .local) (h1 : scope.names.lookup f = some .local) (h2 : scope.names.lookup g = some .local)
    (hd : (f == ("__debug__" : Str)) = false) (hcd : (f == ("__classdict__" : Str)) = false) (hd2 : (g == ("__debug__" : Str)) = false) (hcd2 : (g == ("__classdict__" : Str)) = false)
    (hsw : ∀ env : Env, swapsWith (.Name f p3) (some (.Attribute (.Name "self" p1) f p2)) p4.line env = pure false) (hsw2 : ∀ env : Env, swapsWith (.Name g p7) (some (.Attribute (.Name "self" p5) g p6)) p8.line env = pure false) :
    FnOk P w K mg base CX0 1 fI fd ["self", f, g] (spIni2 C f g) := by
  refine F.ok S (fun vs H Q E h => ?_) (fun cdv A outer s H vs Q E hr h => ?_)
  · obtain ⟨_, _, _, rfl, _⟩ := h
    rfl
  · obtain ⟨a, v, u, rfl, ea, k⟩ := h
    refine ⟨_, PSs.nox (pss_cons (ps_ost (pe_var (i := 0) rfl (.inl h0)) (pe_var (i := 1) rfl (.inl h1) hd hcd) (hsw _)) (pss_one (ps_ost (pe_var (i := 0) rfl (.inl h0)) (pe_var (i := 2) rfl (.inl h2) hd2 hcd2) (hsw2 _)))), ?_⟩
    refine ⟨v, rfl, .ref a, rfl, a, C, rfl, T, no, .inl ⟨ea, fun dx nd ne => ?_⟩⟩
    refine ⟨u, rfl, .ref a, rfl, a, C, rfl, T, no2, .inr ⟨dx, [(f, v)], upd_same, by rw [upd_ne ne, upd_same], Nat.le_of_ble_eq_true rfl, ?_⟩⟩
    have e : upd (upd (upd H dx (exd dx [(f, v)])) a (exo a C (some dx))) dx (exd dx [(g, u), (f, v)]) = upd (upd H dx (exd dx [(g, u), (f, v)])) a (exo a C (some dx)) := by
      funext b
      by_cases h1 : b = dx
      · subst h1
        rw [upd_same, upd_ne ne, upd_same]
      · rw [upd_ne h1]
        by_cases h2 : b = a
        · subst h2
          rw [upd_same, upd_same]
        · rw [upd_ne h2, upd_ne h1, upd_ne h2, upd_ne h1]
    rw [e]
    exact k dx nd ne
end
end Ers
set_option Elab.async false
set_option linter.all false
set_option maxRecDepth 100000
set_option maxHeartbeats 2000000
/-! Defs that show data (repr): called where nothing is being shown. -/
namespace Shw
open PySem PySem.Spec PyProof.Rows L2
/-- a def that keeps its promise where no repr is under way -/
structure FnG (P : Program) (w : World) (K : PySem.W.Frag) (mg : Str → Option Value) (base : Heap) (CX : CXT) (k : Nat) (f : Addr) (fd : FuncData) (ps : List Str) (sp : Sp) : Prop where
  many : ∀ vs H Q E, sp vs H Q E → vs.length = ps.length
  go : ∀ (A : Around) (up : List Env) (s : Shared) (H : Hp) (args : Args) (us : List Value) (vs : List V) (Q : VK) (E : XK), Room k A → A.guards = some [] →
    Env0 P w K mg base A up s H → BindsTo s fd args (ps.zip us) → Vals vs us → sp vs H Q E → codeAny (model P w) A (.call (.ref f) args) (CR CX up P w H s Q E) s
section
variable {P : Program} {w : World} {K : PySem.W.Frag} {mg : Str → Option Value} {base : Heap} {CX : CXT} {k j : Nat} {f : Addr} {fd : FuncData} {ps : List Str} {sp : Sp}
theorem FnG.of (F : FnOk P w K mg base CX k f fd ps sp) : FnG P w K mg base CX k f fd ps sp :=
  ⟨F.len, fun A up s H args us vs Q E hr _ => F.run A up s H args us vs Q E hr⟩
theorem FnG.mono (F : FnG P w K mg base CX j f fd ps sp) (h : j ≤ k) : FnG P w K mg base CX k f fd ps sp :=
  ⟨F.many, fun A up s H args us vs Q E hr => F.go A up s H args us vs Q E (hr.mono h)⟩
/-- the def by its body, nothing being shown -/
theorem fnG_of {name qual : Str} {params : Arguments} {body : List Stmt} {scope : Scope} {dV kV doc pm cdv ct oc : Value} {an od : Option Addr} {osl : Array (Option Value)} {N : List Str}
    (lk : K.lookup f = some ⟨oc, od, .func (PySem.W.fnOf name qual params body scope dV kV doc pm an cdv ct), osl⟩)
    (hcd : PySem.W.codeIn K cdv qual = true) (S : FnScope N ps scope) (many : ∀ vs H Q E, sp vs H Q E → vs.length = ps.length)
    (walk : ∀ (A : Around) (up : List Env) (s : Shared) (H : Hp) (vs : List V) (Q : VK) (E : XK), Room k (A.deeper (envOfC qual scope s.heap.objs.size f cdv)) →
      (A.deeper (envOfC qual scope s.heap.objs.size f cdv)).guards = some [] → sp vs H Q E →
      ∃ t, PSs (cxOf CX P w K mg base N qual scope f cdv A up s H E) body t ∧ t { nx := fun _ H' => Q .non H', rt := Q } (start N vs) H) :
    FnG P w K mg base CX (k + 1) f (PySem.W.fnOf name qual params body scope dV kV doc pm an cdv ct) ps sp := by
  refine ⟨many, ?_⟩
  intro A up s H args us vs Q E room still e0 bind rv hsp
  have nv := many _ _ _ _ hsp
  have stays : ∀ b o, base.get? b = some o → s.heap.get? b = some o := fun b o e => (e0.bs b o e).1
  have KX := e0.mod.kin.keeps stays
  have places : ∀ y ∈ ps.zip us, scope.names.lookup y.1 = some .local ∨
      (scope.names.lookup y.1 = some .cell ∧ ((cellsFrom (s.heap.objs.size + 1) scope.names []).lookup y.1).isSome = true) := by
    rintro ⟨n, v⟩ hy
    exact (S.par n (List.of_mem_zip hy).1).imp id fun q => ⟨q, PySem.W.cellsFrom_some _ _ _ (.inl q)⟩
  refine codeAny_call_function room.depth (KX _ _ lk) rfl S.co S.gen rfl (PySem.W.codeRec_of KX hcd) (bind _ _ _ _ ?_)
  refine wpAny_newFunctionEnv_cells S.kind places fun env he s1 x => ?_
  subst he
  refine ⟨(e0.mod.nolimit.keeps stays).keeps x.toInCall.keep, codeAny_func ?_⟩
  obtain ⟨t, ht, hq⟩ := walk A up s H vs Q E (room.deeper _) still hsp
  refine wpAny_mono (ht.run [] s1 (start N vs) H _ (inv_start S room.hd e0 nv rv x) hq) ?_ fun _ _ z => z
  intro fl s' out
  cases fl with
  | next =>
    obtain ⟨σ', H', J, q⟩ := out
    exact ⟨V.non, H', J.os, J.bare, J.base, J.hok, rfl, q⟩
  | ret u =>
    obtain ⟨v, σ', H', J, ru, q⟩ := out
    exact ⟨v, H', J.os, J.bare, J.base, J.hok, ru, q⟩
  | brk =>
    obtain ⟨_, _, _, q⟩ := out
    exact q.elim
  | cont =>
    obtain ⟨_, _, _, q⟩ := out
    exact q.elim
theorem okG {x qual : Str} {params : Arguments} {body : List Stmt} {scope : Scope} {dvs : List V} {kws : List (Str × V)} {N : List Str}
    (F : FunD K x qual params body scope dvs kws f fd) (S : FnScope N ps scope) (many : ∀ vs H Q E, sp vs H Q E → vs.length = ps.length)
    (walk : ∀ (cdv : Value) (A : Around) (up : List Env) (s : Shared) (H : Hp) (vs : List V) (Q : VK) (E : XK), Room k (A.deeper (envOfC qual scope s.heap.objs.size f cdv)) →
      (A.deeper (envOfC qual scope s.heap.objs.size f cdv)).guards = some [] → sp vs H Q E →
      ∃ t, PSs (cxOf CX P w K mg base N qual scope f cdv A up s H E) body t ∧ t { nx := fun _ H' => Q .non H', rt := Q } (start N vs) H) :
    FnG P w K mg base CX (k + 1) f fd ps sp := by
  obtain ⟨oc, od, dV, kV, doc, pm, an, cdv, ct, osl, rfl, lk, hcd, _, _⟩ := F.ex
  exact fnG_of lk hcd S many fun A up s H vs Q E hr hg hsp => walk cdv A up s H vs Q E hr hg hsp
end
section
variable {X : Cx} {CX : CXT} {k : Nat} {f : Addr} {fd : FuncData} {ps : List Str} {sp : Sp} {dvs : List V} {ds : List Value} {E : XK}
/-- the callee runs, nothing being shown -/
theorem run_G {pins : List (Addr × Obj)} {σ : L2.St} {H : Hp} {s : Shared} {Q : VK} {us : List Value} {vs : List V} (F : FnG X.prog X.w X.K X.mg X.base CX k f fd ps sp) (hr : Room k X.A)
    (still : X.A.guards = some []) (hb : Binds X.K fd ps ds) (hd : Vals dvs ds) (hx : Passes CX X E) (I : Inv X pins σ H s) (r : Vals vs us) (h : sp (vs ++ dvs) H Q E) :
    wpAny (model X.prog X.w) X.A (call (.ref f) us) (EP X pins σ Q) X.xe s := by
  have both : Vals (vs ++ dvs) (us ++ ds) := r.append hd
  have fits : (us ++ ds).length = ps.length := both.length.symm.trans (F.many _ _ _ _ h)
  refine wpAny_call (codeAny_mono (F.go X.A X.stack s H ⟨us, []⟩ (us ++ ds) (vs ++ dvs) Q E hr still I.env0 (hb s us I.kIn fits) both h) ?_)
  intro out s' hq
  cases out with
  | error e => exact hx pins σ H s e s' I hq
  | ok fl =>
    cases fl with
    | ret u => exact I.after hq
    | next => exact hq.elim
    | brk => exact hq.elim
    | cont => exact hq.elim
theorem pe_callG {x : Str} {p pos : Pos} {e : Expr} {es : List Expr} {t : TA} (F : FnG X.prog X.w X.K X.mg X.base CX k f fd ps sp) (hr : Room k X.A) (still : X.A.guards = some []) (hg : Gl X x)
    (hm : X.mg x = some (.ref f)) (hk : PySem.W.keepIn X.K (.ref f) = true) (hb : Binds X.K fd ps ds) (hd : Vals dvs ds) (hx : Passes CX X E) (ha : PA X (e :: es) t)
    (hdb : (x == ("__debug__" : Str)) = false := by decide) (he : starEach (e :: es) X.env = (false, eval e X.env) :: starEach es X.env := by rfl)
    (hpl : (backTo pos (starEach es X.env)).any (·.1) = false := by rfl) : PE X (.Call (.Name x p) (e :: es) [] pos) (tCall sp dvs E t) := by
  refine ⟨fun pins s σ H Q I h => wpAny_Call_Name_kw (ld_glob I hg hm ?_ hdb)⟩
  refine PySem.W.callWith_K (h₀ := X.base) I.ok.mod.kin hk (thn (ha.run pos pins s σ H _ I h) ?_) he hpl
  rintro us s1 ⟨vs, H1, I1, r, q⟩
  exact ⟨I1.kIn, run_G F hr still hb hd hx I1 r q⟩
end
/-- repr(x), x data without dicts, nothing being shown -/
def rRepr (K : PySem.W.Frag) : List V → Hp → VK → Prop := fun xs H Q =>
  ∃ (x : V) (d : PyData), xs = [x] ∧ Dp K H x d ∧ d.showable = true ∧ d.hasDict = false ∧ d.depth ≤ 60 ∧ d.shown.length ≤ sizeLine ∧ Q (.str d.shown) H
theorem call_repr {X : Cx} {k : Nat} (hr : Room k X.A) (still : X.A.guards = some []) : CallR X (.builtin "repr") (rRepr X.K) := by
  intro pins s σ H xs us Q I r h
  obtain ⟨x, d, rfl, dp, h1, h2, h3, h4, q⟩ := h
  obtain ⟨u, rfl, ru⟩ : ∃ u, us = [u] ∧ RelV x u := by
    cases r with
    | cons a b =>
      cases b
      exact ⟨_, rfl, a⟩
  obtain ⟨as, rd⟩ := Dp.reads I d x u dp ru
  have un := hr.un
  cases dp with
  | non =>
    cases (show u = Value.none from ru)
    refine PySem.P.repr_of_none ⟨.str _, H, I.tok _, ⟨_, rfl⟩, ?_⟩
    rw [PyData.shown_none] at q
    exact q
  | bl b =>
    cases (show u = Value.bool b from ru)
    refine PySem.P.repr_of_bool ⟨.str _, H, I.tok _, ⟨_, rfl⟩, ?_⟩
    rw [PyData.shown_bool] at q
    exact q
  | int i =>
    obtain ⟨t, rfl⟩ := (show ∃ t, u = Value.int i t from ru)
    have small : i.natAbs.log2 < 1920 := by
      simp only [PyData.showable, decide_eq_true_eq] at h1
      exact h1
    refine PySem.P.repr_of_int small ⟨.str _, H, I.tok _, ⟨_, rfl⟩, ?_⟩
    rw [PyData.shown_int] at q
    exact q
  | str y =>
    obtain ⟨t, rfl⟩ := (show ∃ t, u = Value.str y t from ru)
    rw [PyData.shown_str] at q h4
    exact PySem.P.repr_of_str ⟨.str _, H, I.tok _, ⟨_, rfl⟩, q⟩ h4
  | lst sq all_ =>
    cases ru
    exact repr_of_reads' rd h1 (PyData.noDict_hsm h2) still (by omega) (fun _ _ z => z) (fun h' u tk hk => ⟨.str _, H, I.kept hk, ⟨_, rfl⟩, q⟩) h4
  | tup sq all_ =>
    cases ru
    exact repr_of_reads' rd h1 (PyData.noDict_hsm h2) still (by omega) (fun _ _ z => z) (fun h' u tk hk => ⟨.str _, H, I.kept hk, ⟨_, rfl⟩, q⟩) h4
end Shw

/-! ### the end of a law whose defs show data -/
namespace Shw
open PySem PySem.Spec PyProof.Rows L2 LamX
/-- what is tracked at the law's entry: the tables T, empty; the script at a, if the written part does not hold it -/
def atLaw (K : PySem.W.Frag) (T : List Addr) (a : Addr) (ob : Obj) (xs : List V) : Hp := fun b =>
  if b ∈ T then some (.tbl #[]) else if b = a ∧ (K.lookup a).isNone = true then some (.frz ob (.lst xs)) else none
section
variable {K : PySem.W.Frag} {T : List Addr} {a b : Addr} {ob : Obj} {xs : List V} {u : HO}
theorem atLaw_tab (h : b ∈ T) : atLaw K T a ob xs b = some (.tbl #[]) := if_pos h
theorem atLaw_cases (h : atLaw K T a ob xs b = some u) : (b ∈ T ∧ u = .tbl #[]) ∨ (b ∉ T ∧ b = a ∧ K.lookup a = none ∧ u = .frz ob (.lst xs)) := by
  unfold atLaw at h
  by_cases h1 : b ∈ T
  · rw [if_pos h1] at h
    exact .inl ⟨h1, (Option.some.inj h).symm⟩
  · rw [if_neg h1] at h
    by_cases h2 : b = a ∧ (K.lookup a).isNone = true
    · rw [if_pos h2] at h
      exact .inr ⟨h1, h2.1, Option.isNone_iff_eq_none.mp h2.2, (Option.some.inj h).symm⟩
    · rw [if_neg h2] at h
      cases h
end
theorem endG {P : Program} {w : World} {K : PySem.W.Frag} {mg mb : Str → Option Value} {CX : CXT} {k : Nat} {fa a : Addr} {cs : List (Addr × Addr)} {fd : FuncData} {x : Str} {sp : Sp} {s1 : Shared} {vs : List Value} {ns : List Int}
    (KX : K.In s1.heap) (hns : s1.heap.Ns mainGlobals mg) (hb : s1.heap.Ns builtinsNs mb) (hbb : ∀ y : Str, y ≠ "__name__" → mb y = bootBuiltins y) (hlim : s1.heap.NoLimit) (hg : s1.gens = #[])
    (hT : ∀ p ∈ cs, s1.heap.get? p.2 = some { cls := .none, data := .fields #[] }) (nT : ∀ p ∈ cs, K.lookup p.2 = none) (hC : ∀ p ∈ cs, PySem.W.codeHdIn K p.1 p.2 = true)
    (hbm : ∃ (bm : Addr) (ob : Obj), mg "__builtins__" = some (.ref bm) ∧ bm ≠ builtinsNs ∧ s1.heap.get? bm = some ob ∧ ob.cls = .type "module" ∧ ob.dict = some builtinsNs ∧ ob.data = .plain)
    (ha : s1.heap.get? a = some { cls := .type "list", data := .seq vs.toArray }) (hi : IntsAre vs ns) (hl : ns.length ≤ sizeLine) (hr : Room k callerA)
    (F : ∀ base : Heap, K.In base → base.Ns mainGlobals mg → (∀ p ∈ cs, TabB base mg p.1 p.2) → FnG P w K mg base CX k fa fd [x] sp)
    (hbind : ∀ (s : Shared) (u : Value), BindsTo s fd ⟨[u], []⟩ [(x, u)])
    (hsp : ∀ H : Hp, (∀ p ∈ cs, H p.2 = some (.tbl #[])) → SqL K H a (ns.map V.int) → sp [.ref a] H (fun v _ => v = .bl true) fun _ _ _ => False)
    (hCX : ∀ H e s', CX [] H s1 (fun _ _ _ => False) e s' → False) :
    codeAny (model P w) callerA (.call (.ref fa) ⟨[.ref a], []⟩) (fun r s' => r = .ok (.ret (.bool true)) ∧ OldK s1.heap s'.heap ∧ s'.os = s1.os ∧ AllBare s'.gens) s1 := by
  let T := cs.map (·.2)
  let H := atLaw K T a { cls := .type "list", data := .seq vs.toArray } (ns.map V.int)
  have tabs : ∀ b ∈ T, s1.heap.get? b = some { cls := .none, data := .fields #[] } := fun b m => by
    obtain ⟨p, hp, rfl⟩ := List.mem_map.mp m
    exact hT p hp
  have tabK : ∀ b ∈ T, K.lookup b = none := fun b m => by
    obtain ⟨p, hp, rfl⟩ := List.mem_map.mp m
    exact nT p hp
  have aT : a ∉ T := fun m => by
    have q := tabs a m
    rw [ha] at q
    exact nomatch congrArg Obj.data (Option.some.inj q)
  have rv : Vals (ns.map V.int) vs := vals_ints hi
  have seen : SqL K H a (ns.map V.int) := by
    cases q : K.lookup a with
    | none =>
      refine .inl (.inr ⟨{ cls := .type "list", data := .seq vs.toArray }, ?_⟩)
      show atLaw K T a { cls := .type "list", data := .seq vs.toArray } (ns.map V.int) a = _
      unfold atLaw
      rw [if_neg aT, if_pos ⟨rfl, by rw [q]; rfl⟩]
    | some o =>
      have e := KX a o q
      rw [ha] at e
      cases e
      refine .inr ⟨_, vs.toArray, _, q, rfl, rfl, rfl, ?_, by simpa using rv⟩
      rw [List.size_toArray, hi.length]
      exact hl
  have ok : HOk P w H s1.heap := fun b u z => by
    rcases atLaw_cases z with ⟨m, rfl⟩ | ⟨_, rfl, _, rfl⟩
    · exact tabs b m
    · exact ⟨ha, by rw [List.length_map]; exact hl, vs, _, rv, ha⟩
  have stay : ∀ {b : Addr} {o : Obj}, s1.heap.get? b = some o → (∀ l n, o.data ≠ .seq l n) → o.data ≠ .fields #[] → (hidT s1.heap H).get? b = some o := fun {b o} e h1 h2 => by
    refine hidT_get e ?_
    cases q : H b with
    | none => rfl
    | some u =>
      rcases atLaw_cases q with ⟨m, _⟩ | ⟨_, rfl, _, _⟩
      · rw [tabs b m] at e
        cases e
        exact absurd rfl h2
      · rw [ha] at e
        cases e
        exact absurd rfl (h1 _ _)
  have nss : ∀ {b : Addr} {m : Str → Option Value}, s1.heap.Ns b m → (hidT s1.heap H).Ns b m := by
    rintro b m ⟨o, es, ep, e, d, r⟩
    exact ⟨o, es, ep, stay e (fun l n z => by rw [d] at z; cases z) (fun z => by rw [d] at z; cases z), d, r⟩
  have KB : K.In (hidT s1.heap H) := fun b o e => by
    refine hidT_get (KX b o e) ?_
    cases q : H b with
    | none => rfl
    | some u =>
      rcases atLaw_cases q with ⟨m, _⟩ | ⟨_, rfl, n, _⟩
      · rw [tabK b m] at e
        cases e
      · rw [n] at e
        cases e
  have MB : L2.Mod K mg (hidT s1.heap H) := ⟨KB, nss hns, ⟨mb, nss hb, hbb⟩, by
    obtain ⟨mc, z1, z2⟩ := hlim
    exact ⟨mc, nss z1, z2⟩⟩
  have notDict : ∀ {b : Addr} {m : Str → Option Value} {o : Obj}, s1.heap.Ns b m → s1.heap.get? b = some o → ∃ es ep, o.data = .dict es ep := by
    rintro b m o ⟨o', es, ep, e, d, _⟩ z
    rw [z] at e
    cases e
    exact ⟨es, ep, d⟩
  have TB : ∀ p ∈ cs, TabB (hidT s1.heap H) mg p.1 p.2 := fun p hp => by
    have gP : mainGlobals ≠ p.2 := fun z => by
      obtain ⟨es, ep, q⟩ := notDict hns (z ▸ hT p hp)
      cases q
    obtain ⟨bm, ob, b1, b2, b3, b4, b5, b6⟩ := hbm
    refine ⟨PySem.W.codeHd_of_K KB (hC p hp), ⟨bm, ob, b1, b2, fun z => ?_, fun z => ?_, stay b3 (fun l n z => by rw [b6] at z; cases z) (fun z => by rw [b6] at z; cases z), b4, b5, b6⟩, gP⟩
    · obtain ⟨es, ep, q⟩ := notDict hns (z ▸ b3)
      rw [b6] at q
      cases q
    · have q := hT p hp
      rw [← z, b3] at q
      cases q
      cases b6
  have e0 : Env0 P w K mg (hidT s1.heap H) callerA [] s1 H :=
    ⟨rfl, MB, fun b o e => of_hidT e, Nat.le_of_eq (hidT_size _ _), trivial, fun b hb => absurd (show b ∈ ([] : List Addr) from hb) (by simp), ok, .of_eq hg⟩
  have tracked : ∀ p ∈ cs, H p.2 = some (.tbl #[]) := fun p hp => atLaw_tab (List.mem_map.mpr ⟨p, hp, rfl⟩)
  refine codeAny_mono ((F _ KB (nss hns) TB).go callerA [] s1 H ⟨[.ref a], []⟩ [.ref a] [.ref a] _ _ hr rfl e0 (hbind s1 (.ref a)) (.cons rfl .nil) (hsp H tracked seen)) ?_
  intro r s' out
  cases r with
  | error e => exact (hCX H e s' out).elim
  | ok fl =>
    cases fl with
    | next => exact False.elim out
    | brk => exact False.elim out
    | cont => exact False.elim out
    | ret u =>
      obtain ⟨v, H', os', bare, un, ok', ru, ev⟩ := out
      cases (show v = .bl true from ev)
      cases (show u = Value.bool true from ru)
      refine ⟨rfl, ⟨fun b o e => ?_, fun b o e => ?_⟩, os', bare⟩
      · by_cases m : b ∈ T
        · obtain ⟨p, hp, rfl⟩ := List.mem_map.mp m
          rw [hT p hp] at e
          cases e
          obtain ⟨more, z⟩ := un.tbls p.2 #[] (tracked p hp)
          have z2 : s'.heap.get? p.2 = some { cls := .none, data := .fields (#[] ++ more) } := ok' p.2 _ z
          exact .inr (.inl ⟨((PySem.W.codeHd_of_K KX (hC p hp)).tab (hT p hp)).isCodeTable, rfl, #[], more, rfl, z2⟩)
        · cases q : H b with
          | none => exact .inl (un.keep b o e q (by simp [frs]) (by simp))
          | some u =>
            rcases atLaw_cases q with ⟨m', _⟩ | ⟨_, rfl, _, rfl⟩
            · exact absurd m' m
            · obtain ⟨z, _⟩ := ok' b _ (un.frzs b _ _ q)
              rw [ha] at e
              cases e
              exact .inl z
      · obtain ⟨o', z⟩ := un.there b o e (by simp)
        exact ⟨o', z⟩
end Shw

namespace Shw
open PySem PySem.Spec PyProof.Rows L2 LamX
/-- what is known of the law's def at the heap h behind the head -/
structure LawG (l : PySem.W.OpenLaw) (w : World) (K : PySem.W.Frag) (CX : CXT) (k n : Nat) (x : Str) (mg : Str → Option Value) (fa : Addr) (h : Heap) (fd : FuncData) (cs : List (Addr × Addr)) (sp : Sp) : Prop where
  laid : ∀ p ∈ cs, h.get? p.2 = some { cls := .none, data := .fields #[] }
  out : ∀ p ∈ cs, K.lookup p.2 = none
  code : ∀ p ∈ cs, PySem.W.codeHdIn K p.1 p.2 = true
  binds : ∀ (s : Shared) (u : Value), BindsTo s fd ⟨[u], []⟩ [(x, u)]
  asks : ∀ (H : Hp) (a : Addr) (ns : List Int), ns.length ≤ n → (∀ z ∈ ns, Builtin.Int.intBits z ≤ 1048576) → (∀ p ∈ cs, H p.2 = some (.tbl #[])) → SqL K H a (ns.map V.int) →
    sp [.ref a] H (fun v _ => v = .bl true) fun _ _ _ => False
  keeps : ∀ base : Heap, K.In base → base.Ns mainGlobals mg → (∀ p ∈ cs, TabB base mg p.1 p.2) → FnG l.prog w K mg base CX k fa fd [x] sp
theorem walkG {l : PySem.W.OpenLaw} {n k : Nat} {q : Program} {loose : List Str} {XP : (Str → Option Value) → Heap → Prop} {YP : World → Heap → Prop} {d : DefRec} {CX : World → CXT} {x : Str}
    (hn : l.most = some n) (hn2 : n ≤ sizeLine) (hdf : d.params.defaults = []) (hr : Room k callerA)
    (F : ∀ (w : World) (mg : Str → Option Value) (fa : Addr) (h : Heap), YP w h → h.Ns mainGlobals mg → mg d.name = some (.ref fa) →
      ∃ K : PySem.W.Frag, K.In h ∧ ∃ fd cs sp, LawG l w K (CX w) k n x mg fa h fd cs sp)
    (hCX : ∀ (w : World) (H : Hp) (s : Shared) (e : Value) (s' : Shared), CX w [] H s (fun _ _ _ => False) e s' → False) :
    PySem.W.WalkO q loose XP YP l.row.toRowW d [] (fun f vs => PySem.call f vs) := by
  refine Att.attach_callB hn hdf ?_
  intro w s0 s1 mg mb fa o pm cd doc a vs ns G Y ho hd hcd hmg hobj hints hlen hbits hg
  obtain ⟨K, KX, fd, cs, sp, L⟩ := F w mg fa _ Y G.T.g hmg
  exact endG KX G.T.g G.T.b G.T.builtins G.T.nolimit hg L.laid L.out L.code G.T.bmain hobj hints (Nat.le_trans hlen hn2) hr L.keeps L.binds
    (fun H hH hS => L.asks H a ns hlen hbits hH hS) fun H e s' => hCX w H s1 e s'
end Shw
set_option Elab.async false
set_option linter.all false
set_option maxRecDepth 100000
set_option maxHeartbeats 2000000
namespace Dfs
open PySem PySem.Spec PyProof.Rows L2 Pre
/-- a def of the module, by its name -/
structure Dfn (P : Program) (w : World) (K : PySem.W.Frag) (mg : Str → Option Value) (base : Heap) (CX : CXT) (k : Nat) (x : Str) (ps : List Str) (sp : Sp) : Prop where
  at_ : mg x = some (.ref (He.ga K x))
  kp : PySem.W.keepIn K (.ref (He.ga K x)) = true
  ok : ∃ fd, FnOk P w K mg base CX k (He.ga K x) fd ps sp ∧ Binds K fd ps []
/-- a method of a class of the module -/
structure Mfn (P : Program) (w : World) (K : PySem.W.Frag) (mg : Str → Option Value) (base : Heap) (CX : CXT) (k : Nat) (C : Addr) (m : Str) (ps : List Str) (sp : Sp) : Prop where
  cl : Cls K C
  mt : Meth K C m (He.ma K C m)
  ok : ∃ fd, FnOk P w K mg base CX k (He.ma K C m) fd ps sp ∧ Binds K fd ps []
section
variable {X : Cx} {CX : CXT} {k : Nat} {x m : Str} {C : Addr} {ps : List Str} {sp : Sp} {E : XK} {t : TA} {ta : TE} {e o : Expr} {es : List Expr} {p pos apos : Pos}
theorem pe_d (D : Dfn X.prog X.w X.K X.mg X.base CX k x ps sp) (hr : Room k X.A) (hg : Gl X x) (hx : Passes CX X E) (ha : PA X (e :: es) t) (hdb : (x == ("__debug__" : Str)) = false := by decide)
    (he : starEach (e :: es) X.env = (false, eval e X.env) :: starEach es X.env := by rfl) (hpl : (backTo pos (starEach es X.env)).any (·.1) = false := by rfl) :
    PE X (.Call (.Name x p) (e :: es) [] pos) (tCall sp [] E t) := by
  obtain ⟨fd, F, b⟩ := D.ok
  exact pe_call F hr hg D.at_ D.kp b .nil hx ha hdb he hpl
theorem pe_m {pl : Sem Bool} (he : PE X o ta) (D : Mfn X.prog X.w X.K X.mg X.base CX k C m ps sp) (hr : Room k X.A) (hx : Passes CX X E) (ha : PA X (e :: es) t)
    (hst : starEach (e :: es) X.env = (false, eval e X.env) :: starEach es X.env := by rfl) (hpl : (backTo pos (starEach es X.env)).any (·.1) = false := by rfl)
    (ht : eval (.Call (.Attribute o m apos) (e :: es) [] pos) X.env = (do
      let ov ← eval o X.env
      standAt apos.atName
      let (f, first) ← holding [ov] (getMethod ov m pl)
      callWith pos f first (backTo pos (starEach (e :: es) X.env)) (backToKw pos (keywordEach [] X.env))) := by rfl) :
    PE X (.Call (.Attribute o m apos) (e :: es) [] pos) (tMeth C m sp [] E ta t) := by
  obtain ⟨fd, F, b⟩ := D.ok
  exact pe_meth he D.cl D.mt F hr b .nil hx ha hst hpl ht
theorem pe_m0 {pl : Sem Bool} (he : PE X o ta) (D : Mfn X.prog X.w X.K X.mg X.base CX k C m ps sp) (hr : Room k X.A) (hx : Passes CX X E)
    (ht : eval (.Call (.Attribute o m apos) [] [] pos) X.env = (do
      let ov ← eval o X.env
      standAt apos.atName
      let (f, first) ← holding [ov] (getMethod ov m pl)
      callWith pos f first [] (backToKw pos (keywordEach [] X.env))) := by rfl) :
    PE X (.Call (.Attribute o m apos) [] [] pos) (tMeth C m sp [] E ta tNil) := by
  obtain ⟨fd, F, b⟩ := D.ok
  exact pe_meth0 he D.cl D.mt F hr b .nil hx ht
end
/-- an exception of a callee that this def lets out -/
theorem lets {P : Program} {w : World} {X : Cx} {E : XK} {W : WX} (tk : Takes X W) (h : ∀ cls d σ H, E cls d H → W cls d σ H) (eP : X.prog = P) (ew : X.w = w) : Passes (L2.CX P w) X E := by
  subst eP
  subst ew
  exact passes_call tk h
end Dfs
set_option Elab.async false
set_option linter.all false
set_option maxRecDepth 100000
set_option maxHeartbeats 2000000
/-! super().__init__(..) of an own class, in a def that closes over its class. -/
namespace Sup
open PySem PySem.Spec PyProof.Rows L2 Pre NdefX StX
/-- f's def closes over its class D by the cell cc; its code object stands at c -/
structure FunS (P : Program) (K : PySem.W.Frag) (x qual : Str) (params : Arguments) (body : List Stmt) (scope : Scope) (D cc c f : Addr) (fd : FuncData) : Prop where
  ex : ∃ (oc : Value) (od : Option Addr) (kV doc pm : Value) (an : Option Addr) (ct : Value) (osl : Array (Option Value)),
    fd = PySem.W.fnX x qual params body scope [("__class__", cc)] .none kV doc pm an (.ref c) ct ∧ K.lookup f = some ⟨oc, od, .func fd, osl⟩
  cod : PySem.W.codeIn K (.ref c) qual = true
  file : ∃ (ccl : Value) (cdd : Option Addr) (vs : Array Value) (ccs : Array (Option Value)) (file : Str) (tf : Tok), K.lookup c = some ⟨ccl, cdd, .fields vs, ccs⟩ ∧ vs[2]? = some (.str file tf) ∧ ((P.main.file : Str) == file) = true
  cell : ∃ (cl : Value) (cld : Option Addr) (csl : Array (Option Value)), K.lookup cc = some ⟨cl, cld, .cell (some (.ref D)), csl⟩
  cls : ∃ cd, PySem.W.clsIn K D = some cd
  sub : PySem.W.mroIn K D (.ref D) = some true
  sup : PySem.W.nsIn K mainGlobals "super" = some none
  top : (P.main.scope.names.lookup ("super" : Str)).isSome = false
/-- no class of another party is known in the heap -/
def Opq (h : Heap) : Prop := ∃ o, h.get? cStatics = some o ∧ PySem.W.nsIn [(cStatics, o)] cStatics "thirdparty.any" = some none
theorem Opq.looks {h h' : Heap} {M : Model} {C : Addr} (q : Opq h) (k : ∀ b o, h.get? b = some o → h'.get? b = some o) : PySem.W.Looks M h' (opaqueClassAbove (.ref C)) none := by
  obtain ⟨o, e1, e2⟩ := q
  refine PySem.W.looks_opaque (K := [(cStatics, o)]) (fun a u z => ?_) e2
  have z2 : (match a == cStatics with | true => some o | false => none) = some u := z
  cases hh : (a == cStatics) with
  | true =>
    rw [hh] at z2
    rw [beq_iff_eq.mp hh, ← Option.some.inj z2]
    exact k _ _ e1
  | false =>
    rw [hh] at z2
    cases z2
/-- statements that run as the def's own activation -/
structure PSa (X : Cx) (c : Code) (st : List Stmt) (t : TS) : Prop where
  run : ∀ (pins : List (Addr × Obj)) (s : Shared) (σ : L2.St) (H : Hp) (D : Ends), Inv X pins σ H s → t D σ H → _root_.PySem.wpAt (model X.prog X.w) X.A c (execs st X.env) (SP X pins D) X.xe s
section
variable {X : Cx} {c : Code} {st : Stmt} {sts : List Stmt} {t u : TS}
theorem psa_of (h : PSs X sts t) : PSa X c sts t := ⟨fun pins s σ H D I q => wpAt_of_wpAny (h.run pins s σ H D I q)⟩
theorem psa_cons (h : PS X st t) (r : PSa X c sts u) : PSa X c (st :: sts) (tSeq t u) := ⟨fun pins s σ H D I q => by
  refine ks_wpAt_execs_cons (wpAt_of_wpAny (thn (h.run pins s σ H { D with nx := u D } I q) fun fl s1 z => ?_))
  cases fl with
  | next =>
    obtain ⟨σ1, H1, I1, z1⟩ := z
    exact r.run pins s1 σ1 H1 D I1 z1
  | ret v => exact z
  | brk => exact z
  | cont => exact z⟩
end
/-- super().__init__(..): self stands in the first slot -/
def tSup (C : Addr) (sp : Sp) (E : XK) (t : TA) (u : TS) : TS := fun D σ H => ∃ a dx fs, σ[0]? = some (some (.ref a)) ∧ H a = some (.ins C dx fs) ∧
  t σ H fun vs H1 => H1 a = some (.ins C dx fs) ∧ sp (.ref a :: vs) H1 (fun _ H2 => u D σ H2) E
section
variable {CX CX' : CXT} {P : Program} {w : World} {K : PySem.W.Frag} {mg : Str → Option Value} {base : Heap} {N : List Str} {x qual : Str} {params : Arguments} {body : List Stmt} {scope : Scope} {D cc c f g : Addr} {fd gd : FuncData} {A : Around} {outer : List Env} {s0 : Shared} {H0 : Hp} {E0 E : XK}
  {k : Nat} {ps : List Str} {sp : Sp} {t : TA} {u : TS} {sts : List Stmt} {e : Expr} {p0 p1 p2 p3 p4 : Pos} {ar : Arg} {pl : Sem Bool}
abbrev nfS (x qual : Str) (params : Arguments) (body : List Stmt) (scope : Scope) (cc c : Addr) : NF := ⟨x, qual, params, body, scope, [("__class__", cc)], c⟩
theorem psa_super (S : FunS P K x qual params body scope D cc c f fd) (hopq : Opq base) (hp : (params.posonlyargs ++ params.args).head? = some ar) (hN : N[0]? = some ar.arg)
    (hks : scope.names.lookup ("super" : Str) = some .globalImplicit) (hkc : scope.names.lookup ("__class__" : Str) = some .free) (hka : scope.names.lookup ar.arg = some .local)
    (hm : PySem.W.ks_superIn K D D "__init__" = some (some (.ref g))) (ht : PySem.W.typeIn K (.ref g) = some (.type "function")) (hf : PySem.W.fnIn K g = true)
    (F : FnOk P w K mg base CX' k g gd ps sp) (hr : Room k (A.deeper (envF (nfS x qual params body scope cc c) f s0.heap.objs.size))) (hb : Binds K gd ps [])
    (hx : Passes CX' (ncx CX P w K mg base N (nfS x qual params body scope cc c) f A outer s0 H0 E0) E)
    (ha : PA (ncx CX P w K mg base N (nfS x qual params body scope cc c) f A outer s0 H0 E0) [e] t)
    (r : PSa (ncx CX P w K mg base N (nfS x qual params body scope cc c) f A outer s0 H0 E0) (.func body (envF (nfS x qual params body scope cc c) f s0.heap.objs.size)) sts u)
    (hst : starEach [e] (envF (nfS x qual params body scope cc c) f s0.heap.objs.size) = (false, eval e (envF (nfS x qual params body scope cc c) f s0.heap.objs.size)) :: starEach [] (envF (nfS x qual params body scope cc c) f s0.heap.objs.size) := by rfl)
    (hi : interactive (envF (nfS x qual params body scope cc c) f s0.heap.objs.size) = false := by rfl)
    (hs : swapsWith (.Call (.Attribute (.Call (.Name "super" p0) [] [] p1) "__init__" p2) [e] [] p3) none p4.line (envF (nfS x qual params body scope cc c) f s0.heap.objs.size) = pure false := by rfl)
    (he : eval (.Call (.Attribute (.Call (.Name "super" p0) [] [] p1) "__init__" p2) [e] [] p3) (envF (nfS x qual params body scope cc c) f s0.heap.objs.size) = (do
      let ov ← attributeBase (.Call (.Name "super" p0) [] [] p1) "__init__" (envF (nfS x qual params body scope cc c) f s0.heap.objs.size) (eval (.Call (.Name "super" p0) [] [] p1) (envF (nfS x qual params body scope cc c) f s0.heap.objs.size))
      standAt p2.atName
      let (h, first) ← holding [ov] (getMethod ov "__init__" pl)
      callWith p3 h first (backTo p3 (starEach [e] (envF (nfS x qual params body scope cc c) f s0.heap.objs.size))) []) := by rfl) :
    PSa (ncx CX P w K mg base N (nfS x qual params body scope cc c) f A outer s0 H0 E0) (.func body (envF (nfS x qual params body scope cc c) f s0.heap.objs.size))
      (.Expr (.Call (.Attribute (.Call (.Name "super" p0) [] [] p1) "__init__" p2) [e] [] p3) p4 :: sts) (tSup D sp E t u) := ⟨fun pins s σ H En I q => by
  obtain ⟨a, dx, fs, ea, hins, q⟩ := q
  have KX : K.In s.heap := I.kIn
  obtain ⟨oc, od, kV, doc, pm, an, ct, osl, rfl, lk⟩ := S.ex
  obtain ⟨ccl, cdd, vs, ccs, file, tf, lc, hvs, hfile⟩ := S.file
  obtain ⟨cl, cld, csl, lcc⟩ := S.cell
  obtain ⟨cd, hcd⟩ := S.cls
  obtain ⟨mA, O, _, _, _, _⟩ := ins_get I.hok hins
  have hox := O.obj
  obtain ⟨oD, lD, hD2⟩ : ∃ oD, K.lookup D = some oD ∧ oD.data = .cls cd := by
    unfold PySem.W.clsIn at hcd
    split at hcd
    · rename_i c0 d0 cd' sl ho
      cases hcd
      exact ⟨_, ho, rfl⟩
    · cases hcd
  have hD1 := KX _ _ lD
  have aD : a ≠ D := by
    rintro rfl
    rw [(I.bs _ _ (I.mod.kin _ _ lD)).2] at hins
    cases hins
  obtain ⟨og, lg, hgc⟩ : ∃ og, K.lookup g = some og ∧ og.cls = .type "function" := by
    have ht' : (K.lookup g).map (·.cls) = some (.type "function") := ht
    cases z : K.lookup g with
    | none =>
      rw [z] at ht'
      cases ht'
    | some og =>
      rw [z] at ht'
      exact ⟨og, rfl, Option.some.inj ht'⟩
  have hm2 : PySem.W.alongIn K "__init__" ((cd.mro.dropWhile (· != .ref D)).drop 1) = some (some (.ref g)) := by
    unfold PySem.W.ks_superIn at hm
    rw [hcd] at hm
    exact hm
  obtain ⟨m, hns, hσ⟩ := I.loc
  obtain ⟨ua, rua, la⟩ := hσ 0 ar.arg (.ref a) hN ea (.inl hka)
  obtain rfl : ua = .ref a := rua
  have hself : m ar.arg = some (.ref a) := by
    rcases la with ⟨_, e1⟩ | ⟨e1, _⟩
    · exact e1
    · rw [show (ncx CX P w K mg base N (nfS x qual params body scope cc c) f A outer s0 H0 E0).env.kindOf ar.arg = some .local from hka] at e1
      rcases e1 with e1 | e1 <;> cases e1
  obtain ⟨mb, b1, b2⟩ := I.mod.blt
  have hsup : mg "super" = none := PySem.W.mg_none_of I.mod.kin I.mod.glob S.sup
  have hboot : bootBuiltins "super" = some (.type "super") := by kernel_rfl
  obtain ⟨hh, gs, d, tk, os⟩ := s
  refine ks_wpAt_execs_cons (ks_wpAt_Expr_any (ks_wpAt_MethodCall (ks_wpAt_super_base (env := envF (nfS x qual params body scope cc c) f s0.heap.objs.size) hks hkc (by decide) rfl (KX _ _ lk) rfl hp rfl (KX _ _ lc) rfl hvs hfile S.top ?_) he) hi hs)
  refine PySem.W.ks_loadName_global I.ok.kind hks (Calls.loadGlobal_builtin (env := envF (nfS x qual params body scope cc c) f s0.heap.objs.size) (I.mod.glob.keeps I.bk) hsup (b1.keeps I.bk) ((b2 _ (by decide)).trans hboot) ⟨rfl, ?_⟩)
  refine wpAny_loadName_free I.ok.kind hkc rfl ⟨_, KX _ _ lcc, rfl⟩ ?_
  refine wpAny_loadName_local I.ok.kind hka hns hself ?_
  refine ks_wpAny_isType_cls hD1 hD2 ⟨rfl, ?_⟩
  refine ks_wpAny_call_super hD1 hD2 hox rfl (fun c e => by cases e) (PySem.W.looks_mroIn KX S.sub) (fun h' e1 k1 => ?_)
  have I1 : Inv _ ((hh.objs.size, PySem.W.ks_superObj D a D) :: pins) σ H ⟨h', gs, d, tk, os⟩ := ClX.pin_new (t' := tk) I k1 (Nat.le_refl _) e1 (fun v z => by cases z)
  have KX1 : K.In h' := I1.kIn
  refine ks_wpAny_getMethod_super e1 (hopq.looks I1.bk) (l₀ := cd.mro) (fun A Q E s k q => wpAny_bind ((PySem.W.looks_clsIn KX1 hcd) A _ E s k (wpAny_pure q))) rfl KX1 hm2 (KX1 _ _ lg) hgc aD (by decide) ?_
  have I2 : Inv _ ((h'.objs.size, PySem.W.methodObj (.ref g) (.ref a)) :: (hh.objs.size, PySem.W.ks_superObj D a D) :: pins) σ H ⟨h'.push (PySem.W.methodObj (.ref g) (.ref a)), gs, d, tk + 1, os⟩ :=
    ClX.pin_new (t' := tk + 1) I1 (fun b o z => Heap.get?_push_of_some _ z) (Nat.le_refl _) (Heap.get?_push_at rfl rfl) (fun v z => by cases z)
  show wpAny _ _ (callWith p3 (.ref h'.objs.size) [] (backTo p3 (starEach [e] (envF (nfS x qual params body scope cc c) f s0.heap.objs.size))) []) _ _ _
  have ev := ha.run p3 _ _ σ H _ I2 q
  have ev2 : wpAny (model P w) (A.deeper (envF (nfS x qual params body scope cc c) f s0.heap.objs.size)) (spliced (backTo p3 (starEach [e] (envF (nfS x qual params body scope cc c) f s0.heap.objs.size)))) _ _ _ := ev
  rw [hst] at ev2 ⊢
  refine PySem.W.callWith_of (P := PySem.W.MethP K h'.objs.size g (.ref a)) rfl (PySem.W.keeps_M hf) (Calls.evalArgs_plain (thn ev2 ?_))
  rintro us s1 ⟨vs1, H1, I3, rv, eh, q1⟩
  refine ⟨⟨ClX.pin_at I3, I3.kIn⟩, ?_⟩
  have r2 : Vals (V.ref a :: vs1) (Value.ref a :: us) := .cons rfl rv
  have hl : (Value.ref a :: us).length = ps.length := by
    rw [← r2.length]
    exact F.len _ _ _ _ q1
  have hb2 := hb s1 (Value.ref a :: us) I3.kIn (by rw [List.append_nil]; exact hl)
  rw [List.append_nil] at hb2
  refine wpAny_call (PySem.W.method_call (ClX.pin_at I3) (codeAny_mono (F.run _ _ s1 H1 ⟨Value.ref a :: us, []⟩ (Value.ref a :: us) (V.ref a :: vs1) _ E hr I3.env0 hb2 r2 q1) ?_))
  intro out s2 hq
  cases out with
  | error z => exact hx _ σ H1 s1 z s2 I3 hq
  | ok fl =>
    cases fl with
    | ret v =>
      obtain ⟨y, H2, I4, _, q2⟩ := I3.after hq
      exact r.run pins s2 σ H2 En (ClX.unpin (ClX.unpin I4)) q2
    | next => exact hq.elim
    | brk => exact hq.elim
    | cont => exact hq.elim⟩
theorem fnS_of (S : FunS P K x qual params body scope D cc c f fd) (NS : NScope N ps ["__class__"] scope) (len : ∀ vs H Q E, sp vs H Q E → vs.length = ps.length)
    (walk : ∀ (A : Around) (outer : List Env) (s : Shared) (H : Hp) (vs : List V) (Q : VK) (E : XK), Room k (A.deeper (envF (nfS x qual params body scope cc c) f s.heap.objs.size)) → sp vs H Q E →
      ∃ t, PSa (ncx CX P w K mg base N (nfS x qual params body scope cc c) f A outer s H E) (.func body (envF (nfS x qual params body scope cc c) f s.heap.objs.size)) body t ∧ t { nx := fun _ H' => Q .non H', rt := Q } (startF N vs [none]) H) :
    FnOk P w K mg base CX (k + 1) f fd ps sp := by
  refine ⟨len, fun A outer s H args us vs Q E hr e0 hbind rv hsp => ?_⟩
  have KX : K.In s.heap := e0.mod.kin.keeps fun b o e => (e0.bs b o e).1
  have hl := len _ _ _ _ hsp
  have lim : s.heap.NoLimit := e0.mod.nolimit.keeps fun b o e => (e0.bs b o e).1
  obtain ⟨oc, od, kV, doc, pm, an, ct, osl, rfl, lk⟩ := S.ex
  obtain ⟨cl, cld, csl, lcc⟩ := S.cell
  have one : ∀ (y : Str) (q : Addr), ([("__class__", cc)] : List (Str × Addr)).lookup y = some q → y = "__class__" ∧ q = cc := fun y q z => by
    simp only [List.lookup] at z
    split at z
    · rename_i h1
      exact ⟨beq_iff_eq.mp h1, (Option.some.inj z).symm⟩
    · cases z
  have C : CellsAt [("__class__", cc)] ["__class__"] [none] s.heap H := by
    refine ⟨rfl, fun y q z => ?_, fun y z q e1 e2 => (one _ _ e1).1.trans (one _ _ e2).1.symm, fun i y hy => ?_⟩
    · obtain ⟨rfl, rfl⟩ := one _ _ z
      exact ⟨(e0.bs _ _ (e0.mod.kin _ _ lcc)).2, _, _, KX _ _ lcc, rfl⟩
    · cases i with
      | zero =>
        obtain rfl : "__class__" = y := Option.some.inj hy
        exact ⟨cc, rfl, fun v z => by cases z⟩
      | succ n => cases hy
  refine ks_codeAny_call_defAt (body := body) (binds := ps.zip us) hr.depth (KX _ _ lk) rfl lim (PySem.W.codeRec_of KX S.cod) rfl hbind NS.nocell (fun ⟨n, _⟩ hy => NS.par n (List.of_mem_zip hy).1) (fun h₁ hns kp => ?_) NS.co NS.gen NS.kind
  obtain ⟨t, ht, hq⟩ := walk A outer s H vs Q E (hr.deeper _) hsp
  have I : Inv (ncx CX P w K mg base N (nfS x qual params body scope cc c) f A outer s H E) [] (startF N vs [none]) H { s with heap := h₁, toks := s.toks + (ps.zip us).length } := inv_startN NS hr.hd e0 hl rv C hns kp
  refine ks_wpAt_mono (ht.run [] _ (startF N vs [none]) H _ I hq) (fun fl s' hs => ?_) fun e s' hs => hs
  have fin : ∀ {σ' : L2.St} {H' : Hp} {v : V} {y : Value}, Inv (ncx CX P w K mg base N (nfS x qual params body scope cc c) f A outer s H E) [] σ' H' s' → L2.RelV v y → Q v H' → CE outer P w H s Q y s' :=
    fun {σ' H' v y} J r q => ⟨v, H', J.os, J.bare, J.base, J.hok, r, q⟩
  cases fl with
  | ret y =>
    obtain ⟨v, σ', H', J, r, q⟩ := hs
    exact fin J r q
  | next =>
    obtain ⟨σ', H', J, q⟩ := hs
    exact fin (v := V.non) (y := Value.none) J rfl q
  | brk =>
    obtain ⟨_, _, _, q⟩ := hs
    exact q.elim
  | cont =>
    obtain ⟨_, _, _, q⟩ := hs
    exact q.elim
/-- .. whose last parameter takes what is left over -/
theorem fnS_star {pv : Str} (S : FunS P K x qual params body scope D cc c f fd) (NS : NScope N (ps ++ [pv]) ["__class__"] scope) (hCX : CXUp CX)
    (hbd : ∀ (kV doc pm ct : Value) (an : Option Addr) (us rest : List Value), us.length = ps.length → bindArgs (PySem.W.fnX x qual params body scope [("__class__", cc)] .none kV doc pm an (.ref c) ct) ⟨us ++ rest, []⟩ = (newTuple rest >>= fun t => pure (ps.zip us ++ [(pv, t)])))
    (walk : ∀ (A : Around) (outer : List Env) (s : Shared) (H : Hp) (vs : List V) (Q : VK) (E : XK), Room k (A.deeper (envF (nfS x qual params body scope cc c) f s.heap.objs.size)) → sp vs H Q E →
      ∃ t, PSa (ncx CX P w K mg base N (nfS x qual params body scope cc c) f A outer s H E) (.func body (envF (nfS x qual params body scope cc c) f s.heap.objs.size)) body t ∧ t { nx := fun _ H' => Q .non H', rt := Q } (startF N vs [none]) H) :
    FnR P w K mg base CX (k + 1) f (fun vs H Q E => ∃ ws rest, vs = ws ++ rest ∧ ws.length = ps.length ∧ rest.length ≤ sizeLine ∧ ∀ p, H p = none → sp (ws ++ [V.ref p]) (upd H p (.tup rest)) Q E) := by
  intro A outer s H us vs Q E hr e0 r hsp
  obtain ⟨ws, rest, rfl, hl, hz, hq⟩ := hsp
  obtain ⟨u1, u2, rfl, r1, r2⟩ := vals_split r
  have KX : K.In s.heap := e0.mod.kin.keeps fun b o e => (e0.bs b o e).1
  have hn : H s.heap.objs.size = none := e0.hok.fresh (Nat.le_refl _)
  have hl1 : u1.length = ps.length := by
    rw [← r1.length]
    exact hl
  have hl2 : u2.length ≤ sizeLine := by
    rw [← r2.length]
    exact hz
  obtain ⟨oc, od, kV, doc, pm, an, ct, osl, rfl, lk⟩ := S.ex
  obtain ⟨cl, cld, csl, lcc⟩ := S.cell
  refine codeAny_call_function hr.depth (KX _ _ lk) rfl NS.co NS.gen rfl (PySem.W.codeRec_of KX S.cod) ?_
  rw [hbd kV doc pm ct an u1 u2 hl1]
  refine wpAny_bind (wpAny_newTuple (wpAny_pure ?_) hl2)
  have made : ObjOk P w (upd H s.heap.objs.size (.tup rest)) (s.heap.push ({ cls := .type "tuple", data := .seq u2.toArray } : Obj)) s.heap.objs.size (.tup rest) := ⟨hz, u2, r2, ⟨_, Heap.get?_push_size _ rfl, rfl, _, rfl⟩⟩
  have e2 := env0_laid e0 made
  have un := un_laid (fs := frs outer) (s := s) (o := ({ cls := .type "tuple", data := .seq u2.toArray } : Obj)) (u := .tup rest) hn
  have lim2 : (s.heap.push ({ cls := .type "tuple", data := .seq u2.toArray } : Obj)).NoLimit := e0.mod.nolimit.keeps fun b o e => (e2.bs b o e).1
  have one : ∀ (y : Str) (q : Addr), ([("__class__", cc)] : List (Str × Addr)).lookup y = some q → y = "__class__" ∧ q = cc := fun y q z => by
    simp only [List.lookup] at z
    split at z
    · rename_i h1
      exact ⟨beq_iff_eq.mp h1, (Option.some.inj z).symm⟩
    · cases z
  have CA : CellsAt [("__class__", cc)] ["__class__"] [none] (s.heap.push ({ cls := .type "tuple", data := .seq u2.toArray } : Obj)) (upd H s.heap.objs.size (.tup rest)) := by
    refine ⟨rfl, fun y q z => ?_, fun y z q e1 e2 => (one _ _ e1).1.trans (one _ _ e2).1.symm, fun i y hy => ?_⟩
    · obtain ⟨rfl, rfl⟩ := one _ _ z
      have z2 := e2.bs _ _ (e0.mod.kin _ _ lcc)
      exact ⟨z2.2, _, _, z2.1, rfl⟩
    · cases i with
      | zero =>
        obtain rfl : "__class__" = y := Option.some.inj hy
        exact ⟨cc, rfl, fun v z => by cases z⟩
      | succ n => cases hy
  have rv : Vals (ws ++ [V.ref s.heap.objs.size]) (u1 ++ [Value.ref s.heap.objs.size]) := r1.append (.cons rfl .nil)
  have hlen : (ws ++ [V.ref s.heap.objs.size]).length = (ps ++ [pv]).length := by
    rw [List.length_append, List.length_append, hl]
    rfl
  have hz2 : ps.zip u1 ++ [(pv, Value.ref s.heap.objs.size)] = (ps ++ [pv]).zip (u1 ++ [Value.ref s.heap.objs.size]) := by
    rw [List.zip_append hl1.symm]
    rfl
  rw [hz2]
  refine wpAny_newFunctionEnv (s := { s with heap := s.heap.push ({ cls := .type "tuple", data := .seq u2.toArray } : Obj) }) NS.nocell (fun ⟨n, _⟩ hy => NS.par n (List.of_mem_zip hy).1) (fun h₁ hns hsb => ⟨lim2.fresh _ hsb, ks_codeAny_funcAt ?_⟩) NS.kind
  have kp : ∀ b o, (s.heap.push ({ cls := .type "tuple", data := .seq u2.toArray } : Obj)).get? b = some o → h₁.get? b = some o := fun b o e => hsb.extBut b o (Nat.ne_of_lt (Heap.lt_size e)) (Heap.get?_push_of_some _ e)
  obtain ⟨t, ht, hq2⟩ := walk A outer { s with heap := s.heap.push ({ cls := .type "tuple", data := .seq u2.toArray } : Obj) } (upd H s.heap.objs.size (.tup rest)) (ws ++ [V.ref s.heap.objs.size]) Q E (hr.deeper _) (hq _ hn)
  have I := inv_startN (CX := CX) (P := P) (w := w) (F := nfS x qual params body scope cc c) (f := f) (E := E) (tk := s.toks + ((ps ++ [pv]).zip (u1 ++ [Value.ref s.heap.objs.size])).length) NS hr.hd e2 hlen rv CA hns kp
  refine ks_wpAt_mono (ht.run [] _ _ _ _ I hq2) (fun fl s' hs => ?_) fun e s' hs => ?_
  · have fin : ∀ {σ' : L2.St} {H' : Hp} {v : V} {y : Value}, Inv (ncx CX P w K mg base N (nfS x qual params body scope cc c) f A outer { s with heap := s.heap.push ({ cls := .type "tuple", data := .seq u2.toArray } : Obj) } (upd H s.heap.objs.size (.tup rest)) E) [] σ' H' s' → L2.RelV v y → Q v H' → CE outer P w H s Q y s' :=
      fun {σ' H' v y} J r q => ⟨v, H', J.os, J.bare, un.trans J.base, J.hok, r, q⟩
    cases fl with
    | ret y =>
      obtain ⟨v, σ', H', J, r, q⟩ := hs
      exact fin J r q
    | next =>
      obtain ⟨σ', H', J, q⟩ := hs
      exact fin (v := V.non) (y := Value.none) J rfl q
    | brk =>
      obtain ⟨_, _, _, q⟩ := hs
      exact q.elim
    | cont =>
      obtain ⟨_, _, _, q⟩ := hs
      exact q.elim
  · have up := hCX outer s H { s with heap := s.heap.push ({ cls := .type "tuple", data := .seq u2.toArray } : Obj) } (upd H s.heap.objs.size (.tup rest)) E
    exact wpAny_mono hs (fun _ s'' z => up _ s'' un (fun b o q => Heap.get?_push_of_some _ q) rfl z) fun e' s'' z => up e' s'' un (fun b o q => Heap.get?_push_of_some _ q) rfl z
end
end Sup
set_option Elab.async false
set_option linter.all false
set_option maxRecDepth 100000
set_option maxHeartbeats 2000000
/-! A Hook that tells, besides, the defs that no name of the module reaches at once: a classmethod's, one that closes over its class; and what is known of other parties' classes. -/
namespace Hkc
open PySem PySem.Spec PyProof.Rows L2 He
abbrev Fv : Type := Option (Str × Str × Arguments × FuncBody × Scope × Addr × List Str × Addr)
def fv (K : PySem.W.Frag) (a : Addr) : Fv := (K.lookup a).bind fun o => match o.data with
  | .func z => some (z.name, z.qualname, z.params, z.body, z.scope, z.globals, z.closure.map Prod.fst, z.builtins)
  | _ => none
structure Md where
  how : PySem.W.Frag → Addr
  name : Str
  qual : Str
  params : Arguments
  body : List Stmt
  scope : Scope
  cl : List Str
def Md.fv (m : Md) : Fv := some (m.name, m.qual, m.params, .stmts m.body, m.scope, mainGlobals, m.cl, builtinsNs)
/-- the code objects of the functions there -/
def codA (g : Addr → Option Obj) (a : Addr) : List Addr := match g a with
  | some ⟨_, _, .func z, _⟩ => refV z.code
  | _ => []
def asC (g : Addr → Option Obj) (n : Nat) : List Addr := cStatics :: asD g n ++ (asD g n).flatMap (codA g)
def opB (g : Addr → Option Obj) : Bool := match g cStatics with
  | some o => decide (PySem.W.nsIn [(cStatics, o)] cStatics "thirdparty.any" = some none)
  | none => false
abbrev AlC : Type := (AlX × List Fv) × Bool
/-- no class of another party is known in the written part -/
def opqB (K : PySem.W.Frag) : Bool := match K.lookup cStatics with
  | some o => decide (PySem.W.nsIn [(cStatics, o)] cStatics "thirdparty.any" = some none)
  | none => false
theorem opqB_ok {K : PySem.W.Frag} {h : Heap} (e : opqB K = true) (k : K.In h) : Sup.Opq h := by
  unfold opqB at e
  cases q : K.lookup cStatics with
  | none =>
    rw [q] at e
    cases e
  | some o =>
    rw [q] at e
    exact ⟨o, k _ _ q, of_decide_eq_true e⟩
def obsC (n : Nat) (fa : List Fa) (fn : List DefD) (tf : List Defn) (ex : PySem.W.Frag → Bool) (ms : List Md) (g : Addr → Option Obj) : AlC :=
  (((obsT fa fn [] (frT g (asC g n)), ex (frT g (asC g n)) && tabsB g tf (frT g (asC g n))), ms.map fun m => Hkc.fv (frT g (asC g n)) (m.how (frT g (asC g n)))), opB g)
def valC (fn : List DefD) (ms : List Md) (w : World) : AlC := ((valX fn [] w, ms.map Md.fv), true)
structure SaysC (fa : List Fa) (fn : List DefD) (tf : List Defn) (ex : PySem.W.Frag → Bool) (ms : List Md) (w : World) (h : Heap) (K : PySem.W.Frag) : Prop where
  x : SaysX fa fn [] tf ex w h K
  m : (ms.map fun m => Hkc.fv K (m.how K)) = ms.map Md.fv
  opq : Sup.Opq h
theorem saysC_of {fa : List Fa} {fn : List DefD} {tf : List Defn} {ex : PySem.W.Frag → Bool} {ms : List Md} {w : World} {h : Heap} {as : List Addr}
    (e : ((((obsT fa fn [] (frT h.get? as), ex (frT h.get? as) && tabsB h.get? tf (frT h.get? as)), ms.map fun m => Hkc.fv (frT h.get? as) (m.how (frT h.get? as))), opB h.get?) : AlC) = valC fn ms w) : SaysC fa fn tf ex ms w h (frT h.get? as) := by
  obtain ⟨e9, eo⟩ := Prod.mk.inj e
  obtain ⟨e0, em⟩ := Prod.mk.inj e9
  obtain ⟨et, eb⟩ := Prod.mk.inj e0
  obtain ⟨hx, hb⟩ := Bool.and_eq_true_iff.mp eb
  generalize hK : frT h.get? as = K at *
  have each : ∀ p ∈ tf, PySem.W.codeHdIn K (cT K p).1 (cT K p).2 = true ∧ ∃ o, h.get? (cT K p).2 = some o ∧ emptyTab o = true := by
    intro p hp
    obtain ⟨a1, a2⟩ := Bool.and_eq_true_iff.mp (List.all_eq_true.mp hb p hp)
    cases q : h.get? (cT K p).2 with
    | none =>
      simp only [q] at a2
      exact Bool.noConfusion a2
    | some o =>
      simp only [q] at a2
      exact ⟨a1, o, rfl, a2⟩
  refine ⟨⟨et, hx, fun p hp => (each p hp).1, fun p hp => ?_, fun p hp => ?_⟩, em, ?_⟩
  · obtain ⟨_, o, q, z⟩ := each p hp
    subst hK
    exact frT_none q z
  · obtain ⟨_, o, q, z⟩ := each p hp
    rw [q, emptyTab_eq z]
  · unfold opB at eo
    cases q : h.get? cStatics with
    | none =>
      rw [q] at eo
      cases eo
    | some o =>
      rw [q] at eo
      exact ⟨o, q, of_decide_eq_true eo⟩
def hookC (n : Nat) (fa : List Fa) (fn : List DefD) (tf : List Defn) (ex : PySem.W.Frag → Bool) (ms : List Md) : PySem.W.Hook where
  α := AlC
  obs := fun s => obsC n fa fn tf ex ms s.heap.get?
  val := fun w => valC fn ms w
  says := fun w h => ∃ K : PySem.W.Frag, K.In h ∧ SaysC fa fn tf ex ms w h K
  of := fun _ _ e => ⟨_, frT_in, saysC_of e⟩
  keeps := fun _ _ _ ⟨K, hK, c⟩ k => ⟨K, PySem.W.Frag.In.keeps hK k, ⟨⟨c.x.t, c.x.more, c.x.hd, c.x.out, fun p hp => k _ _ (c.x.empty p hp)⟩, c.m, let ⟨o, e1, e2⟩ := c.opq
    ⟨o, k _ _ e1, e2⟩⟩⟩
theorem obsC_eq {n : Nat} {fa : List Fa} {fn : List DefD} {tf : List Defn} {ex : PySem.W.Frag → Bool} {ms : List Md} {g : Addr → Option Obj} {s : Shared} (h : ∀ a, g a = s.heap.get? a) : obsC n fa fn tf ex ms g = (hookC n fa fn tf ex ms).obs s := by
  obtain rfl : g = s.heap.get? := funext h
  rfl
section
variable {K : PySem.W.Frag} {ms : List Md}
theorem md_at (e : (ms.map fun m => Hkc.fv K (m.how K)) = ms.map Md.fv) (i : Nat) {m : Md} (h : ms[i]? = some m) : Hkc.fv K (m.how K) = m.fv := by
  have e2 := congrArg (fun l : List Fv => l[i]?) e
  simp only [List.getElem?_map, h, Option.map_some] at e2
  exact Option.some.inj e2
/-- the function at a, its closure's names those of m -/
theorem fv_ok {a : Addr} {m : Md} (e : Hkc.fv K a = m.fv) : ∃ (oc : Value) (od : Option Addr) (cl : List (Str × Addr)) (dV kV doc pm : Value) (an : Option Addr) (cdv ct : Value) (osl : Array (Option Value)),
    cl.map Prod.fst = m.cl ∧ K.lookup a = some ⟨oc, od, .func (PySem.W.fnX m.name m.qual m.params m.body m.scope cl dV kV doc pm an cdv ct), osl⟩ := by
  unfold Hkc.fv at e
  cases q : K.lookup a with
  | none =>
    rw [q] at e
    cases e
  | some o =>
    obtain ⟨oc, od, dt, osl⟩ := o
    rw [q] at e
    cases dt with
    | func z =>
      obtain ⟨n1, n2, n3, n4, n5, n6, n7, n8, n9, n10, n11, n12, n13, n14, n15⟩ := z
      have e2 : (some (n1, n2, n3, n4, n5, n6, n7.map Prod.fst, n15) : Fv) = some (m.name, m.qual, m.params, .stmts m.body, m.scope, mainGlobals, m.cl, builtinsNs) := e
      simp only [Option.some.injEq, Prod.mk.injEq] at e2
      obtain ⟨rfl, rfl, rfl, rfl, rfl, rfl, h7, rfl⟩ := e2
      exact ⟨oc, od, n7, n8, n9, n10, n11, n12, n13, n14, osl, h7, rfl⟩
    | _ => cases e
/-! super -/
/-- what of the text is asked of a def of the class x that says super() -/
def supB (file qual x : Str) (K : PySem.W.Frag) : Bool := match K.lookup (ma K (ga K x) "__init__") with
  | some ⟨_, _, .func z, _⟩ => (match z.closure, z.code, z.defaults with
    | [(_, cc)], .ref c, .none => PySem.W.codeIn K (.ref c) qual && ((match K.lookup c with
        | some ⟨_, _, .fields vs, _⟩ => (match (vs[2]? : Option Value) with
          | some (.str y _) => decide (y = file)
          | _ => false)
        | _ => false) && (match K.lookup cc with
        | some ⟨_, _, .cell (some (.ref D)), _⟩ => decide (D = ga K x)
        | _ => false))
    | _, _, _ => false) && ((PySem.W.clsIn K (ga K x)).isSome && (decide (PySem.W.mroIn K (ga K x) (.ref (ga K x)) = some true) && decide (PySem.W.nsIn K mainGlobals "super" = some none)))
  | _ => false
theorem supB_ok {P : Program} {file x : Str} {m : Md} (h : supB file m.qual x K = true) (hm : m.cl = [("__class__" : Str)]) (e : Hkc.fv K (ma K (ga K x) "__init__") = m.fv) (hf : ((P.main.file : Str) == file) = true) (ht : (P.main.scope.names.lookup ("super" : Str)).isSome = false) :
    ∃ cc c fd, Sup.FunS P K m.name m.qual m.params m.body m.scope (ga K x) cc c (ma K (ga K x) "__init__") fd := by
  obtain ⟨oc, od, cl, dV, kV, doc, pm, an, cdv, ct, osl, hcl, lk⟩ := fv_ok e
  unfold supB at h
  rw [lk] at h
  rw [hm] at hcl
  cases cl with
  | nil => cases hcl
  | cons q r =>
    obtain ⟨qn, cc⟩ := q
    cases r with
    | cons q2 r2 => cases hcl
    | nil =>
      obtain rfl : qn = "__class__" := (List.cons.inj hcl).1
      cases cdv with
      | ref c =>
        cases dV with
        | none => ?_
        | _ => simp at h
        simp only [Bool.and_eq_true, decide_eq_true_eq] at h
        obtain ⟨⟨h1, h2, h3⟩, h4, h5, h6⟩ := h
        refine ⟨cc, c, _, ⟨⟨oc, od, kV, doc, pm, an, ct, osl, rfl, lk⟩, h1, ?_, ?_, Option.isSome_iff_exists.mp h4, h5, h6, ht⟩⟩
        · cases q1 : K.lookup c with
          | none =>
            rw [q1] at h2
            cases h2
          | some o =>
            obtain ⟨o1, o2, o3, o4⟩ := o
            rw [q1] at h2
            cases o3 with
            | fields vs =>
              dsimp only at h2
              cases q2 : vs[2]? with
              | none =>
                rw [q2] at h2
                cases h2
              | some v =>
                rw [q2] at h2
                cases v with
                | str y t =>
                  obtain rfl : y = file := of_decide_eq_true h2
                  exact ⟨o1, o2, vs, o4, y, t, rfl, q2, hf⟩
                | _ => cases h2
            | _ => cases h2
        · cases q1 : K.lookup cc with
          | none =>
            rw [q1] at h3
            cases h3
          | some o =>
            obtain ⟨o1, o2, o3, o4⟩ := o
            rw [q1] at h3
            cases o3 with
            | cell v =>
              cases v with
              | none => cases h3
              | some v =>
                cases v with
                | ref D =>
                  obtain rfl : D = ga K x := of_decide_eq_true h3
                  exact ⟨o1, o2, o4, rfl⟩
                | _ => cases h3
            | _ => cases h3
      | _ => simp at h
/-! classmethods -/
def gm (K : PySem.W.Frag) (C : Addr) (m : Str) : Addr := match PySem.W.recIn K (ma K C m) "classmethod" with
  | some (.ref g :: _) => g
  | _ => 0
/-- the function at g: no defaults, its code's name -/
def mdB (K : PySem.W.Frag) (g : Addr) (qual : Str) : Bool := match K.lookup g with
  | some ⟨_, _, .func z, _⟩ => PySem.W.codeIn K z.code qual && (match z.defaults with
    | .none => true
    | _ => false)
  | _ => false
theorem fn_md {g : Addr} {m : Md} (e : Hkc.fv K g = m.fv) (hm : m.cl = []) (h : mdB K g m.qual = true) : ∃ (oc : Value) (od : Option Addr) (kV doc pm : Value) (an : Option Addr) (cdv ct : Value) (osl : Array (Option Value)),
    K.lookup g = some ⟨oc, od, .func (PySem.W.fnOf m.name m.qual m.params m.body m.scope .none kV doc pm an cdv ct), osl⟩ ∧ PySem.W.codeIn K cdv m.qual = true := by
  obtain ⟨oc, od, cl, dV, kV, doc, pm, an, cdv, ct, osl, hcl, lk⟩ := fv_ok e
  rw [hm] at hcl
  obtain rfl : cl = [] := List.map_eq_nil_iff.mp hcl
  unfold mdB at h
  rw [lk] at h
  obtain ⟨h1, h2⟩ := Bool.and_eq_true_iff.mp h
  cases dV with
  | none => exact ⟨oc, od, kV, doc, pm, an, cdv, ct, osl, lk, h1⟩
  | _ => cases h2
def cmB (x m qual : Str) (K : PySem.W.Frag) : Bool := (match PySem.W.recIn K (ma K (ga K x) m) "classmethod" with
  | some (.ref _ :: _) => true
  | _ => false) && (PySem.W.fnIn K (gm K (ga K x) m) && (PySem.W.readsIn K (ga K x) (.type "type") && (decide (PySem.W.specialIn K (.ref (ga K x)) "__getattribute__" = some (some (.builtin "type.__getattribute__"))) &&
    ((match PySem.W.findCls K (.ref (ga K x)) (.type "type") m with
    | some (.get (.builtin n) (.ref p) .none (.ref C)) => decide (n = "classmethod.__get__") && (decide (p = ma K (ga K x) m) && decide (C = ga K x))
    | _ => false) && mdB K (gm K (ga K x) m) qual))))
theorem cmB_ok {x m qual : Str} (h : cmB x m qual K = true) : ClX.CRead K (ga K x) (.type "type") ∧ ClX.CMet K (ga K x) (.type "type") m (ma K (ga K x) m) (gm K (ga K x) m) ∧ mdB K (gm K (ga K x) m) qual = true := by
  unfold cmB at h
  simp only [Bool.and_eq_true, decide_eq_true_eq] at h
  obtain ⟨h1, h2, h3, h4, h5, h6⟩ := h
  refine ⟨⟨h3, h4⟩, ⟨?_, ?_, h2⟩, h6⟩
  · cases q : PySem.W.findCls K (.ref (ga K x)) (.type "type") m with
    | none =>
      rw [q] at h5
      cases h5
    | some u =>
      rw [q] at h5
      split at h5
      · rename_i n p C e
        cases e
        simp only [Bool.and_eq_true, decide_eq_true_eq] at h5
        obtain ⟨rfl, rfl, rfl⟩ := h5
        rfl
      · cases h5
  · unfold gm
    cases q : PySem.W.recIn K (ma K (ga K x) m) "classmethod" with
    | none =>
      rw [q] at h1
      cases h1
    | some l =>
      rw [q] at h1
      split at h1
      · rename_i g r e
        cases e
        exact ⟨r, rfl⟩
      · cases h1
end
end Hkc
set_option Elab.async false
set_option linter.all false
set_option maxRecDepth 100000
set_option maxHeartbeats 2000000
/-! Values of plain kinds, and what the programs ask of them: an int that is no bool, one within bounds. -/
namespace Vls
open PySem PySem.Spec PyProof.Rows L2 Pre
/-- a plain value -/
inductive Dat (H : Hp) : V → Prop where
  | non : Dat H .non
  | bl (b : Bool) : Dat H (.bl b)
  | int (i : Int) : Dat H (.int i)
  | str (x : Str) : Dat H (.str x)
  | lst {a : Addr} {xs : List V} (e : H a = some (.lst xs)) : Dat H (.ref a)
  | tup {a : Addr} {xs : List V} (e : H a = some (.tup xs)) : Dat H (.ref a)
  | dct {a : Addr} {kvs : List (Key × V)} (e : H a = some (.dK kvs)) : Dat H (.ref a)
theorem Dat.but {H H' : Hp} {x : V} (d : Dat H x) (s : Same H H') : Dat H' x := by
  cases d with
  | non => exact .non
  | bl b => exact .bl b
  | int i => exact .int i
  | str z => exact .str z
  | lst e => exact .lst (s _ _ e)
  | tup e => exact .tup (s _ _ e)
  | dct e => exact .dct (s _ _ e)
/-- the name of its type -/
def tyN (H : Hp) : V → String
  | .non => "NoneType"
  | .bl _ => "bool"
  | .int _ => "int"
  | .str _ => "str"
  | .ref a => (match H a with
    | some (.lst _) => "list"
    | some (.tup _) => "tuple"
    | _ => "dict")
  | _ => ""
theorem Dat.ty {K : PySem.W.Frag} {H : Hp} {x : V} (d : Dat H x) : TyX K H x (.type (tyN H x)) := by
  cases d with
  | non => exact .base .non
  | bl b => exact .base (.bl b)
  | int i => exact .base (.int i)
  | str z => exact .base (.str z)
  | lst e =>
    simp only [tyN, e]
    exact .base (.lst e)
  | tup e =>
    simp only [tyN, e]
    exact .base (.tup e)
  | dct e =>
    simp only [tyN, e]
    exact .base (.dK e)
def isT (H : Hp) (x : V) : Bool := match x with
  | .ref a => (match H a with
    | some (.tup _) => true
    | _ => false)
  | _ => false
def isL (H : Hp) (x : V) : Bool := match x with
  | .ref a => (match H a with
    | some (.lst _) => true
    | _ => false)
  | _ => false
def isB : V → Bool
  | .bl _ => true
  | _ => false
def isS : V → Bool
  | .str _ => true
  | _ => false
/-- an int, no bool -/
def isW : V → Bool
  | .int _ => true
  | _ => false
def isI : V → Bool
  | .int _ => true
  | .bl _ => true
  | _ => false
/-- .. within bounds -/
def inR (lo hi : Int) : V → Bool
  | .int i => decide (lo ≤ i) && decide (i ≤ hi)
  | _ => false
/-- .. and not below 0 -/
def isC : V → Bool
  | .int i => decide (0 ≤ i)
  | _ => false
theorem kit_of_ty {K : PySem.W.Frag} {T S : String} {b : Bool} (h : kitB T S = some b) : PySem.W.kitOne K (.type T) (.type S) = some b := h
theorem Dat.kInt {K : PySem.W.Frag} {H : Hp} {x : V} (d : Dat H x) : PySem.W.kitOne K (.type (tyN H x)) (.type "int") = some (isI x) := by
  cases d with
  | lst e =>
    simp only [tyN, e]
    exact kit_of_ty (by kernel_rfl)
  | tup e =>
    simp only [tyN, e]
    exact kit_of_ty (by kernel_rfl)
  | dct e =>
    simp only [tyN, e]
    exact kit_of_ty (by kernel_rfl)
  | _ => exact kit_of_ty (by kernel_rfl)
theorem Dat.kBool {K : PySem.W.Frag} {H : Hp} {x : V} (d : Dat H x) : PySem.W.kitOne K (.type (tyN H x)) (.type "bool") = some (isB x) := by
  cases d with
  | lst e =>
    simp only [tyN, e]
    exact kit_of_ty (by kernel_rfl)
  | tup e =>
    simp only [tyN, e]
    exact kit_of_ty (by kernel_rfl)
  | dct e =>
    simp only [tyN, e]
    exact kit_of_ty (by kernel_rfl)
  | _ => exact kit_of_ty (by kernel_rfl)
theorem Dat.kStr {K : PySem.W.Frag} {H : Hp} {x : V} (d : Dat H x) : PySem.W.kitOne K (.type (tyN H x)) (.type "str") = some (isS x) := by
  cases d with
  | lst e =>
    simp only [tyN, e]
    exact kit_of_ty (by kernel_rfl)
  | tup e =>
    simp only [tyN, e]
    exact kit_of_ty (by kernel_rfl)
  | dct e =>
    simp only [tyN, e]
    exact kit_of_ty (by kernel_rfl)
  | _ => exact kit_of_ty (by kernel_rfl)
theorem Dat.kTup {K : PySem.W.Frag} {H : Hp} {x : V} (d : Dat H x) : PySem.W.kitOne K (.type (tyN H x)) (.type "tuple") = some (isT H x) := by
  cases d with
  | lst e =>
    simp only [tyN, isT, e]
    exact kit_of_ty (by kernel_rfl)
  | tup e =>
    simp only [tyN, isT, e]
    exact kit_of_ty (by kernel_rfl)
  | dct e =>
    simp only [tyN, isT, e]
    exact kit_of_ty (by kernel_rfl)
  | _ => exact kit_of_ty (by kernel_rfl)
theorem Dat.kLst {K : PySem.W.Frag} {H : Hp} {x : V} (d : Dat H x) : PySem.W.kitOne K (.type (tyN H x)) (.type "list") = some (isL H x) := by
  cases d with
  | lst e =>
    simp only [tyN, isL, e]
    exact kit_of_ty (by kernel_rfl)
  | tup e =>
    simp only [tyN, isL, e]
    exact kit_of_ty (by kernel_rfl)
  | dct e =>
    simp only [tyN, isL, e]
    exact kit_of_ty (by kernel_rfl)
  | _ => exact kit_of_ty (by kernel_rfl)
/-- isinstance(x, (list, tuple)) -/
theorem Dat.kSeq {K : PySem.W.Frag} {H : Hp} {x : V} (d : Dat H x) : PySem.W.kitAny K (.type (tyN H x)) [.type "list", .type "tuple"] = some (isL H x || isT H x) := by
  refine kitAny_cons d.kLst (fun h => ?_) fun h => by rw [h]; rfl
  rw [h, Bool.false_or]
  refine kitAny_cons d.kTup (fun h2 => ?_) fun h2 => h2
  rw [h2]
  exact kitAny_nil
/-- what isinstance asks of an instance's class -/
structure Ins (K : PySem.W.Frag) (C : Addr) : Prop where
  a : PySem.W.findIn K (.ref C) "__class__" = some (some (.builtin "object.__class__"))
  g : PySem.W.specialIn K (.builtin "object.__class__") "__get__" = some (some (.builtin "getset_descriptor.__get__"))
  t : PySem.W.takesIn K (.builtin "object.__class__") = some true
  o : PySem.W.mroIn K C (.type "object") = some true
def insB (K : PySem.W.Frag) (C : Addr) : Bool := decide (PySem.W.findIn K (.ref C) "__class__" = some (some (.builtin "object.__class__"))) && (decide (PySem.W.specialIn K (.builtin "object.__class__") "__get__" = some (some (.builtin "getset_descriptor.__get__"))) &&
  (decide (PySem.W.takesIn K (.builtin "object.__class__") = some true) && decide (PySem.W.mroIn K C (.type "object") = some true)))
theorem insB_ok {K : PySem.W.Frag} {C : Addr} (h : insB K C = true) : Ins K C := by
  unfold insB at h
  simp only [Bool.and_eq_true, decide_eq_true_eq] at h
  exact ⟨h.1, h.2.1, h.2.2.1, h.2.2.2⟩
theorem Ins.ty {K : PySem.W.Frag} {H : Hp} {a C dx : Addr} {fs : List (Str × V)} (i : Ins K C) (c : Cls K C) (e : H a = some (.ins C dx fs)) : TyX K H (.ref a) (.ref C) := .base (.ins e c i.a i.g i.t i.o)
/-- a comprehension's own names -/
def blkB (N : List Str) (sc scope : Scope) (own : List (Str × Nat)) : Bool := decide (scope.kind = .function) && (scope.names.all (fun y => decide (scope.names.lookup y.1 = some y.2)) && (own.all (fun p => decide (N[p.2]? = some p.1)) &&
  (scope.names.all (fun y => !decide (y.2 = .free) || (decide (sc.names.lookup y.1 = some .cell) || decide (sc.names.lookup y.1 = some .free))) && scope.names.all (fun y => !(decide (y.2 = .local) || decide (y.2 = .cell)) || (decide (y.1 ∈ own.map (·.1)) || !decide (y.1 ∈ N))))))
theorem blk_by {N : List Str} {sc scope : Scope} {own : List (Str × Nat)} (h : blkB N sc scope own = true) : BlkOk N sc scope own := by
  unfold blkB at h
  simp only [Bool.and_eq_true, decide_eq_true_eq, List.all_eq_true, Bool.or_eq_true, Bool.not_eq_true', decide_eq_false_iff_not, Bool.or_eq_false_iff] at h
  obtain ⟨h1, h2, h3, h4, h5⟩ := h
  refine ⟨h1, h2, h3, fun y hy e => (h4 y hy).elim (fun z => absurd e z) id, fun y hy e => ?_⟩
  rcases h5 y hy with z | z
  · exact e.elim (fun q => absurd q z.1) fun q => absurd q z.2
  · exact z
/-- what a call's arguments bind, def by def -/
theorem bind1 {B : List Value → Sem (List (Str × Value))} {p1 : Str} (h : ∀ a, B [a] = pure [(p1, a)]) : ∀ us : List Value, us.length = [p1].length → B us = pure ([p1].zip us)
  | [a], _ => h a
theorem bind2 {B : List Value → Sem (List (Str × Value))} {p1 p2 : Str} (h : ∀ a b, B [a, b] = pure [(p1, a), (p2, b)]) : ∀ us : List Value, us.length = [p1, p2].length → B us = pure ([p1, p2].zip us)
  | [a, b], _ => h a b
theorem bind3 {B : List Value → Sem (List (Str × Value))} {p1 p2 p3 : Str} (h : ∀ a b c, B [a, b, c] = pure [(p1, a), (p2, b), (p3, c)]) : ∀ us : List Value, us.length = [p1, p2, p3].length → B us = pure ([p1, p2, p3].zip us)
  | [a, b, c], _ => h a b c
section
variable {P : Program} {w : World} {K : PySem.W.Frag} {mg : Str → Option Value} {base : Heap} {CX : CXT} {k : Nat} {x qual : Str} {params : Arguments} {body : List Stmt} {scope : Scope} {N ps : List Str} {sp : Sp}
/-- a def of the module without defaults -/
theorem dfn (q : ∃ fd, FunD K x qual params body scope [] [] (He.ga K x) fd) (g : mg x = some (.ref (He.ga K x))) (S : FnScope N ps scope) (len : ∀ vs H Q E, sp vs H Q E → vs.length = ps.length)
    (hb : ∀ (kV doc pm : Value) (an : Option Addr) (cdv ct : Value) (us : List Value), us.length = ps.length → bindArgs (PySem.W.fnOf x qual params body scope .none kV doc pm an cdv ct) ⟨us, []⟩ = pure (ps.zip us))
    (walk : ∀ (cdv : Value) (A : Around) (outer : List Env) (s : Shared) (H : Hp) (vs : List V) (Q : VK) (E : XK), Room k (A.deeper (envOfC qual scope s.heap.objs.size (He.ga K x) cdv)) → sp vs H Q E →
      ∃ t, PSs (cxOf CX P w K mg base N qual scope (He.ga K x) cdv A outer s H E) body t ∧ t { nx := fun _ H' => Q .non H', rt := Q } (start N vs) H) : Dfs.Dfn P w K mg base CX (k + 1) x ps sp := by
  obtain ⟨fd, F⟩ := q
  exact ⟨g, F.kp, fd, F.ok S len walk, F.bindsN hb⟩
/-- a method of a class of the module without defaults -/
theorem mfn {C : Addr} (q : ∃ fd, FunD K x qual params body scope [] [] (He.ma K C x) fd) (c : Cls K C) (m : Meth K C x (He.ma K C x)) (S : FnScope N ps scope) (len : ∀ vs H Q E, sp vs H Q E → vs.length = ps.length)
    (hb : ∀ (kV doc pm : Value) (an : Option Addr) (cdv ct : Value) (us : List Value), us.length = ps.length → bindArgs (PySem.W.fnOf x qual params body scope .none kV doc pm an cdv ct) ⟨us, []⟩ = pure (ps.zip us))
    (walk : ∀ (cdv : Value) (A : Around) (outer : List Env) (s : Shared) (H : Hp) (vs : List V) (Q : VK) (E : XK), Room k (A.deeper (envOfC qual scope s.heap.objs.size (He.ma K C x) cdv)) → sp vs H Q E →
      ∃ t, PSs (cxOf CX P w K mg base N qual scope (He.ma K C x) cdv A outer s H E) body t ∧ t { nx := fun _ H' => Q .non H', rt := Q } (start N vs) H) : Dfs.Mfn P w K mg base CX (k + 1) C x ps sp := by
  obtain ⟨fd, F⟩ := q
  exact ⟨c, m, fd, F.ok S len walk, F.bindsN hb⟩
end
end Vls
set_option Elab.async false
set_option linter.all false
set_option maxRecDepth 100000
set_option maxHeartbeats 2000000
/-! properties of own classes, told by the Hook -/
namespace Prp
open PySem PySem.Spec PyProof.Rows L2 He
/-- the getter -/
def gp (K : PySem.W.Frag) (C : Addr) (m : Str) : Addr := match PySem.W.recIn K (ma K C m) "property" with
  | some (.ref g :: _) => g
  | _ => 0
def propB (x m qual : Str) (K : PySem.W.Frag) : Bool := (match PySem.W.recIn K (ma K (ga K x) m) "property" with
  | some (.ref _ :: _) => true
  | _ => false) && (decide (PySem.W.findIn K (.ref (ga K x)) m = some (some (.ref (ma K (ga K x) m)))) && (decide (PySem.W.specialIn K (.ref (ma K (ga K x) m)) "__get__" = some (some (.builtin "property.__get__"))) &&
    (decide (PySem.W.takesIn K (.ref (ma K (ga K x) m)) = some true) && (PySem.W.keepIn K (.ref (gp K (ga K x) m)) && Hkc.mdB K (gp K (ga K x) m) qual))))
theorem propB_ok {K : PySem.W.Frag} {x m qual : Str} (h : propB x m qual K = true) : PropOf K (ga K x) m (ma K (ga K x) m) (gp K (ga K x) m) ∧ PySem.W.keepIn K (.ref (gp K (ga K x) m)) = true ∧ Hkc.mdB K (gp K (ga K x) m) qual = true := by
  unfold propB at h
  simp only [Bool.and_eq_true, decide_eq_true_eq] at h
  obtain ⟨h1, h2, h3, h4, h5, h6⟩ := h
  refine ⟨⟨h2, h3, h4, ?_⟩, h5, h6⟩
  unfold gp
  cases q : PySem.W.recIn K (ma K (ga K x) m) "property" with
  | none =>
    rw [q] at h1
    cases h1
  | some l =>
    rw [q] at h1
    split at h1
    · rename_i g r e
      cases e
      exact ⟨r, rfl⟩
    · cases h1
/-- the getter as a def -/
theorem funP {K : PySem.W.Frag} {x m name qual : Str} {ps : Arguments} {body : List Stmt} {sc : Scope} (e : Hkc.fv K (gp K (ga K x) m) = (Hkc.Md.mk (fun K => gp K (ga K x) m) name qual ps body sc []).fv) (h : PySem.W.keepIn K (.ref (gp K (ga K x) m)) = true) (h2 : Hkc.mdB K (gp K (ga K x) m) qual = true) :
    ∃ fd, FunD K name qual ps body sc [] [] (gp K (ga K x) m) fd := by
  obtain ⟨oc, od, kV, doc, pm, an, cdv, ct, osl, lk, hc⟩ := Hkc.fn_md e rfl h2
  exact ⟨_, ⟨oc, od, .none, kV, doc, pm, an, cdv, ct, osl, rfl, lk, hc, .inl ⟨rfl, rfl⟩, .inl rfl⟩, h⟩
end Prp
set_option Elab.async false
set_option linter.all false
set_option maxRecDepth 100000
set_option maxHeartbeats 2000000
/-! x == y, where the class of x answers by an own __eq__, whatever y is. -/
namespace Oeq
open PySem PySem.Spec PyProof.Rows L2 Pre
/-- the other operand: an instance, or a text -/
inductive Oth (H : Hp) : V → Value → Prop where
  | ins {b D dx : Addr} {fs : List (Str × V)} (e : H b = some (.ins D dx fs)) : Oth H (.ref b) (.ref D)
  | str (z : Str) : Oth H (.str z) (.type "str")
section
variable {X : Cx} {CX : CXT} {n : Nat} {f C : Addr} {fd : FuncData} {sp : Sp} {E : XK}
theorem Oth.looks {pins : List (Addr × Obj)} {σ : L2.St} {H : Hp} {s : Shared} {y : V} {u t : Value} {M : Model} (o : Oth H y t) (I : Inv X pins σ H s) (r : RelV y u) : PySem.W.Looks M s.heap (typeOf u) t := by
  cases o with
  | ins e =>
    cases (show u = Value.ref _ from r)
    obtain ⟨mB, J, _⟩ := ins_get I.hok e
    obtain ⟨od, J2, _⟩ := J.look
    exact J2.type
  | str z =>
    obtain ⟨k, rfl⟩ := (show ∃ k, u = Value.str z k from r)
    exact .of_pure rfl
def rEqO (K : PySem.W.Frag) (C : Addr) (sp : Sp) (E : XK) : R2 := fun x y H Q => ∃ a dx fs t, x = .ref a ∧ H a = some (.ins C dx fs) ∧ Oth H y t ∧ PySem.W.notFirst K C t = true ∧ sp [x, y] H (fun v H' => ∃ b, v = .bl b ∧ Q (.bl b) H') E
/-- the call of the own method, and what comes back -/
theorem ask {pins : List (Addr × Obj)} {σ : L2.St} {H : Hp} {s : Shared} {a : Addr} {y : V} {u : Value} {Q : VK} {A : Around} (F : FnOk X.prog X.w X.K X.mg X.base CX n f fd ["self", "other"] sp) (hb : Binds X.K fd ["self", "other"] []) (hr : Room n A) (hA : Env0 X.prog X.w X.K X.mg X.base A X.stack s H) (hx : Passes CX X E)
    (I : Inv X pins σ H s) (ry : RelV y u) (q : sp [.ref a, y] H (fun v H' => ∃ b, v = .bl b ∧ Q (.bl b) H') E) :
    wpAny (model X.prog X.w) A (call (.ref f) [.ref a, u]) (fun v s' => ∃ b, v = Value.bool b ∧ EP X pins σ Q (.bool b) s') X.xe s := by
  have hb2 := hb s [Value.ref a, u] I.kIn rfl
  refine wpAny_call (codeAny_mono (F.run A X.stack s H ⟨[Value.ref a, u], []⟩ [Value.ref a, u] [V.ref a, y] _ E hr hA hb2 (.cons rfl (.cons ry .nil)) q) ?_)
  intro out s' back
  cases out with
  | error z => exact hx pins σ H s z s' I back
  | ok fl =>
    cases fl with
    | ret w =>
      obtain ⟨v, H2, I2, rv, b, rfl, q2⟩ := I.after back
      cases (show w = Value.bool b from rv)
      exact ⟨b, rfl, .bl b, H2, I2, rfl, q2⟩
    | next => exact back.elim
    | brk => exact back.elim
    | cont => exact back.elim
theorem op_eqO (m : Meth X.K C "__eq__" f) (F : FnOk X.prog X.w X.K X.mg X.base CX n f fd ["self", "other"] sp) (hb : Binds X.K fd ["self", "other"] []) (hr : Room n X.A) (hx : Passes CX X E) : OpR X (compareOp .Eq) (rEqO X.K C sp E) := by
  intro pins s σ H x y v u Q I rx ry h
  obtain ⟨a, dx, fs, t, rfl, ea, ot, nf, q⟩ := h
  cases (show v = Value.ref a from rx)
  obtain ⟨mA, J, _⟩ := ins_get I.hok ea
  obtain ⟨od, J2, _⟩ := J.look
  obtain ⟨mF, hF⟩ := I.fr
  show wpAny _ _ (richCompare .Eq (.ref a) u) _ _ _
  refine PySem.W.cmp_K (op := .Eq) (tb := t) hr.units0 hF I.ok.mod.kin J2 (ot.looks I ry) nf m.at_ m.fn ?_
  refine wpAny_mono (ask F hb hr I.env0 hx I ry q) ?_ fun _ _ z => z
  rintro w s' ⟨b, rfl, q2⟩
  exact q2
/-- the other operand is of a class below, which answers first -/
theorem below {M : Program} {w : World} {A : Around} {E0 : Value → Shared → Prop} {K : PySem.W.Frag} {s : Shared} {a b D : Addr} {oa ob : Obj} {ca cb : Option Obj} {R : Value → Shared → Prop} (hu : A.units < cLine) (kin : K.In s.heap)
    (ha : PySem.W.InstAt s.heap a oa C ca) (hb : PySem.W.InstAt s.heap b ob D cb) (hn : (Value.ref C != Value.ref D) = true) (hs : PySem.W.subIn K (.ref D) (.ref C) = some true)
    (e1 : PySem.W.findIn K (.ref D) "__eq__" = some (some (.ref f))) (e2 : PySem.W.isFn K (.ref f) = true)
    (go : wpAny (model M w) A (call (.ref f) [.ref b, .ref a]) (fun v s' => ∃ c, v = Value.bool c ∧ R (.bool c) s') E0 s) : wpAny (model M w) A (richCompare .Eq (.ref a) (.ref b)) R E0 s := by
  have tried : wpAny (model M w) A (tryCompare (.ref b) "__eq__" (.ref a)) (fun r s' => ∃ c, r = some (Value.bool c) ∧ R (.bool c) s') E0 s := by
    unfold tryCompare
    refine wpAny_bind (PySem.W.ifBound_K kin hb e1 e2 (wpAny_mono go ?_ fun _ _ z => z))
    rintro v s' ⟨c, rfl, q⟩
    exact wpAny_pure ⟨c, rfl, q⟩
  unfold richCompare
  simp only [oneThing_ref, cmpInfo]
  refine wpAny_holding (wpAny_bind (wpAny_cRoomFor hu (wpAny_bind (ha.type.here (wpAny_bind (hb.type.here ?_))))))
  rw [if_pos hn]
  refine wpAny_bind ((PySem.W.looks_subIn kin hs).here ?_)
  rw [if_pos rfl]
  refine wpAny_bind (wpAny_mono tried ?_ fun _ _ z => z)
  rintro r s' ⟨c, rfl, q⟩
  exact wpAny_bind (wpAny_rule (wpAny_pure q))
/-- x == y, y of a class D below that of x -/
def rEqB (C D : Addr) (sp : Sp) (E : XK) : R2 := fun x y H Q => ∃ a dx fs b dy gs, x = .ref a ∧ H a = some (.ins C dx fs) ∧ y = .ref b ∧ H b = some (.ins D dy gs) ∧ sp [y, x] H (fun v H' => ∃ c, v = .bl c ∧ Q (.bl c) H') E
theorem op_eqB {D : Addr} (m : Meth X.K D "__eq__" f) (F : FnOk X.prog X.w X.K X.mg X.base CX n f fd ["self", "other"] sp) (hb : Binds X.K fd ["self", "other"] []) (hr : Room n X.A) (hx : Passes CX X E) (hn : (Value.ref C != Value.ref D) = true) (hs : PySem.W.subIn X.K (.ref D) (.ref C) = some true) :
    OpR X (compareOp .Eq) (rEqB C D sp E) := by
  intro pins s σ H x y v u Q I rx ry h
  obtain ⟨a, dx, fs, b, dy, gs, rfl, ea, rfl, eb, q⟩ := h
  cases (show v = Value.ref a from rx)
  cases (show u = Value.ref b from ry)
  obtain ⟨mA, J, _⟩ := ins_get I.hok ea
  obtain ⟨oa, J1, _⟩ := J.look
  obtain ⟨mB, J, _⟩ := ins_get I.hok eb
  obtain ⟨ob, J2, _⟩ := J.look
  show wpAny _ _ (richCompare .Eq (.ref a) (.ref b)) _ _ _
  exact below hr.units0 I.kIn J1 J2 hn hs m.at_ m.fn (ask (y := .ref a) (u := Value.ref a) F hb hr I.env0 hx I rfl q)
end
end Oeq
set_option Elab.async false
set_option linter.all false
set_option maxRecDepth 100000
set_option maxHeartbeats 2000000
/-! x != y, where the class of x says only ==. -/
namespace Oeq
open PySem PySem.Spec PyProof.Rows L2 Pre
section
variable {X : Cx} {CX : CXT} {n : Nat} {f C : Addr} {fd : FuncData} {sp : Sp} {E : XK}
/-- object's own != : the other way about of what == says -/
theorem other_way {P : Program} {w : World} {A : Around} {E0 : Value → Shared → Prop} {K : PySem.W.Frag} {s : Shared} {a : Addr} {oa : Obj} {ca : Option Obj} {u : Value} {R : Fin → Shared → Prop} (hu : A.units < cLine) (kin : K.In s.heap)
    (ha : PySem.W.InstAt s.heap a oa C ca) (e1 : PySem.W.findIn K (.ref C) "__eq__" = some (some (.ref f))) (e2 : PySem.W.isFn K (.ref f) = true)
    (go : wpAny (model P w) A (call (.ref f) [.ref a, u]) (fun v s' => ∃ b, v = Value.bool b ∧ R (.done (.ret (.bool (!b)))) s') E0 s) :
    wpAny (model P w) A (Builtin.«object.__ne__» ⟨[.ref a, u], []⟩) R E0 s := by
  have said : wpAny (model P w) A (callSpecialIfBound? (.ref a) "__eq__" [u]) (fun r s' => ∃ b, r = some (Value.bool b) ∧ R (.done (.ret (.bool (!b)))) s') E0 s := by
    refine PySem.W.ifBound_K kin ha e1 e2 (wpAny_mono go ?_ fun _ _ z => z)
    rintro v s' ⟨b, rfl, q⟩
    exact ⟨b, rfl, q⟩
  unfold Builtin.«object.__ne__»
  show wpAny _ _ (slotArgs "__ne__" 1 ⟨[.ref a, u], []⟩ >>= _) _ _ _
  rw [show slotArgs "__ne__" 1 ⟨[.ref a, u], []⟩ = pure (.ref a, [u]) from rfl]
  refine wpAny_bind (wpAny_pure ?_)
  refine wpAny_bind (wpAny_cRoomFor hu ?_)
  refine wpAny_bind (wpAny_mono said ?_ fun _ _ z => z)
  rintro r s' ⟨b, rfl, q⟩
  refine wpAny_bind (wpAny_truthy_bool ?_)
  exact wpAny_pure q
theorem slot_ok {P : Program} {w : World} {A : Around} {E0 : Value → Shared → Prop} {K : PySem.W.Frag} {s : Shared} {a : Addr} {oa : Obj} {ca : Option Obj} {u : Value} {R : Unit → Shared → Prop} (kin : K.In s.heap)
    (ha : PySem.W.InstAt s.heap a oa C ca) (ho : PySem.W.mroIn K C (.type "object") = some true) (q : R () s) : wpAny (model P w) A (checkBuiltinCall "object.__ne__" ⟨[.ref a, u], []⟩) R E0 s := by
  have L : PySem.W.Looks (model P w) s.heap (isInstance (.ref a) (.type "object")) true := ha.type.andThen (PySem.W.looks_mroIn kin ho)
  have args := F.cmpArgs_ne (.ref a) u
  simp only [checkBuiltinCall, F.cmpKind_ne, F.cmpSplit_ne]
  refine wpAny_bind (L.here ?_)
  unfold argsOk at args
  cases hs : Manifest.signature? "object.__ne__" with
  | none => exact wpAny_pure q
  | some sig =>
    rw [hs] at args
    have e : Bind.checkArgs "object.__ne__" sig ⟨[.ref a, u], []⟩ = pure () := args
    show wpAny _ _ (Bind.checkArgs "object.__ne__" sig ⟨[.ref a, u], []⟩) _ _ _
    rw [e]
    exact wpAny_pure q
def rNeO (K : PySem.W.Frag) (C : Addr) (sp : Sp) (E : XK) : R2 := fun x y H Q => ∃ a dx fs t, x = .ref a ∧ H a = some (.ins C dx fs) ∧ Oth H y t ∧ PySem.W.notFirst K C t = true ∧ sp [x, y] H (fun v H' => ∃ b, v = .bl b ∧ Q (.bl (!b)) H') E
theorem op_neO (m : Meth X.K C "__eq__" f) (FO : FnOk X.prog X.w X.K X.mg X.base CX n f fd ["self", "other"] sp) (hb : Binds X.K fd ["self", "other"] []) (hr : Room (n + 2) X.A) (hx : Passes CX X E)
    (hne : PySem.W.findIn X.K (.ref C) "__ne__" = some (some (.builtin "object.__ne__"))) (ho : PySem.W.mroIn X.K C (.type "object") = some true) : OpR X (compareOp .NotEq) (rNeO X.K C sp E) := by
  intro pins s σ H x y v u Q I rx ry h
  obtain ⟨a, dx, fs, t, rfl, ea, ot, nf, q⟩ := h
  cases (show v = Value.ref a from rx)
  obtain ⟨mA, J, _⟩ := ins_get I.hok ea
  obtain ⟨od, J2, _⟩ := J.look
  have kin := I.kIn
  have slot := F.cmp_object.ne
  have asked : wpAny (model X.prog X.w) X.A (tryCompare (.ref a) "__ne__" u) (fun r s' => ∃ b, r = some (Value.bool b) ∧ EP X pins σ Q (.bool b) s') X.xe s := by
    have rung : wpAny (model X.prog X.w) X.A (call (.builtin "object.__ne__") [.ref a, u]) (fun v s' => ∃ b, v = Value.bool b ∧ EP X pins σ Q (.bool b) s') X.xe s := by
      refine wpAny_call (codeAny_call_builtin slot.plain F.cmpEntry_ne (slot_ok kin J2 ho ?_))
      refine other_way (A := X.A.in1) hr.in1.units0 kin J2 m.at_ m.fn ?_
      have same : (fun v H' => ∃ b, v = V.bl b ∧ (fun v H' => ∃ b, v = V.bl b ∧ Q (.bl (!b)) H') (.bl b) H') = (fun v H' => ∃ b, v = V.bl b ∧ Q (.bl (!b)) H' : VK) := by
        funext v H'
        refine propext ⟨?_, ?_⟩
        · rintro ⟨b, rfl, c, e, q⟩
          obtain rfl : b = c := V.bl.inj e
          exact ⟨b, rfl, q⟩
        · rintro ⟨b, rfl, q⟩
          exact ⟨b, rfl, b, rfl, q⟩
      refine wpAny_mono (ask (A := X.A.in1) (Q := fun v H' => ∃ b, v = V.bl b ∧ Q (.bl (!b)) H') FO hb (hr.in1.mono (by omega)) I.env0.in1 hx I ry (by rw [same]; exact q)) ?_ fun _ _ z => z
      rintro v s' ⟨b, rfl, w, H2, I2, rw2, c, rfl, q2⟩
      cases (show Value.bool b = Value.bool c from rw2)
      exact ⟨b, rfl, !b, rfl, .bl (!b), H2, I2, rfl, q2⟩
    unfold tryCompare
    refine wpAny_bind ?_
    simp only [callSpecialIfBound?, bindSpecialIfBound?, specialOf]
    refine wpAny_holding (wpAny_bind (wpAny_bind (wpAny_bind (J2.type.here ((PySem.W.looks_findIn kin hne).here ?_)))))
    simp only [slot.bind]
    have fin : wpAny (model X.prog X.w) X.A (call (.builtin "object.__ne__") ([.ref a] ++ [u]) >>= fun v => pure (some v)) (fun r s' => wpAny (model X.prog X.w) X.A (match r with | some .notImplemented | none => pure none | some v => pure (some v)) (fun r s' => ∃ b, r = some (Value.bool b) ∧ EP X pins σ Q (.bool b) s') X.xe s') X.xe s := by
      refine wpAny_bind (wpAny_mono rung ?_ fun _ _ z => z)
      rintro v s' ⟨b, rfl, q⟩
      exact wpAny_pure (wpAny_pure ⟨b, rfl, q⟩)
    refine wpAny_bind (wpAny_askSetting (wpAny_ite ?_))
    split
    · exact wpAny_bind (wpAny_pure (wpAny_pure fin))
    · exact wpAny_tryCatch (wpAny_bind (wpAny_pure (wpAny_pure fin)))
  show wpAny _ _ (richCompare .NotEq (.ref a) u) _ _ _
  have last : wpAny (model X.prog X.w) X.A (tryCompare (.ref a) "__ne__" u) (fun r s' => ∃ b, r = some (Value.bool b) ∧ EP X pins σ Q (.bool b) s') X.xe s := asked
  unfold richCompare
  simp only [oneThing_ref, cmpInfo]
  refine wpAny_holding (wpAny_bind (wpAny_cRoomFor hr.units0 (wpAny_bind (J2.type.here (wpAny_bind ((ot.looks I ry).here ?_))))))
  have rest : wpAny (model X.prog X.w) X.A (tryCompare (.ref a) "__ne__" u) (fun r s' => ∃ b, r = some (Value.bool b) ∧ EP X pins σ Q (.bool b) s') X.xe s := last
  by_cases c : (Value.ref C != t) = true
  · rw [if_pos c]
    have e : PySem.W.subIn X.K t (.ref C) = some false := by
      rcases Bool.or_eq_true_iff.mp nf with z | z
      · rw [beq_iff_eq.mp z] at c
        simp at c
      · exact beq_iff_eq.mp z
    refine wpAny_bind ((PySem.W.looks_subIn kin e).here ?_)
    rw [if_neg (by decide)]
    refine wpAny_bind (wpAny_mono rest ?_ fun _ _ z => z)
    rintro r s' ⟨b, rfl, q⟩
    exact wpAny_pure q
  · rw [if_neg c]
    refine wpAny_bind (wpAny_pure ?_)
    rw [if_neg (by decide)]
    refine wpAny_bind (wpAny_mono rest ?_ fun _ _ z => z)
    rintro r s' ⟨b, rfl, q⟩
    exact wpAny_pure q
end
end Oeq
set_option Elab.async false
set_option linter.all false
set_option maxRecDepth 100000
set_option maxHeartbeats 2000000
/-! x == y and x != y by an own __eq__, y of any kind whose type is known. -/
namespace Oeq
open PySem PySem.Spec PyProof.Rows L2 Pre
section
variable {X : Cx} {CX : CXT} {n : Nat} {f C : Addr} {fd : FuncData} {sp : Sp} {E : XK}
theorem looksX {pins : List (Addr × Obj)} {σ : L2.St} {H : Hp} {s : Shared} {y : V} {u t : Value} {M : Model} (I : Inv X pins σ H s) (r : RelV y u) (o : TyX X.K H y t) : PySem.W.Looks M s.heap (typeOf u) t := by
  obtain ⟨P, k, hp, _⟩ := kit_of I r o
  exact k.ty M s.heap I.kIn hp
def rEqX (K : PySem.W.Frag) (C : Addr) (sp : Sp) (E : XK) : R2 := fun x y H Q => ∃ a dx fs t, x = .ref a ∧ H a = some (.ins C dx fs) ∧ TyX K H y t ∧ PySem.W.notFirst K C t = true ∧ sp [x, y] H (fun v H' => ∃ b, v = .bl b ∧ Q (.bl b) H') E
theorem op_eqX (m : Meth X.K C "__eq__" f) (F : FnOk X.prog X.w X.K X.mg X.base CX n f fd ["self", "other"] sp) (hb : Binds X.K fd ["self", "other"] []) (hr : Room n X.A) (hx : Passes CX X E) : OpR X (compareOp .Eq) (rEqX X.K C sp E) := by
  intro pins s σ H x y v u Q I rx ry h
  obtain ⟨a, dx, fs, t, rfl, ea, ot, nf, q⟩ := h
  cases (show v = Value.ref a from rx)
  obtain ⟨mA, J, _⟩ := ins_get I.hok ea
  obtain ⟨od, J2, _⟩ := J.look
  obtain ⟨mF, hF⟩ := I.fr
  show wpAny _ _ (richCompare .Eq (.ref a) u) _ _ _
  refine PySem.W.cmp_K (op := .Eq) (tb := t) hr.units0 hF I.ok.mod.kin J2 (looksX I ry ot) nf m.at_ m.fn ?_
  refine wpAny_mono (ask F hb hr I.env0 hx I ry q) ?_ fun _ _ z => z
  rintro w s' ⟨b, rfl, q2⟩
  exact q2
def rNeX (K : PySem.W.Frag) (C : Addr) (sp : Sp) (E : XK) : R2 := fun x y H Q => ∃ a dx fs t, x = .ref a ∧ H a = some (.ins C dx fs) ∧ TyX K H y t ∧ PySem.W.notFirst K C t = true ∧ sp [x, y] H (fun v H' => ∃ b, v = .bl b ∧ Q (.bl (!b)) H') E
theorem op_neX (m : Meth X.K C "__eq__" f) (FO : FnOk X.prog X.w X.K X.mg X.base CX n f fd ["self", "other"] sp) (hb : Binds X.K fd ["self", "other"] []) (hr : Room (n + 2) X.A) (hx : Passes CX X E)
    (hne : PySem.W.findIn X.K (.ref C) "__ne__" = some (some (.builtin "object.__ne__"))) (ho : PySem.W.mroIn X.K C (.type "object") = some true) : OpR X (compareOp .NotEq) (rNeX X.K C sp E) := by
  intro pins s σ H x y v u Q I rx ry h
  obtain ⟨a, dx, fs, t, rfl, ea, ot, nf, q⟩ := h
  cases (show v = Value.ref a from rx)
  obtain ⟨mA, J, _⟩ := ins_get I.hok ea
  obtain ⟨od, J2, _⟩ := J.look
  have kin := I.kIn
  have slot := F.cmp_object.ne
  have asked : wpAny (model X.prog X.w) X.A (tryCompare (.ref a) "__ne__" u) (fun r s' => ∃ b, r = some (Value.bool b) ∧ EP X pins σ Q (.bool b) s') X.xe s := by
    have rung : wpAny (model X.prog X.w) X.A (call (.builtin "object.__ne__") [.ref a, u]) (fun v s' => ∃ b, v = Value.bool b ∧ EP X pins σ Q (.bool b) s') X.xe s := by
      refine wpAny_call (codeAny_call_builtin slot.plain F.cmpEntry_ne (slot_ok kin J2 ho ?_))
      refine other_way (A := X.A.in1) hr.in1.units0 kin J2 m.at_ m.fn ?_
      have same : (fun v H' => ∃ b, v = V.bl b ∧ (fun v H' => ∃ b, v = V.bl b ∧ Q (.bl (!b)) H') (.bl b) H') = (fun v H' => ∃ b, v = V.bl b ∧ Q (.bl (!b)) H' : VK) := by
        funext v H'
        refine propext ⟨?_, ?_⟩
        · rintro ⟨b, rfl, c, e, q⟩
          obtain rfl : b = c := V.bl.inj e
          exact ⟨b, rfl, q⟩
        · rintro ⟨b, rfl, q⟩
          exact ⟨b, rfl, b, rfl, q⟩
      refine wpAny_mono (ask (A := X.A.in1) (Q := fun v H' => ∃ b, v = V.bl b ∧ Q (.bl (!b)) H') FO hb (hr.in1.mono (by omega)) I.env0.in1 hx I ry (by rw [same]; exact q)) ?_ fun _ _ z => z
      rintro v s' ⟨b, rfl, w, H2, I2, rw2, c, rfl, q2⟩
      cases (show Value.bool b = Value.bool c from rw2)
      exact ⟨b, rfl, !b, rfl, .bl (!b), H2, I2, rfl, q2⟩
    unfold tryCompare
    refine wpAny_bind ?_
    simp only [callSpecialIfBound?, bindSpecialIfBound?, specialOf]
    refine wpAny_holding (wpAny_bind (wpAny_bind (wpAny_bind (J2.type.here ((PySem.W.looks_findIn kin hne).here ?_)))))
    simp only [slot.bind]
    have fin : wpAny (model X.prog X.w) X.A (call (.builtin "object.__ne__") ([.ref a] ++ [u]) >>= fun v => pure (some v)) (fun r s' => wpAny (model X.prog X.w) X.A (match r with | some .notImplemented | none => pure none | some v => pure (some v)) (fun r s' => ∃ b, r = some (Value.bool b) ∧ EP X pins σ Q (.bool b) s') X.xe s') X.xe s := by
      refine wpAny_bind (wpAny_mono rung ?_ fun _ _ z => z)
      rintro v s' ⟨b, rfl, q⟩
      exact wpAny_pure (wpAny_pure ⟨b, rfl, q⟩)
    refine wpAny_bind (wpAny_askSetting (wpAny_ite ?_))
    split
    · exact wpAny_bind (wpAny_pure (wpAny_pure fin))
    · exact wpAny_tryCatch (wpAny_bind (wpAny_pure (wpAny_pure fin)))
  show wpAny _ _ (richCompare .NotEq (.ref a) u) _ _ _
  have last : wpAny (model X.prog X.w) X.A (tryCompare (.ref a) "__ne__" u) (fun r s' => ∃ b, r = some (Value.bool b) ∧ EP X pins σ Q (.bool b) s') X.xe s := asked
  unfold richCompare
  simp only [oneThing_ref, cmpInfo]
  refine wpAny_holding (wpAny_bind (wpAny_cRoomFor hr.units0 (wpAny_bind (J2.type.here (wpAny_bind ((looksX I ry ot).here ?_))))))
  have rest : wpAny (model X.prog X.w) X.A (tryCompare (.ref a) "__ne__" u) (fun r s' => ∃ b, r = some (Value.bool b) ∧ EP X pins σ Q (.bool b) s') X.xe s := last
  by_cases c : (Value.ref C != t) = true
  · rw [if_pos c]
    have e : PySem.W.subIn X.K t (.ref C) = some false := by
      rcases Bool.or_eq_true_iff.mp nf with z | z
      · rw [beq_iff_eq.mp z] at c
        simp at c
      · exact beq_iff_eq.mp z
    refine wpAny_bind ((PySem.W.looks_subIn kin e).here ?_)
    rw [if_neg (by decide)]
    refine wpAny_bind (wpAny_mono rest ?_ fun _ _ z => z)
    rintro r s' ⟨b, rfl, q⟩
    exact wpAny_pure q
  · rw [if_neg c]
    refine wpAny_bind (wpAny_pure ?_)
    rw [if_neg (by decide)]
    refine wpAny_bind (wpAny_mono rest ?_ fun _ _ z => z)
    rintro r s' ⟨b, rfl, q⟩
    exact wpAny_pure q
end
end Oeq
set_option Elab.async false
set_option linter.all false
set_option maxRecDepth 100000
set_option maxHeartbeats 2000000
namespace PySem.W
open PySem PySem.Calls PyProof.Rows
section
variable {prog : Program} {w : World} {M : Model} {A : Around} {E : Value → Shared → Prop} {s : Shared} {K : Frag} {x C L f : Addr} {h₀ : Heap} {m : Str → Option Value} {ox : Obj} {od : Option Obj} {nm T : String}
/-- len of an own instance -/
theorem own_len {n : Int} {Q : Value → Shared → Prop} (X : K.In s.heap) (I : InstAt s.heap x ox C od) (hs : findIn K (.ref C) "__len__" = some (some (.ref f))) (hf : typeIn K (.ref f) = some (.type "function"))
    (h : wpAny (model prog w) A.in1 (call (.ref f) [.ref x]) (fun v s' => ∃ (n : Int) (t : Tok), v = .int n t ∧ 0 ≤ n ∧ n < 2 ^ 63 ∧ ∀ t tk, Q (.int n t) { s' with toks := tk }) E s) : wpAny (model prog w) A (call (.builtin "len") [.ref x]) Q E s := by
  refine Calls.call_function_entry kind_len plain_len entry_len (args_len1 _) ?_
  unfold Builtin.«len»
  refine wpAny_bind (m := oneArg "len" _) (wpAny_pure ?_)
  refine wpAny_bind (m := callSpecial? (.ref x) (Str.ofString "__len__")) (special_fn X I hs hf (wpAny_mono h ?_ fun _ _ z => z))
  rintro v s' ⟨n, t, rfl, h0, h1, hq⟩
  refine wpAny_bind (wpAny_holding (wpAny_pure ?_))
  refine wpAny_bind (wpAny_letGo ?_)
  show wpAny _ _ (if n < 0 then _ else _) _ _ _
  rw [if_neg (by omega)]
  show wpAny _ _ (if n ≥ 2 ^ 63 then _ else _) _ _ _
  rw [if_neg (by omega)]
  exact wpAny_bind (wpAny_mkInt (wpAny_pure ⟨_, rfl, hq _ _⟩))
end
end PySem.W
namespace Owp
open PySem PySem.Spec PyProof.Rows L2 Pre
section
variable {X : Cx} {CX : CXT} {n : Nat} {f C : Addr} {fd : FuncData} {sp : Sp} {E : XK}
/-- a method of one argument beside self, called; what it gives -/
theorem ask2 {ps : List Str} {pins : List (Addr × Obj)} {σ : L2.St} {H : Hp} {s : Shared} {Q : VK} {A : Around} {us : List Value} {vs : List V} (F : FnOk X.prog X.w X.K X.mg X.base CX n f fd ps sp) (hb : Binds X.K fd ps []) (hr : Room n A) (hA : Env0 X.prog X.w X.K X.mg X.base A X.stack s H) (hx : Passes CX X E)
    (I : Inv X pins σ H s) (rv : Vals vs us) (q : sp vs H Q E) : wpAny (model X.prog X.w) A (call (.ref f) us) (EP X pins σ Q) X.xe s := by
  have hl : us.length = ps.length := rv.length.symm.trans (F.len _ _ _ _ q)
  have hb2 := hb s us I.kIn (by rw [List.append_nil]; exact hl)
  rw [List.append_nil] at hb2
  refine wpAny_call (codeAny_mono (F.run A X.stack s H ⟨us, []⟩ us vs _ E hr hA hb2 rv q) ?_)
  intro out s' back
  cases out with
  | error z => exact hx pins σ H s z s' I back
  | ok fl =>
    cases fl with
    | ret w => exact I.after back
    | next => exact back.elim
    | brk => exact back.elim
    | cont => exact back.elim
theorem relNI {z : V} (r : RelV z Value.notImplemented) : False := by
  cases z with
  | non => cases (show Value.notImplemented = Value.none from r)
  | bl b => cases (show Value.notImplemented = Value.bool b from r)
  | int i => obtain ⟨_, h⟩ := (show ∃ t, Value.notImplemented = Value.int i t from r); cases h
  | str i => obtain ⟨_, h⟩ := (show ∃ t, Value.notImplemented = Value.str i t from r); cases h
  | byt i => obtain ⟨_, h⟩ := (show ∃ t, Value.notImplemented = Value.bytes i t from r); cases h
  | flt i => obtain ⟨_, h⟩ := (show ∃ t, Value.notImplemented = Value.float i t from r); cases h
  | ref i => cases (show Value.notImplemented = Value.ref i from r)
  | ty i => cases (show Value.notImplemented = Value.type i from r)
/-- what an own operator asks of the classes -/
structure BinT (K : PySem.W.Frag) (C f : Addr) (op : Operator) (T : String) : Prop where
  first : PySem.W.selfFirst K C = true
  at_ : PySem.W.findIn K (.ref C) (PySem.dunder op.info.2) = some (some (.ref f))
  fn : PySem.W.isFn K (.ref f) = true
  rev : ∃ rc, PySem.W.findIn K (.ref C) (dunderR op.info.2) = some rc ∧ (rc = none ∨ ∃ g : Addr, rc = some (.ref g))
  t1 : ∃ fo, PySem.W.findIn K (.type T) (PySem.dunder op.info.2) = some fo
  t2 : ∃ ro, PySem.W.findIn K (.type T) (dunderR op.info.2) = some ro
  sub : PySem.W.subIn K (.type T) (.ref C) = some false
def binTB (K : PySem.W.Frag) (C f : Addr) (op : Operator) (T : String) : Bool :=
  PySem.W.selfFirst K C && (decide (PySem.W.findIn K (.ref C) (PySem.dunder op.info.2) = some (some (.ref f))) && (PySem.W.isFn K (.ref f) && ((match PySem.W.findIn K (.ref C) (dunderR op.info.2) with
    | some none => true
    | some (some (.ref _)) => true
    | _ => false) && ((PySem.W.findIn K (.type T) (PySem.dunder op.info.2)).isSome && ((PySem.W.findIn K (.type T) (dunderR op.info.2)).isSome && decide (PySem.W.subIn K (.type T) (.ref C) = some false))))))
theorem binTB_ok {K : PySem.W.Frag} {C f : Addr} {op : Operator} {T : String} (h : binTB K C f op T = true) : BinT K C f op T := by
  unfold binTB at h
  simp only [Bool.and_eq_true, decide_eq_true_eq] at h
  obtain ⟨h1, h2, h3, h4, h5, h6, h7⟩ := h
  refine ⟨h1, h2, h3, ?_, Option.isSome_iff_exists.mp h5, Option.isSome_iff_exists.mp h6, h7⟩
  cases q : PySem.W.findIn K (.ref C) (dunderR op.info.2) with
  | none => rw [q] at h4; cases h4
  | some r =>
    rw [q] at h4
    cases r with
    | none => exact ⟨_, rfl, .inl rfl⟩
    | some v =>
      cases v with
      | ref g => exact ⟨_, rfl, .inr ⟨g, rfl⟩⟩
      | _ => cases h4
/-- asked first, the left side's own method answers -/
theorem left_first {M : Model} {A : Around} {E : Value → Shared → Prop} {s : Shared} {nm T : String} {a b : Value} {C : Addr} {right : Bool} {ro : Option Value} {Q : Value → Shared → Prop}
    (la : PySem.W.Looks M s.heap (typeOf a) (.ref C)) (lb : PySem.W.Looks M s.heap (typeOf b) (.type T)) (fl : PySem.W.Looks M s.heap (fillsNumberSlot (.ref C) nm) true) (fr : PySem.W.Looks M s.heap (fillsNumberSlot (.type T) nm) right)
    (no : PySem.W.Looks M s.heap (isSubtype (.type T) (.ref C)) false) (py : PySem.W.Looks M s.heap (numberSlotInPython (.ref C) nm) true) (taken : PySem.W.Looks M s.heap (typeLookup (.type T) (dunderR nm)) ro)
    (asks : wpAny M A (tryMethod a (PySem.dunder nm) b) (fun r s' => ∃ v, r = some v ∧ Q v s') E s) : wpAny M A (binaryOp1 nm a b) (fun r s' => ∃ v, r = some v ∧ Q v s') E s := by
  obtain ⟨heap, gs, dd, tk, io⟩ := s
  have npy : PySem.W.Looks M heap (numberSlotInPython (.type T) nm) false := .of_pure rfl
  have diff : ((Value.ref C : Value) == .type T) = false := rfl
  unfold binaryOp1
  refine wpAny_bind (la.at (wpAny_bind (lb.at (wpAny_bind (fl.at ?_)))))
  rw [diff]
  cases right
  all_goals
    ksp_lk
    refine wpAny_mono asks ?_ fun _ _ e => e
    rintro _ s2 ⟨v, rfl, q⟩
    ksp_lk
    exact ⟨v, rfl, q⟩
theorem BinT.gives {P : Program} {w : World} {A : Around} {E : Value → Shared → Prop} {s : Shared} {K : PySem.W.Frag} {x C f : Addr} {ox : Obj} {od : Option Obj} {op : Operator} {b : Value} {T : String} {Q : Value → Shared → Prop} (B : BinT K C f op T) (KI : K.In s.heap)
    (I : PySem.W.InstAt s.heap x ox C od) (lb : PySem.W.Looks (model P w) s.heap (typeOf b) (.type T)) (q : wpAny (model P w) A (call (.ref f) [.ref x, b]) (PySem.W.CmpBack Q) E s) : wpAny (model P w) A (binaryOp op (.ref x) b) Q E s := by
  obtain ⟨cd, rest, c1, c2⟩ := PySem.W.ksp_first B.first
  obtain ⟨rc, r1, r2⟩ := B.rev
  obtain ⟨fo, t1⟩ := B.t1
  obtain ⟨ro, t2⟩ := B.t2
  unfold binaryOp
  refine wpAny_holding (wpAny_bind (wpAny_mono (left_first I.type lb (PySem.W.fills_K KI c1 c2 B.at_) (PySem.W.ksp_fillsT KI t1 t2) (PySem.W.looks_subIn KI B.sub) (PySem.W.ksp_inPy KI B.at_ r1 r2) (PySem.W.looks_findIn KI t2) (PySem.W.ksp_try KI I B.at_ B.fn q)) ?_ fun _ _ e => e))
  rintro _ s2 ⟨v, rfl, z⟩
  exact wpAny_pure z
def rBinO (K : PySem.W.Frag) (C : Addr) (T : String) (sp : Sp) (E : XK) : R2 := fun x y H Q => ∃ a dx fs, x = .ref a ∧ H a = some (.ins C dx fs) ∧ TyX K H y (.type T) ∧ sp [x, y] H Q E
theorem op_own {op : Operator} {T : String} {ps : List Str} (b : BinT X.K C f op T) (F : FnOk X.prog X.w X.K X.mg X.base CX n f fd ps sp) (hb : Binds X.K fd ps []) (hr : Room n X.A) (hx : Passes CX X E) : OpR X (binaryOp op) (rBinO X.K C T sp E) := by
  intro pins s σ H x y v u Q I rx ry h
  obtain ⟨a, dx, fs, rfl, ea, ot, q⟩ := h
  cases (show v = Value.ref a from rx)
  obtain ⟨mA, J, _⟩ := ins_get I.hok ea
  obtain ⟨od, J2, _⟩ := J.look
  refine b.gives I.kIn J2 (Oeq.looksX I ry ot) ?_
  refine wpAny_mono (ask2 F hb hr I.env0 hx I (show Vals [V.ref a, y] [Value.ref a, u] from .cons rfl (.cons ry .nil)) q) ?_ fun _ _ z => z
  rintro w s' ⟨z, H2, I2, rz, q2⟩
  have fin : EP X pins σ Q w s' := ⟨z, H2, I2, rz, q2⟩
  unfold PySem.W.CmpBack
  cases w <;> first | exact fin | exact (relNI rz).elim
/-- len(x) by an own __len__ -/
def rLenO (C : Addr) (sp : Sp) (E : XK) : List V → Hp → VK → Prop := fun xs H Q => ∃ a dx fs, xs = [.ref a] ∧ H a = some (.ins C dx fs) ∧ sp [.ref a] H (fun v H' => ∃ n : Int, v = .int n ∧ 0 ≤ n ∧ n < 2 ^ 63 ∧ Q (.int n) H') E
theorem call_lenO (m : Meth X.K C "__len__" f) (F : FnOk X.prog X.w X.K X.mg X.base CX n f fd ["self"] sp) (hb : Binds X.K fd ["self"] []) (hr : Room (n + 1) X.A) (hx : Passes CX X E) : CallR X (.builtin "len") (rLenO C sp E) := by
  intro pins s σ H xs us Q I r h
  obtain ⟨a, dx, fs, rfl, ea, q⟩ := h
  obtain ⟨u, rfl, rx⟩ := vals1 r
  cases (show u = Value.ref a from rx)
  obtain ⟨mA, J, _⟩ := ins_get I.hok ea
  obtain ⟨od, J2, _⟩ := J.look
  refine PySem.W.own_len (n := 0) I.kIn J2 m.at_ (beq_iff_eq.mp m.fn) ?_
  refine wpAny_mono (ask2 F hb hr.in1 I.env0.in1 hx I (show Vals [V.ref a] [Value.ref a] from .cons rfl .nil) q) ?_ fun _ _ z => z
  rintro w s' ⟨z, H2, I2, rz, k, rfl, h0, h1, q2⟩
  obtain ⟨t, rfl⟩ := rz
  exact ⟨k, t, rfl, h0, h1, fun t tk => ⟨.int k, H2, I2.tok _, ⟨_, rfl⟩, q2⟩⟩
/-! ### iter(t), a class that walks a tuple of its own -/
def TIt (it t : Addr) : HO := .ext fun h => h.IsTupleIter it t 0
def rIterT (N : Nat) (K : PySem.W.Frag) : List V → Hp → VK → Prop := fun xs H Q => ∃ t ys, xs = [.ref t] ∧ SqT K H t ys ∧ ∀ p, H p = none → N ≤ p → Q (.ref p) (upd H p (TIt p t))
theorem call_iterT : CallR X (.builtin "iter") (rIterT X.s_0.heap.objs.size X.K) := by
  intro pins s σ H xs us Q I r h
  obtain ⟨t, ys, rfl, hq, q⟩ := h
  obtain ⟨u, rfl, rx⟩ := vals1 r
  cases (show u = Value.ref t from rx)
  obtain ⟨its, rv, p, hz⟩ := I.tuple hq
  refine Calls.call_function_entry (by decide +kernel) (by decide +kernel) PySem.W.kdk_entry_iter (PySem.W.kdk_args_iter _) ?_
  show wpAny _ _ (pyIter (.ref t) >>= fun v => ret v) _ _ _
  refine wpAny_bind (wpAny_pyIter_tuple (show s.heap.IsTuple t its.toArray from p) ?_)
  refine wpAny_pure ⟨_, rfl, ?_⟩
  have I2 := I.laid (o := TIt s.heap.objs.size t) (t' := s.toks) (h' := s.heap.push { cls := .type "tuple_iterator", data := .fields #[.ref t, .int 0 0] }) (fun b o e => Heap.get?_push_of_some _ e) (Nat.le_refl _)
    ⟨⟨_, Heap.get?_push_size _ rfl, rfl, rfl⟩, ⟨_, Heap.get?_push_size _ rfl⟩, fun h1 h2 x st => x.at st⟩
  exact ⟨.ref s.heap.objs.size, _, I2, rfl, q _ (I.hok.fresh (Nat.le_refl _)) I.sz⟩
/-- an object of ours that was not there at the entry is tracked no more -/
theorem forget {pins : List (Addr × Obj)} {σ : L2.St} {H : Hp} {s : Shared} {a : Addr} {φ : Heap → Prop} (I : Inv X pins σ H s) (ha : H a = some (.ext φ)) (hN : X.s_0.heap.objs.size ≤ a) (hx : X.ex = []) :
    Inv X pins σ (L2.del H a) s ∧ FpOk X pins (L2.del H a) a := by
  have n0 : X.s_0.heap.get? a = none := by
    cases e : X.s_0.heap.get? a with
    | none => rfl
    | some o => exact absurd (Nat.lt_of_lt_of_le (Heap.lt_size e) hN) (Nat.lt_irrefl _)
  have dn : ∀ b, H b = none → L2.del H a b = none := fun b e => by
    unfold L2.del
    split
    · rfl
    · exact e
  have dk : ∀ b, b ≠ a → L2.del H a b = H b := fun b e => by
    unfold L2.del
    rw [if_neg e]
  have neo : ∀ b o, H b = some o → (∀ φ, o ≠ .ext φ) → L2.del H a b = some o := fun b o e q => by
    rw [dk b (fun z => by rw [z, ha] at e; exact q φ (Option.some.inj e).symm)]
    exact e
  have ne0 : ∀ b o, X.s_0.heap.get? b = some o → b ≠ a := fun b o e z => by
    rw [z, n0] at e
    cases e
  have J : Inv X pins σ (L2.del H a) s := by
    refine ⟨I.ok, I.os, I.bare, ⟨I.base.keep, I.base.slot, fun b o e n hb => dn b (I.base.free b o e n hb), I.base.there, fun b xs e => neo b _ (I.base.tups b xs e) (fun φ z => by cases z), fun b o u e => neo b _ (I.base.frzs b o u e) (fun φ z => by cases z), fun b ps e => ?_⟩,
      I.loc, I.cell, dn _ I.free, fun x c e => dn _ (I.freeC x c e), fun p hp => ?_, fun b u e => ?_, I.len⟩
    · obtain ⟨m, z⟩ := I.base.tbls b ps e
      exact ⟨m, neo b _ z (fun φ z => by cases z)⟩
    · obtain ⟨e, n, r⟩ := I.pin p hp
      exact ⟨e, dn _ n, r⟩
    · have hb : b ≠ a := fun z => by
        rw [z] at e
        unfold L2.del at e
        rw [if_pos rfl] at e
        cases e
      rw [dk b hb] at e
      exact (I.hok b u e).stay (fun c v _ q => q) (fun c q => neo c _ q (fun φ z => by cases z)) fun c xs q => neo c _ q (fun φ z => by cases z)
  refine ⟨J, by unfold L2.del; rw [if_pos rfl], fun z => ?_, fun hb => ?_, .inr ?_, fun x c e z => ?_, fun p hp z => ?_⟩
  · have := I.free
    rw [← z, ha] at this
    cases this
  · obtain ⟨_, o, ho, _⟩ := I.ok.funs.mem hb
    exact ne0 _ o ho rfl
  · exact hN
  · have := I.freeC x c e
    rw [z, ha] at this
    cases this
  · have := (I.pin p hp).2.1
    rw [z, ha] at this
    cases this
/-- a def whose promise may speak of the heap's size at its entry -/
def FnN (P : Program) (w : World) (K : PySem.W.Frag) (mg : Str → Option Value) (base : Heap) (CX : CXT) (k : Nat) (f : Addr) (fd : FuncData) (ps : List Str) (sp : Nat → Sp) : Prop :=
  ∀ (A : Around) (up : List Env) (s : Shared) (H : Hp) (args : Args) (us : List Value) (vs : List V) (Q : VK) (E : XK) (N : Nat), N ≤ s.heap.objs.size → Room k A →
    Env0 P w K mg base A up s H → BindsTo s fd args (ps.zip us) → Vals vs us → vs.length = ps.length → sp N vs H Q E → codeAny (model P w) A (.call (.ref f) args) (CR CX up P w H s Q E) s
theorem fnN_of {P : Program} {w : World} {K : PySem.W.Frag} {mg : Str → Option Value} {base : Heap} {k : Nat} {f : Addr} {fd : FuncData} {ps N : List Str} {sp : Nat → Sp} {x qual : Str} {params : Arguments} {body : List Stmt} {scope : Scope} {dvs : List V} {kws : List (Str × V)}
    (F : FunD K x qual params body scope dvs kws f fd) (S : FnScope N ps scope)
    (walk : ∀ (cdv : Value) (A : Around) (up : List Env) (s : Shared) (H : Hp) (vs : List V) (Q : VK) (E : XK) (n : Nat), n ≤ s.heap.objs.size → Room k (A.deeper (envOfC qual scope s.heap.objs.size f cdv)) → sp n vs H Q E →
      ∃ t, PSs (cxOf CX P w K mg base N qual scope f cdv A up s H E) body t ∧ t { nx := fun _ H' => Q .non H', rt := Q } (start N vs) H) : FnN P w K mg base CX (k + 1) f fd ps sp := by
  obtain ⟨oc, od, dV, kV, doc, pm, an, cdv, ct, osl, rfl, lk, hcd, _, _⟩ := F.ex
  intro A up s H args us vs Q E n hn room e0 bind rv nv hsp
  have stays : ∀ b o, base.get? b = some o → s.heap.get? b = some o := fun b o e => (e0.bs b o e).1
  have KX := e0.mod.kin.keeps stays
  have places : ∀ y ∈ ps.zip us, scope.names.lookup y.1 = some .local ∨
      (scope.names.lookup y.1 = some .cell ∧ ((cellsFrom (s.heap.objs.size + 1) scope.names []).lookup y.1).isSome = true) := by
    rintro ⟨n, v⟩ hy
    exact (S.par n (List.of_mem_zip hy).1).imp id fun q => ⟨q, PySem.W.cellsFrom_some _ _ _ (.inl q)⟩
  refine codeAny_call_function room.depth (KX _ _ lk) rfl S.co S.gen rfl (PySem.W.codeRec_of KX hcd) (bind _ _ _ _ ?_)
  refine wpAny_newFunctionEnv_cells S.kind places fun env he s1 x => ?_
  subst he
  refine ⟨(e0.mod.nolimit.keeps stays).keeps x.toInCall.keep, codeAny_func ?_⟩
  obtain ⟨t, ht, hq⟩ := walk cdv A up s H vs Q E n hn (room.deeper _) hsp
  refine wpAny_mono (ht.run [] s1 (start N vs) H _ (inv_start S room.hd e0 nv rv x) hq) ?_ fun _ _ z => z
  intro fl s' out
  cases fl with
  | next =>
    obtain ⟨σ', H', J, q⟩ := out
    exact ⟨V.non, H', J.os, J.bare, J.base, J.hok, rfl, q⟩
  | ret u =>
    obtain ⟨v, σ', H', J, ru, q⟩ := out
    exact ⟨v, H', J.os, J.bare, J.base, J.hok, ru, q⟩
  | brk =>
    obtain ⟨_, _, _, q⟩ := out
    exact q.elim
  | cont =>
    obtain ⟨_, _, _, q⟩ := out
    exact q.elim
/-- for .. in x, the class of x gives a tuple's iterator -/
def qIt (X : Cx) (R : It → Hp → Prop) : VK := fun v H2 => ∃ it t, v = .ref it ∧ H2 it = some (TIt it t) ∧ X.s_0.heap.objs.size ≤ it ∧ (∃ xs, SqT X.K (L2.del H2 it) t xs) ∧ R (Itt X.K t) (L2.del H2 it)
def iOwnT (X : Cx) (C : Addr) (sp : Nat → Sp) (E : XK) (te : TE) : TI := fun σ H R => te σ H fun x H1 => ∃ a dx fs, x = .ref a ∧ H1 a = some (.ins C dx fs) ∧
  sp X.s_0.heap.objs.size [.ref a] H1 (qIt X R) E
theorem pi_ownT {tg e : Expr} {te : TE} {sp : Nat → Sp} (hx0 : X.ex = []) (m : Meth X.K C "__iter__" f) (F : FnN X.prog X.w X.K X.mg X.base CX n f fd ["self"] sp) (hb : Binds X.K fd ["self"] []) (hr : Room n X.A) (hx : Passes CX X E) (he : PE X e te) : PI X tg e (iOwnT X C sp E te) := by
  refine ⟨fun pins s σ H R I h => ?_⟩
  refine thn (he.run pins s σ H _ I h) fun v s1 ⟨x, H1, I1, r1, q1⟩ => ?_
  obtain ⟨a, dx, fs, rfl, ea, q⟩ := q1
  cases (show v = Value.ref a from r1)
  obtain ⟨mA, J, _⟩ := ins_get I1.hok ea
  obtain ⟨od, J2, _⟩ := J.look
  obtain ⟨mF, hF⟩ := I1.fr
  refine PySem.W.owit_iter hF I1.ok.mod.kin J2 m.at_ m.fn ?_
  have hb2 := hb s1 [Value.ref a] I1.kIn rfl
  refine wpAny_call (codeAny_mono (F X.A X.stack s1 H1 ⟨[Value.ref a], []⟩ [Value.ref a] [V.ref a] _ E _ I1.sz hr I1.env0 hb2 (.cons rfl .nil) rfl q) ?_)
  intro out s2 back
  have go : ∀ u, CE X.stack X.prog X.w H1 s1 (qIt X R) u s2 → PySem.W.OwitIt (model X.prog X.w) X.A (PIE X pins σ tg R) X.xe u s2 := fun u back => by
    obtain ⟨z, H2, I2, rz, it, t, rfl, h1, h0, ht, q2⟩ := I1.after back
    cases (show u = Value.ref it from rz)
    obtain ⟨I3, fp⟩ := forget I2 h1 h0 hx0
    obtain ⟨i1, ⟨o1, i2⟩, i3⟩ := I2.hok it _ h1
    have ii : s2.heap.IsTupleIter it t 0 := i1
    unfold PySem.W.OwitIt
    refine wpAny_specialOf ii.typeIs PySem.F.slot_tuple_iterator_next.lookup ?_
    exact ⟨it, [it], _, _, _, rfl, I3, turn_tuple t it, ii, fun b hb => by
      have e : b = it := by simpa using hb
      subst e
      exact fp, q2⟩
  cases out with
  | error z => exact hx pins σ H1 s1 z s2 I1 back
  | ok fl =>
    cases fl with
    | ret w => exact go w back
    | next => exact back.elim
    | brk => exact back.elim
    | cont => exact back.elim
end
end Owp
set_option Elab.async false
set_option linter.all false
set_option maxRecDepth 100000
set_option maxHeartbeats 4000000
namespace Ers
open PySem PySem.Spec PyProof.Rows L2
/-! an error that keeps no field: raise C(), C below ValueError without an __init__ of its own -/
abbrev veTail : List Value := [.type "ValueError", .type "Exception", .type "BaseException", .type "object"]
def bareB (K : PySem.W.Frag) (C : Addr) : Bool := PySem.W.excIn K C veTail "ValueError.__new__" && (PySem.W.keepIn K (.ref C) && (decide (PySem.W.subIn K (.ref C) (.type "BaseException") = some true) && decide (PySem.W.typeIn K (.ref C) = some (.type "type"))))
structure Bare (K : PySem.W.Frag) (C : Addr) : Prop where
  at_ : PySem.W.excIn K C veTail "ValueError.__new__" = true
  kp : PySem.W.keepIn K (.ref C) = true
  up : PySem.W.subIn K (.ref C) (.type "BaseException") = some true
  ty : PySem.W.typeIn K (.ref C) = some (.type "type")
theorem bareB_ok {K : PySem.W.Frag} {C : Addr} (h : bareB K C = true) : Bare K C := by
  unfold bareB at h
  simp only [Bool.and_eq_true, decide_eq_true_eq] at h
  exact ⟨h.1, h.2.1, h.2.2.1, h.2.2.2⟩
theorem bare_made {X : Cx} {x : Str} {C : Addr} {p pos : Pos} (T : Bare X.K C) (hg : Gl X x) (hm : X.mg x = some (.ref C)) (hdb : (x == ("__debug__" : Str)) = false := by decide) :
    PMk X (.Call (.Name x p) [] [] pos) (fun _ H Q => Q (.ref C) none H) := fun pins s σ H Q I w => by
  have size : ([] : List Value).length ≤ sizeLine := Nat.zero_le _
  refine wpAny_Call_Name_kw (ld_glob I hg hm (PySem.W.callWith_K0 I.kIn T.kp ?_) hdb)
  have o := exc_obj I.kIn T.at_
  obtain ⟨_, _, _, _, _, _, _, _, _, _, _, _, _, _, _, _, o1, o2, o3, o4⟩ := o
  show wpAny _ _ (call (.ref C) []) _ _ _
  exact wpAny_call_exc_subT (rest := []) PySem.F.excBase_ValueError o4.2 o2 o3 o4.1 (fun _ _ m => mk_of I m (raises_own T.up T.ty) w (I.hok.gone m.new)) size
theorem ps_raise0 {X : Cx} {W : WX} {x : Str} {C : Addr} {p pos pos' : Pos} (T : Bare X.K C) (hg : Gl X x) (hm : X.mg x = some (.ref C)) (hc : X.calm = true) (tk : Takes X W) (hdb : (x == ("__debug__" : Str)) = false := by decide) :
    PS X (.Raise (some (.Call (.Name x p) [] [] pos)) none pos') (fun _ σ H => W (.ref C) none σ H) := ps_raise hc tk (bare_made T hg hm hdb)
end Ers
set_option Elab.async false
set_option linter.all false
set_option maxRecDepth 100000
set_option maxHeartbeats 4000000
namespace K41
open PySem PySem.Spec PyProof.Rows L2
def top (i : Nat) : Stmt := PySem.Challenge.pw_gaugeroad_k41_stores_refuse_looks_and_bo.main.body.getD i (.Pass ⟨0, 0, 0, 0⟩)
abbrev s_BadNumber_init : Stmt := inClass (top 3) 0
def d_BadNumber_init : He.DefD := ⟨("BadNumber", some "__init__"), "__init__", "BadNumber.__init__", defArgs s_BadNumber_init, defBody s_BadNumber_init, defScope s_BadNumber_init, [], []⟩
abbrev s_BadTiers_init : Stmt := inClass (top 4) 0
def d_BadTiers_init : He.DefD := ⟨("BadTiers", some "__init__"), "__init__", "BadTiers.__init__", defArgs s_BadTiers_init, defBody s_BadTiers_init, defScope s_BadTiers_init, [], []⟩
abbrev s_BadStore_init : Stmt := inClass (top 5) 0
def d_BadStore_init : He.DefD := ⟨("BadStore", some "__init__"), "__init__", "BadStore.__init__", defArgs s_BadStore_init, defBody s_BadStore_init, defScope s_BadStore_init, [], []⟩
abbrev s_NotYet_init : Stmt := inClass (top 6) 0
def d_NotYet_init : He.DefD := ⟨("NotYet", some "__init__"), "__init__", "NotYet.__init__", defArgs s_NotYet_init, defBody s_NotYet_init, defScope s_NotYet_init, [], []⟩
abbrev s_Forgotten_init : Stmt := inClass (top 7) 0
def d_Forgotten_init : He.DefD := ⟨("Forgotten", some "__init__"), "__init__", "Forgotten.__init__", defArgs s_Forgotten_init, defBody s_Forgotten_init, defScope s_Forgotten_init, [], []⟩
abbrev s_Unlike_init : Stmt := inClass (top 8) 0
def d_Unlike_init : He.DefD := ⟨("Unlike", some "__init__"), "__init__", "Unlike.__init__", defArgs s_Unlike_init, defBody s_Unlike_init, defScope s_Unlike_init, [], []⟩
abbrev s_BadText_init : Stmt := inClass (top 9) 0
abbrev s_TooMany_init : Stmt := inClass (top 10) 0
def d_TooMany_init : He.DefD := ⟨("TooMany", some "__init__"), "__init__", "TooMany.__init__", defArgs s_TooMany_init, defBody s_TooMany_init, defScope s_TooMany_init, [], []⟩
abbrev s_is_whole : Stmt := top 13
def d_is_whole : He.DefD := ⟨("is_whole", none), "is_whole", "is_whole", defArgs s_is_whole, defBody s_is_whole, defScope s_is_whole, [], []⟩
abbrev s_is_within : Stmt := top 14
def d_is_within : He.DefD := ⟨("is_within", none), "is_within", "is_within", defArgs s_is_within, defBody s_is_within, defScope s_is_within, [], []⟩
abbrev s_check_number : Stmt := top 15
def d_check_number : He.DefD := ⟨("check_number", none), "check_number", "check_number", defArgs s_check_number, defBody s_check_number, defScope s_check_number, [], []⟩
abbrev s_is_number_word : Stmt := top 18
abbrev s_Words_init : Stmt := inClass (top 19) 0
abbrev s_Words_is_done : Stmt := inClass (top 19) 1
abbrev s_Words_ahead : Stmt := inClass (top 19) 3
abbrev s_Words_refuse : Stmt := inClass (top 19) 5
abbrev s_Words_take : Stmt := inClass (top 19) 6
abbrev s_Words_take_integer : Stmt := inClass (top 19) 7
abbrev s_Words_has_number : Stmt := inClass (top 19) 8
abbrev s_Words_take_number : Stmt := inClass (top 19) 9
abbrev s_Words_take_multiple : Stmt := inClass (top 19) 11
abbrev s_Words_take_end_or : Stmt := inClass (top 19) 12
abbrev s_Tiers_init : Stmt := inClass (top 24) 1
def d_Tiers_init : He.DefD := ⟨("Tiers", some "__init__"), "__init__", "Tiers.__init__", defArgs s_Tiers_init, defBody s_Tiers_init, defScope s_Tiers_init, [], []⟩
abbrev s_Tiers_read : Stmt := inClass (top 24) 2
abbrev s_Tiers_oldest : Stmt := inClass (top 24) 3
abbrev s_Tiers_width_of : Stmt := inClass (top 24) 7
def d_Tiers_width_of : He.DefD := ⟨("Tiers", some "width_of"), "width_of", "Tiers.width_of", defArgs s_Tiers_width_of, defBody s_Tiers_width_of, defScope s_Tiers_width_of, [], []⟩
abbrev s_Tiers_grid_of : Stmt := inClass (top 24) 8
def d_Tiers_grid_of : He.DefD := ⟨("Tiers", some "grid_of"), "grid_of", "Tiers.grid_of", defArgs s_Tiers_grid_of, defBody s_Tiers_grid_of, defScope s_Tiers_grid_of, [], []⟩
abbrev s_Tiers_len : Stmt := inClass (top 24) 9
abbrev s_Tiers_iter : Stmt := inClass (top 24) 10
abbrev s_Tiers_or : Stmt := inClass (top 24) 11
abbrev s_Tiers_eq : Stmt := inClass (top 24) 12
abbrev s_Tiers_str : Stmt := inClass (top 24) 13
abbrev s_fits_behind : Stmt := top 25
def d_fits_behind : He.DefD := ⟨("fits_behind", none), "fits_behind", "fits_behind", defArgs s_fits_behind, defBody s_fits_behind, defScope s_fits_behind, [], []⟩
abbrev s_take_pairs : Stmt := top 26
abbrev s_Look_init : Stmt := inClass (top 32) 0
def d_Look_init : He.DefD := ⟨("Look", some "__init__"), "__init__", "Look.__init__", defArgs s_Look_init, defBody s_Look_init, defScope s_Look_init, [.int 0], []⟩
abbrev s_Look_eq : Stmt := inClass (top 32) 1
def d_Look_eq : He.DefD := ⟨("Look", some "__eq__"), "__eq__", "Look.__eq__", defArgs s_Look_eq, defBody s_Look_eq, defScope s_Look_eq, [], []⟩
abbrev s_State_init : Stmt := inClass (top 33) 0
def d_State_init : He.DefD := ⟨("State", some "__init__"), "__init__", "State.__init__", defArgs s_State_init, defBody s_State_init, defScope s_State_init, [], []⟩
abbrev s_Store_init : Stmt := inClass (top 34) 0
def d_Store_init : He.DefD := ⟨("Store", some "__init__"), "__init__", "Store.__init__", defArgs s_Store_init, defBody s_Store_init, defScope s_Store_init, [.int 0], []⟩
abbrev s_Store_now : Stmt := inClass (top 34) 1
abbrev s_Store_pass_to : Stmt := inClass (top 34) 2
def d_Store_pass_to : He.DefD := ⟨("Store", some "pass_to"), "pass_to", "Store.pass_to", defArgs s_Store_pass_to, defBody s_Store_pass_to, defScope s_Store_pass_to, [], []⟩
abbrev s_Store_put : Stmt := inClass (top 34) 3
def d_Store_put : He.DefD := ⟨("Store", some "put"), "put", "Store.put", defArgs s_Store_put, defBody s_Store_put, defScope s_Store_put, [.int 0], []⟩
abbrev s_Store_look_at : Stmt := inClass (top 34) 4
def d_Store_look_at : He.DefD := ⟨("Store", some "look_at"), "look_at", "Store.look_at", defArgs s_Store_look_at, defBody s_Store_look_at, defScope s_Store_look_at, [], []⟩
abbrev s_Store_kept : Stmt := inClass (top 34) 5
def d_Store_kept : He.DefD := ⟨("Store", some "kept"), "kept", "Store.kept", defArgs s_Store_kept, defBody s_Store_kept, defScope s_Store_kept, [], []⟩
abbrev s_Store_len : Stmt := inClass (top 34) 9
def d_Store_len : He.DefD := ⟨("Store", some "__len__"), "__len__", "Store.__len__", defArgs s_Store_len, defBody s_Store_len, defScope s_Store_len, [], []⟩
abbrev s_Store_iter : Stmt := inClass (top 34) 10
def d_Store_iter : He.DefD := ⟨("Store", some "__iter__"), "__iter__", "Store.__iter__", defArgs s_Store_iter, defBody s_Store_iter, defScope s_Store_iter, [], []⟩
abbrev s_Store_contains : Stmt := inClass (top 34) 11
def d_Store_contains : He.DefD := ⟨("Store", some "__contains__"), "__contains__", "Store.__contains__", defArgs s_Store_contains, defBody s_Store_contains, defScope s_Store_contains, [], []⟩
abbrev s_Store_getitem : Stmt := inClass (top 34) 12
def d_Store_getitem : He.DefD := ⟨("Store", some "__getitem__"), "__getitem__", "Store.__getitem__", defArgs s_Store_getitem, defBody s_Store_getitem, defScope s_Store_getitem, [], []⟩
abbrev s_Store_eq : Stmt := inClass (top 34) 13
abbrev s_told_of : Stmt := top 35
def d_told_of : He.DefD := ⟨("told_of", none), "told_of", "told_of", defArgs s_told_of, defBody s_told_of, defScope s_told_of, [], []⟩
abbrev s_many_up_to : Stmt := top 36
def d_many_up_to : He.DefD := ⟨("many_up_to", none), "many_up_to", "many_up_to", defArgs s_many_up_to, defBody s_many_up_to, defScope s_many_up_to, [], []⟩
abbrev s_check_between : Stmt := top 37
def d_check_between : He.DefD := ⟨("check_between", none), "check_between", "check_between", defArgs s_check_between, defBody s_check_between, defScope s_check_between, [], []⟩
abbrev s_look_of : Stmt := top 38
def d_look_of : He.DefD := ⟨("look_of", none), "look_of", "look_of", defArgs s_look_of, defBody s_look_of, defScope s_look_of, [], []⟩
abbrev s_untils_with : Stmt := top 39
def d_untils_with : He.DefD := ⟨("untils_with", none), "untils_with", "untils_with", defArgs s_untils_with, defBody s_untils_with, defScope s_untils_with, [], []⟩
abbrev s_thinned : Stmt := top 40
def d_thinned : He.DefD := ⟨("thinned", none), "thinned", "thinned", defArgs s_thinned, defBody s_thinned, defScope s_thinned, [], []⟩
abbrev s_kept_until : Stmt := top 41
def d_kept_until : He.DefD := ⟨("kept_until", none), "kept_until", "kept_until", defArgs s_kept_until, defBody s_kept_until, defScope s_kept_until, [], []⟩
abbrev s_law_pen : Stmt := top 43
def d_law_pen : He.DefD := ⟨("_law_pen", none), "_law_pen", "_law_pen", defArgs s_law_pen, defBody s_law_pen, defScope s_law_pen, [], []⟩
abbrev s_law_draw : Stmt := top 44
def d_law_draw : He.DefD := ⟨("_law_draw", none), "_law_draw", "_law_draw", defArgs s_law_draw, defBody s_law_draw, defScope s_law_draw, [], []⟩
abbrev s_law_pick : Stmt := top 45
def d_law_pick : He.DefD := ⟨("_law_pick", none), "_law_pick", "_law_pick", defArgs s_law_pick, defBody s_law_pick, defScope s_law_pick, [], []⟩
abbrev s_law_heard : Stmt := top 46
def d_law_heard : He.DefD := ⟨("_law_heard", none), "_law_heard", "_law_heard", defArgs s_law_heard, defBody s_law_heard, defScope s_law_heard, [], []⟩
abbrev s_law_made : Stmt := top 47
def d_law_made : He.DefD := ⟨("_law_made", none), "_law_made", "_law_made", defArgs s_law_made, defBody s_law_made, defScope s_law_made, [], []⟩
abbrev s_law_kinds_right : Stmt := top 48
def d_law_kinds_right : He.DefD := ⟨("_law_kinds_right", none), "_law_kinds_right", "_law_kinds_right", defArgs s_law_kinds_right, defBody s_law_kinds_right, defScope s_law_kinds_right, [], []⟩
abbrev s_law_looks_right : Stmt := top 49
def d_law_looks_right : He.DefD := ⟨("_law_looks_right", none), "_law_looks_right", "_law_looks_right", defArgs s_law_looks_right, defBody s_law_looks_right, defScope s_law_looks_right, [], []⟩
abbrev s_law_borders_right : Stmt := top 50
def d_law_borders_right : He.DefD := ⟨("_law_borders_right", none), "_law_borders_right", "_law_borders_right", defArgs s_law_borders_right, defBody s_law_borders_right, defScope s_law_borders_right, [], []⟩
abbrev s_law : Stmt := top 51
def d_law : He.DefD := ⟨("law", none), "law", "law", defArgs s_law, defBody s_law, defScope s_law, [], []⟩
def fn0 : List He.DefD := [d_BadNumber_init, d_BadTiers_init, d_BadStore_init, d_NotYet_init, d_Forgotten_init, d_Unlike_init, d_TooMany_init, d_is_whole, d_is_within, d_check_number, d_Tiers_init, d_Tiers_width_of, d_Tiers_grid_of, d_fits_behind, d_Look_init, d_Look_eq, d_State_init, d_Store_init, d_Store_pass_to, d_Store_put, d_Store_look_at, d_Store_kept, d_Store_len, d_Store_iter]
def fn1 : List He.DefD := [d_Store_contains, d_Store_getitem, d_told_of, d_many_up_to, d_check_between, d_look_of, d_untils_with, d_thinned, d_kept_until, d_law_pen, d_law_draw, d_law_pick, d_law_heard, d_law_made, d_law_kinds_right, d_law_looks_right, d_law_borders_right, d_law]
def fn : List He.DefD := fn0 ++ fn1
def fa0 : List He.Fa := [.free "isinstance", .free "int", .free "bool", .free "str", .free "tuple", .free "len", .free "range", .free "list", .free "enumerate", .free "zip", .free "any", .free "abs", .free "repr", .free "max", .free "min", .free "iter", .glo "is_whole", .glo "is_within", .glo "check_number", .glo "is_number_word", .glo "fits_behind", .glo "take_pairs", .glo "told_of", .glo "many_up_to"]
def fa1 : List He.Fa := [.glo "check_between", .glo "look_of", .glo "untils_with", .glo "thinned", .glo "kept_until", .glo "_law_pen", .glo "_law_draw", .glo "_law_pick", .glo "_law_heard", .glo "_law_made", .glo "_law_kinds_right", .glo "_law_looks_right", .glo "_law_borders_right", .glo "law", .glo "RoadError", .glo "BadNumber", .glo "BadTiers", .glo "BadStore", .glo "NotYet", .glo "Forgotten", .glo "Unlike", .glo "BadText", .glo "TooMany", .glo "Nothing"]
def fa2 : List He.Fa := [.glo "Words", .glo "Tiers", .glo "Look", .glo "State", .glo "Store", .int "FAR" (10 ^ 30), .int "FAR_TALLY" (10 ^ 40), .int "MOST_PATIENCE" (10 ^ 6), .int "MOST_LIFE" (10 ^ 6), .int "MOST_PAIRS" (6), .int "MOST_WIDTH" (10 ^ 6), .int "MOST_KEEP" (10 ^ 9), .cls "Tiers", .noat "Tiers" "pairs", .meth "Tiers" "width_of", .meth "Tiers" "grid_of", .mkr "Tiers", .cls "Look", .noat "Look" "moment", .noat "Look" "tally", .noat "Look" "life", .meth "Look" "__eq__", .mkr "Look", .cls "State"]
def fa3 : List He.Fa := [.noat "State" "moment", .noat "State" "looks", .noat "State" "untils", .noat "State" "until", .mkr "State", .cls "Store", .noat "Store" "tiers", .noat "Store" "patience", .noat "Store" "_state", .meth "Store" "pass_to", .meth "Store" "put", .meth "Store" "look_at", .meth "Store" "kept", .meth "Store" "__len__", .meth "Store" "__iter__", .meth "Store" "__contains__", .meth "Store" "__getitem__", .mkr "Store", .noat "BadNumber" "value", .meth "BadNumber" "__init__", .noat "BadTiers" "at", .meth "BadTiers" "__init__", .noat "BadStore" "part", .meth "BadStore" "__init__"]
def fa4 : List He.Fa := [.noat "NotYet" "moment", .meth "NotYet" "__init__", .noat "Forgotten" "moment", .meth "Forgotten" "__init__", .noat "Unlike" "part", .meth "Unlike" "__init__", .noat "TooMany" "what", .noat "TooMany" "limit", .meth "TooMany" "__init__"]
def fa : List He.Fa := fa0 ++ fa1 ++ fa2 ++ fa3 ++ fa4
def m_Tiers_oldest : Hkc.Md := ⟨fun K => Prp.gp K (He.ga K "Tiers") "oldest", "oldest", "Tiers.oldest", defArgs s_Tiers_oldest, defBody s_Tiers_oldest, defScope s_Tiers_oldest, []⟩
def m_Store_now : Hkc.Md := ⟨fun K => Prp.gp K (He.ga K "Store") "now", "now", "Store.now", defArgs s_Store_now, defBody s_Store_now, defScope s_Store_now, []⟩
def ms : List Hkc.Md := [m_Tiers_oldest, m_Store_now]
def ex0 (K : PySem.W.Frag) : Bool := Vls.insB K (He.ga K "Tiers")
def ex1 (K : PySem.W.Frag) : Bool := Vls.insB K (He.ga K "Look")
def ex2 (K : PySem.W.Frag) : Bool := Vls.insB K (He.ga K "State")
def ex3 (K : PySem.W.Frag) : Bool := Vls.insB K (He.ga K "Store")
def ex4 (K : PySem.W.Frag) : Bool := decide (PySem.W.kitOne K (.type "NoneType") (.ref (He.ga K "Tiers")) = some false)
def ex5 (K : PySem.W.Frag) : Bool := decide (PySem.W.kitOne K (.type "int") (.ref (He.ga K "Tiers")) = some false)
def ex6 (K : PySem.W.Frag) : Bool := decide (PySem.W.kitOne K (.type "str") (.ref (He.ga K "Tiers")) = some false)
def ex7 (K : PySem.W.Frag) : Bool := decide (PySem.W.kitOne K (.type "tuple") (.ref (He.ga K "Tiers")) = some false)
def ex8 (K : PySem.W.Frag) : Bool := decide (PySem.W.kitOne K (.type "list") (.ref (He.ga K "Tiers")) = some false)
def ex9 (K : PySem.W.Frag) : Bool := decide (PySem.W.kitOne K (.type "dict") (.ref (He.ga K "Tiers")) = some false)
def ex10 (K : PySem.W.Frag) : Bool := decide (PySem.W.kitOne K (.ref (He.ga K "Tiers")) (.ref (He.ga K "Tiers")) = some true)
def ex11 (K : PySem.W.Frag) : Bool := decide (PySem.W.kitOne K (.ref (He.ga K "Look")) (.ref (He.ga K "Look")) = some true)
def ex12 (K : PySem.W.Frag) : Bool := decide (PySem.W.kitOne K (.type "tuple") (.ref (He.ga K "Look")) = some false)
def ex13 (K : PySem.W.Frag) : Bool := decide (PySem.W.exmOne K (.ref (He.ga K "BadNumber")) (.ref (He.ga K "RoadError")) = some true)
def ex14 (K : PySem.W.Frag) : Bool := decide (PySem.W.exmOne K (.ref (He.ga K "BadStore")) (.ref (He.ga K "RoadError")) = some true)
def ex15 (K : PySem.W.Frag) : Bool := decide (PySem.W.exmOne K (.ref (He.ga K "Unlike")) (.ref (He.ga K "RoadError")) = some true)
def ex16 (K : PySem.W.Frag) : Bool := decide (PySem.W.exmOne K (.ref (He.ga K "NotYet")) (.ref (He.ga K "RoadError")) = some true)
def ex17 (K : PySem.W.Frag) : Bool := decide (PySem.W.exmOne K (.ref (He.ga K "Forgotten")) (.ref (He.ga K "RoadError")) = some true)
def ex18 (K : PySem.W.Frag) : Bool := decide (PySem.W.exmOne K (.ref (He.ga K "Nothing")) (.ref (He.ga K "RoadError")) = some true)
def ex19 (K : PySem.W.Frag) : Bool := decide (PySem.W.kitOne K (.ref (He.ga K "BadNumber")) (.ref (He.ga K "BadNumber")) = some true)
def ex20 (K : PySem.W.Frag) : Bool := decide (PySem.W.kitOne K (.ref (He.ga K "BadNumber")) (.ref (He.ga K "BadStore")) = some false)
def ex21 (K : PySem.W.Frag) : Bool := decide (PySem.W.kitOne K (.ref (He.ga K "BadNumber")) (.ref (He.ga K "Unlike")) = some false)
def ex22 (K : PySem.W.Frag) : Bool := decide (PySem.W.kitOne K (.ref (He.ga K "BadNumber")) (.ref (He.ga K "NotYet")) = some false)
def ex23 (K : PySem.W.Frag) : Bool := decide (PySem.W.kitOne K (.ref (He.ga K "BadNumber")) (.ref (He.ga K "Forgotten")) = some false)
def ex24 (K : PySem.W.Frag) : Bool := decide (PySem.W.kitOne K (.ref (He.ga K "BadNumber")) (.ref (He.ga K "Nothing")) = some false)
def ex25 (K : PySem.W.Frag) : Bool := decide (PySem.W.kitOne K (.ref (He.ga K "BadStore")) (.ref (He.ga K "BadNumber")) = some false)
def ex26 (K : PySem.W.Frag) : Bool := decide (PySem.W.kitOne K (.ref (He.ga K "BadStore")) (.ref (He.ga K "BadStore")) = some true)
def ex27 (K : PySem.W.Frag) : Bool := decide (PySem.W.kitOne K (.ref (He.ga K "BadStore")) (.ref (He.ga K "Unlike")) = some false)
def ex28 (K : PySem.W.Frag) : Bool := decide (PySem.W.kitOne K (.ref (He.ga K "BadStore")) (.ref (He.ga K "NotYet")) = some false)
def ex29 (K : PySem.W.Frag) : Bool := decide (PySem.W.kitOne K (.ref (He.ga K "BadStore")) (.ref (He.ga K "Forgotten")) = some false)
def ex30 (K : PySem.W.Frag) : Bool := decide (PySem.W.kitOne K (.ref (He.ga K "BadStore")) (.ref (He.ga K "Nothing")) = some false)
def ex31 (K : PySem.W.Frag) : Bool := decide (PySem.W.kitOne K (.ref (He.ga K "Unlike")) (.ref (He.ga K "BadNumber")) = some false)
def ex32 (K : PySem.W.Frag) : Bool := decide (PySem.W.kitOne K (.ref (He.ga K "Unlike")) (.ref (He.ga K "BadStore")) = some false)
def ex33 (K : PySem.W.Frag) : Bool := decide (PySem.W.kitOne K (.ref (He.ga K "Unlike")) (.ref (He.ga K "Unlike")) = some true)
def ex34 (K : PySem.W.Frag) : Bool := decide (PySem.W.kitOne K (.ref (He.ga K "Unlike")) (.ref (He.ga K "NotYet")) = some false)
def ex35 (K : PySem.W.Frag) : Bool := decide (PySem.W.kitOne K (.ref (He.ga K "Unlike")) (.ref (He.ga K "Forgotten")) = some false)
def ex36 (K : PySem.W.Frag) : Bool := decide (PySem.W.kitOne K (.ref (He.ga K "Unlike")) (.ref (He.ga K "Nothing")) = some false)
def ex37 (K : PySem.W.Frag) : Bool := decide (PySem.W.kitOne K (.ref (He.ga K "NotYet")) (.ref (He.ga K "BadNumber")) = some false)
def ex38 (K : PySem.W.Frag) : Bool := decide (PySem.W.kitOne K (.ref (He.ga K "NotYet")) (.ref (He.ga K "BadStore")) = some false)
def ex39 (K : PySem.W.Frag) : Bool := decide (PySem.W.kitOne K (.ref (He.ga K "NotYet")) (.ref (He.ga K "Unlike")) = some false)
def ex40 (K : PySem.W.Frag) : Bool := decide (PySem.W.kitOne K (.ref (He.ga K "NotYet")) (.ref (He.ga K "NotYet")) = some true)
def ex41 (K : PySem.W.Frag) : Bool := decide (PySem.W.kitOne K (.ref (He.ga K "NotYet")) (.ref (He.ga K "Forgotten")) = some false)
def ex42 (K : PySem.W.Frag) : Bool := decide (PySem.W.kitOne K (.ref (He.ga K "NotYet")) (.ref (He.ga K "Nothing")) = some false)
def ex43 (K : PySem.W.Frag) : Bool := decide (PySem.W.kitOne K (.ref (He.ga K "Forgotten")) (.ref (He.ga K "BadNumber")) = some false)
def ex44 (K : PySem.W.Frag) : Bool := decide (PySem.W.kitOne K (.ref (He.ga K "Forgotten")) (.ref (He.ga K "BadStore")) = some false)
def ex45 (K : PySem.W.Frag) : Bool := decide (PySem.W.kitOne K (.ref (He.ga K "Forgotten")) (.ref (He.ga K "Unlike")) = some false)
def ex46 (K : PySem.W.Frag) : Bool := decide (PySem.W.kitOne K (.ref (He.ga K "Forgotten")) (.ref (He.ga K "NotYet")) = some false)
def ex47 (K : PySem.W.Frag) : Bool := decide (PySem.W.kitOne K (.ref (He.ga K "Forgotten")) (.ref (He.ga K "Forgotten")) = some true)
def ex48 (K : PySem.W.Frag) : Bool := decide (PySem.W.kitOne K (.ref (He.ga K "Forgotten")) (.ref (He.ga K "Nothing")) = some false)
def ex49 (K : PySem.W.Frag) : Bool := decide (PySem.W.kitOne K (.ref (He.ga K "Nothing")) (.ref (He.ga K "BadNumber")) = some false)
def ex50 (K : PySem.W.Frag) : Bool := decide (PySem.W.kitOne K (.ref (He.ga K "Nothing")) (.ref (He.ga K "BadStore")) = some false)
def ex51 (K : PySem.W.Frag) : Bool := decide (PySem.W.kitOne K (.ref (He.ga K "Nothing")) (.ref (He.ga K "Unlike")) = some false)
def ex52 (K : PySem.W.Frag) : Bool := decide (PySem.W.kitOne K (.ref (He.ga K "Nothing")) (.ref (He.ga K "NotYet")) = some false)
def ex53 (K : PySem.W.Frag) : Bool := decide (PySem.W.kitOne K (.ref (He.ga K "Nothing")) (.ref (He.ga K "Forgotten")) = some false)
def ex54 (K : PySem.W.Frag) : Bool := decide (PySem.W.kitOne K (.ref (He.ga K "Nothing")) (.ref (He.ga K "Nothing")) = some true)
def ex55 (K : PySem.W.Frag) : Bool := PySem.W.notFirst K (He.ga K "Look") (.ref (He.ga K "Look"))
def ex56 (K : PySem.W.Frag) : Bool := PySem.W.notFirst K (He.ga K "Look") (.type "tuple")
def ex57 (K : PySem.W.Frag) : Bool := decide (PySem.W.findIn K (.ref (He.ga K "Look")) "__ne__" = some (some (.builtin "object.__ne__")))
def ex58 (K : PySem.W.Frag) : Bool := PySem.W.fnIn K (He.ma K (He.ga K "Store") "__getitem__")
def ex59 (K : PySem.W.Frag) : Bool := PySem.W.fnIn K (He.ma K (He.ga K "Store") "__contains__")
def ex60 (K : PySem.W.Frag) : Bool := Ers.bareB K (He.ga K "Nothing")
def ex61 (K : PySem.W.Frag) : Bool := Kept.errB K (He.ga K "Nothing")
def ex62 (K : PySem.W.Frag) : Bool := decide ((He.cT K ("_law_kinds_right", none)).2 ≠ (He.cT K ("_law_looks_right", none)).2)
def ex63 (K : PySem.W.Frag) : Bool := decide ((He.cT K ("_law_kinds_right", none)).2 ≠ (He.cT K ("_law_borders_right", none)).2)
def ex64 (K : PySem.W.Frag) : Bool := decide ((He.cT K ("_law_looks_right", none)).2 ≠ (He.cT K ("_law_borders_right", none)).2)
def ex65 (K : PySem.W.Frag) : Bool := Ers.oexB K (He.ga K "BadNumber")
def ex66 (K : PySem.W.Frag) : Bool := Kept.errB K (He.ga K "BadNumber")
def ex67 (K : PySem.W.Frag) : Bool := decide (PySem.W.typeIn K (.ref (He.ma K (He.ga K "BadNumber") "__init__")) = some (.type "function"))
def ex68 (K : PySem.W.Frag) : Bool := Ers.oexB K (He.ga K "BadTiers")
def ex69 (K : PySem.W.Frag) : Bool := Kept.errB K (He.ga K "BadTiers")
def ex70 (K : PySem.W.Frag) : Bool := decide (PySem.W.typeIn K (.ref (He.ma K (He.ga K "BadTiers") "__init__")) = some (.type "function"))
def ex71 (K : PySem.W.Frag) : Bool := Ers.oexB K (He.ga K "BadStore")
def ex72 (K : PySem.W.Frag) : Bool := Kept.errB K (He.ga K "BadStore")
def ex73 (K : PySem.W.Frag) : Bool := decide (PySem.W.typeIn K (.ref (He.ma K (He.ga K "BadStore") "__init__")) = some (.type "function"))
def ex74 (K : PySem.W.Frag) : Bool := Ers.oexB K (He.ga K "NotYet")
def ex75 (K : PySem.W.Frag) : Bool := Kept.errB K (He.ga K "NotYet")
def ex76 (K : PySem.W.Frag) : Bool := decide (PySem.W.typeIn K (.ref (He.ma K (He.ga K "NotYet") "__init__")) = some (.type "function"))
def ex77 (K : PySem.W.Frag) : Bool := Ers.oexB K (He.ga K "Forgotten")
def ex78 (K : PySem.W.Frag) : Bool := Kept.errB K (He.ga K "Forgotten")
def ex79 (K : PySem.W.Frag) : Bool := decide (PySem.W.typeIn K (.ref (He.ma K (He.ga K "Forgotten") "__init__")) = some (.type "function"))
def ex80 (K : PySem.W.Frag) : Bool := Ers.oexB K (He.ga K "Unlike")
def ex81 (K : PySem.W.Frag) : Bool := Kept.errB K (He.ga K "Unlike")
def ex82 (K : PySem.W.Frag) : Bool := decide (PySem.W.typeIn K (.ref (He.ma K (He.ga K "Unlike") "__init__")) = some (.type "function"))
def ex83 (K : PySem.W.Frag) : Bool := Ers.oexB K (He.ga K "TooMany")
def ex84 (K : PySem.W.Frag) : Bool := Kept.errB K (He.ga K "TooMany")
def ex85 (K : PySem.W.Frag) : Bool := decide (PySem.W.typeIn K (.ref (He.ma K (He.ga K "TooMany") "__init__")) = some (.type "function"))
def ex86 (K : PySem.W.Frag) : Bool := Prp.propB "Tiers" "oldest" "Tiers.oldest" K
def ex87 (K : PySem.W.Frag) : Bool := Prp.propB "Store" "now" "Store.now" K
def exs0 : List (PySem.W.Frag → Bool) := [ex0, ex1, ex2, ex3, ex4, ex5, ex6, ex7, ex8, ex9, ex10, ex11, ex12, ex13, ex14, ex15, ex16, ex17, ex18, ex19, ex20, ex21, ex22, ex23]
def exs1 : List (PySem.W.Frag → Bool) := [ex24, ex25, ex26, ex27, ex28, ex29, ex30, ex31, ex32, ex33, ex34, ex35, ex36, ex37, ex38, ex39, ex40, ex41, ex42, ex43, ex44, ex45, ex46, ex47]
def exs2 : List (PySem.W.Frag → Bool) := [ex48, ex49, ex50, ex51, ex52, ex53, ex54, ex55, ex56, ex57, ex58, ex59, ex60, ex61, ex62, ex63, ex64, ex65, ex66, ex67, ex68, ex69, ex70, ex71]
def exs3 : List (PySem.W.Frag → Bool) := [ex72, ex73, ex74, ex75, ex76, ex77, ex78, ex79, ex80, ex81, ex82, ex83, ex84, ex85, ex86, ex87]
def exs : List (PySem.W.Frag → Bool) := exs0 ++ exs1 ++ exs2 ++ exs3
def ex (K : PySem.W.Frag) : Bool := exs.all fun f => f K
structure Tx (K : PySem.W.Frag) (mg : Str → Option Value) : Prop where
  says : He.SaysD fa fn K
  more : ex K = true
  md : (ms.map fun m => Hkc.fv K (m.how K)) = ms.map Hkc.Md.fv
  at_ : ∃ h : Heap, K.In h ∧ h.Ns mainGlobals mg
section
variable {K : PySem.W.Frag} {mg : Str → Option Value}
theorem Tx.ex_at (T : Tx K mg) (i : Nat) {f : PySem.W.Frag → Bool} (h : exs[i]? = some f) : f K = true := List.all_eq_true.mp T.more f (List.mem_of_getElem? h)
theorem Tx.q_BadNumber_init (T : Tx K mg) : ∃ fd, FunD K "__init__" "BadNumber.__init__" (defArgs s_BadNumber_init) (defBody s_BadNumber_init) (defScope s_BadNumber_init) [] [] (He.ma K (He.ga K "BadNumber") "__init__") fd := T.says.def_ 0 (d := d_BadNumber_init) rfl
theorem Tx.q_BadTiers_init (T : Tx K mg) : ∃ fd, FunD K "__init__" "BadTiers.__init__" (defArgs s_BadTiers_init) (defBody s_BadTiers_init) (defScope s_BadTiers_init) [] [] (He.ma K (He.ga K "BadTiers") "__init__") fd := T.says.def_ 1 (d := d_BadTiers_init) rfl
theorem Tx.q_BadStore_init (T : Tx K mg) : ∃ fd, FunD K "__init__" "BadStore.__init__" (defArgs s_BadStore_init) (defBody s_BadStore_init) (defScope s_BadStore_init) [] [] (He.ma K (He.ga K "BadStore") "__init__") fd := T.says.def_ 2 (d := d_BadStore_init) rfl
theorem Tx.q_NotYet_init (T : Tx K mg) : ∃ fd, FunD K "__init__" "NotYet.__init__" (defArgs s_NotYet_init) (defBody s_NotYet_init) (defScope s_NotYet_init) [] [] (He.ma K (He.ga K "NotYet") "__init__") fd := T.says.def_ 3 (d := d_NotYet_init) rfl
theorem Tx.q_Forgotten_init (T : Tx K mg) : ∃ fd, FunD K "__init__" "Forgotten.__init__" (defArgs s_Forgotten_init) (defBody s_Forgotten_init) (defScope s_Forgotten_init) [] [] (He.ma K (He.ga K "Forgotten") "__init__") fd := T.says.def_ 4 (d := d_Forgotten_init) rfl
theorem Tx.q_Unlike_init (T : Tx K mg) : ∃ fd, FunD K "__init__" "Unlike.__init__" (defArgs s_Unlike_init) (defBody s_Unlike_init) (defScope s_Unlike_init) [] [] (He.ma K (He.ga K "Unlike") "__init__") fd := T.says.def_ 5 (d := d_Unlike_init) rfl
theorem Tx.q_TooMany_init (T : Tx K mg) : ∃ fd, FunD K "__init__" "TooMany.__init__" (defArgs s_TooMany_init) (defBody s_TooMany_init) (defScope s_TooMany_init) [] [] (He.ma K (He.ga K "TooMany") "__init__") fd := T.says.def_ 6 (d := d_TooMany_init) rfl
theorem Tx.q_is_whole (T : Tx K mg) : ∃ fd, FunD K "is_whole" "is_whole" (defArgs s_is_whole) (defBody s_is_whole) (defScope s_is_whole) [] [] (He.ga K "is_whole") fd := T.says.def_ 7 (d := d_is_whole) rfl
theorem Tx.q_is_within (T : Tx K mg) : ∃ fd, FunD K "is_within" "is_within" (defArgs s_is_within) (defBody s_is_within) (defScope s_is_within) [] [] (He.ga K "is_within") fd := T.says.def_ 8 (d := d_is_within) rfl
theorem Tx.q_check_number (T : Tx K mg) : ∃ fd, FunD K "check_number" "check_number" (defArgs s_check_number) (defBody s_check_number) (defScope s_check_number) [] [] (He.ga K "check_number") fd := T.says.def_ 9 (d := d_check_number) rfl
theorem Tx.q_Tiers_init (T : Tx K mg) : ∃ fd, FunD K "__init__" "Tiers.__init__" (defArgs s_Tiers_init) (defBody s_Tiers_init) (defScope s_Tiers_init) [] [] (He.ma K (He.ga K "Tiers") "__init__") fd := T.says.def_ 10 (d := d_Tiers_init) rfl
theorem Tx.q_Tiers_width_of (T : Tx K mg) : ∃ fd, FunD K "width_of" "Tiers.width_of" (defArgs s_Tiers_width_of) (defBody s_Tiers_width_of) (defScope s_Tiers_width_of) [] [] (He.ma K (He.ga K "Tiers") "width_of") fd := T.says.def_ 11 (d := d_Tiers_width_of) rfl
theorem Tx.q_Tiers_grid_of (T : Tx K mg) : ∃ fd, FunD K "grid_of" "Tiers.grid_of" (defArgs s_Tiers_grid_of) (defBody s_Tiers_grid_of) (defScope s_Tiers_grid_of) [] [] (He.ma K (He.ga K "Tiers") "grid_of") fd := T.says.def_ 12 (d := d_Tiers_grid_of) rfl
theorem Tx.q_fits_behind (T : Tx K mg) : ∃ fd, FunD K "fits_behind" "fits_behind" (defArgs s_fits_behind) (defBody s_fits_behind) (defScope s_fits_behind) [] [] (He.ga K "fits_behind") fd := T.says.def_ 13 (d := d_fits_behind) rfl
theorem Tx.q_Look_init (T : Tx K mg) : ∃ fd, FunD K "__init__" "Look.__init__" (defArgs s_Look_init) (defBody s_Look_init) (defScope s_Look_init) [.int 0] [] (He.ma K (He.ga K "Look") "__init__") fd := T.says.def_ 14 (d := d_Look_init) rfl
theorem Tx.q_Look_eq (T : Tx K mg) : ∃ fd, FunD K "__eq__" "Look.__eq__" (defArgs s_Look_eq) (defBody s_Look_eq) (defScope s_Look_eq) [] [] (He.ma K (He.ga K "Look") "__eq__") fd := T.says.def_ 15 (d := d_Look_eq) rfl
theorem Tx.q_State_init (T : Tx K mg) : ∃ fd, FunD K "__init__" "State.__init__" (defArgs s_State_init) (defBody s_State_init) (defScope s_State_init) [] [] (He.ma K (He.ga K "State") "__init__") fd := T.says.def_ 16 (d := d_State_init) rfl
theorem Tx.q_Store_init (T : Tx K mg) : ∃ fd, FunD K "__init__" "Store.__init__" (defArgs s_Store_init) (defBody s_Store_init) (defScope s_Store_init) [.int 0] [] (He.ma K (He.ga K "Store") "__init__") fd := T.says.def_ 17 (d := d_Store_init) rfl
theorem Tx.q_Store_pass_to (T : Tx K mg) : ∃ fd, FunD K "pass_to" "Store.pass_to" (defArgs s_Store_pass_to) (defBody s_Store_pass_to) (defScope s_Store_pass_to) [] [] (He.ma K (He.ga K "Store") "pass_to") fd := T.says.def_ 18 (d := d_Store_pass_to) rfl
theorem Tx.q_Store_put (T : Tx K mg) : ∃ fd, FunD K "put" "Store.put" (defArgs s_Store_put) (defBody s_Store_put) (defScope s_Store_put) [.int 0] [] (He.ma K (He.ga K "Store") "put") fd := T.says.def_ 19 (d := d_Store_put) rfl
theorem Tx.q_Store_look_at (T : Tx K mg) : ∃ fd, FunD K "look_at" "Store.look_at" (defArgs s_Store_look_at) (defBody s_Store_look_at) (defScope s_Store_look_at) [] [] (He.ma K (He.ga K "Store") "look_at") fd := T.says.def_ 20 (d := d_Store_look_at) rfl
theorem Tx.q_Store_kept (T : Tx K mg) : ∃ fd, FunD K "kept" "Store.kept" (defArgs s_Store_kept) (defBody s_Store_kept) (defScope s_Store_kept) [] [] (He.ma K (He.ga K "Store") "kept") fd := T.says.def_ 21 (d := d_Store_kept) rfl
theorem Tx.q_Store_len (T : Tx K mg) : ∃ fd, FunD K "__len__" "Store.__len__" (defArgs s_Store_len) (defBody s_Store_len) (defScope s_Store_len) [] [] (He.ma K (He.ga K "Store") "__len__") fd := T.says.def_ 22 (d := d_Store_len) rfl
theorem Tx.q_Store_iter (T : Tx K mg) : ∃ fd, FunD K "__iter__" "Store.__iter__" (defArgs s_Store_iter) (defBody s_Store_iter) (defScope s_Store_iter) [] [] (He.ma K (He.ga K "Store") "__iter__") fd := T.says.def_ 23 (d := d_Store_iter) rfl
theorem Tx.q_Store_contains (T : Tx K mg) : ∃ fd, FunD K "__contains__" "Store.__contains__" (defArgs s_Store_contains) (defBody s_Store_contains) (defScope s_Store_contains) [] [] (He.ma K (He.ga K "Store") "__contains__") fd := T.says.def_ 24 (d := d_Store_contains) rfl
theorem Tx.q_Store_getitem (T : Tx K mg) : ∃ fd, FunD K "__getitem__" "Store.__getitem__" (defArgs s_Store_getitem) (defBody s_Store_getitem) (defScope s_Store_getitem) [] [] (He.ma K (He.ga K "Store") "__getitem__") fd := T.says.def_ 25 (d := d_Store_getitem) rfl
theorem Tx.q_told_of (T : Tx K mg) : ∃ fd, FunD K "told_of" "told_of" (defArgs s_told_of) (defBody s_told_of) (defScope s_told_of) [] [] (He.ga K "told_of") fd := T.says.def_ 26 (d := d_told_of) rfl
theorem Tx.q_many_up_to (T : Tx K mg) : ∃ fd, FunD K "many_up_to" "many_up_to" (defArgs s_many_up_to) (defBody s_many_up_to) (defScope s_many_up_to) [] [] (He.ga K "many_up_to") fd := T.says.def_ 27 (d := d_many_up_to) rfl
theorem Tx.q_check_between (T : Tx K mg) : ∃ fd, FunD K "check_between" "check_between" (defArgs s_check_between) (defBody s_check_between) (defScope s_check_between) [] [] (He.ga K "check_between") fd := T.says.def_ 28 (d := d_check_between) rfl
theorem Tx.q_look_of (T : Tx K mg) : ∃ fd, FunD K "look_of" "look_of" (defArgs s_look_of) (defBody s_look_of) (defScope s_look_of) [] [] (He.ga K "look_of") fd := T.says.def_ 29 (d := d_look_of) rfl
theorem Tx.q_untils_with (T : Tx K mg) : ∃ fd, FunD K "untils_with" "untils_with" (defArgs s_untils_with) (defBody s_untils_with) (defScope s_untils_with) [] [] (He.ga K "untils_with") fd := T.says.def_ 30 (d := d_untils_with) rfl
theorem Tx.q_thinned (T : Tx K mg) : ∃ fd, FunD K "thinned" "thinned" (defArgs s_thinned) (defBody s_thinned) (defScope s_thinned) [] [] (He.ga K "thinned") fd := T.says.def_ 31 (d := d_thinned) rfl
theorem Tx.q_kept_until (T : Tx K mg) : ∃ fd, FunD K "kept_until" "kept_until" (defArgs s_kept_until) (defBody s_kept_until) (defScope s_kept_until) [] [] (He.ga K "kept_until") fd := T.says.def_ 32 (d := d_kept_until) rfl
theorem Tx.q_law_pen (T : Tx K mg) : ∃ fd, FunD K "_law_pen" "_law_pen" (defArgs s_law_pen) (defBody s_law_pen) (defScope s_law_pen) [] [] (He.ga K "_law_pen") fd := T.says.def_ 33 (d := d_law_pen) rfl
theorem Tx.q_law_draw (T : Tx K mg) : ∃ fd, FunD K "_law_draw" "_law_draw" (defArgs s_law_draw) (defBody s_law_draw) (defScope s_law_draw) [] [] (He.ga K "_law_draw") fd := T.says.def_ 34 (d := d_law_draw) rfl
theorem Tx.q_law_pick (T : Tx K mg) : ∃ fd, FunD K "_law_pick" "_law_pick" (defArgs s_law_pick) (defBody s_law_pick) (defScope s_law_pick) [] [] (He.ga K "_law_pick") fd := T.says.def_ 35 (d := d_law_pick) rfl
theorem Tx.q_law_heard (T : Tx K mg) : ∃ fd, FunD K "_law_heard" "_law_heard" (defArgs s_law_heard) (defBody s_law_heard) (defScope s_law_heard) [] [] (He.ga K "_law_heard") fd := T.says.def_ 36 (d := d_law_heard) rfl
theorem Tx.q_law_made (T : Tx K mg) : ∃ fd, FunD K "_law_made" "_law_made" (defArgs s_law_made) (defBody s_law_made) (defScope s_law_made) [] [] (He.ga K "_law_made") fd := T.says.def_ 37 (d := d_law_made) rfl
theorem Tx.q_law_kinds_right (T : Tx K mg) : ∃ fd, FunD K "_law_kinds_right" "_law_kinds_right" (defArgs s_law_kinds_right) (defBody s_law_kinds_right) (defScope s_law_kinds_right) [] [] (He.ga K "_law_kinds_right") fd := T.says.def_ 38 (d := d_law_kinds_right) rfl
theorem Tx.q_law_looks_right (T : Tx K mg) : ∃ fd, FunD K "_law_looks_right" "_law_looks_right" (defArgs s_law_looks_right) (defBody s_law_looks_right) (defScope s_law_looks_right) [] [] (He.ga K "_law_looks_right") fd := T.says.def_ 39 (d := d_law_looks_right) rfl
theorem Tx.q_law_borders_right (T : Tx K mg) : ∃ fd, FunD K "_law_borders_right" "_law_borders_right" (defArgs s_law_borders_right) (defBody s_law_borders_right) (defScope s_law_borders_right) [] [] (He.ga K "_law_borders_right") fd := T.says.def_ 40 (d := d_law_borders_right) rfl
theorem Tx.q_law (T : Tx K mg) : ∃ fd, FunD K "law" "law" (defArgs s_law) (defBody s_law) (defScope s_law) [] [] (He.ga K "law") fd := T.says.def_ 41 (d := d_law) rfl
theorem Tx.f_isinstance (T : Tx K mg) : mg "isinstance" = none := by
  obtain ⟨h, X, G⟩ := T.at_
  exact He.free_ok X G (T.says.fact 0 (f := .free "isinstance") rfl)
theorem Tx.f_int (T : Tx K mg) : mg "int" = none := by
  obtain ⟨h, X, G⟩ := T.at_
  exact He.free_ok X G (T.says.fact 1 (f := .free "int") rfl)
theorem Tx.f_bool (T : Tx K mg) : mg "bool" = none := by
  obtain ⟨h, X, G⟩ := T.at_
  exact He.free_ok X G (T.says.fact 2 (f := .free "bool") rfl)
theorem Tx.f_str (T : Tx K mg) : mg "str" = none := by
  obtain ⟨h, X, G⟩ := T.at_
  exact He.free_ok X G (T.says.fact 3 (f := .free "str") rfl)
theorem Tx.f_tuple (T : Tx K mg) : mg "tuple" = none := by
  obtain ⟨h, X, G⟩ := T.at_
  exact He.free_ok X G (T.says.fact 4 (f := .free "tuple") rfl)
theorem Tx.f_len (T : Tx K mg) : mg "len" = none := by
  obtain ⟨h, X, G⟩ := T.at_
  exact He.free_ok X G (T.says.fact 5 (f := .free "len") rfl)
theorem Tx.f_range (T : Tx K mg) : mg "range" = none := by
  obtain ⟨h, X, G⟩ := T.at_
  exact He.free_ok X G (T.says.fact 6 (f := .free "range") rfl)
theorem Tx.f_list (T : Tx K mg) : mg "list" = none := by
  obtain ⟨h, X, G⟩ := T.at_
  exact He.free_ok X G (T.says.fact 7 (f := .free "list") rfl)
theorem Tx.f_enumerate (T : Tx K mg) : mg "enumerate" = none := by
  obtain ⟨h, X, G⟩ := T.at_
  exact He.free_ok X G (T.says.fact 8 (f := .free "enumerate") rfl)
theorem Tx.f_zip (T : Tx K mg) : mg "zip" = none := by
  obtain ⟨h, X, G⟩ := T.at_
  exact He.free_ok X G (T.says.fact 9 (f := .free "zip") rfl)
theorem Tx.f_any (T : Tx K mg) : mg "any" = none := by
  obtain ⟨h, X, G⟩ := T.at_
  exact He.free_ok X G (T.says.fact 10 (f := .free "any") rfl)
theorem Tx.f_abs (T : Tx K mg) : mg "abs" = none := by
  obtain ⟨h, X, G⟩ := T.at_
  exact He.free_ok X G (T.says.fact 11 (f := .free "abs") rfl)
theorem Tx.f_repr (T : Tx K mg) : mg "repr" = none := by
  obtain ⟨h, X, G⟩ := T.at_
  exact He.free_ok X G (T.says.fact 12 (f := .free "repr") rfl)
theorem Tx.f_max (T : Tx K mg) : mg "max" = none := by
  obtain ⟨h, X, G⟩ := T.at_
  exact He.free_ok X G (T.says.fact 13 (f := .free "max") rfl)
theorem Tx.f_min (T : Tx K mg) : mg "min" = none := by
  obtain ⟨h, X, G⟩ := T.at_
  exact He.free_ok X G (T.says.fact 14 (f := .free "min") rfl)
theorem Tx.f_iter (T : Tx K mg) : mg "iter" = none := by
  obtain ⟨h, X, G⟩ := T.at_
  exact He.free_ok X G (T.says.fact 15 (f := .free "iter") rfl)
theorem Tx.g_is_whole (T : Tx K mg) : mg "is_whole" = some (.ref (He.ga K "is_whole")) := by
  obtain ⟨h, X, G⟩ := T.at_
  exact He.glo_ok X G (T.says.fact 16 (f := .glo "is_whole") rfl)
theorem Tx.g_is_within (T : Tx K mg) : mg "is_within" = some (.ref (He.ga K "is_within")) := by
  obtain ⟨h, X, G⟩ := T.at_
  exact He.glo_ok X G (T.says.fact 17 (f := .glo "is_within") rfl)
theorem Tx.g_check_number (T : Tx K mg) : mg "check_number" = some (.ref (He.ga K "check_number")) := by
  obtain ⟨h, X, G⟩ := T.at_
  exact He.glo_ok X G (T.says.fact 18 (f := .glo "check_number") rfl)
theorem Tx.g_is_number_word (T : Tx K mg) : mg "is_number_word" = some (.ref (He.ga K "is_number_word")) := by
  obtain ⟨h, X, G⟩ := T.at_
  exact He.glo_ok X G (T.says.fact 19 (f := .glo "is_number_word") rfl)
theorem Tx.g_fits_behind (T : Tx K mg) : mg "fits_behind" = some (.ref (He.ga K "fits_behind")) := by
  obtain ⟨h, X, G⟩ := T.at_
  exact He.glo_ok X G (T.says.fact 20 (f := .glo "fits_behind") rfl)
theorem Tx.g_take_pairs (T : Tx K mg) : mg "take_pairs" = some (.ref (He.ga K "take_pairs")) := by
  obtain ⟨h, X, G⟩ := T.at_
  exact He.glo_ok X G (T.says.fact 21 (f := .glo "take_pairs") rfl)
theorem Tx.g_told_of (T : Tx K mg) : mg "told_of" = some (.ref (He.ga K "told_of")) := by
  obtain ⟨h, X, G⟩ := T.at_
  exact He.glo_ok X G (T.says.fact 22 (f := .glo "told_of") rfl)
theorem Tx.g_many_up_to (T : Tx K mg) : mg "many_up_to" = some (.ref (He.ga K "many_up_to")) := by
  obtain ⟨h, X, G⟩ := T.at_
  exact He.glo_ok X G (T.says.fact 23 (f := .glo "many_up_to") rfl)
theorem Tx.g_check_between (T : Tx K mg) : mg "check_between" = some (.ref (He.ga K "check_between")) := by
  obtain ⟨h, X, G⟩ := T.at_
  exact He.glo_ok X G (T.says.fact 24 (f := .glo "check_between") rfl)
theorem Tx.g_look_of (T : Tx K mg) : mg "look_of" = some (.ref (He.ga K "look_of")) := by
  obtain ⟨h, X, G⟩ := T.at_
  exact He.glo_ok X G (T.says.fact 25 (f := .glo "look_of") rfl)
theorem Tx.g_untils_with (T : Tx K mg) : mg "untils_with" = some (.ref (He.ga K "untils_with")) := by
  obtain ⟨h, X, G⟩ := T.at_
  exact He.glo_ok X G (T.says.fact 26 (f := .glo "untils_with") rfl)
theorem Tx.g_thinned (T : Tx K mg) : mg "thinned" = some (.ref (He.ga K "thinned")) := by
  obtain ⟨h, X, G⟩ := T.at_
  exact He.glo_ok X G (T.says.fact 27 (f := .glo "thinned") rfl)
theorem Tx.g_kept_until (T : Tx K mg) : mg "kept_until" = some (.ref (He.ga K "kept_until")) := by
  obtain ⟨h, X, G⟩ := T.at_
  exact He.glo_ok X G (T.says.fact 28 (f := .glo "kept_until") rfl)
theorem Tx.g_law_pen (T : Tx K mg) : mg "_law_pen" = some (.ref (He.ga K "_law_pen")) := by
  obtain ⟨h, X, G⟩ := T.at_
  exact He.glo_ok X G (T.says.fact 29 (f := .glo "_law_pen") rfl)
theorem Tx.g_law_draw (T : Tx K mg) : mg "_law_draw" = some (.ref (He.ga K "_law_draw")) := by
  obtain ⟨h, X, G⟩ := T.at_
  exact He.glo_ok X G (T.says.fact 30 (f := .glo "_law_draw") rfl)
theorem Tx.g_law_pick (T : Tx K mg) : mg "_law_pick" = some (.ref (He.ga K "_law_pick")) := by
  obtain ⟨h, X, G⟩ := T.at_
  exact He.glo_ok X G (T.says.fact 31 (f := .glo "_law_pick") rfl)
theorem Tx.g_law_heard (T : Tx K mg) : mg "_law_heard" = some (.ref (He.ga K "_law_heard")) := by
  obtain ⟨h, X, G⟩ := T.at_
  exact He.glo_ok X G (T.says.fact 32 (f := .glo "_law_heard") rfl)
theorem Tx.g_law_made (T : Tx K mg) : mg "_law_made" = some (.ref (He.ga K "_law_made")) := by
  obtain ⟨h, X, G⟩ := T.at_
  exact He.glo_ok X G (T.says.fact 33 (f := .glo "_law_made") rfl)
theorem Tx.g_law_kinds_right (T : Tx K mg) : mg "_law_kinds_right" = some (.ref (He.ga K "_law_kinds_right")) := by
  obtain ⟨h, X, G⟩ := T.at_
  exact He.glo_ok X G (T.says.fact 34 (f := .glo "_law_kinds_right") rfl)
theorem Tx.g_law_looks_right (T : Tx K mg) : mg "_law_looks_right" = some (.ref (He.ga K "_law_looks_right")) := by
  obtain ⟨h, X, G⟩ := T.at_
  exact He.glo_ok X G (T.says.fact 35 (f := .glo "_law_looks_right") rfl)
theorem Tx.g_law_borders_right (T : Tx K mg) : mg "_law_borders_right" = some (.ref (He.ga K "_law_borders_right")) := by
  obtain ⟨h, X, G⟩ := T.at_
  exact He.glo_ok X G (T.says.fact 36 (f := .glo "_law_borders_right") rfl)
theorem Tx.g_law (T : Tx K mg) : mg "law" = some (.ref (He.ga K "law")) := by
  obtain ⟨h, X, G⟩ := T.at_
  exact He.glo_ok X G (T.says.fact 37 (f := .glo "law") rfl)
theorem Tx.g_RoadError (T : Tx K mg) : mg "RoadError" = some (.ref (He.ga K "RoadError")) := by
  obtain ⟨h, X, G⟩ := T.at_
  exact He.glo_ok X G (T.says.fact 38 (f := .glo "RoadError") rfl)
theorem Tx.g_BadNumber (T : Tx K mg) : mg "BadNumber" = some (.ref (He.ga K "BadNumber")) := by
  obtain ⟨h, X, G⟩ := T.at_
  exact He.glo_ok X G (T.says.fact 39 (f := .glo "BadNumber") rfl)
theorem Tx.g_BadTiers (T : Tx K mg) : mg "BadTiers" = some (.ref (He.ga K "BadTiers")) := by
  obtain ⟨h, X, G⟩ := T.at_
  exact He.glo_ok X G (T.says.fact 40 (f := .glo "BadTiers") rfl)
theorem Tx.g_BadStore (T : Tx K mg) : mg "BadStore" = some (.ref (He.ga K "BadStore")) := by
  obtain ⟨h, X, G⟩ := T.at_
  exact He.glo_ok X G (T.says.fact 41 (f := .glo "BadStore") rfl)
theorem Tx.g_NotYet (T : Tx K mg) : mg "NotYet" = some (.ref (He.ga K "NotYet")) := by
  obtain ⟨h, X, G⟩ := T.at_
  exact He.glo_ok X G (T.says.fact 42 (f := .glo "NotYet") rfl)
theorem Tx.g_Forgotten (T : Tx K mg) : mg "Forgotten" = some (.ref (He.ga K "Forgotten")) := by
  obtain ⟨h, X, G⟩ := T.at_
  exact He.glo_ok X G (T.says.fact 43 (f := .glo "Forgotten") rfl)
theorem Tx.g_Unlike (T : Tx K mg) : mg "Unlike" = some (.ref (He.ga K "Unlike")) := by
  obtain ⟨h, X, G⟩ := T.at_
  exact He.glo_ok X G (T.says.fact 44 (f := .glo "Unlike") rfl)
theorem Tx.g_BadText (T : Tx K mg) : mg "BadText" = some (.ref (He.ga K "BadText")) := by
  obtain ⟨h, X, G⟩ := T.at_
  exact He.glo_ok X G (T.says.fact 45 (f := .glo "BadText") rfl)
theorem Tx.g_TooMany (T : Tx K mg) : mg "TooMany" = some (.ref (He.ga K "TooMany")) := by
  obtain ⟨h, X, G⟩ := T.at_
  exact He.glo_ok X G (T.says.fact 46 (f := .glo "TooMany") rfl)
theorem Tx.g_Nothing (T : Tx K mg) : mg "Nothing" = some (.ref (He.ga K "Nothing")) := by
  obtain ⟨h, X, G⟩ := T.at_
  exact He.glo_ok X G (T.says.fact 47 (f := .glo "Nothing") rfl)
theorem Tx.g_Words (T : Tx K mg) : mg "Words" = some (.ref (He.ga K "Words")) := by
  obtain ⟨h, X, G⟩ := T.at_
  exact He.glo_ok X G (T.says.fact 48 (f := .glo "Words") rfl)
theorem Tx.g_Tiers (T : Tx K mg) : mg "Tiers" = some (.ref (He.ga K "Tiers")) := by
  obtain ⟨h, X, G⟩ := T.at_
  exact He.glo_ok X G (T.says.fact 49 (f := .glo "Tiers") rfl)
theorem Tx.g_Look (T : Tx K mg) : mg "Look" = some (.ref (He.ga K "Look")) := by
  obtain ⟨h, X, G⟩ := T.at_
  exact He.glo_ok X G (T.says.fact 50 (f := .glo "Look") rfl)
theorem Tx.g_State (T : Tx K mg) : mg "State" = some (.ref (He.ga K "State")) := by
  obtain ⟨h, X, G⟩ := T.at_
  exact He.glo_ok X G (T.says.fact 51 (f := .glo "State") rfl)
theorem Tx.g_Store (T : Tx K mg) : mg "Store" = some (.ref (He.ga K "Store")) := by
  obtain ⟨h, X, G⟩ := T.at_
  exact He.glo_ok X G (T.says.fact 52 (f := .glo "Store") rfl)
theorem Tx.i_FAR (T : Tx K mg) : ∃ t, mg "FAR" = some (.int (10 ^ 30) t) := by
  obtain ⟨h, X, G⟩ := T.at_
  exact He.int_ok X G (T.says.fact 53 (f := .int "FAR" (10 ^ 30)) rfl)
theorem Tx.i_FAR_TALLY (T : Tx K mg) : ∃ t, mg "FAR_TALLY" = some (.int (10 ^ 40) t) := by
  obtain ⟨h, X, G⟩ := T.at_
  exact He.int_ok X G (T.says.fact 54 (f := .int "FAR_TALLY" (10 ^ 40)) rfl)
theorem Tx.i_MOST_PATIENCE (T : Tx K mg) : ∃ t, mg "MOST_PATIENCE" = some (.int (10 ^ 6) t) := by
  obtain ⟨h, X, G⟩ := T.at_
  exact He.int_ok X G (T.says.fact 55 (f := .int "MOST_PATIENCE" (10 ^ 6)) rfl)
theorem Tx.i_MOST_LIFE (T : Tx K mg) : ∃ t, mg "MOST_LIFE" = some (.int (10 ^ 6) t) := by
  obtain ⟨h, X, G⟩ := T.at_
  exact He.int_ok X G (T.says.fact 56 (f := .int "MOST_LIFE" (10 ^ 6)) rfl)
theorem Tx.i_MOST_PAIRS (T : Tx K mg) : ∃ t, mg "MOST_PAIRS" = some (.int (6) t) := by
  obtain ⟨h, X, G⟩ := T.at_
  exact He.int_ok X G (T.says.fact 57 (f := .int "MOST_PAIRS" (6)) rfl)
theorem Tx.i_MOST_WIDTH (T : Tx K mg) : ∃ t, mg "MOST_WIDTH" = some (.int (10 ^ 6) t) := by
  obtain ⟨h, X, G⟩ := T.at_
  exact He.int_ok X G (T.says.fact 58 (f := .int "MOST_WIDTH" (10 ^ 6)) rfl)
theorem Tx.i_MOST_KEEP (T : Tx K mg) : ∃ t, mg "MOST_KEEP" = some (.int (10 ^ 9) t) := by
  obtain ⟨h, X, G⟩ := T.at_
  exact He.int_ok X G (T.says.fact 59 (f := .int "MOST_KEEP" (10 ^ 9)) rfl)
theorem Tx.c_Tiers (T : Tx K mg) : Cls K (He.ga K "Tiers") := He.cls_ok (T.says.fact 60 (f := .cls "Tiers") rfl)
theorem Tx.n_Tiers_pairs (T : Tx K mg) : NoAttr K (He.ga K "Tiers") "pairs" := He.noat_ok (T.says.fact 61 (f := .noat "Tiers" "pairs") rfl)
theorem Tx.m_Tiers_width_of (T : Tx K mg) : Meth K (He.ga K "Tiers") "width_of" (He.ma K (He.ga K "Tiers") "width_of") := He.meth_ok (T.says.fact 62 (f := .meth "Tiers" "width_of") rfl)
theorem Tx.m_Tiers_grid_of (T : Tx K mg) : Meth K (He.ga K "Tiers") "grid_of" (He.ma K (He.ga K "Tiers") "grid_of") := He.meth_ok (T.says.fact 63 (f := .meth "Tiers" "grid_of") rfl)
theorem Tx.k_Tiers (T : Tx K mg) : Mk K (He.ga K "Tiers") (He.ma K (He.ga K "Tiers") "__init__") := He.mkr_ok (T.says.fact 64 (f := .mkr "Tiers") rfl)
theorem Tx.c_Look (T : Tx K mg) : Cls K (He.ga K "Look") := He.cls_ok (T.says.fact 65 (f := .cls "Look") rfl)
theorem Tx.n_Look_moment (T : Tx K mg) : NoAttr K (He.ga K "Look") "moment" := He.noat_ok (T.says.fact 66 (f := .noat "Look" "moment") rfl)
theorem Tx.n_Look_tally (T : Tx K mg) : NoAttr K (He.ga K "Look") "tally" := He.noat_ok (T.says.fact 67 (f := .noat "Look" "tally") rfl)
theorem Tx.n_Look_life (T : Tx K mg) : NoAttr K (He.ga K "Look") "life" := He.noat_ok (T.says.fact 68 (f := .noat "Look" "life") rfl)
theorem Tx.m_Look_eq (T : Tx K mg) : Meth K (He.ga K "Look") "__eq__" (He.ma K (He.ga K "Look") "__eq__") := He.meth_ok (T.says.fact 69 (f := .meth "Look" "__eq__") rfl)
theorem Tx.k_Look (T : Tx K mg) : Mk K (He.ga K "Look") (He.ma K (He.ga K "Look") "__init__") := He.mkr_ok (T.says.fact 70 (f := .mkr "Look") rfl)
theorem Tx.c_State (T : Tx K mg) : Cls K (He.ga K "State") := He.cls_ok (T.says.fact 71 (f := .cls "State") rfl)
theorem Tx.n_State_moment (T : Tx K mg) : NoAttr K (He.ga K "State") "moment" := He.noat_ok (T.says.fact 72 (f := .noat "State" "moment") rfl)
theorem Tx.n_State_looks (T : Tx K mg) : NoAttr K (He.ga K "State") "looks" := He.noat_ok (T.says.fact 73 (f := .noat "State" "looks") rfl)
theorem Tx.n_State_untils (T : Tx K mg) : NoAttr K (He.ga K "State") "untils" := He.noat_ok (T.says.fact 74 (f := .noat "State" "untils") rfl)
theorem Tx.n_State_until (T : Tx K mg) : NoAttr K (He.ga K "State") "until" := He.noat_ok (T.says.fact 75 (f := .noat "State" "until") rfl)
theorem Tx.k_State (T : Tx K mg) : Mk K (He.ga K "State") (He.ma K (He.ga K "State") "__init__") := He.mkr_ok (T.says.fact 76 (f := .mkr "State") rfl)
theorem Tx.c_Store (T : Tx K mg) : Cls K (He.ga K "Store") := He.cls_ok (T.says.fact 77 (f := .cls "Store") rfl)
theorem Tx.n_Store_tiers (T : Tx K mg) : NoAttr K (He.ga K "Store") "tiers" := He.noat_ok (T.says.fact 78 (f := .noat "Store" "tiers") rfl)
theorem Tx.n_Store_patience (T : Tx K mg) : NoAttr K (He.ga K "Store") "patience" := He.noat_ok (T.says.fact 79 (f := .noat "Store" "patience") rfl)
theorem Tx.n_Store_state (T : Tx K mg) : NoAttr K (He.ga K "Store") "_state" := He.noat_ok (T.says.fact 80 (f := .noat "Store" "_state") rfl)
theorem Tx.m_Store_pass_to (T : Tx K mg) : Meth K (He.ga K "Store") "pass_to" (He.ma K (He.ga K "Store") "pass_to") := He.meth_ok (T.says.fact 81 (f := .meth "Store" "pass_to") rfl)
theorem Tx.m_Store_put (T : Tx K mg) : Meth K (He.ga K "Store") "put" (He.ma K (He.ga K "Store") "put") := He.meth_ok (T.says.fact 82 (f := .meth "Store" "put") rfl)
theorem Tx.m_Store_look_at (T : Tx K mg) : Meth K (He.ga K "Store") "look_at" (He.ma K (He.ga K "Store") "look_at") := He.meth_ok (T.says.fact 83 (f := .meth "Store" "look_at") rfl)
theorem Tx.m_Store_kept (T : Tx K mg) : Meth K (He.ga K "Store") "kept" (He.ma K (He.ga K "Store") "kept") := He.meth_ok (T.says.fact 84 (f := .meth "Store" "kept") rfl)
theorem Tx.m_Store_len (T : Tx K mg) : Meth K (He.ga K "Store") "__len__" (He.ma K (He.ga K "Store") "__len__") := He.meth_ok (T.says.fact 85 (f := .meth "Store" "__len__") rfl)
theorem Tx.m_Store_iter (T : Tx K mg) : Meth K (He.ga K "Store") "__iter__" (He.ma K (He.ga K "Store") "__iter__") := He.meth_ok (T.says.fact 86 (f := .meth "Store" "__iter__") rfl)
theorem Tx.m_Store_contains (T : Tx K mg) : Meth K (He.ga K "Store") "__contains__" (He.ma K (He.ga K "Store") "__contains__") := He.meth_ok (T.says.fact 87 (f := .meth "Store" "__contains__") rfl)
theorem Tx.m_Store_getitem (T : Tx K mg) : Meth K (He.ga K "Store") "__getitem__" (He.ma K (He.ga K "Store") "__getitem__") := He.meth_ok (T.says.fact 88 (f := .meth "Store" "__getitem__") rfl)
theorem Tx.k_Store (T : Tx K mg) : Mk K (He.ga K "Store") (He.ma K (He.ga K "Store") "__init__") := He.mkr_ok (T.says.fact 89 (f := .mkr "Store") rfl)
theorem Tx.n_BadNumber_value (T : Tx K mg) : NoAttr K (He.ga K "BadNumber") "value" := He.noat_ok (T.says.fact 90 (f := .noat "BadNumber" "value") rfl)
theorem Tx.m_BadNumber_init (T : Tx K mg) : Meth K (He.ga K "BadNumber") "__init__" (He.ma K (He.ga K "BadNumber") "__init__") := He.meth_ok (T.says.fact 91 (f := .meth "BadNumber" "__init__") rfl)
theorem Tx.n_BadTiers_at (T : Tx K mg) : NoAttr K (He.ga K "BadTiers") "at" := He.noat_ok (T.says.fact 92 (f := .noat "BadTiers" "at") rfl)
theorem Tx.m_BadTiers_init (T : Tx K mg) : Meth K (He.ga K "BadTiers") "__init__" (He.ma K (He.ga K "BadTiers") "__init__") := He.meth_ok (T.says.fact 93 (f := .meth "BadTiers" "__init__") rfl)
theorem Tx.n_BadStore_part (T : Tx K mg) : NoAttr K (He.ga K "BadStore") "part" := He.noat_ok (T.says.fact 94 (f := .noat "BadStore" "part") rfl)
theorem Tx.m_BadStore_init (T : Tx K mg) : Meth K (He.ga K "BadStore") "__init__" (He.ma K (He.ga K "BadStore") "__init__") := He.meth_ok (T.says.fact 95 (f := .meth "BadStore" "__init__") rfl)
theorem Tx.n_NotYet_moment (T : Tx K mg) : NoAttr K (He.ga K "NotYet") "moment" := He.noat_ok (T.says.fact 96 (f := .noat "NotYet" "moment") rfl)
theorem Tx.m_NotYet_init (T : Tx K mg) : Meth K (He.ga K "NotYet") "__init__" (He.ma K (He.ga K "NotYet") "__init__") := He.meth_ok (T.says.fact 97 (f := .meth "NotYet" "__init__") rfl)
theorem Tx.n_Forgotten_moment (T : Tx K mg) : NoAttr K (He.ga K "Forgotten") "moment" := He.noat_ok (T.says.fact 98 (f := .noat "Forgotten" "moment") rfl)
theorem Tx.m_Forgotten_init (T : Tx K mg) : Meth K (He.ga K "Forgotten") "__init__" (He.ma K (He.ga K "Forgotten") "__init__") := He.meth_ok (T.says.fact 99 (f := .meth "Forgotten" "__init__") rfl)
theorem Tx.n_Unlike_part (T : Tx K mg) : NoAttr K (He.ga K "Unlike") "part" := He.noat_ok (T.says.fact 100 (f := .noat "Unlike" "part") rfl)
theorem Tx.m_Unlike_init (T : Tx K mg) : Meth K (He.ga K "Unlike") "__init__" (He.ma K (He.ga K "Unlike") "__init__") := He.meth_ok (T.says.fact 101 (f := .meth "Unlike" "__init__") rfl)
theorem Tx.n_TooMany_what (T : Tx K mg) : NoAttr K (He.ga K "TooMany") "what" := He.noat_ok (T.says.fact 102 (f := .noat "TooMany" "what") rfl)
theorem Tx.n_TooMany_limit (T : Tx K mg) : NoAttr K (He.ga K "TooMany") "limit" := He.noat_ok (T.says.fact 103 (f := .noat "TooMany" "limit") rfl)
theorem Tx.m_TooMany_init (T : Tx K mg) : Meth K (He.ga K "TooMany") "__init__" (He.ma K (He.ga K "TooMany") "__init__") := He.meth_ok (T.says.fact 104 (f := .meth "TooMany" "__init__") rfl)
theorem Tx.v_Tiers_oldest (T : Tx K mg) : Hkc.fv K (Prp.gp K (He.ga K "Tiers") "oldest") = m_Tiers_oldest.fv := Hkc.md_at T.md 0 (m := m_Tiers_oldest) rfl
theorem Tx.v_Store_now (T : Tx K mg) : Hkc.fv K (Prp.gp K (He.ga K "Store") "now") = m_Store_now.fv := Hkc.md_at T.md 1 (m := m_Store_now) rfl
theorem Tx.is_Tiers (T : Tx K mg) : Vls.Ins K (He.ga K "Tiers") := Vls.insB_ok (T.ex_at 0 (f := ex0) rfl)
theorem Tx.is_Look (T : Tx K mg) : Vls.Ins K (He.ga K "Look") := Vls.insB_ok (T.ex_at 1 (f := ex1) rfl)
theorem Tx.is_State (T : Tx K mg) : Vls.Ins K (He.ga K "State") := Vls.insB_ok (T.ex_at 2 (f := ex2) rfl)
theorem Tx.is_Store (T : Tx K mg) : Vls.Ins K (He.ga K "Store") := Vls.insB_ok (T.ex_at 3 (f := ex3) rfl)
theorem Tx.k_NoneType_Tiers (T : Tx K mg) : PySem.W.kitOne K (.type "NoneType") (.ref (He.ga K "Tiers")) = some false := of_decide_eq_true (T.ex_at 4 (f := ex4) rfl)
theorem Tx.k_int_Tiers (T : Tx K mg) : PySem.W.kitOne K (.type "int") (.ref (He.ga K "Tiers")) = some false := of_decide_eq_true (T.ex_at 5 (f := ex5) rfl)
theorem Tx.k_str_Tiers (T : Tx K mg) : PySem.W.kitOne K (.type "str") (.ref (He.ga K "Tiers")) = some false := of_decide_eq_true (T.ex_at 6 (f := ex6) rfl)
theorem Tx.k_tuple_Tiers (T : Tx K mg) : PySem.W.kitOne K (.type "tuple") (.ref (He.ga K "Tiers")) = some false := of_decide_eq_true (T.ex_at 7 (f := ex7) rfl)
theorem Tx.k_list_Tiers (T : Tx K mg) : PySem.W.kitOne K (.type "list") (.ref (He.ga K "Tiers")) = some false := of_decide_eq_true (T.ex_at 8 (f := ex8) rfl)
theorem Tx.k_dict_Tiers (T : Tx K mg) : PySem.W.kitOne K (.type "dict") (.ref (He.ga K "Tiers")) = some false := of_decide_eq_true (T.ex_at 9 (f := ex9) rfl)
theorem Tx.k_Tiers_Tiers (T : Tx K mg) : PySem.W.kitOne K (.ref (He.ga K "Tiers")) (.ref (He.ga K "Tiers")) = some true := of_decide_eq_true (T.ex_at 10 (f := ex10) rfl)
theorem Tx.k_Look_Look (T : Tx K mg) : PySem.W.kitOne K (.ref (He.ga K "Look")) (.ref (He.ga K "Look")) = some true := of_decide_eq_true (T.ex_at 11 (f := ex11) rfl)
theorem Tx.k_tuple_Look (T : Tx K mg) : PySem.W.kitOne K (.type "tuple") (.ref (He.ga K "Look")) = some false := of_decide_eq_true (T.ex_at 12 (f := ex12) rfl)
theorem Tx.xm_BadNumber (T : Tx K mg) : PySem.W.exmOne K (.ref (He.ga K "BadNumber")) (.ref (He.ga K "RoadError")) = some true := of_decide_eq_true (T.ex_at 13 (f := ex13) rfl)
theorem Tx.xm_BadStore (T : Tx K mg) : PySem.W.exmOne K (.ref (He.ga K "BadStore")) (.ref (He.ga K "RoadError")) = some true := of_decide_eq_true (T.ex_at 14 (f := ex14) rfl)
theorem Tx.xm_Unlike (T : Tx K mg) : PySem.W.exmOne K (.ref (He.ga K "Unlike")) (.ref (He.ga K "RoadError")) = some true := of_decide_eq_true (T.ex_at 15 (f := ex15) rfl)
theorem Tx.xm_NotYet (T : Tx K mg) : PySem.W.exmOne K (.ref (He.ga K "NotYet")) (.ref (He.ga K "RoadError")) = some true := of_decide_eq_true (T.ex_at 16 (f := ex16) rfl)
theorem Tx.xm_Forgotten (T : Tx K mg) : PySem.W.exmOne K (.ref (He.ga K "Forgotten")) (.ref (He.ga K "RoadError")) = some true := of_decide_eq_true (T.ex_at 17 (f := ex17) rfl)
theorem Tx.xm_Nothing (T : Tx K mg) : PySem.W.exmOne K (.ref (He.ga K "Nothing")) (.ref (He.ga K "RoadError")) = some true := of_decide_eq_true (T.ex_at 18 (f := ex18) rfl)
theorem Tx.ki_BadNumber_BadNumber (T : Tx K mg) : PySem.W.kitOne K (.ref (He.ga K "BadNumber")) (.ref (He.ga K "BadNumber")) = some true := of_decide_eq_true (T.ex_at 19 (f := ex19) rfl)
theorem Tx.ki_BadNumber_BadStore (T : Tx K mg) : PySem.W.kitOne K (.ref (He.ga K "BadNumber")) (.ref (He.ga K "BadStore")) = some false := of_decide_eq_true (T.ex_at 20 (f := ex20) rfl)
theorem Tx.ki_BadNumber_Unlike (T : Tx K mg) : PySem.W.kitOne K (.ref (He.ga K "BadNumber")) (.ref (He.ga K "Unlike")) = some false := of_decide_eq_true (T.ex_at 21 (f := ex21) rfl)
theorem Tx.ki_BadNumber_NotYet (T : Tx K mg) : PySem.W.kitOne K (.ref (He.ga K "BadNumber")) (.ref (He.ga K "NotYet")) = some false := of_decide_eq_true (T.ex_at 22 (f := ex22) rfl)
theorem Tx.ki_BadNumber_Forgotten (T : Tx K mg) : PySem.W.kitOne K (.ref (He.ga K "BadNumber")) (.ref (He.ga K "Forgotten")) = some false := of_decide_eq_true (T.ex_at 23 (f := ex23) rfl)
theorem Tx.ki_BadNumber_Nothing (T : Tx K mg) : PySem.W.kitOne K (.ref (He.ga K "BadNumber")) (.ref (He.ga K "Nothing")) = some false := of_decide_eq_true (T.ex_at 24 (f := ex24) rfl)
theorem Tx.ki_BadStore_BadNumber (T : Tx K mg) : PySem.W.kitOne K (.ref (He.ga K "BadStore")) (.ref (He.ga K "BadNumber")) = some false := of_decide_eq_true (T.ex_at 25 (f := ex25) rfl)
theorem Tx.ki_BadStore_BadStore (T : Tx K mg) : PySem.W.kitOne K (.ref (He.ga K "BadStore")) (.ref (He.ga K "BadStore")) = some true := of_decide_eq_true (T.ex_at 26 (f := ex26) rfl)
theorem Tx.ki_BadStore_Unlike (T : Tx K mg) : PySem.W.kitOne K (.ref (He.ga K "BadStore")) (.ref (He.ga K "Unlike")) = some false := of_decide_eq_true (T.ex_at 27 (f := ex27) rfl)
theorem Tx.ki_BadStore_NotYet (T : Tx K mg) : PySem.W.kitOne K (.ref (He.ga K "BadStore")) (.ref (He.ga K "NotYet")) = some false := of_decide_eq_true (T.ex_at 28 (f := ex28) rfl)
theorem Tx.ki_BadStore_Forgotten (T : Tx K mg) : PySem.W.kitOne K (.ref (He.ga K "BadStore")) (.ref (He.ga K "Forgotten")) = some false := of_decide_eq_true (T.ex_at 29 (f := ex29) rfl)
theorem Tx.ki_BadStore_Nothing (T : Tx K mg) : PySem.W.kitOne K (.ref (He.ga K "BadStore")) (.ref (He.ga K "Nothing")) = some false := of_decide_eq_true (T.ex_at 30 (f := ex30) rfl)
theorem Tx.ki_Unlike_BadNumber (T : Tx K mg) : PySem.W.kitOne K (.ref (He.ga K "Unlike")) (.ref (He.ga K "BadNumber")) = some false := of_decide_eq_true (T.ex_at 31 (f := ex31) rfl)
theorem Tx.ki_Unlike_BadStore (T : Tx K mg) : PySem.W.kitOne K (.ref (He.ga K "Unlike")) (.ref (He.ga K "BadStore")) = some false := of_decide_eq_true (T.ex_at 32 (f := ex32) rfl)
theorem Tx.ki_Unlike_Unlike (T : Tx K mg) : PySem.W.kitOne K (.ref (He.ga K "Unlike")) (.ref (He.ga K "Unlike")) = some true := of_decide_eq_true (T.ex_at 33 (f := ex33) rfl)
theorem Tx.ki_Unlike_NotYet (T : Tx K mg) : PySem.W.kitOne K (.ref (He.ga K "Unlike")) (.ref (He.ga K "NotYet")) = some false := of_decide_eq_true (T.ex_at 34 (f := ex34) rfl)
theorem Tx.ki_Unlike_Forgotten (T : Tx K mg) : PySem.W.kitOne K (.ref (He.ga K "Unlike")) (.ref (He.ga K "Forgotten")) = some false := of_decide_eq_true (T.ex_at 35 (f := ex35) rfl)
theorem Tx.ki_Unlike_Nothing (T : Tx K mg) : PySem.W.kitOne K (.ref (He.ga K "Unlike")) (.ref (He.ga K "Nothing")) = some false := of_decide_eq_true (T.ex_at 36 (f := ex36) rfl)
theorem Tx.ki_NotYet_BadNumber (T : Tx K mg) : PySem.W.kitOne K (.ref (He.ga K "NotYet")) (.ref (He.ga K "BadNumber")) = some false := of_decide_eq_true (T.ex_at 37 (f := ex37) rfl)
theorem Tx.ki_NotYet_BadStore (T : Tx K mg) : PySem.W.kitOne K (.ref (He.ga K "NotYet")) (.ref (He.ga K "BadStore")) = some false := of_decide_eq_true (T.ex_at 38 (f := ex38) rfl)
theorem Tx.ki_NotYet_Unlike (T : Tx K mg) : PySem.W.kitOne K (.ref (He.ga K "NotYet")) (.ref (He.ga K "Unlike")) = some false := of_decide_eq_true (T.ex_at 39 (f := ex39) rfl)
theorem Tx.ki_NotYet_NotYet (T : Tx K mg) : PySem.W.kitOne K (.ref (He.ga K "NotYet")) (.ref (He.ga K "NotYet")) = some true := of_decide_eq_true (T.ex_at 40 (f := ex40) rfl)
theorem Tx.ki_NotYet_Forgotten (T : Tx K mg) : PySem.W.kitOne K (.ref (He.ga K "NotYet")) (.ref (He.ga K "Forgotten")) = some false := of_decide_eq_true (T.ex_at 41 (f := ex41) rfl)
theorem Tx.ki_NotYet_Nothing (T : Tx K mg) : PySem.W.kitOne K (.ref (He.ga K "NotYet")) (.ref (He.ga K "Nothing")) = some false := of_decide_eq_true (T.ex_at 42 (f := ex42) rfl)
theorem Tx.ki_Forgotten_BadNumber (T : Tx K mg) : PySem.W.kitOne K (.ref (He.ga K "Forgotten")) (.ref (He.ga K "BadNumber")) = some false := of_decide_eq_true (T.ex_at 43 (f := ex43) rfl)
theorem Tx.ki_Forgotten_BadStore (T : Tx K mg) : PySem.W.kitOne K (.ref (He.ga K "Forgotten")) (.ref (He.ga K "BadStore")) = some false := of_decide_eq_true (T.ex_at 44 (f := ex44) rfl)
theorem Tx.ki_Forgotten_Unlike (T : Tx K mg) : PySem.W.kitOne K (.ref (He.ga K "Forgotten")) (.ref (He.ga K "Unlike")) = some false := of_decide_eq_true (T.ex_at 45 (f := ex45) rfl)
theorem Tx.ki_Forgotten_NotYet (T : Tx K mg) : PySem.W.kitOne K (.ref (He.ga K "Forgotten")) (.ref (He.ga K "NotYet")) = some false := of_decide_eq_true (T.ex_at 46 (f := ex46) rfl)
theorem Tx.ki_Forgotten_Forgotten (T : Tx K mg) : PySem.W.kitOne K (.ref (He.ga K "Forgotten")) (.ref (He.ga K "Forgotten")) = some true := of_decide_eq_true (T.ex_at 47 (f := ex47) rfl)
theorem Tx.ki_Forgotten_Nothing (T : Tx K mg) : PySem.W.kitOne K (.ref (He.ga K "Forgotten")) (.ref (He.ga K "Nothing")) = some false := of_decide_eq_true (T.ex_at 48 (f := ex48) rfl)
theorem Tx.ki_Nothing_BadNumber (T : Tx K mg) : PySem.W.kitOne K (.ref (He.ga K "Nothing")) (.ref (He.ga K "BadNumber")) = some false := of_decide_eq_true (T.ex_at 49 (f := ex49) rfl)
theorem Tx.ki_Nothing_BadStore (T : Tx K mg) : PySem.W.kitOne K (.ref (He.ga K "Nothing")) (.ref (He.ga K "BadStore")) = some false := of_decide_eq_true (T.ex_at 50 (f := ex50) rfl)
theorem Tx.ki_Nothing_Unlike (T : Tx K mg) : PySem.W.kitOne K (.ref (He.ga K "Nothing")) (.ref (He.ga K "Unlike")) = some false := of_decide_eq_true (T.ex_at 51 (f := ex51) rfl)
theorem Tx.ki_Nothing_NotYet (T : Tx K mg) : PySem.W.kitOne K (.ref (He.ga K "Nothing")) (.ref (He.ga K "NotYet")) = some false := of_decide_eq_true (T.ex_at 52 (f := ex52) rfl)
theorem Tx.ki_Nothing_Forgotten (T : Tx K mg) : PySem.W.kitOne K (.ref (He.ga K "Nothing")) (.ref (He.ga K "Forgotten")) = some false := of_decide_eq_true (T.ex_at 53 (f := ex53) rfl)
theorem Tx.ki_Nothing_Nothing (T : Tx K mg) : PySem.W.kitOne K (.ref (He.ga K "Nothing")) (.ref (He.ga K "Nothing")) = some true := of_decide_eq_true (T.ex_at 54 (f := ex54) rfl)
theorem Tx.nf_Look (T : Tx K mg) : PySem.W.notFirst K (He.ga K "Look") (.ref (He.ga K "Look")) = true := id (T.ex_at 55 (f := ex55) rfl)
theorem Tx.nf_tuple (T : Tx K mg) : PySem.W.notFirst K (He.ga K "Look") (.type "tuple") = true := id (T.ex_at 56 (f := ex56) rfl)
theorem Tx.ne_Look (T : Tx K mg) : PySem.W.findIn K (.ref (He.ga K "Look")) "__ne__" = some (some (.builtin "object.__ne__")) := of_decide_eq_true (T.ex_at 57 (f := ex57) rfl)
theorem Tx.fi_getitem (T : Tx K mg) : PySem.W.fnIn K (He.ma K (He.ga K "Store") "__getitem__") = true := id (T.ex_at 58 (f := ex58) rfl)
theorem Tx.fi_contains (T : Tx K mg) : PySem.W.fnIn K (He.ma K (He.ga K "Store") "__contains__") = true := id (T.ex_at 59 (f := ex59) rfl)
theorem Tx.b_Nothing (T : Tx K mg) : Ers.Bare K (He.ga K "Nothing") := Ers.bareB_ok (T.ex_at 60 (f := ex60) rfl)
theorem Tx.e_Nothing (T : Tx K mg) : Kept.ErrC K (He.ga K "Nothing") := Kept.errB_ok (T.ex_at 61 (f := ex61) rfl)
theorem Tx.apart0 (T : Tx K mg) : (He.cT K ("_law_kinds_right", none)).2 ≠ (He.cT K ("_law_looks_right", none)).2 := of_decide_eq_true (T.ex_at 62 (f := ex62) rfl)
theorem Tx.apart1 (T : Tx K mg) : (He.cT K ("_law_kinds_right", none)).2 ≠ (He.cT K ("_law_borders_right", none)).2 := of_decide_eq_true (T.ex_at 63 (f := ex63) rfl)
theorem Tx.apart2 (T : Tx K mg) : (He.cT K ("_law_looks_right", none)).2 ≠ (He.cT K ("_law_borders_right", none)).2 := of_decide_eq_true (T.ex_at 64 (f := ex64) rfl)
theorem Tx.o_BadNumber (T : Tx K mg) : OexC K (He.ga K "BadNumber") := Ers.oexB_ok (T.ex_at 65 (f := ex65) rfl)
theorem Tx.e_BadNumber (T : Tx K mg) : Kept.ErrC K (He.ga K "BadNumber") := Kept.errB_ok (T.ex_at 66 (f := ex66) rfl)
theorem Tx.t_BadNumber (T : Tx K mg) : PySem.W.typeIn K (.ref (He.ma K (He.ga K "BadNumber") "__init__")) = some (.type "function") := of_decide_eq_true (T.ex_at 67 (f := ex67) rfl)
theorem Tx.o_BadTiers (T : Tx K mg) : OexC K (He.ga K "BadTiers") := Ers.oexB_ok (T.ex_at 68 (f := ex68) rfl)
theorem Tx.e_BadTiers (T : Tx K mg) : Kept.ErrC K (He.ga K "BadTiers") := Kept.errB_ok (T.ex_at 69 (f := ex69) rfl)
theorem Tx.t_BadTiers (T : Tx K mg) : PySem.W.typeIn K (.ref (He.ma K (He.ga K "BadTiers") "__init__")) = some (.type "function") := of_decide_eq_true (T.ex_at 70 (f := ex70) rfl)
theorem Tx.o_BadStore (T : Tx K mg) : OexC K (He.ga K "BadStore") := Ers.oexB_ok (T.ex_at 71 (f := ex71) rfl)
theorem Tx.e_BadStore (T : Tx K mg) : Kept.ErrC K (He.ga K "BadStore") := Kept.errB_ok (T.ex_at 72 (f := ex72) rfl)
theorem Tx.t_BadStore (T : Tx K mg) : PySem.W.typeIn K (.ref (He.ma K (He.ga K "BadStore") "__init__")) = some (.type "function") := of_decide_eq_true (T.ex_at 73 (f := ex73) rfl)
theorem Tx.o_NotYet (T : Tx K mg) : OexC K (He.ga K "NotYet") := Ers.oexB_ok (T.ex_at 74 (f := ex74) rfl)
theorem Tx.e_NotYet (T : Tx K mg) : Kept.ErrC K (He.ga K "NotYet") := Kept.errB_ok (T.ex_at 75 (f := ex75) rfl)
theorem Tx.t_NotYet (T : Tx K mg) : PySem.W.typeIn K (.ref (He.ma K (He.ga K "NotYet") "__init__")) = some (.type "function") := of_decide_eq_true (T.ex_at 76 (f := ex76) rfl)
theorem Tx.o_Forgotten (T : Tx K mg) : OexC K (He.ga K "Forgotten") := Ers.oexB_ok (T.ex_at 77 (f := ex77) rfl)
theorem Tx.e_Forgotten (T : Tx K mg) : Kept.ErrC K (He.ga K "Forgotten") := Kept.errB_ok (T.ex_at 78 (f := ex78) rfl)
theorem Tx.t_Forgotten (T : Tx K mg) : PySem.W.typeIn K (.ref (He.ma K (He.ga K "Forgotten") "__init__")) = some (.type "function") := of_decide_eq_true (T.ex_at 79 (f := ex79) rfl)
theorem Tx.o_Unlike (T : Tx K mg) : OexC K (He.ga K "Unlike") := Ers.oexB_ok (T.ex_at 80 (f := ex80) rfl)
theorem Tx.e_Unlike (T : Tx K mg) : Kept.ErrC K (He.ga K "Unlike") := Kept.errB_ok (T.ex_at 81 (f := ex81) rfl)
theorem Tx.t_Unlike (T : Tx K mg) : PySem.W.typeIn K (.ref (He.ma K (He.ga K "Unlike") "__init__")) = some (.type "function") := of_decide_eq_true (T.ex_at 82 (f := ex82) rfl)
theorem Tx.o_TooMany (T : Tx K mg) : OexC K (He.ga K "TooMany") := Ers.oexB_ok (T.ex_at 83 (f := ex83) rfl)
theorem Tx.e_TooMany (T : Tx K mg) : Kept.ErrC K (He.ga K "TooMany") := Kept.errB_ok (T.ex_at 84 (f := ex84) rfl)
theorem Tx.t_TooMany (T : Tx K mg) : PySem.W.typeIn K (.ref (He.ma K (He.ga K "TooMany") "__init__")) = some (.type "function") := of_decide_eq_true (T.ex_at 85 (f := ex85) rfl)
theorem Tx.pr_Tiers_oldest (T : Tx K mg) : PropOf K (He.ga K "Tiers") "oldest" (He.ma K (He.ga K "Tiers") "oldest") (Prp.gp K (He.ga K "Tiers") "oldest") ∧ PySem.W.keepIn K (.ref (Prp.gp K (He.ga K "Tiers") "oldest")) = true ∧ Hkc.mdB K (Prp.gp K (He.ga K "Tiers") "oldest") "Tiers.oldest" = true := Prp.propB_ok (T.ex_at 86 (f := ex86) rfl)
theorem Tx.pr_Store_now (T : Tx K mg) : PropOf K (He.ga K "Store") "now" (He.ma K (He.ga K "Store") "now") (Prp.gp K (He.ga K "Store") "now") ∧ PySem.W.keepIn K (.ref (Prp.gp K (He.ga K "Store") "now")) = true ∧ Hkc.mdB K (Prp.gp K (He.ga K "Store") "now") "Store.now" = true := Prp.propB_ok (T.ex_at 87 (f := ex87) rfl)
end
def tf : List He.Defn := [("_law_kinds_right", none), ("_law_looks_right", none), ("_law_borders_right", none)]
end K41
set_option Elab.async false
set_option linter.all false
set_option maxRecDepth 100000
set_option maxHeartbeats 0
namespace K41
open PySem PySem.Spec PyProof.Rows L2
abbrev R : PySem.W.OpenRow := PySem.W.OpenLaw.row PySem.Challenge.rw_gaugeroad_k41_stores_refuse_looks_and_bo
abbrev hk : PySem.W.Hook := Hkc.hookC 5 fa fn tf ex ms
def ob (s : PySem.W.SharedT) : Hkc.AlC := Hkc.obsC 5 fa fn tf ex ms (HandSHeadRun.getT s)
theorem ob_eq (s : PySem.W.SharedT) : ob s = hk.obs s.abs := Hkc.obsC_eq (HandSHeadRun.getT_eq s)
def names0 : List PySem.Str := ["_wall", "RoadError", "BadNumber", "BadTiers", "BadStore", "NotYet", "Forgotten", "Unlike", "BadText", "TooMany", "Nothing", "is_whole", "is_within", "check_number", "DIGITS", "is_number_word", "Words", "MOST_PAIRS", "MOST_WIDTH", "MOST_KEEP", "Tiers", "fits_behind", "take_pairs", "FAR"]
def names1 : List PySem.Str := ["FAR_TALLY", "MOST_PATIENCE", "MOST_LIFE", "Look", "State", "Store", "told_of", "many_up_to", "check_between", "look_of", "untils_with", "thinned", "kept_until", "_law_pen", "_law_draw", "_law_pick", "_law_heard", "_law_made", "_law_kinds_right", "_law_looks_right", "_law_borders_right"]
def names : List PySem.Str := names0 ++ names1
theorem run (w : World) : HandSHeadRun.RunEq R (PySem.W.view R.prog [51]) hk ob 8000 names w := by
  intro os
  kernel_rfl
end K41
set_option Elab.async false
set_option linter.all false
set_option maxRecDepth 100000
set_option maxHeartbeats 4000000
namespace K41
open PySem PySem.Spec PyProof.Rows L2 Pre Dfs Vls
/-- the pen at p: the cells at a, s draws so far, what is left of a great cell -/
structure Pen (K : PySem.W.Frag) (H : Hp) (p a : Addr) (ns : List Int) (s g : Int) : Prop where
  at_ : H p = some (.lst [.ref a, .int s, .int g])
  cells : H a = some (.lst (ns.map V.int))
  len : ns.length ≤ 63
  s0 : 0 ≤ s
  g0 : 0 ≤ g
theorem Pen.ne {K : PySem.W.Frag} {H : Hp} {p a : Addr} {ns : List Int} {s g : Int} (R : Pen K H p a ns s g) : a ≠ p := by
  refine ne_of R.cells R.at_ fun q => ?_
  have q2 := HO.lst.inj q
  cases ns with
  | nil => cases q2
  | cons y r => cases q2
theorem Pen.next {K : PySem.W.Frag} {H H' : Hp} {p a : Addr} {ns : List Int} {s g s' g' : Int} (R : Pen K H p a ns s g) (b : But p H H')
    (e : H' p = some (.lst [.ref a, .int s', .int g'])) (h1 : 0 ≤ s') (h2 : 0 ≤ g') : Pen K H' p a ns s' g' :=
  ⟨e, b _ _ R.ne R.cells, R.len, h1, h2⟩
theorem same_none {H H' : Hp} {b : Addr} (s : Same H H') (h : H' b = none) : H b = none := by
  cases q : H b with
  | none => rfl
  | some o =>
    rw [s _ _ q] at h
    cases h
theorem Pen.same {K : PySem.W.Frag} {H H' : Hp} {p a : Addr} {ns : List Int} {s g : Int} (R : Pen K H p a ns s g) (S : Same H H') : Pen K H' p a ns s g := ⟨S _ _ R.at_, S _ _ R.cells, R.len, R.s0, R.g0⟩
def spDraw (K : PySem.W.Frag) : Sp := fun vs H Q _ => ∃ (p a : Addr) (ns : List Int) (s g m : Int),
  vs = [.ref p, .int m] ∧ Pen K H p a ns s g ∧ s < 1000000 ∧ 0 < m ∧ m < 10 ^ 60 ∧
  ∀ (H' : Hp) (s' g' r : Int), But p H H' → Pen K H' p a ns s' g' → s ≤ s' → s' ≤ s + 1 → 0 ≤ r → r < m → Q (.int r) H'
section
variable {P : Program} {w : World} {K : PySem.W.Frag} {mg : Str → Option Value} {base : Heap}
theorem scDraw : FnScope ["_law_pen_here", "_law_many", "_law_digit", "_law_at", "_law_cell", "_law_great", "_law_mixed"] ["_law_pen_here", "_law_many"] (defScope s_law_draw) :=
  ⟨rfl, rfl, rfl, by decide +kernel, rfl, by decide +kernel, by decide +kernel⟩
theorem item_of {ns : List Int} {t : Int} (h0 : 0 ≤ t) (hn : ns ≠ []) : ∃ v, atI (ns.map V.int) (t % (((ns.map V.int).length : Nat) : Int)) = some (V.int v) := by
  have hp : (0 : Int) < (((ns.map V.int).length : Nat) : Int) := by
    cases ns with
    | nil => exact absurd rfl hn
    | cons y r => simp
  have a1 := Int.emod_nonneg t (show (((ns.map V.int).length : Nat) : Int) ≠ 0 by omega)
  have a2 := Int.emod_lt_of_pos t hp
  obtain ⟨j, hj⟩ := Int.eq_ofNat_of_zero_le a1
  rw [hj] at a2 ⊢
  have hj2 : j < ns.length := by
    rw [List.length_map] at a2
    omega
  refine ⟨ns[j], atI_nat ?_⟩
  rw [List.getElem?_map, List.getElem?_eq_getElem hj2]
  rfl
theorem wideM {i m : Int} (h0 : 0 < m) (h1 : m < 10 ^ 60) : CDivW i m := by
  refine wide_div h0 (b := 200) ?_ (by decide) (by decide)
  have e : (10 : Nat) ^ 60 < 2 ^ 200 := by decide
  have e2 : (10 : Int) ^ 60 = ((10 ^ 60 : Nat) : Int) := by decide
  rw [e2] at h1
  generalize (10 : Nat) ^ 60 = t at e h1
  generalize (2 : Nat) ^ 200 = u at e
  omega
theorem d_draw (T : Tx K mg) : Dfn P w K mg base CX0 1 "_law_draw" ["_law_pen_here", "_law_many"] (spDraw K) := by
  have nd := scDraw.nd
  refine dfn T.q_law_draw T.g_law_draw (N := ["_law_pen_here", "_law_many", "_law_digit", "_law_at", "_law_cell", "_law_great", "_law_mixed"]) scDraw (fun vs H Q E h => ?_) (fun kV doc pm an cdv ct => bind2 fun a b => rfl) (fun cdv A outer s H vs Q E hr h => ?_)
  · obtain ⟨_, _, _, _, _, _, rfl, _⟩ := h
    rfl
  · obtain ⟨p, a, ns, z, g, m, rfl, R, hz, m0, m1, k⟩ := h
    refine ⟨_, pss_cons (ps_if (pt_cmpR op_gt (pe_ix ix_list (pv 0) pe_int (fun _ _ => rfl)) pe_int (nomark _))
        (pss_cons (ps_set (i := 2) nd rfl (Or.inl rfl) (pe_op op_mod (pe_callTy call_int1 (by rfl) T.f_int (by decide +kernel) (pa_cons (pe_ix ix_list (pv 0) pe_int (fun _ _ => rfl)) pa_nil)) (pv 1)))
        (pss_cons (ps_asg (pe_op op_fdivW (pe_callTy call_int1 (by rfl) T.f_int (by decide +kernel) (pa_cons (pe_ix ix_list (pv 0) pe_int (fun _ _ => rfl)) pa_nil)) (pv 1)) (pg_sub (pv 0) pe_int set_list))
        (pss_one (ps_ret (pv 2))))) pss_nil)
      (pss_cons (ps_set (i := 3) nd rfl (Or.inl rfl) (pe_ix ix_list (pv 0) pe_int (fun _ _ => rfl)))
      (pss_cons (ps_asg (pe_op op_add (pv 3) pe_int) (pg_sub (pv 0) pe_int set_list))
      (pss_cons (ps_set (i := 4) nd rfl (Or.inl rfl) (pe_op op_add (pe_op op_mul pe_int (pv 3)) pe_int))
      (Evl.pss_cut (ps_if (pt_cmpR (op_neD hr.units) (pe_ix ix_list (pv 0) pe_int (fun _ _ => rfl)) (pe_lst pa_nil) (nomark _))
        (pss_one (ps_set (i := 4) nd rfl (Or.inl rfl) (pe_ix ix_list (pe_ix ix_list (pv 0) pe_int (fun _ _ => rfl))
          (pe_op op_mod (pe_callTy call_int1 (by rfl) T.f_int (by decide +kernel) (pa_cons (pv 3) pa_nil)) (pe_callB call_len_seq (by rfl) T.f_len PySem.boot_len (pa_cons (pe_ix ix_list (pv 0) pe_int (fun _ _ => rfl)) pa_nil))) (fun _ _ => rfl)))) pss_nil)
      (Evl.pss_cut (ps_if (PW.pt (pw_and (pt_cmpR op_lt (pv 3) (pe_callB call_len_seq (by rfl) T.f_len PySem.boot_len (pa_cons (pe_ix ix_list (pv 0) pe_int (fun _ _ => rfl)) pa_nil)) (nomark _))
          (pw_and1 (pt_cmpR op_ge (pe_callB call_abs (by rfl) T.f_abs (by decide +kernel) (pa_cons (pv 4) pa_nil)) (pe_op op_pow pe_int pe_int) (nomark _)))))
        (pss_cons (ps_set (i := 5) nd rfl (Or.inl rfl) (pe_op op_add (pe_op op_mul pe_int (pe_op op_sub (pe_callB call_abs (by rfl) T.f_abs (by decide +kernel) (pa_cons (pv 4) pa_nil)) (pe_op op_pow pe_int pe_int)))
            (pe_callTy call_int1 (by rfl) T.f_int (by decide +kernel) (pa_cons (pe_cmpR op_lt (pv 4) pe_int (nomark _)) pa_nil))))
        (pss_cons (ps_asg (pe_op op_fdivW (pe_callTy call_int1 (by rfl) T.f_int (by decide +kernel) (pa_cons (pv 5) pa_nil)) (pv 1)) (pg_sub (pv 0) pe_int set_list))
        (pss_one (ps_ret (pe_op op_mod (pe_callTy call_int1 (by rfl) T.f_int (by decide +kernel) (pa_cons (pv 5) pa_nil)) (pv 1)))))) pss_nil)
      (pss_cons (ps_set (i := 6) nd rfl (Or.inl rfl) (pe_op op_mod (pe_callTy call_int1 (by rfl) T.f_int (by decide +kernel) (pa_cons
          (pe_op op_pow (pe_op op_add (pe_op op_add (pe_op op_mod (pe_callTy call_int1 (by rfl) T.f_int (by decide +kernel) (pa_cons (pv 4) pa_nil)) pe_int) (pe_op op_mul pe_int (pv 3))) pe_int) pe_int) pa_nil)) pe_int))
      (pss_cons (ps_set (i := 6) nd rfl (Or.inl rfl) (pe_op op_mod (pe_callTy call_int1 (by rfl) T.f_int (by decide +kernel) (pa_cons
          (pe_op op_pow (pe_op op_add (pe_op op_add (pe_op op_mul (pv 6) (pe_op op_add (pe_op op_mul pe_int (pv 3)) pe_int)) (pe_op op_mul (pe_op op_mul pe_int (pv 3)) (pv 3))) pe_int) pe_int) pa_nil)) pe_int))
      (pss_one (ps_ret (pe_op op_mod (pe_callTy call_int1 (by rfl) T.f_int (by decide +kernel) (pa_cons (pe_op op_fdiv (pv 6) pe_int) pa_nil)) (pv 1))))))))))), ?_⟩
    have n0 := R.s0
    have p1 : upd H p (.lst [.ref a, .int (z + 1), .int g]) p = some (.lst [.ref a, .int (z + 1), .int g]) := upd_same
    refine ⟨_, rfl, p, _, _, _, rfl, rfl, SqL.of R.at_, rfl, _, _, rfl, rfl, _, rfl, ?_⟩
    refine ite2 (fun h1 => ?_) (fun h1 => ?_)
    · refine ⟨_, rfl, p, _, _, _, rfl, rfl, SqL.of R.at_, rfl, .inl ⟨_, rfl, _, rfl, _, _, rfl, rfl, m0, ?_⟩⟩
      refine ⟨_, rfl, p, _, _, _, rfl, rfl, SqL.of R.at_, rfl, .inl ⟨_, rfl, _, rfl, _, _, rfl, rfl, wideM m0 m1, ?_⟩⟩
      refine ⟨_, rfl, p, _, _, _, rfl, rfl, R.at_, rfl, ?_⟩
      refine ⟨_, rfl, ?_⟩
      have g1 : 0 ≤ g / m := Int.ediv_nonneg R.g0 (by omega)
      exact k _ z (g / m) (g % m) But.at_ (R.next But.at_ upd_same n0 g1) (Int.le_refl _) (by omega) (Int.emod_nonneg _ (by omega)) (Int.emod_lt_of_pos _ m0)
    · refine ⟨_, rfl, p, _, _, _, rfl, rfl, SqL.of R.at_, rfl, ?_⟩
      refine ⟨_, rfl, _, _, rfl, rfl, _, rfl, p, _, _, _, rfl, rfl, R.at_, rfl, ?_⟩
      refine ⟨_, rfl, _, _, rfl, rfl, .inl ⟨by decide, by decide⟩, _, _, rfl, rfl, ?_⟩
      refine ⟨fun σ1 H1 => ∃ c : Int, σ1 = [some (.ref p), some (.int m), none, some (.int z), some (.int c), none, none] ∧ But p H H1 ∧ Pen K H1 p a ns (z + 1) g, ?_, ?_⟩
      · have R1 : Pen K (upd H p (.lst [.ref a, .int (z + 1), .int g])) p a ns (z + 1) g := R.next But.at_ p1 (by omega) R.g0
        refine ⟨_, rfl, p, _, _, _, rfl, rfl, SqL.of R1.at_, rfl, Nat.zero_le _, fun q hq => ?_⟩
        have nq : a ≠ q := ne_of_none R1.cells hq
        have nq2 : p ≠ q := ne_of_none R1.at_ hq
        refine ⟨_, _, .lst (SqL.of (by rw [upd_ne nq]; exact R1.cells)) (dp_ints ns), .lst (SqL.of upd_same) .nil, shaped_ints ns, by decide, _, rfl, ?_⟩
        have b2 : But p H (upd (upd H p (.lst [.ref a, .int (z + 1), .int g])) q (.lst [])) := But.at_.new hq
        have R2 : Pen K (upd (upd H p (.lst [.ref a, .int (z + 1), .int g])) q (.lst [])) p a ns (z + 1) g := R.next b2 (by rw [upd_ne nq2]; exact p1) (by omega) R.g0
        rw [eqv_nil]
        refine ite2 (fun h2 => ?_) (fun h2 => ?_)
        · have hn : ns ≠ [] := fun e => by
            rw [e] at h2
            cases h2
          obtain ⟨v, hv⟩ := item_of (ns := ns) n0 hn
          have hpos : (0 : Int) < (((ns.map V.int).length : Nat) : Int) := by
            cases ns with
            | nil => exact absurd rfl hn
            | cons y r => simp
          refine ⟨_, rfl, p, _, _, _, rfl, rfl, SqL.of R2.at_, rfl, _, rfl, .inl ⟨_, rfl, _, rfl, p, _, _, _, rfl, rfl, SqL.of R2.at_, rfl, a, _, rfl, .inl (SqL.of R2.cells), _, _, rfl, rfl, hpos, a, _, _, _, rfl, rfl, SqL.of R2.cells, hv, ?_⟩⟩
          exact ⟨v, rfl, b2, R2⟩
        · exact ⟨_, rfl, b2, R2⟩
      · rintro σ1 H1 ⟨c, rfl, b1, R1⟩
        refine ⟨fun σ2 H2 => σ2 = [some (.ref p), some (.int m), none, some (.int z), some (.int c), none, none] ∧ H2 = H1, ?_, ?_⟩
        · refine ⟨_, rfl, _, rfl, p, _, _, _, rfl, rfl, SqL.of R1.at_, rfl, a, _, rfl, .inl (SqL.of R1.cells), _, _, rfl, rfl, _, rfl, ?_⟩
          refine ite2 (fun _ => ?_) (fun _ => ⟨rfl, rfl⟩)
          refine ⟨_, rfl, _, rfl, _, _, rfl, rfl, ⟨by decide, by decide, by decide⟩, _, _, rfl, rfl, _, rfl, ?_⟩
          refine ite2 (fun h3 => ?_) (fun _ => ⟨rfl, rfl⟩)
          have big : (10 : Int) ^ (18 : Int).toNat ≤ (if c < 0 then -c else c) := of_decide_eq_true h3
          refine ⟨_, rfl, _, rfl, _, _, rfl, rfl, ⟨by decide, by decide, by decide⟩, _, _, rfl, rfl, _, _, rfl, rfl, .inl ⟨by decide, by decide⟩, _, rfl, _, _, rfl, rfl, .inr ⟨_, rfl, _, _, rfl, rfl, ?_⟩⟩
          refine ⟨_, rfl, .inl ⟨_, rfl, _, rfl, _, _, rfl, rfl, wideM m0 m1, ?_⟩⟩
          refine ⟨_, rfl, p, _, _, _, rfl, rfl, R1.at_, rfl, ?_⟩
          refine ⟨_, rfl, .inl ⟨_, rfl, _, rfl, _, _, rfl, rfl, m0, ?_⟩⟩
          have g1 : 0 ≤ (2 * ((if c < 0 then -c else c) - 10 ^ (18 : Int).toNat) + (if decide (c < 0) = true then 1 else 0)) / m := by
            refine Int.ediv_nonneg ?_ (by omega)
            have e1 : (0 : Int) ≤ (if decide (c < 0) = true then 1 else 0) := by split <;> decide
            omega
          exact k _ (z + 1) _ _ b1.set (R.next b1.set upd_same (by omega) g1) (by omega) (by omega) (Int.emod_nonneg _ (by omega)) (Int.emod_lt_of_pos _ m0)
        · rintro σ2 H2 ⟨rfl, rfl⟩
          have c0 : 0 ≤ c % 2147483563 := Int.emod_nonneg _ (by decide)
          have c1 : c % 2147483563 < 2147483563 := Int.emod_lt_of_pos _ (by decide)
          refine ⟨_, rfl, .inl ⟨_, rfl, _, _, rfl, rfl, (by show (0 : Int) < _; decide), _, rfl, _, _, rfl, rfl, .inl ⟨by decide, by decide⟩, _, _, rfl, rfl, _, _, rfl, rfl, _, _, rfl, rfl, ⟨by decide, by decide, ?_⟩, .inl ⟨_, rfl, _, _, rfl, rfl, (by show (0 : Int) < _; decide), ?_⟩⟩⟩
          · omega
          have y0 : 0 ≤ (c % 2147483563 + 81897 * z + 5519) ^ (5 : Int).toNat % 2147483629 := Int.emod_nonneg _ (by decide)
          have y1 : (c % 2147483563 + 81897 * z + 5519) ^ (5 : Int).toNat % 2147483629 < 2147483629 := Int.emod_lt_of_pos _ (by decide)
          show gName 6 (V.int ((c % 2147483563 + 81897 * z + 5519) ^ (5 : Int).toNat % 2147483629)) _ _ _
          generalize (c % 2147483563 + 81897 * z + 5519) ^ (5 : Int).toNat % 2147483629 = y at y0 y1 ⊢
          have b1' : 64671 * z * z ≤ 64671 * 1000000 * 1000000 := Int.mul_le_mul (by omega) (by omega) n0 (by decide)
          have b2' : y * (2 * z + 431) ≤ 2147483629 * 2000431 := Int.mul_le_mul (by omega) (by omega) (by omega) (by decide)
          have b3' : 0 ≤ 64671 * z * z := Int.mul_nonneg (by omega) n0
          have b4' : 0 ≤ y * (2 * z + 431) := Int.mul_nonneg y0 (by omega)
          refine ⟨_, rfl, _, rfl, _, _, rfl, rfl, .inl ⟨by decide, by decide⟩, _, _, rfl, rfl, _, _, rfl, rfl, .inl ⟨by omega, by omega⟩, _, rfl, _, _, rfl, rfl, .inl ⟨by decide, by decide⟩, _, rfl, _, _, rfl, rfl, .inl ⟨by omega, by omega⟩, _, _, rfl, rfl, _, _, rfl, rfl, _, _, rfl, rfl,
            ⟨by decide, by decide, ?_⟩, .inl ⟨_, rfl, _, _, rfl, rfl, (by show (0 : Int) < _; decide), ?_⟩⟩
          · omega
          refine ⟨_, rfl, _, _, rfl, rfl, ⟨by decide, by decide⟩, .inl ⟨_, rfl, _, rfl, _, _, rfl, rfl, m0, ?_⟩⟩
          exact k _ (z + 1) g _ b1 R1 (by omega) (by omega) (Int.emod_nonneg _ (by omega)) (Int.emod_lt_of_pos _ m0)
end
theorem cut63 {xs : List V} (h : xs.length ≤ 63) : cutV xs none (some 63) = xs := by
  have e : HT.sIx xs.length xs.length (some 63) = min 63 xs.length := HT.sIx_nat _ _ 63
  unfold cutV
  rw [HT.sIx_none, e, List.drop_zero, Nat.sub_zero, Nat.min_eq_right h, List.take_length]
section
variable {P : Program} {w : World} {K : PySem.W.Frag} {mg : Str → Option Value} {base : Heap}
def spPen (K : PySem.W.Frag) : Sp := fun vs H Q _ => ∃ (a : Addr) (ns : List Int), vs = [.ref a] ∧ SqL K H a (ns.map V.int) ∧ ns.length ≤ 63 ∧ ∀ (H' : Hp) (p c : Addr), Same H H' → H p = none → H c = none → Pen K H' p c ns 0 0 → Q (.ref p) H'
theorem d_pen (T : Tx K mg) : Dfn P w K mg base CX0 1 "_law_pen" ["_law_script"] (spPen K) := by
  refine dfn T.q_law_pen T.g_law_pen (N := ["_law_script"]) ⟨rfl, rfl, rfl, by decide +kernel, rfl, by decide +kernel, by decide +kernel⟩ (fun vs H Q E h => ?_) (fun kV doc pm an cdv ct => bind1 fun a => rfl) (fun cdv A outer s H vs Q E hr h => ?_)
  · obtain ⟨_, _, rfl, _⟩ := h
    rfl
  · obtain ⟨a, ns, rfl, e, few, q⟩ := h
    refine ⟨_, pss_one (ps_ret (pe_lst (pa_cons (pe_callTy call_list_of (by rfl) T.f_list (by kernel_rfl) (pa_cons (pe_slice sl_list (pv 0) po_none (po_some pe_int)) pa_nil)) (pa_cons pe_int (pa_cons pe_int pa_nil))))), ?_⟩
    refine ⟨_, rfl, 63, rfl, a, _, rfl, e, fun p1 hp1 => ⟨p1, _, rfl, .inl (SqL.of upd_same), fun c hc => ⟨(by show (3 : Nat) ≤ sizeLine; rw [sizeLine_eq]; decide), fun p hp => ?_⟩⟩⟩
    have s1 : Same H (upd (upd H p1 (.lst (cutV (ns.map V.int) none (some 63)))) c (.lst (cutV (ns.map V.int) none (some 63)))) := Same.new (Same.upd hp1) hc
    have ncp : c ≠ p := ne_of_none upd_same hp
    refine q _ p c (Same.new s1 hp) (same_none s1 hp) (same_none (Same.upd hp1) hc) ⟨upd_same, ?_, few, Int.le_refl _, Int.le_refl _⟩
    rw [upd_ne ncp, upd_same, cut63 (by rw [List.length_map]; exact few)]
/-- pick -/
def spPick (K : PySem.W.Frag) : Sp := fun vs H Q _ => ∃ (p a b : Addr) (ns : List Int) (s g : Int) (xs : List V), vs = [.ref p, .ref b] ∧ Pen K H p a ns s g ∧ s < 1000000 ∧ b ≠ p ∧ H b = some (.lst xs) ∧ 0 < xs.length ∧ xs.length < 1000 ∧
  ∀ (H' : Hp) (s' g' : Int) (x : V), But p H H' → Pen K H' p a ns s' g' → s ≤ s' → s' ≤ s + 1 → x ∈ xs → Q x H'
theorem d_pick (T : Tx K mg) : Dfn P w K mg base CX0 2 "_law_pick" ["_law_pen_here", "_law_some"] (spPick K) := by
  refine dfn T.q_law_pick T.g_law_pick (N := ["_law_pen_here", "_law_some"]) ⟨rfl, rfl, rfl, by decide +kernel, rfl, by decide +kernel, by decide +kernel⟩ (fun vs H Q E h => ?_) (fun kV doc pm an cdv ct => bind2 fun a b => rfl) (fun cdv A outer s H vs Q E hr h => ?_)
  · obtain ⟨_, _, _, _, _, _, _, rfl, _⟩ := h
    rfl
  · obtain ⟨p, a, b, ns, z, g, xs, rfl, R, hz, nb, sb, h0, h1, q⟩ := h
    refine ⟨_, pss_one (ps_ret (pe_ix ix_list (pv 1) (pe_d (d_draw T) hr (by rfl) (E := E) pass0 (pa_cons (pv 0) (pa_cons (pe_callB call_len_seq (by rfl) T.f_len PySem.boot_len (pa_cons (pv 1) pa_nil)) pa_nil))) (fun _ _ => rfl))), ?_⟩
    refine ⟨_, rfl, _, rfl, _, rfl, b, _, rfl, .inl (SqL.of sb), p, a, ns, z, g, _, rfl, R, hz, by omega, by omega, fun H' s' g' r bt R' h2 h3 h4 h5 => ?_⟩
    obtain ⟨n, rfl⟩ := Int.eq_ofNat_of_zero_le h4
    have hn : n < xs.length := by omega
    exact ⟨b, xs, _, xs[n], rfl, rfl, SqL.of (bt _ _ nb sb), atI_nat (j := n) (by simp [hn]), q H' s' g' _ bt R' h2 h3 (List.getElem_mem hn)⟩
end
end K41
set_option Elab.async false
set_option linter.all false
set_option maxRecDepth 100000
set_option maxHeartbeats 2000000
/-! Steps over data: an expression, a statement is run from a state that names data, not addresses. What stands unchanged is data; what may change is a cell, by its address. -/
namespace Sx
open PySem PySem.Spec PyProof.Rows L2
inductive D where
  | non
  | bl (b : Bool)
  | int (i : Int)
  | str (x : Str)
  | lst (xs : List D)
  | tup (xs : List D)
  | obj (C : Addr) (fs : List (Str × D))
  | exc (C : Addr) (fs : List (Str × D))
  | dct0
  | own (a : Addr)
  | raw (v : V)
inductive Cell where
  | lst (xs : List D)
  | ins (C : Addr) (fs : List (Str × D))
  | pen (ns : List Int) (k : Int)
  | tab (q : Str)
abbrev Cs := List (Addr × Cell)
def ow (cs : Cs) (a : Addr) : Prop := a ∈ cs.map Prod.fst
/-- the fields that an error keeps; none: an error that keeps no field has no dict -/
def Xat (H : Hp) : Option Addr → List (Str × V) → Prop
  | some x, vs => H x = some (.xd vs)
  | none, vs => vs = []
theorem xat_some {H : Hp} {o : Option Addr} {p : Str × V} {vs : List (Str × V)} (h : Xat H o (p :: vs)) : ∃ x, o = some x ∧ H x = some (.xd (p :: vs)) := by
  cases o with
  | some x => exact ⟨x, rfl, h⟩
  | none => cases h
mutual
inductive Vl (H : Hp) (M : Addr → Prop) : V → D → Prop where
  | non : Vl H M .non .non
  | bl (b : Bool) : Vl H M (.bl b) (.bl b)
  | int (i : Int) : Vl H M (.int i) (.int i)
  | str (x : Str) : Vl H M (.str x) (.str x)
  | lst {a : Addr} {xs : List V} {ds : List D} (e : H a = some (.lst xs)) (n : ¬ M a) (r : VlL H M xs ds) : Vl H M (.ref a) (.lst ds)
  | tup {a : Addr} {xs : List V} {ds : List D} (e : H a = some (.tup xs)) (n : ¬ M a) (r : VlL H M xs ds) : Vl H M (.ref a) (.tup ds)
  | obj {a C dx : Addr} {fs : List (Str × V)} {ds : List (Str × D)} (e : H a = some (.ins C dx fs)) (n : ¬ M a) (r : VlF H M fs ds) : Vl H M (.ref a) (.obj C ds)
  | exc {a C : Addr} {x : Option Addr} {fs : List (Str × V)} {ds : List (Str × D)} (e : H a = some (Kept.errO a (.ref C) x)) (n : ¬ M a) (e2 : Xat H x fs) (n2 : ∀ y, x = some y → ¬ M y) (r : VlF H M fs ds) : Vl H M (.ref a) (.exc C ds)
  | dct0 {a : Addr} (e : H a = some (.dK [])) (n : ¬ M a) : Vl H M (.ref a) .dct0
  | own (a : Addr) : Vl H M (.ref a) (.own a)
  | raw (v : V) : Vl H M v (.raw v)
inductive VlL (H : Hp) (M : Addr → Prop) : List V → List D → Prop where
  | nil : VlL H M [] []
  | cons {v : V} {d : D} {vs : List V} {ds : List D} (h : Vl H M v d) (r : VlL H M vs ds) : VlL H M (v :: vs) (d :: ds)
inductive VlF (H : Hp) (M : Addr → Prop) : List (Str × V) → List (Str × D) → Prop where
  | nil : VlF H M [] []
  | cons {f : Str} {v : V} {d : D} {vs : List (Str × V)} {ds : List (Str × D)} (h : Vl H M v d) (r : VlF H M vs ds) : VlF H M ((f, v) :: vs) ((f, d) :: ds)
end
/-- all but what M tells stays (tables may grow); what M' tells besides is new -/
structure Ext (M : Addr → Prop) (H : Hp) (M' : Addr → Prop) (H' : Hp) : Prop where
  kp : ∀ b o, ¬ M b → (∀ ps, o ≠ .tbl ps) → H b = some o → H' b = some o
  nw : ∀ b, M' b → M b ∨ ∀ o, H b = some o → ∃ ps, o = .tbl ps
section
variable {M M1 M2 M' : Addr → Prop} {H H1 H2 H' : Hp}
theorem nwN {b : Addr} (h : H b = none) : ∀ o, H b = some o → ∃ ps, o = HO.tbl ps := fun o e => by
  rw [h] at e
  cases e
theorem Ext.refl : Ext M H M H := ⟨fun _ _ _ _ h => h, fun _ h => .inl h⟩
theorem Ext.trans (a : Ext M H M1 H1) (b : Ext M1 H1 M2 H2) : Ext M H M2 H2 := by
  refine ⟨fun c o n nt h => ?_, fun c h => ?_⟩
  · have h1 := a.kp c o n nt h
    exact b.kp c o (fun m => (a.nw c m).elim n (fun z => by
      obtain ⟨ps, e⟩ := z o h
      exact nt ps e)) nt h1
  · rcases b.nw c h with m | z
    · exact a.nw c m
    · by_cases m : M c
      · exact .inl m
      · refine .inr fun o q => ?_
        by_cases nt : ∃ ps, o = .tbl ps
        · exact nt
        · exact z o (a.kp c o m (fun ps e => nt ⟨ps, e⟩) q)
theorem Ext.same (S : Same H H') : Ext M H M H' := ⟨fun b o _ _ h => S b o h, fun _ h => .inl h⟩
theorem Ext.tabs (S : LamX.ExtN H H') : Ext M H M H' := ⟨fun b o _ nt h => S b o h nt, fun _ h => .inl h⟩
theorem Ext.less (h : ∀ a, M' a → M a) : Ext M H M' H := ⟨fun _ _ _ _ h => h, fun a m => .inl (h a m)⟩
theorem Ext.out (e : Ext M H M' H') {a : Addr} {o : HO} (h : H a = some o) (n : ¬ M a) (nt : ∀ ps, o ≠ .tbl ps) : ¬ M' a := fun z => (e.nw a z).elim n fun q => by
  obtain ⟨ps, e⟩ := q o h
  exact nt ps e
theorem ntL {xs : List V} (ps : Array Value) : HO.lst xs ≠ .tbl ps := fun z => by cases z
theorem ntT {xs : List V} (ps : Array Value) : HO.tup xs ≠ .tbl ps := fun z => by cases z
theorem ntI {C dx : Addr} {fs : List (Str × V)} (ps : Array Value) : HO.ins C dx fs ≠ .tbl ps := fun z => by cases z
theorem ntD (ps : Array Value) : HO.dK [] ≠ .tbl ps := fun z => by cases z
theorem ntX {fs : List (Str × V)} (ps : Array Value) : HO.xd fs ≠ .tbl ps := fun z => by cases z
theorem ntE {a : Addr} {c : Value} {d : Option Addr} (ps : Array Value) : Kept.errO a c d ≠ .tbl ps := fun z => by
  unfold Kept.errO at z
  cases z
mutual
theorem Vl.ext (e : Ext M H M' H') : ∀ {v : V} {d : D}, Vl H M v d → Vl H' M' v d
  | _, _, .non => .non
  | _, _, .bl b => .bl b
  | _, _, .int i => .int i
  | _, _, .str x => .str x
  | _, _, .lst h n r => .lst (e.kp _ _ n ntL h) (e.out h n ntL) (VlL.ext e r)
  | _, _, .tup h n r => .tup (e.kp _ _ n ntT h) (e.out h n ntT) (VlL.ext e r)
  | _, _, .obj h n r => .obj (e.kp _ _ n ntI h) (e.out h n ntI) (VlF.ext e r)
  | _, _, .exc (x := x) h n h2 n2 r => .exc (x := x) (e.kp _ _ n ntE h) (e.out h n ntE) (match x, h2, n2 with
    | some y, h2, n2 => e.kp _ _ (n2 y rfl) ntX h2
    | none, h2, _ => h2) (match x, h2, n2 with
    | some y, h2, n2 => fun z hz => by cases hz; exact e.out h2 (n2 y rfl) ntX
    | none, _, _ => fun z hz => by cases hz) (VlF.ext e r)
  | _, _, .dct0 h n => .dct0 (e.kp _ _ n ntD h) (e.out h n ntD)
  | _, _, .own a => .own a
  | _, _, .raw v => .raw v
theorem VlL.ext (e : Ext M H M' H') : ∀ {vs : List V} {ds : List D}, VlL H M vs ds → VlL H' M' vs ds
  | _, _, .nil => .nil
  | _, _, .cons h r => .cons (Vl.ext e h) (VlL.ext e r)
theorem VlF.ext (e : Ext M H M' H') : ∀ {vs : List (Str × V)} {ds : List (Str × D)}, VlF H M vs ds → VlF H' M' vs ds
  | _, _, .nil => .nil
  | _, _, .cons h r => .cons (Vl.ext e h) (VlF.ext e r)
end
theorem VlL.len {vs : List V} {ds : List D} (r : VlL H M vs ds) : vs.length = ds.length := by
  induction ds generalizing vs with
  | nil => cases r; rfl
  | cons d ds ih =>
    cases r with
    | cons h r => rw [List.length_cons, List.length_cons, ih r]
theorem VlL.at_ {vs : List V} {ds : List D} (r : VlL H M vs ds) {i : Nat} {d : D} (h : ds[i]? = some d) : ∃ v, vs[i]? = some v ∧ Vl H M v d := by
  induction ds generalizing vs i with
  | nil => simp at h
  | cons d0 ds ih =>
    cases r with
    | cons h0 r =>
      cases i with
      | zero =>
        simp only [List.getElem?_cons_zero, Option.some.injEq] at h
        subst h
        exact ⟨_, rfl, h0⟩
      | succ j => exact ih r (i := j) (by simpa using h)
theorem VlL.back {vs : List V} {ds : List D} (r : VlL H M vs ds) {i : Nat} {v : V} (h : vs[i]? = some v) : ∃ d, ds[i]? = some d ∧ Vl H M v d := by
  induction ds generalizing vs i with
  | nil => cases r; simp at h
  | cons d0 ds ih =>
    cases r with
    | cons h0 r =>
      cases i with
      | zero =>
        simp only [List.getElem?_cons_zero, Option.some.injEq] at h
        subst h
        exact ⟨_, rfl, h0⟩
      | succ j => exact ih r (i := j) (by simpa using h)
theorem VlL.app {vs us : List V} {ds es : List D} (r : VlL H M vs ds) (q : VlL H M us es) : VlL H M (vs ++ us) (ds ++ es) := by
  induction ds generalizing vs with
  | nil => cases r; exact q
  | cons d ds ih =>
    cases r with
    | cons h r => exact .cons h (ih r)
theorem VlL.drop {vs : List V} {ds : List D} (r : VlL H M vs ds) (n : Nat) : VlL H M (vs.drop n) (ds.drop n) := by
  induction n generalizing vs ds with
  | zero => exact r
  | succ n ih =>
    cases r with
    | nil => exact .nil
    | cons h r => exact ih r
theorem VlL.take {vs : List V} {ds : List D} (r : VlL H M vs ds) (n : Nat) : VlL H M (vs.take n) (ds.take n) := by
  induction n generalizing vs ds with
  | zero => exact .nil
  | succ n ih =>
    cases r with
    | nil => exact .nil
    | cons h r => exact .cons h (ih r)
theorem VlF.lookup {vs : List (Str × V)} {ds : List (Str × D)} (r : VlF H M vs ds) {f : Str} {d : D} (h : ds.lookup f = some d) : ∃ v, vs.lookup f = some v ∧ Vl H M v d := by
  induction ds generalizing vs with
  | nil => simp at h
  | cons d0 ds ih =>
    cases r with
    | cons h0 r =>
      rw [List.lookup_cons] at h ⊢
      split at h
      · cases h
        exact ⟨_, rfl, h0⟩
      · exact ih r h
theorem VlF.lookup_none {vs : List (Str × V)} {ds : List (Str × D)} (r : VlF H M vs ds) {f : Str} (h : ds.lookup f = none) : vs.lookup f = none := by
  induction ds generalizing vs with
  | nil => cases r; rfl
  | cons d0 ds ih =>
    cases r with
    | cons h0 r =>
      rw [List.lookup_cons] at h ⊢
      split at h
      · cases h
      · exact ih r h
theorem VlF.len {vs : List (Str × V)} {ds : List (Str × D)} (r : VlF H M vs ds) : vs.length = ds.length := by
  induction ds generalizing vs with
  | nil => cases r; rfl
  | cons d ds ih =>
    cases r with
    | cons h r => rw [List.length_cons, List.length_cons, ih r]
end
def CellOk (H : Hp) (M : Addr → Prop) (a : Addr) : Cell → Prop
  | .lst ds => ∃ xs, H a = some (.lst xs) ∧ VlL H M xs ds
  | .ins C fs => ∃ dx vs, H a = some (.ins C dx vs) ∧ VlF H M vs fs
  | .pen ns k => ∃ b s g, H a = some (.lst [.ref b, .int s, .int g]) ∧ H b = some (.lst (ns.map V.int)) ∧ ¬ M b ∧ ns.length ≤ 63 ∧ 0 ≤ s ∧ s ≤ k ∧ 0 ≤ g
  | .tab q => ∃ ps : Array Value, H a = some (.tbl ps) ∧ TriplesOk ps.toList ∧ ∀ (pos : Pos) (cv : Value), codeAmong pos ps.toList = some cv → ∃ c, cv = .ref c ∧ H c = some (LamX.CodeO c q) ∧ ¬ M c
structure CsOk (H : Hp) (cs : Cs) : Prop where
  ok : ∀ a c, (a, c) ∈ cs → CellOk H (ow cs) a c
  nd : (cs.map Prod.fst).Nodup
structure SS where
  sl : List (Option D)
  cs : Cs
structure Bs where
  H : Hp
  cs : Cs
  E : XK
  Ex : Addr → List (Str × D) → Cs → Prop
def BOk (B : Bs) : Prop := ∀ C fs cs x vs H', B.Ex C fs cs → Ext (ow B.cs) B.H (ow cs) H' → CsOk H' cs → Xat H' x vs → VlF H' (ow cs) vs fs → B.E (.ref C) x H'
structure Sat (B : Bs) (ss : SS) (σ : L2.St) (H : Hp) : Prop where
  len : σ.length = ss.sl.length
  sl : ∀ (i : Nat) (d : D), ss.sl[i]? = some (some d) → ∃ v : V, (σ[i]? : Option (Option V)) = some (some v) ∧ Vl H (ow ss.cs) v d
  ok : CsOk H ss.cs
  ext : Ext (ow B.cs) B.H (ow ss.cs) H
  bok : BOk B
theorem CellOk.there {H : Hp} {M : Addr → Prop} {a : Addr} {c : Cell} (h : CellOk H M a c) : ∃ o, H a = some o := by
  cases c with
  | lst ds => obtain ⟨_, e, _⟩ := h; exact ⟨_, e⟩
  | ins C fs => obtain ⟨_, _, e, _⟩ := h; exact ⟨_, e⟩
  | pen ns k => obtain ⟨_, _, _, e, _⟩ := h; exact ⟨_, e⟩
  | tab q => obtain ⟨_, e, _⟩ := h; exact ⟨_, e⟩
theorem CsOk.there {H : Hp} {cs : Cs} (h : CsOk H cs) {a : Addr} (m : ow cs a) : ∃ o, H a = some o := by
  obtain ⟨⟨b, c⟩, hb, rfl⟩ := List.mem_map.mp m
  exact (h.ok _ _ hb).there
theorem CellOk.ext {H H' : Hp} {M M' : Addr → Prop} {a : Addr} {c : Cell} (h : CellOk H M a c) (e : Ext M H M' H') (k : ∀ o, H a = some o → H' a = some o) : CellOk H' M' a c := by
  cases c with
  | lst ds =>
    obtain ⟨xs, h1, h2⟩ := h
    exact ⟨xs, k _ h1, h2.ext e⟩
  | ins C fs =>
    obtain ⟨dx, vs, h1, h2⟩ := h
    exact ⟨dx, vs, k _ h1, h2.ext e⟩
  | pen ns n =>
    obtain ⟨b, s, g, h1, h2, h3, h4⟩ := h
    exact ⟨b, s, g, k _ h1, e.kp _ _ h3 ntL h2, e.out h2 h3 ntL, h4⟩
  | tab q =>
    obtain ⟨ps, h1, h2, h3⟩ := h
    refine ⟨ps, k _ h1, h2, fun pos cv hc => ?_⟩
    obtain ⟨c, e1, e2, e3⟩ := h3 pos cv hc
    exact ⟨c, e1, e.kp _ _ e3 LamX.codeO_ne e2, e.out e2 e3 LamX.codeO_ne⟩
theorem CsOk.same {H H' : Hp} {cs : Cs} (h : CsOk H cs) (S : Same H H') : CsOk H' cs := ⟨fun a c m => (h.ok a c m).ext (Ext.same S) fun o e => S _ _ e, h.nd⟩
/-- all is kept -/
theorem Sat.same {B : Bs} {ss : SS} {σ : L2.St} {H H' : Hp} (s : Sat B ss σ H) (S : Same H H') : Sat B ss σ H' :=
  ⟨s.len, fun i d e => by
    obtain ⟨v, e1, r⟩ := s.sl i d e
    exact ⟨v, e1, r.ext (Ext.same S)⟩, s.ok.same S, s.ext.trans (Ext.same S), s.bok⟩
/-- a new object is no cell -/
theorem Sat.new {B : Bs} {ss : SS} {σ : L2.St} {H : Hp} (s : Sat B ss σ H) {p : Addr} (n : H p = none) : ¬ ow ss.cs p := fun m => by
  obtain ⟨o, e⟩ := s.ok.there m
  rw [n] at e
  cases e
/-! ### the judgements -/
def tE (B : Bs) (ss : SS) (Q : D → SS → Prop) : TE := fun σ H QQ => Sat B ss σ H ∧ ∀ v d ss' H', Q d ss' → Sat B ss' σ H' → Ext (ow ss.cs) H (ow ss'.cs) H' → Vl H' (ow ss'.cs) v d → QQ v H'
def tT (B : Bs) (ss : SS) (Q : Bool → SS → Prop) : TT := fun σ H QQ => Sat B ss σ H ∧ ∀ b ss' H', Q b ss' → Sat B ss' σ H' → Ext (ow ss.cs) H (ow ss'.cs) H' → QQ b H'
def tA (B : Bs) (ss : SS) (Q : List D → SS → Prop) : TA := fun σ H QQ => Sat B ss σ H ∧ ∀ vs ds ss' H', Q ds ss' → Sat B ss' σ H' → Ext (ow ss.cs) H (ow ss'.cs) H' → VlL H' (ow ss'.cs) vs ds → QQ vs H'
structure Kt where
  nx : SS → Prop
  rt : D → SS → Prop
  bk : SS → Prop := fun _ => False
  ct : SS → Prop := fun _ => False
def tS (B : Bs) (ss : SS) (k : Kt) : TS := fun D σ H => Sat B ss σ H ∧ (∀ ss' σ' H', k.nx ss' → Sat B ss' σ' H' → Ext (ow ss.cs) H (ow ss'.cs) H' → D.nx σ' H') ∧
  (∀ v d ss' σ' H', k.rt d ss' → Sat B ss' σ' H' → Ext (ow ss.cs) H (ow ss'.cs) H' → Vl H' (ow ss'.cs) v d → D.rt v H') ∧
  (∀ ss' σ' H', k.bk ss' → Sat B ss' σ' H' → Ext (ow ss.cs) H (ow ss'.cs) H' → D.bk σ' H') ∧ (∀ ss' σ' H', k.ct ss' → Sat B ss' σ' H' → Ext (ow ss.cs) H (ow ss'.cs) H' → D.ct σ' H')
structure EW (X : Cx) (B : Bs) (e : Expr) (ss : SS) (Q : D → SS → Prop) : Prop where
  p : PE X e (tE B ss Q)
structure TW (X : Cx) (B : Bs) (e : Expr) (ss : SS) (Q : Bool → SS → Prop) : Prop where
  p : PT X e (tT B ss Q)
structure WW (X : Cx) (B : Bs) (e : Expr) (ss : SS) (Q : Bool → SS → Prop) : Prop where
  p : PW X e (tT B ss Q)
structure AW (X : Cx) (B : Bs) (es : List Expr) (ss : SS) (Q : List D → SS → Prop) : Prop where
  p : PA X es (tA B ss Q)
structure S1 (X : Cx) (B : Bs) (st : Stmt) (ss : SS) (k : Kt) : Prop where
  p : PS X st (tS B ss k)
structure SW (X : Cx) (B : Bs) (sts : List Stmt) (ss : SS) (k : Kt) : Prop where
  p : PSs X sts (tS B ss k)
def tAny (X : Cx) (e : Expr) : TE := fun σ H Q => ∃ t, PE X e t ∧ t σ H Q
theorem pe_any {X : Cx} {e : Expr} : PE X e (tAny X e) := ⟨fun pins s σ H Q I ⟨_, h, q⟩ => h.run pins s σ H Q I q⟩
def ttAny (X : Cx) (e : Expr) : TT := fun σ H Q => ∃ t, PT X e t ∧ t σ H Q
theorem pt_any {X : Cx} {e : Expr} : PT X e (ttAny X e) := ⟨fun pins s σ H Q I ⟨_, h, q⟩ => h.run pins s σ H Q I q⟩
def twAny (X : Cx) (e : Expr) : TT := fun σ H Q => ∃ t, PW X e t ∧ t σ H Q
theorem pw_any {X : Cx} {e : Expr} : PW X e (twAny X e) := ⟨fun w pins s σ H Q I ⟨_, h, q⟩ => h.run w pins s σ H Q I q⟩
def taAny (X : Cx) (es : List Expr) : TA := fun σ H Q => ∃ t, PA X es t ∧ t σ H Q
theorem pa_any {X : Cx} {es : List Expr} : PA X es (taAny X es) := ⟨fun pos pins s σ H Q I ⟨_, h, q⟩ => h.run pos pins s σ H Q I q⟩
def tsAny (X : Cx) (st : Stmt) : TS := fun D σ H => ∃ t, PS X st t ∧ t D σ H
theorem ps_any {X : Cx} {st : Stmt} : PS X st (tsAny X st) := ⟨fun pins s σ H D I ⟨_, h, q⟩ => h.run pins s σ H D I q⟩
def tssAny (X : Cx) (sts : List Stmt) : TS := fun D σ H => ∃ t, PSs X sts t ∧ t D σ H
theorem pss_any {X : Cx} {sts : List Stmt} : PSs X sts (tssAny X sts) := ⟨fun pins s σ H D I ⟨_, h, q⟩ => h.run pins s σ H D I q⟩
theorem PEimp {X : Cx} {e : Expr} {t t' : TE} (h : PE X e t) (i : ∀ σ H Q, t' σ H Q → t σ H Q) : PE X e t' := ⟨fun pins s σ H Q I q => h.run pins s σ H Q I (i σ H Q q)⟩
theorem PTimp {X : Cx} {e : Expr} {t t' : TT} (h : PT X e t) (i : ∀ σ H Q, t' σ H Q → t σ H Q) : PT X e t' := ⟨fun pins s σ H Q I q => h.run pins s σ H Q I (i σ H Q q)⟩
theorem PWimp {X : Cx} {e : Expr} {t t' : TT} (h : PW X e t) (i : ∀ σ H Q, t' σ H Q → t σ H Q) : PW X e t' := ⟨fun w pins s σ H Q I q => h.run w pins s σ H Q I (i σ H Q q)⟩
theorem PAimp {X : Cx} {e : List Expr} {t t' : TA} (h : PA X e t) (i : ∀ σ H Q, t' σ H Q → t σ H Q) : PA X e t' := ⟨fun pos pins s σ H Q I q => h.run pos pins s σ H Q I (i σ H Q q)⟩
theorem PSimp {X : Cx} {e : Stmt} {t t' : TS} (h : PS X e t) (i : ∀ D σ H, t' D σ H → t D σ H) : PS X e t' := ⟨fun pins s σ H D I q => h.run pins s σ H D I (i D σ H q)⟩
theorem PSsimp {X : Cx} {e : List Stmt} {t t' : TS} (h : PSs X e t) (i : ∀ D σ H, t' D σ H → t D σ H) : PSs X e t' := ⟨fun pins s σ H D I q => h.run pins s σ H D I (i D σ H q)⟩
def Br (k : Bool) (p q : Prop) : Prop := (k = true → p) ∧ (k = false → q)
theorem Br.go {k : Bool} {p q : Prop} (h : Br k p q) : if k = true then p else q := by
  cases k with
  | true => exact h.1 rfl
  | false => exact h.2 rfl
theorem br_t {p q : Prop} (h : p) : Br true p q := ⟨fun _ => h, fun z => Bool.noConfusion z⟩
theorem br_f {p q : Prop} (h : q) : Br false p q := ⟨fun z => Bool.noConfusion z, fun _ => h⟩
def IsB (d : D) (Q : Bool → Prop) : Prop := ∃ k, d = .bl k ∧ Q k
theorem isB {k : Bool} {Q : Bool → Prop} (h : Q k) : IsB (.bl k) Q := ⟨k, rfl, h⟩
section
variable {X : Cx} {B : Bs} {ss : SS} {Q : D → SS → Prop} {T : Bool → SS → Prop} {L : List D → SS → Prop} {k : Kt} {a b c e : Expr} {es : List Expr} {pos : Pos}
/-! ### names, constants -/
theorem ew_c {v : V} {d : D} (h : PE X e (tC v)) (hv : ∀ H M, Vl H M v d) (q : Q d ss) : EW X B e ss Q := ⟨PEimp h fun _ H _ ⟨s, k⟩ => k _ _ _ _ q s Ext.refl (hv _ _)⟩
theorem ew_int {i : Int} {j : Nat} (q : Q (.int i) ss) : EW X B (.Constant (.int i) j pos) ss Q := ew_c pe_int (fun _ _ => .int _) q
theorem ew_bl {i : Bool} {j : Nat} (q : Q (.bl i) ss) : EW X B (.Constant (.bool i) j pos) ss Q := ew_c pe_bl (fun _ _ => .bl _) q
theorem ew_non {j : Nat} (q : Q .non ss) : EW X B (.Constant .none j pos) ss Q := ew_c pe_non (fun _ _ => .non) q
theorem ew_str {x : Str} {j : Nat} (q : Q (.str x) ss) : EW X B (.Constant (.str x) j pos) ss Q := ew_c pe_str (fun _ _ => .str _) q
theorem ew_name (i : Nat) {x : Str} {d : D} (hN : X.N[i]? = some x) (hv : Vis X.env.scope x) (hs : ss.sl[i]? = some (some d)) (q : Q d ss) (hd : (x == ("__debug__" : Str)) = false := by decide) (hcd : (x == ("__classdict__" : Str)) = false := by decide) : EW X B (.Name x pos) ss Q :=
  ⟨PEimp (pe_var hN hv hd hcd) fun _ H _ ⟨s, k⟩ => by
    obtain ⟨v, e, r⟩ := s.sl i d hs
    exact ⟨v, e, k _ _ _ _ q s Ext.refl r⟩⟩
theorem ew_glob {x : Str} {v : V} {u : Value} {d : D} (hg : Gl X x) (hm : X.mg x = some u) (r : RelV v u) (hv : ∀ H M, Vl H M v d) (q : Q d ss) (hd : (x == ("__debug__" : Str)) = false := by decide) : EW X B (.Name x pos) ss Q := ew_c (pe_glob hg hm r hd) hv q
/-- a module's class, a def -/
theorem ew_gref {x : Str} {p : Addr} (hm : X.mg x = some (.ref p)) (hg : Gl X x) (q : Q (.raw (.ref p)) ss) (hd : (x == ("__debug__" : Str)) = false := by decide) : EW X B (.Name x pos) ss Q := ew_glob (v := .ref p) hg hm rfl (fun _ _ => .raw _) q hd
/-- a module's int -/
theorem ew_gint {x : Str} {i : Int} (hm : ∃ t, X.mg x = some (.int i t)) (hg : Gl X x) (q : Q (.int i) ss) (hd : (x == ("__debug__" : Str)) = false := by decide) : EW X B (.Name x pos) ss Q := by
  obtain ⟨t, h⟩ := hm
  exact ew_glob (v := .int i) hg h ⟨t, rfl⟩ (fun _ _ => .int _) q hd
theorem ew_bltn {x : Str} {v : V} {u : Value} (hm : X.mg x = none) (hg : Gl X x) (hv : bootBuiltins x = some u) (r : RelV v u) (q : Q (.raw v) ss) (hn : x ≠ "__name__" := by decide) (hd : (x == ("__debug__" : Str)) = false := by decide) : EW X B (.Name x pos) ss Q := ew_c (pe_bltn hg hm hv r hn hd) (fun _ _ => .raw _) q
/-! ### operators -/
def OpD (X : Cx) (B : Bs) (f : Value → Value → Sem Value) (d1 d2 : D) (ss : SS) (Q : D → SS → Prop) : Prop :=
  ∀ v1 v2 σ H QQ, Sat B ss σ H → Vl H (ow ss.cs) v1 d1 → Vl H (ow ss.cs) v2 d2 → (∀ v d ss' H', Q d ss' → Sat B ss' σ H' → Ext (ow ss.cs) H (ow ss'.cs) H' → Vl H' (ow ss'.cs) v d → QQ v H') → ∃ r, OpR X f r ∧ r v1 v2 H QQ
def rAny (X : Cx) (f : Value → Value → Sem Value) : R2 := fun x y H Q => ∃ r, OpR X f r ∧ r x y H Q
theorem or_any {f : Value → Value → Sem Value} : OpR X f (rAny X f) := fun pins s σ H x y v u Q I r1 r2 ⟨_, h, q⟩ => h pins s σ H x y v u Q I r1 r2 q
theorem op_go {f : Value → Value → Sem Value} (h : EW X B a ss fun d1 s1 => EW X B b s1 fun d2 s2 => OpD X B f d1 d2 s2 Q) {σ : L2.St} {H : Hp} {QQ : VK} (q : tE B ss Q σ H QQ) :
    tOp (rAny X f) (tE B ss fun d1 s1 => EW X B b s1 fun d2 s2 => OpD X B f d1 d2 s2 Q) (tAny X b) σ H QQ := by
  obtain ⟨s, k⟩ := q
  exact ⟨s, fun v1 d1 s1 H1 q1 sat1 e1 r1 => ⟨_, q1.p, sat1, fun v2 d2 s2 H2 q2 sat2 e2 r2 => (show OpD X B f d1 d2 s2 Q from q2) v1 v2 σ H2 QQ sat2 (r1.ext e2) r2 fun v d s3 H3 q3 sat3 e3 r3 => k v d s3 H3 q3 sat3 ((e1.trans e2).trans e3) r3⟩⟩
theorem ew_bin {op : Operator} (h : EW X B a ss fun d1 s1 => EW X B b s1 fun d2 s2 => OpD X B (binaryOp op) d1 d2 s2 Q) : EW X B (.BinOp a op b pos) ss Q := ⟨PEimp (pe_op or_any h.p pe_any) fun _ _ _ q => op_go h q⟩
theorem ew_cmp {op : CmpOp} (h : EW X B a ss fun d1 s1 => EW X B b s1 fun d2 s2 => OpD X B (compareOp op) d1 d2 s2 Q) (hm : behindInMarks op b = false := by first | exact nomark _ | rfl) : EW X B (.Compare a [op] [b] pos) ss Q := ⟨PEimp (pe_cmpR or_any h.p pe_any hm) fun _ _ _ q => op_go h q⟩
theorem tw_cmp {op : CmpOp} (h : EW X B a ss fun d1 s1 => EW X B b s1 fun d2 s2 => OpD X B (compareOp op) d1 d2 s2 fun d s => IsB d fun k => T k s) (hm : behindInMarks op b = false := by first | exact nomark _ | rfl) : TW X B (.Compare a [op] [b] pos) ss T :=
  ⟨PTimp (pt_cmpR or_any h.p pe_any hm) fun σ H QQ ⟨s, k⟩ => op_go h ⟨s, fun v d s1 H1 q1 sat1 e1 r1 => by
    obtain ⟨b, rfl, q⟩ := q1
    cases r1
    exact ⟨b, rfl, k b s1 H1 q sat1 e1⟩⟩⟩
theorem od_c {f : Value → Value → Sem Value} {d1 d2 d : D} (q : Q d ss) (h : ∀ H M v1 v2, Vl H M v1 d1 → Vl H M v2 d2 → ∃ r v, OpR X f r ∧ Vl H M v d ∧ ∀ QQ : VK, QQ v H → r v1 v2 H QQ) : OpD X B f d1 d2 ss Q := fun v1 v2 σ H QQ s r1 r2 k => by
  obtain ⟨r, v, ho, hv, hq⟩ := h H _ v1 v2 r1 r2
  exact ⟨r, ho, hq QQ (k _ _ _ _ q s Ext.refl hv)⟩
theorem od_add {i j : Int} (q : Q (.int (i + j)) ss) : OpD X B (binaryOp .Add) (.int i) (.int j) ss Q := od_c q fun H M v1 v2 r1 r2 => by
  cases r1; cases r2; exact ⟨_, _, op_add, .int _, fun QQ q => ⟨i, j, rfl, rfl, q⟩⟩
theorem od_sub {i j : Int} (q : Q (.int (i - j)) ss) : OpD X B (binaryOp .Sub) (.int i) (.int j) ss Q := od_c q fun H M v1 v2 r1 r2 => by
  cases r1; cases r2; exact ⟨_, _, op_sub, .int _, fun QQ q => ⟨i, j, rfl, rfl, q⟩⟩
theorem od_mul {i j : Int} (h : CMul i j) (q : Q (.int (i * j)) ss) : OpD X B (binaryOp .Mult) (.int i) (.int j) ss Q := od_c q fun H M v1 v2 r1 r2 => by
  cases r1; cases r2; exact ⟨_, _, op_mul, .int _, fun QQ q => ⟨i, j, rfl, rfl, h, q⟩⟩
theorem od_mod {i j : Int} (h : 0 < j) (q : Q (.int (i % j)) ss) : OpD X B (binaryOp .Mod) (.int i) (.int j) ss Q := od_c q fun H M v1 v2 r1 r2 => by
  cases r1; cases r2; exact ⟨_, _, op_mod, .int _, fun QQ q => ⟨i, j, rfl, rfl, h, q⟩⟩
theorem od_div {i j : Int} (h : CDivW i j) (q : Q (.int (i / j)) ss) : OpD X B (binaryOp .FloorDiv) (.int i) (.int j) ss Q := od_c q fun H M v1 v2 r1 r2 => by
  cases r1; cases r2; exact ⟨_, _, op_fdivW, .int _, fun QQ q => ⟨i, j, rfl, rfl, h, q⟩⟩
theorem od_pow {i j : Int} (h : CPow i j) (q : Q (.int (i ^ j.toNat)) ss) : OpD X B (binaryOp .Pow) (.int i) (.int j) ss Q := od_c q fun H M v1 v2 r1 r2 => by
  cases r1; cases r2; exact ⟨_, _, op_pow, .int _, fun QQ q => ⟨i, j, rfl, rfl, h, q⟩⟩
theorem od_lt {i j : Int} (q : Q (.bl (decide (i < j))) ss) : OpD X B (compareOp .Lt) (.int i) (.int j) ss Q := od_c q fun H M v1 v2 r1 r2 => by
  cases r1; cases r2; exact ⟨_, _, op_lt, .bl _, fun QQ q => ⟨i, j, rfl, rfl, q⟩⟩
theorem od_le {i j : Int} (q : Q (.bl (decide (i ≤ j))) ss) : OpD X B (compareOp .LtE) (.int i) (.int j) ss Q := od_c q fun H M v1 v2 r1 r2 => by
  cases r1; cases r2; exact ⟨_, _, op_le, .bl _, fun QQ q => ⟨i, j, rfl, rfl, q⟩⟩
theorem od_gt {i j : Int} (q : Q (.bl (decide (j < i))) ss) : OpD X B (compareOp .Gt) (.int i) (.int j) ss Q := od_c q fun H M v1 v2 r1 r2 => by
  cases r1; cases r2; exact ⟨_, _, op_gt, .bl _, fun QQ q => ⟨i, j, rfl, rfl, q⟩⟩
theorem od_ge {i j : Int} (q : Q (.bl (decide (j ≤ i))) ss) : OpD X B (compareOp .GtE) (.int i) (.int j) ss Q := od_c q fun H M v1 v2 r1 r2 => by
  cases r1; cases r2; exact ⟨_, _, op_ge, .bl _, fun QQ q => ⟨i, j, rfl, rfl, q⟩⟩
def D.isN : D → Bool
  | .non => true
  | .raw _ => false
  | _ => false
theorem vl_isN {H : Hp} {M : Addr → Prop} {v : V} {d : D} (r : Vl H M v d) (h : ∀ v, d ≠ .raw v) : decide (v = .non) = d.isN := by
  cases r <;> first | rfl | exact absurd rfl (h _)
theorem od_is {d : D} (h : ∀ v, d ≠ .raw v := by intro _ h; cases h) (q : Q (.bl d.isN) ss) : OpD X B (compareOp .Is) d .non ss Q := od_c q fun H M v1 v2 r1 r2 => by
  cases r2; exact ⟨_, _, op_isN, .bl _, fun QQ q => ⟨rfl, by rw [vl_isN r1 h]; exact q⟩⟩
theorem od_isnot {d : D} (h : ∀ v, d ≠ .raw v := by intro _ h; cases h) (q : Q (.bl (!d.isN)) ss) : OpD X B (compareOp .IsNot) d .non ss Q := od_c q fun H M v1 v2 r1 r2 => by
  cases r2; exact ⟨_, _, op_notN, .bl _, fun QQ q => ⟨rfl, by rw [vl_isN r1 h]; exact q⟩⟩
/-! ### tests -/
theorem tw_val (h : EW X B e ss fun d s => IsB d fun k => T k s) (he : ∀ whole, isTrue e X.env whole = (do let v ← whole; standAt e.pos; holding [v] (truthy v)) := by intro _; rfl) : TW X B e ss T :=
  ⟨PTimp (pt_val h.p he) fun σ H QQ ⟨s, k⟩ => ⟨s, fun v d s1 H1 q1 sat1 e1 r1 => by
    obtain ⟨b, rfl, q⟩ := q1
    cases r1
    exact ⟨b, rfl, k b s1 H1 q sat1 e1⟩⟩⟩
theorem tw_not (h : TW X B a ss fun k s => T (!k) s) : TW X B (.UnaryOp .Not a pos) ss T := ⟨PTimp (pt_not h.p) fun σ H QQ ⟨s, k⟩ => ⟨s, fun b s1 H1 q1 sat1 e1 => k _ s1 H1 q1 sat1 e1⟩⟩
theorem tw_w (h : WW X B e ss T) : TW X B e ss T := ⟨PTimp h.p.pt fun _ _ _ q => q⟩
theorem ww_and1 (h : TW X B a ss T) : WW X B (.BoolOp .And [a] pos) ss T := ⟨pw_and1 h.p⟩
theorem ww_or1 (h : TW X B a ss T) : WW X B (.BoolOp .Or [a] pos) ss T := ⟨pw_or1 h.p⟩
theorem ww_and {rest : List Expr} (h : TW X B a ss fun k s => Br k (WW X B (.BoolOp .And (b :: rest) pos) s T) (T false s)) : WW X B (.BoolOp .And (a :: b :: rest) pos) ss T :=
  ⟨PWimp (pw_and h.p pw_any) fun σ H QQ ⟨s, k⟩ => ⟨s, fun c s1 H1 q1 sat1 e1 => by
    cases c with
    | true => exact ⟨_, (q1.1 rfl).p, sat1, fun b s2 H2 q2 sat2 e2 => k b s2 H2 q2 sat2 (e1.trans e2)⟩
    | false => exact k false s1 H1 (q1.2 rfl) sat1 e1⟩⟩
theorem ww_or {rest : List Expr} (h : TW X B a ss fun k s => Br k (T true s) (WW X B (.BoolOp .Or (b :: rest) pos) s T)) : WW X B (.BoolOp .Or (a :: b :: rest) pos) ss T :=
  ⟨PWimp (pw_or h.p pw_any) fun σ H QQ ⟨s, k⟩ => ⟨s, fun c s1 H1 q1 sat1 e1 => by
    cases c with
    | true => exact k true s1 H1 (q1.1 rfl) sat1 e1
    | false => exact ⟨_, (q1.2 rfl).p, sat1, fun b s2 H2 q2 sat2 e2 => k b s2 H2 q2 sat2 (e1.trans e2)⟩⟩⟩
theorem ew_not (h : EW X B a ss fun d s => IsB d fun k => Q (.bl (!k)) s) : EW X B (.UnaryOp .Not a pos) ss Q := ⟨PEimp (pe_not h.p) fun σ H QQ ⟨s, k⟩ => ⟨s, fun v d s1 H1 q1 sat1 e1 r1 => by
  obtain ⟨b, rfl, q⟩ := q1
  cases r1
  exact ⟨b, rfl, k _ _ s1 H1 q sat1 e1 (.bl _)⟩⟩⟩
theorem ew_one {op : BoolOp} (h : EW X B a ss Q) : EW X B (.BoolOp op [a] pos) ss Q := ⟨pe_one h.p⟩
theorem ew_and {rest : List Expr} (h : EW X B a ss fun d s => IsB d fun k => Br k (EW X B (.BoolOp .And (b :: rest) pos) s Q) (Q (.bl false) s)) : EW X B (.BoolOp .And (a :: b :: rest) pos) ss Q :=
  ⟨PEimp (pe_and h.p pe_any) fun σ H QQ ⟨s, k⟩ => ⟨s, fun v d s1 H1 q1 sat1 e1 r1 => by
    obtain ⟨c, rfl, q⟩ := q1
    cases r1
    refine ⟨c, rfl, ?_⟩
    cases c with
    | true => exact ⟨_, (q.1 rfl).p, sat1, fun v d s2 H2 q2 sat2 e2 r2 => k v d s2 H2 q2 sat2 (e1.trans e2) r2⟩
    | false => exact k _ _ s1 H1 (q.2 rfl) sat1 e1 (.bl _)⟩⟩
theorem ew_or {rest : List Expr} (h : EW X B a ss fun d s => IsB d fun k => Br k (Q (.bl true) s) (EW X B (.BoolOp .Or (b :: rest) pos) s Q)) : EW X B (.BoolOp .Or (a :: b :: rest) pos) ss Q :=
  ⟨PEimp (pe_or h.p pe_any) fun σ H QQ ⟨s, k⟩ => ⟨s, fun v d s1 H1 q1 sat1 e1 r1 => by
    obtain ⟨c, rfl, q⟩ := q1
    cases r1
    refine ⟨c, rfl, ?_⟩
    cases c with
    | true => exact k _ _ s1 H1 (q.1 rfl) sat1 e1 (.bl _)
    | false => exact ⟨_, (q.2 rfl).p, sat1, fun v d s2 H2 q2 sat2 e2 r2 => k v d s2 H2 q2 sat2 (e1.trans e2) r2⟩⟩⟩
theorem ew_if (h : TW X B c ss fun k s => Br k (EW X B a s Q) (EW X B b s Q)) : EW X B (.IfExp c a b pos) ss Q :=
  ⟨PEimp (pe_ifExp h.p pe_any pe_any) fun σ H QQ ⟨s, k⟩ => ⟨s, fun c s1 H1 q1 sat1 e1 => by
    cases c with
    | true => exact ⟨_, (q1.1 rfl).p, sat1, fun v d s2 H2 q2 sat2 e2 r2 => k v d s2 H2 q2 sat2 (e1.trans e2) r2⟩
    | false => exact ⟨_, (q1.2 rfl).p, sat1, fun v d s2 H2 q2 sat2 e2 r2 => k v d s2 H2 q2 sat2 (e1.trans e2) r2⟩⟩⟩
/-- a < b < c -/
theorem chain_go {op op' : CmpOp} (h : EW X B a ss fun d1 s1 => EW X B b s1 fun d2 s2 => OpD X B (compareOp op) d1 d2 s2 fun d s => IsB d fun k => Br k (EW X B c s fun d3 s3 => OpD X B (compareOp op') d2 d3 s3 Q) (Q (.bl false) s)) {σ : L2.St} {H : Hp} {QQ : VK} (q : tE B ss Q σ H QQ) :
    tChain (rAny X (compareOp op)) (rAny X (compareOp op')) (tE B ss fun d1 s1 => EW X B b s1 fun d2 s2 => OpD X B (compareOp op) d1 d2 s2 fun d s => IsB d fun k => Br k (EW X B c s fun d3 s3 => OpD X B (compareOp op') d2 d3 s3 Q) (Q (.bl false) s)) (tAny X b) (tAny X c) σ H QQ := by
  obtain ⟨s, k⟩ := q
  refine ⟨s, fun v1 d1 s1 H1 q1 sat1 e1 r1 => ⟨_, q1.p, sat1, fun v2 d2 s2 H2 q2 sat2 e2 r2 => (show OpD X B (compareOp op) d1 d2 s2 _ from q2) v1 v2 σ H2 _ sat2 (r1.ext e2) r2 fun v d s3 H3 q3 sat3 e3 r3 => ?_⟩⟩
  obtain ⟨z, rfl, q⟩ := q3
  cases r3
  refine ⟨z, rfl, ?_⟩
  cases z with
  | true => exact ⟨_, (q.1 rfl).p, sat3, fun v4 d4 s4 H4 q4 sat4 e4 r4 => (show OpD X B (compareOp op') d2 d4 s4 Q from q4) v2 v4 σ H4 QQ sat4 ((r2.ext e3).ext e4) r4 fun v d s5 H5 q5 sat5 e5 r5 => k v d s5 H5 q5 sat5 ((((e1.trans e2).trans e3).trans e4).trans e5) r5⟩
  | false => exact k _ _ s3 H3 (q.2 rfl) sat3 ((e1.trans e2).trans e3) (.bl _)
theorem ew_chain {op op' : CmpOp} (h : EW X B a ss fun d1 s1 => EW X B b s1 fun d2 s2 => OpD X B (compareOp op) d1 d2 s2 fun d s => IsB d fun k => Br k (EW X B c s fun d3 s3 => OpD X B (compareOp op') d2 d3 s3 Q) (Q (.bl false) s)) 
    (hm : lastMarks [op, op'] [b, c] = false := by with_unfolding_all rfl) : EW X B (.Compare a [op, op'] [b, c] pos) ss Q := ⟨PEimp (pe_chain or_any or_any h.p pe_any pe_any hm) fun _ _ _ q => chain_go h q⟩
theorem tw_chain {op op' : CmpOp} (h : EW X B a ss fun d1 s1 => EW X B b s1 fun d2 s2 => OpD X B (compareOp op) d1 d2 s2 fun d s => IsB d fun k => Br k (EW X B c s fun d3 s3 => OpD X B (compareOp op') d2 d3 s3 fun d s => IsB d fun k => T k s) (T false s)) 
    (hm : lastMarks [op, op'] [b, c] = false := by with_unfolding_all rfl) : TW X B (.Compare a [op, op'] [b, c] pos) ss T := by
  have h' : EW X B a ss fun d1 s1 => EW X B b s1 fun d2 s2 => OpD X B (compareOp op) d1 d2 s2 fun d s => IsB d fun k => Br k (EW X B c s fun d3 s3 => OpD X B (compareOp op') d2 d3 s3 fun d s => IsB d fun k => T k s) ((fun d s => IsB d fun k => T k s) (.bl false) s) := by
    refine ⟨PEimp h.p fun σ H QQ ⟨s, k⟩ => ⟨s, fun v1 d1 s1 H1 q1 sat1 e1 r1 => k v1 d1 s1 H1 ⟨PEimp q1.p fun σ H QQ ⟨s, k⟩ => ⟨s, fun v2 d2 s2 H2 q2 sat2 e2 r2 => k v2 d2 s2 H2 (fun w1 w2 σ H QQ s x1 x2 k => q2 w1 w2 σ H QQ s x1 x2 fun v d s3 H3 q3 sat3 e3 r3 => k v d s3 H3 ?_ sat3 e3 r3) sat2 e2 r2⟩⟩ sat1 e1 r1⟩⟩
    obtain ⟨z, rfl, q⟩ := q3
    exact ⟨z, rfl, q.1, fun e => ⟨false, rfl, q.2 e⟩⟩
  exact ⟨PTimp (pt_chain or_any or_any h'.p pe_any pe_any hm) fun σ H QQ ⟨s, k⟩ => chain_go (QQ := fun x H' => ∃ b, x = .bl b ∧ QQ b H') h' ⟨s, fun v d s1 H1 q1 sat1 e1 r1 => by
    obtain ⟨b, rfl, q⟩ := q1
    cases r1
    exact ⟨b, rfl, k b s1 H1 q sat1 e1⟩⟩⟩
/-! ### arguments, displays -/
theorem aw_nil (q : L [] ss) : AW X B [] ss L := ⟨PAimp pa_nil fun σ H QQ ⟨s, k⟩ => k [] [] ss H q s Ext.refl .nil⟩
theorem aw_cons (h : EW X B e ss fun d s => AW X B es s fun ds s' => L (d :: ds) s') (hs : starEach (e :: es) X.env = (false, eval e X.env) :: starEach es X.env := by rfl) : AW X B (e :: es) ss L :=
  ⟨PAimp (pa_cons h.p pa_any hs) fun σ H QQ ⟨s, k⟩ => ⟨s, fun v d s1 H1 q1 sat1 e1 r1 => ⟨_, q1.p, sat1, fun vs ds s2 H2 q2 sat2 e2 r2 => k (v :: vs) (d :: ds) s2 H2 q2 sat2 (e1.trans e2) (.cons (r1.ext e2) r2)⟩⟩⟩
theorem ew_tup {j : Nat} (h : AW X B es ss fun ds s => ds.length ≤ sizeLine ∧ Q (.tup ds) s) : EW X B (.Tuple es j pos) ss Q :=
  ⟨PEimp (pe_tup h.p) fun σ H QQ ⟨s, k⟩ => ⟨s, fun vs ds s1 H1 q1 sat1 e1 r1 => ⟨by rw [r1.len]; exact q1.1, fun p hp => by
    have S := Pre.Same.upd (o := .tup vs) hp
    exact k _ (.tup ds) s1 _ q1.2 (sat1.same S) (e1.trans (Ext.same S)) (.tup upd_same (sat1.new hp) (r1.ext (Ext.same S)))⟩⟩⟩
theorem ew_lst (h : AW X B es ss fun ds s => ds.length ≤ sizeLine ∧ Q (.lst ds) s) : EW X B (.List es pos) ss Q :=
  ⟨PEimp (pe_lst h.p) fun σ H QQ ⟨s, k⟩ => ⟨s, fun vs ds s1 H1 q1 sat1 e1 r1 => ⟨by rw [r1.len]; exact q1.1, fun p hp => by
    have S := Pre.Same.upd (o := .lst vs) hp
    exact k _ (.lst ds) s1 _ q1.2 (sat1.same S) (e1.trans (Ext.same S)) (.lst upd_same (sat1.new hp) (r1.ext (Ext.same S)))⟩⟩⟩
/-! ### statements -/
theorem sw_nil (q : k.nx ss) : SW X B [] ss k := ⟨PSsimp pss_nil fun D σ H ⟨s, h, _⟩ => h _ _ _ q s Ext.refl⟩
theorem sw_cons {st : Stmt} {sts : List Stmt} (h : S1 X B st ss { k with nx := fun s => SW X B sts s k }) : SW X B (st :: sts) ss k :=
  ⟨PSsimp (pss_cons h.p pss_any) fun D σ H ⟨s, h1, h2, h3, h4⟩ => ⟨s, fun s1 σ1 H1 q1 sat1 e1 => ⟨_, q1.p, sat1, fun s2 σ2 H2 q2 sat2 e2 => h1 s2 σ2 H2 q2 sat2 (e1.trans e2),
    fun v d s2 σ2 H2 q2 sat2 e2 r2 => h2 v d s2 σ2 H2 q2 sat2 (e1.trans e2) r2, fun s2 σ2 H2 q2 sat2 e2 => h3 s2 σ2 H2 q2 sat2 (e1.trans e2), fun s2 σ2 H2 q2 sat2 e2 => h4 s2 σ2 H2 q2 sat2 (e1.trans e2)⟩, h2, h3, h4⟩⟩
theorem Sat.set {σ : L2.St} {H : Hp} (s : Sat B ss σ H) {i : Nat} {v : V} {d : D} (r : Vl H (ow ss.cs) v d) : Sat B ⟨ss.sl.set i (some d), ss.cs⟩ (σ.set i (some v)) H := by
  refine ⟨by rw [List.length_set, List.length_set]; exact s.len, fun j d2 e => ?_, s.ok, s.ext, s.bok⟩
  by_cases hj : i = j
  · subst hj
    have hi : i < ss.sl.length := by
      have z := (List.getElem?_eq_some_iff.mp e).1
      rwa [List.length_set] at z
    rw [List.getElem?_set_self hi] at e
    cases e
    exact ⟨v, List.getElem?_set_self (by rw [s.len]; exact hi), r⟩
  · rw [List.getElem?_set_ne hj] at e
    obtain ⟨u, e1, r1⟩ := s.sl j d2 e
    exact ⟨u, by rw [List.getElem?_set_ne hj]; exact e1, r1⟩
theorem s1_set (i : Nat) {x : Str} {pos' : Pos} (hN : X.N.Nodup) (hi : X.N[i]? = some x) (hx : Loc X.env.scope x) (h : EW X B e ss fun d s => k.nx ⟨s.sl.set i (some d), s.cs⟩)
    (hs : swapsWith e (some (.Name x pos')) pos.line X.env = pure false := by rfl) (hf : X.fn x = true ∨ X.env.scope.names.lookup x = some .local := by first | exact .inl rfl | exact .inr rfl | assumption) : S1 X B (.Assign [.Name x pos'] e pos) ss k :=
  ⟨PSimp (ps_set (i := i) hN hi hx h.p hs hf) fun D σ H ⟨s, h1, _⟩ => ⟨s, fun v d s1 H1 q1 sat1 e1 r1 => h1 _ _ _ q1 (sat1.set r1) e1⟩⟩
theorem s1_ret (h : EW X B e ss k.rt) : S1 X B (.Return (some e) pos) ss k := ⟨PSimp (ps_ret h.p) fun D σ H ⟨s, _, h2, _⟩ => ⟨s, fun v d s1 H1 q1 sat1 e1 r1 => h2 v d s1 σ H1 q1 sat1 e1 r1⟩⟩
theorem s1_expr (h : EW X B e ss fun _ s => k.nx s) (hs : swapsWith e none pos.line X.env = pure false := by rfl) : S1 X B (.Expr e pos) ss k := ⟨PSimp (ps_expr h.p hs) fun D σ H ⟨s, h1, _⟩ => ⟨s, fun v d s1 H1 q1 sat1 e1 r1 => h1 s1 σ H1 q1 sat1 e1⟩⟩
theorem s1_if {A1 A2 : List Stmt} (h : TW X B c ss fun b s => Br b (SW X B A1 s k) (SW X B A2 s k)) : S1 X B (.If c A1 A2 pos) ss k :=
  ⟨PSimp (ps_if h.p pss_any pss_any) fun D σ H ⟨s, h1, h2, h3, h4⟩ => ⟨s, fun b s1 H1 q1 sat1 e1 => by
    cases b with
    | true => exact ⟨_, (q1.1 rfl).p, sat1, fun s2 σ2 H2 q2 sat2 e2 => h1 s2 σ2 H2 q2 sat2 (e1.trans e2), fun v d s2 σ2 H2 q2 sat2 e2 r2 => h2 v d s2 σ2 H2 q2 sat2 (e1.trans e2) r2, fun s2 σ2 H2 q2 sat2 e2 => h3 s2 σ2 H2 q2 sat2 (e1.trans e2), fun s2 σ2 H2 q2 sat2 e2 => h4 s2 σ2 H2 q2 sat2 (e1.trans e2)⟩
    | false => exact ⟨_, (q1.2 rfl).p, sat1, fun s2 σ2 H2 q2 sat2 e2 => h1 s2 σ2 H2 q2 sat2 (e1.trans e2), fun v d s2 σ2 H2 q2 sat2 e2 r2 => h2 v d s2 σ2 H2 q2 sat2 (e1.trans e2) r2, fun s2 σ2 H2 q2 sat2 e2 => h3 s2 σ2 H2 q2 sat2 (e1.trans e2), fun s2 σ2 H2 q2 sat2 e2 => h4 s2 σ2 H2 q2 sat2 (e1.trans e2)⟩⟩⟩
/-- the state told otherwise -/
theorem sw_re {sts : List Stmt} {s2 : SS} (hs : ∀ σ H, Sat B ss σ H → Sat B s2 σ H ∧ ∀ a, ow s2.cs a → ow ss.cs a) (h : SW X B sts s2 k) : SW X B sts ss k :=
  ⟨PSsimp h.p fun D σ H ⟨s, h1, h2, h3, h4⟩ => by
    obtain ⟨t, l⟩ := hs σ H s
    have e0 : Ext (ow ss.cs) H (ow s2.cs) H := Ext.less l
    exact ⟨t, fun s2 σ2 H2 q2 sat2 e2 => h1 s2 σ2 H2 q2 sat2 (e0.trans e2), fun v d s2 σ2 H2 q2 sat2 e2 r2 => h2 v d s2 σ2 H2 q2 sat2 (e0.trans e2) r2, fun s2 σ2 H2 q2 sat2 e2 => h3 s2 σ2 H2 q2 sat2 (e0.trans e2), fun s2 σ2 H2 q2 sat2 e2 => h4 s2 σ2 H2 q2 sat2 (e0.trans e2)⟩⟩
theorem s1_dead {st : Stmt} (h : False) : S1 X B st ss k := h.elim
end
end Sx
set_option Elab.async false
set_option linter.all false
set_option maxRecDepth 100000
set_option maxHeartbeats 2000000
namespace Sx
open PySem PySem.Spec PyProof.Rows L2
/-! ### what a def promises -/
abbrev FT := List D → Cs → (D → Cs → Prop) → (Addr → List (Str × D) → Cs → Prop) → Prop
def spF (F : FT) : Sp := fun vs H Q E => ∃ ds cs Kk KE, VlL H (ow cs) vs ds ∧ CsOk H cs ∧ F ds cs Kk KE ∧
  (∀ v d H' cs', Kk d cs' → Ext (ow cs) H (ow cs') H' → CsOk H' cs' → Vl H' (ow cs') v d → Q v H') ∧
  (∀ C fs cs' x vs H', KE C fs cs' → Ext (ow cs) H (ow cs') H' → CsOk H' cs' → Xat H' x vs → VlF H' (ow cs') vs fs → E (.ref C) x H')
def startD (N : List Str) (ds : List D) : List (Option D) := ds.map some ++ List.replicate (N.length - ds.length) none
theorem sat_start {H : Hp} {cs : Cs} {vs : List V} {ds : List D} {N : List Str} {E : XK} {KE : Addr → List (Str × D) → Cs → Prop} (r : VlL H (ow cs) vs ds) (ok : CsOk H cs) (bok : BOk ⟨H, cs, E, KE⟩) : Sat ⟨H, cs, E, KE⟩ ⟨startD N ds, cs⟩ (L2.start N vs) H := by
  refine ⟨?_, fun i d e => ?_, ok, Ext.refl, bok⟩
  · unfold L2.start startD
    rw [List.length_append, List.length_append, List.length_map, List.length_map, List.length_replicate, List.length_replicate, r.len]
  · have e : (startD N ds)[i]? = some (some d) := e
    unfold startD at e
    unfold L2.start
    by_cases hi : i < ds.length
    · rw [List.getElem?_append_left (by rw [List.length_map]; exact hi), List.getElem?_map] at e
      obtain ⟨v, e1, r1⟩ := r.at_ (i := i) (d := d) (by
        cases q : ds[i]? with
        | none => rw [q] at e; cases e
        | some d0 => rw [q] at e; cases e; rfl)
      exact ⟨v, by rw [List.getElem?_append_left (by rw [List.length_map, r.len]; exact hi), List.getElem?_map, e1]; rfl, r1⟩
    · rw [List.getElem?_append_right (by rw [List.length_map]; omega), List.getElem?_replicate] at e
      split at e <;> cases e
section
variable {P : Program} {w : World} {K : PySem.W.Frag} {mg : Str → Option Value} {base : Heap} {CX : CXT} {k : Nat} {x qual : Str} {params : Arguments} {body : List Stmt} {scope : Scope} {N ps : List Str} {F : FT}
theorem body_go {X : Cx} {H : Hp} {cs : Cs} {vs : List V} {ds : List D} {E : XK} {Kk : D → Cs → Prop} {KE : Addr → List (Str × D) → Cs → Prop} {Q : VK} (r : VlL H (ow cs) vs ds) (ok : CsOk H cs)
    (q1 : ∀ v d H' cs', Kk d cs' → Ext (ow cs) H (ow cs') H' → CsOk H' cs' → Vl H' (ow cs') v d → Q v H')
    (q2 : ∀ C fs cs' x vs H', KE C fs cs' → Ext (ow cs) H (ow cs') H' → CsOk H' cs' → Xat H' x vs → VlF H' (ow cs') vs fs → E (.ref C) x H')
    (h : SW X ⟨H, cs, E, KE⟩ body ⟨startD N ds, cs⟩ { nx := fun s => Kk .non s.cs, rt := fun d s => Kk d s.cs }) : ∃ t, PSs X body t ∧ t { nx := fun _ H' => Q .non H', rt := Q } (L2.start N vs) H :=
  ⟨_, h.p, sat_start r ok (fun C fs cs' x vs H' => q2 C fs cs' x vs H'), fun ss' σ' H' q sat e => q1 _ _ _ _ q e sat.ok .non, fun v d ss' σ' H' q sat e r => q1 _ _ _ _ q e sat.ok r, fun _ _ _ q => q.elim, fun _ _ _ q => q.elim⟩
theorem dfnF (q : ∃ fd, FunD K x qual params body scope [] [] (He.ga K x) fd) (g : mg x = some (.ref (He.ga K x))) (S : FnScope N ps scope)
    (hb : ∀ (kV doc pm : Value) (an : Option Addr) (cdv ct : Value) (us : List Value), us.length = ps.length → bindArgs (PySem.W.fnOf x qual params body scope .none kV doc pm an cdv ct) ⟨us, []⟩ = pure (ps.zip us))
    (len : ∀ ds cs Kk KE, F ds cs Kk KE → ds.length = ps.length)
    (walk : ∀ (cdv : Value) (A : Around) (outer : List Env) (s : Shared) (H : Hp) (E : XK) (ds : List D) (cs : Cs) (Kk : D → Cs → Prop) (KE : Addr → List (Str × D) → Cs → Prop), Room k (A.deeper (envOfC qual scope s.heap.objs.size (He.ga K x) cdv)) → F ds cs Kk KE →
      SW (cxOf CX P w K mg base N qual scope (He.ga K x) cdv A outer s H E) ⟨H, cs, E, KE⟩ body ⟨startD N ds, cs⟩ { nx := fun s => Kk .non s.cs, rt := fun d s => Kk d s.cs }) : Dfs.Dfn P w K mg base CX (k + 1) x ps (spF F) := by
  refine Vls.dfn q g S (fun vs H Q E h => ?_) hb (fun cdv A outer s H vs Q E hr h => ?_)
  · obtain ⟨ds, cs, Kk, KE, r, ok, f, _⟩ := h
    rw [r.len]
    exact len _ _ _ _ f
  · obtain ⟨ds, cs, Kk, KE, r, ok, f, q1, q2⟩ := h
    exact body_go r ok q1 q2 (walk cdv A outer s H E ds cs Kk KE hr f)
theorem mfnF {C : Addr} (q : ∃ fd, FunD K x qual params body scope [] [] (He.ma K C x) fd) (c : Cls K C) (m : Meth K C x (He.ma K C x)) (S : FnScope N ps scope)
    (hb : ∀ (kV doc pm : Value) (an : Option Addr) (cdv ct : Value) (us : List Value), us.length = ps.length → bindArgs (PySem.W.fnOf x qual params body scope .none kV doc pm an cdv ct) ⟨us, []⟩ = pure (ps.zip us))
    (len : ∀ ds cs Kk KE, F ds cs Kk KE → ds.length = ps.length)
    (walk : ∀ (cdv : Value) (A : Around) (outer : List Env) (s : Shared) (H : Hp) (E : XK) (ds : List D) (cs : Cs) (Kk : D → Cs → Prop) (KE : Addr → List (Str × D) → Cs → Prop), Room k (A.deeper (envOfC qual scope s.heap.objs.size (He.ma K C x) cdv)) → F ds cs Kk KE →
      SW (cxOf CX P w K mg base N qual scope (He.ma K C x) cdv A outer s H E) ⟨H, cs, E, KE⟩ body ⟨startD N ds, cs⟩ { nx := fun s => Kk .non s.cs, rt := fun d s => Kk d s.cs }) : Dfs.Mfn P w K mg base CX (k + 1) C x ps (spF F) := by
  refine Vls.mfn q c m S (fun vs H Q E h => ?_) hb (fun cdv A outer s H vs Q E hr h => ?_)
  · obtain ⟨ds, cs, Kk, KE, r, ok, f, _⟩ := h
    rw [r.len]
    exact len _ _ _ _ f
  · obtain ⟨ds, cs, Kk, KE, r, ok, f, q1, q2⟩ := h
    exact body_go r ok q1 q2 (walk cdv A outer s H E ds cs Kk KE hr f)
/-- a def by its FunD, any address (a method that no class tells by name, an __init__) -/
theorem okF {f : Addr} {fd : FuncData} {dvs : List V} {kws : List (Str × V)} (q : FunD K x qual params body scope dvs kws f fd) (S : FnScope N ps scope) (len : ∀ ds cs Kk KE, F ds cs Kk KE → ds.length = ps.length)
    (walk : ∀ (cdv : Value) (A : Around) (outer : List Env) (s : Shared) (H : Hp) (E : XK) (ds : List D) (cs : Cs) (Kk : D → Cs → Prop) (KE : Addr → List (Str × D) → Cs → Prop), Room k (A.deeper (envOfC qual scope s.heap.objs.size f cdv)) → F ds cs Kk KE →
      SW (cxOf CX P w K mg base N qual scope f cdv A outer s H E) ⟨H, cs, E, KE⟩ body ⟨startD N ds, cs⟩ { nx := fun s => Kk .non s.cs, rt := fun d s => Kk d s.cs }) : FnOk P w K mg base CX (k + 1) f fd ps (spF F) := by
  refine q.ok S (fun vs H Q E h => ?_) (fun cdv A outer s H vs Q E hr h => ?_)
  · obtain ⟨ds, cs, Kk, KE, r, ok, f, _⟩ := h
    rw [r.len]
    exact len _ _ _ _ f
  · obtain ⟨ds, cs, Kk, KE, r, ok, f, q1, q2⟩ := h
    exact body_go r ok q1 q2 (walk cdv A outer s H E ds cs Kk KE hr f)
end
section
variable {X : Cx} {B : Bs} {ss : SS} {Q : D → SS → Prop} {T : Bool → SS → Prop} {L : List D → SS → Prop} {k : Kt} {a b c e o : Expr} {es : List Expr} {pos p apos : Pos} {CX : CXT} {n : Nat} {x m : Str} {C : Addr} {ps : List Str} {F : FT}
theorem Sat.cs {σ : L2.St} {H H' : Hp} {cs' : Cs} (s : Sat B ss σ H) (e : Ext (ow ss.cs) H (ow cs') H') (ok : CsOk H' cs') : Sat B ⟨ss.sl, cs'⟩ σ H' :=
  ⟨s.len, fun i d h => by
    obtain ⟨v, e1, r⟩ := s.sl i d h
    exact ⟨v, e1, r.ext e⟩, ok, s.ext.trans e, s.bok⟩
/-- what is told of the callee's errors: as this def's own, or that there are none -/
inductive Exs (B : Bs) : XK → (Addr → List (Str × D) → Cs → Prop) → Prop where
  | same : Exs B B.E B.Ex
  | none (E : XK) : Exs B E fun _ _ _ => False
theorem Exs.go {E' : XK} {KE' : Addr → List (Str × D) → Cs → Prop} (x : Exs B E' KE') {σ : L2.St} {H : Hp} (s : Sat B ss σ H) {C : Addr} {fs : List (Str × D)} {cs' : Cs} {y : Option Addr} {vs : List (Str × V)} {H' : Hp} (q : KE' C fs cs') (e : Ext (ow ss.cs) H (ow cs') H') (ok : CsOk H' cs') (hx : Xat H' y vs) (rf : VlF H' (ow cs') vs fs) : E' (.ref C) y H' := by
  cases x with
  | same => exact s.bok C fs cs' y vs H' q (s.ext.trans e) ok hx rf
  | none => exact q.elim
theorem pF {P : Program} {w : World} {X : Cx} : Passes (L2.CX P w) X (fun _ _ _ => False) := fun _ _ _ _ _ _ _ ⟨_, _, _, _, _, _, _, _, _, _, _, _, z⟩ => z.elim
theorem sp_go {E' : XK} {KE' : Addr → List (Str × D) → Cs → Prop} (xs : Exs B E' KE') {σ : L2.St} {H H1 : Hp} {QQ : VK} {s1 : SS} {vs : List V} {ds : List D} (sat1 : Sat B s1 σ H1) (e1 : Ext (ow ss.cs) H (ow s1.cs) H1) (r : VlL H1 (ow s1.cs) vs ds) (k : ∀ v d ss' H', Q d ss' → Sat B ss' σ H' → Ext (ow ss.cs) H (ow ss'.cs) H' → Vl H' (ow ss'.cs) v d → QQ v H')
    (f : F ds s1.cs (fun d cs => Q d ⟨s1.sl, cs⟩) KE') : spF F vs H1 QQ E' :=
  ⟨ds, s1.cs, _, _, r, sat1.ok, f, fun v d H' cs' q e ok rv => k v d _ H' q (sat1.cs e ok) (e1.trans e) rv, fun C fs cs' x vs H' q e ok hx rf => xs.go sat1 q e ok hx rf⟩
theorem ew_call {E' : XK} {KE' : Addr → List (Str × D) → Cs → Prop} (xs : Exs B E' KE') (Dd : Dfs.Dfn X.prog X.w X.K X.mg X.base CX n x ps (spF F)) (hr : Room n X.A) (hg : Gl X x) (hx : Passes CX X E') (h : AW X B (e :: es) ss fun ds s => F ds s.cs (fun d cs => Q d ⟨s.sl, cs⟩) KE')
    (hdb : (x == ("__debug__" : Str)) = false := by decide) (he : starEach (e :: es) X.env = (false, eval e X.env) :: starEach es X.env := by rfl) (hpl : (backTo pos (starEach es X.env)).any (·.1) = false := by rfl) : EW X B (.Call (.Name x p) (e :: es) [] pos) ss Q :=
  ⟨PEimp (Dfs.pe_d Dd hr hg hx h.p hdb he hpl) fun σ H QQ ⟨s, k⟩ => ⟨s, fun vs ds s1 H1 q1 sat1 e1 r1 => by
    show spF F (vs ++ []) H1 QQ E'
    rw [List.append_nil]
    exact sp_go xs sat1 e1 r1 k q1⟩⟩
/-- an instance, of its fields none is m -/
inductive IsI (C : Addr) (m : Str) : D → Cs → Prop where
  | obj {fs : List (Str × D)} {cs : Cs} (h : fs.lookup m = none) : IsI C m (.obj C fs) cs
  | own {a : Addr} {fs : List (Str × D)} {cs : Cs} (j : Nat) (e : cs[j]? = some (a, .ins C fs)) (h : fs.lookup m = none) : IsI C m (.own a) cs
theorem IsI.at_ {H : Hp} {cs : Cs} {v : V} {d : D} (i : IsI C m d cs) (ok : CsOk H cs) (r : Vl H (ow cs) v d) : ∃ a dx fs, v = .ref a ∧ H a = some (.ins C dx fs) ∧ fs.lookup m = none := by
  cases i with
  | obj h =>
    cases r with
    | obj e n r => exact ⟨_, _, _, rfl, e, r.lookup_none h⟩
  | own j e h =>
    cases r
    obtain ⟨dx, vs, e1, r1⟩ := ok.ok _ _ (List.mem_of_getElem? e)
    exact ⟨_, dx, vs, rfl, e1, r1.lookup_none h⟩
theorem ew_meth {E' : XK} {KE' : Addr → List (Str × D) → Cs → Prop} {pl : Sem Bool} (xs : Exs B E' KE') (Dd : Dfs.Mfn X.prog X.w X.K X.mg X.base CX n C m ps (spF F)) (hr : Room n X.A) (hx : Passes CX X E') (h : EW X B o ss fun d s => IsI C m d s.cs ∧ AW X B (e :: es) s fun ds s => F (d :: ds) s.cs (fun d cs => Q d ⟨s.sl, cs⟩) KE')
    (hst : starEach (e :: es) X.env = (false, eval e X.env) :: starEach es X.env := by rfl) (hpl : (backTo pos (starEach es X.env)).any (·.1) = false := by rfl)
    (ht : eval (.Call (.Attribute o m apos) (e :: es) [] pos) X.env = (do
      let ov ← eval o X.env
      standAt apos.atName
      let (f, first) ← holding [ov] (getMethod ov m pl)
      callWith pos f first (backTo pos (starEach (e :: es) X.env)) (backToKw pos (keywordEach [] X.env))) := by rfl) : EW X B (.Call (.Attribute o m apos) (e :: es) [] pos) ss Q :=
  ⟨PEimp (Dfs.pe_m h.p Dd hr hx (pa_any (es := e :: es)) hst hpl ht) fun σ H QQ ⟨s, k⟩ => ⟨s, fun v d s1 H1 ⟨i, q1⟩ sat1 e1 r1 => by
    obtain ⟨a, dx, fs, rfl, ea, hl⟩ := i.at_ sat1.ok r1
    exact ⟨a, dx, fs, rfl, ea, hl, _, q1.p, sat1, fun vs ds s2 H2 q2 sat2 e2 r2 => by
      show spF F (.ref a :: (vs ++ [])) H2 QQ E'
      rw [List.append_nil]
      exact sp_go xs sat2 (e1.trans e2) (.cons (r1.ext e2) r2) k q2⟩⟩⟩
theorem ew_meth0 {E' : XK} {KE' : Addr → List (Str × D) → Cs → Prop} {pl : Sem Bool} (xs : Exs B E' KE') (Dd : Dfs.Mfn X.prog X.w X.K X.mg X.base CX n C m ps (spF F)) (hr : Room n X.A) (hx : Passes CX X E') (h : EW X B o ss fun d s => IsI C m d s.cs ∧ F [d] s.cs (fun d cs => Q d ⟨s.sl, cs⟩) KE')
    (ht : eval (.Call (.Attribute o m apos) [] [] pos) X.env = (do
      let ov ← eval o X.env
      standAt apos.atName
      let (f, first) ← holding [ov] (getMethod ov m pl)
      callWith pos f first [] (backToKw pos (keywordEach [] X.env))) := by rfl) : EW X B (.Call (.Attribute o m apos) [] [] pos) ss Q :=
  ⟨PEimp (Dfs.pe_m0 h.p Dd hr hx ht) fun σ H QQ ⟨s, k⟩ => ⟨s, fun v d s1 H1 ⟨i, q1⟩ sat1 e1 r1 => by
    obtain ⟨a, dx, fs, rfl, ea, hl⟩ := i.at_ sat1.ok r1
    exact ⟨a, dx, fs, rfl, ea, hl, sp_go xs sat1 e1 (.cons r1 .nil) k q1⟩⟩⟩
/-! ### making -/
theorem ow_cons {cs : Cs} {x b : Addr} {c : Cell} : ow ((x, c) :: cs) b ↔ b = x ∨ ow cs b := by
  unfold ow
  rw [List.map_cons, List.mem_cons]
theorem made_ok {H : Hp} {cs : Cs} {x dx C : Addr} (ok : CsOk H cs) (nx : H x = none) (nd : H dx = none) (ne : dx ≠ x) : CsOk (upd (upd H dx (.own x)) x (.ins C dx [])) ((x, .ins C []) :: cs) ∧ Ext (ow cs) H (ow ((x, .ins C []) :: cs)) (upd (upd H dx (.own x)) x (.ins C dx [])) := by
  have S : Same H (upd (upd H dx (.own x)) x (.ins C dx [])) := Pre.Same.new (Pre.Same.upd nd) (by rw [upd_ne (fun z => ne z.symm)]; exact nx)
  have E : Ext (ow cs) H (ow ((x, .ins C []) :: cs)) (upd (upd H dx (.own x)) x (.ins C dx [])) := ⟨fun b o _ _ h => S b o h, fun b h => (ow_cons.mp h).elim (fun z => .inr (nwN (by rw [z]; exact nx))) .inl⟩
  refine ⟨⟨fun a c hm => ?_, ?_⟩, E⟩
  · rcases List.mem_cons.mp hm with z | z
    · cases z
      exact ⟨dx, [], upd_same, .nil⟩
    · exact (ok.ok a c z).ext E fun o e => S _ _ e
  · rw [List.map_cons, List.nodup_cons]
    refine ⟨fun z => ?_, ok.nd⟩
    obtain ⟨o, e⟩ := ok.there z
    rw [nx] at e
    cases e
theorem drop_ok {H : Hp} {cs : Cs} {x : Addr} {c : Cell} (ok : CsOk H ((x, c) :: cs)) : CsOk H cs ∧ Ext (ow ((x, c) :: cs)) H (ow cs) H ∧ ¬ ow cs x ∧ CellOk H (ow cs) x c := by
  have e : Ext (ow ((x, c) :: cs)) H (ow cs) H := Ext.less fun a h => ow_cons.mpr (.inr h)
  have nd := ok.nd
  rw [List.map_cons, List.nodup_cons] at nd
  exact ⟨⟨fun a c hm => (ok.ok a c (List.mem_cons_of_mem _ hm)).ext e fun _ h => h, nd.2⟩, e, nd.1, (ok.ok x c (List.mem_cons_self ..)).ext e fun _ h => h⟩
theorem ew_make {E' : XK} {KE' : Addr → List (Str × D) → Cs → Prop} {f : Addr} (xs : Exs B E' KE') {fd : FuncData} (M : Mk X.K C f) (G : FnOk X.prog X.w X.K X.mg X.base CX n f fd ps (spF F)) (hr : Room (n + 1) X.A) (hg : Gl X x) (hm : X.mg x = some (.ref C)) (hb : L2.Binds X.K fd ps []) (hx : Passes CX X E')
    (h : AW X B (e :: es) ss fun ds s => ∀ x, F (.own x :: ds) ((x, .ins C []) :: s.cs) (fun d cs => d = .non ∧ ∃ fs cs1, cs = (x, .ins C fs) :: cs1 ∧ Q (.obj C fs) ⟨s.sl, cs1⟩) (fun Ce fs cs => ∃ c cs1, cs = (x, c) :: cs1 ∧ KE' Ce fs cs1))
    (hdb : (x == ("__debug__" : Str)) = false := by decide) (he : starEach (e :: es) X.env = (false, eval e X.env) :: starEach es X.env := by rfl) (hpl : (backTo pos (starEach es X.env)).any (·.1) = false := by rfl) : EW X B (.Call (.Name x p) (e :: es) [] pos) ss Q :=
  ⟨PEimp (pe_make M G hr hg hm hb .nil hx h.p hdb he hpl) fun σ H QQ ⟨s, k⟩ => ⟨s, fun vs ds s1 H1 q1 sat1 e1 r1 y dy ny nd ne => by
    show spF F (.ref y :: (vs ++ [])) _ _ E'
    rw [List.append_nil]
    obtain ⟨ok2, e2⟩ := made_ok (C := C) sat1.ok ny nd ne
    refine ⟨_, _, _, _, .cons (.own y) (r1.ext e2), ok2, q1 y, fun v d H' cs' q e ok rv => ?_, fun C fs cs' z vs H' q e ok hz rf => ?_⟩
    · obtain ⟨rfl, fs, cs1, rfl, q⟩ := q
      cases rv
      obtain ⟨ok3, e3, n3, c3⟩ := drop_ok ok
      obtain ⟨dz, vz, h1, h2⟩ := c3
      exact ⟨rfl, k _ _ ⟨s1.sl, cs1⟩ H' q (sat1.cs ((e2.trans e).trans e3) ok3) (e1.trans ((e2.trans e).trans e3)) (.obj h1 n3 h2)⟩
    · obtain ⟨c, cs1, rfl, q⟩ := q
      obtain ⟨ok3, e3, n3, c3⟩ := drop_ok ok
      exact xs.go sat1 q ((e2.trans e).trans e3) ok3 hz (rf.ext e3)⟩⟩
/-! ### fields -/
inductive FldOf (C : Addr) (f : Str) : D → Cs → D → Prop where
  | obj {fs : List (Str × D)} {cs : Cs} {d : D} (h : fs.lookup f = some d) : FldOf C f (.obj C fs) cs d
  | own {a : Addr} {fs : List (Str × D)} {cs : Cs} {d : D} (j : Nat) (e : cs[j]? = some (a, .ins C fs)) (h : fs.lookup f = some d) : FldOf C f (.own a) cs d
theorem ew_fld {f : Str} (hc : Cls X.K C) (hn : NoAttr X.K C f) (h : EW X B a ss fun d s => ∃ d', FldOf C f d s.cs d' ∧ Q d' s) (hb : attributeBase a f X.env (eval a X.env) = eval a X.env := by rfl) : EW X B (.Attribute a f pos) ss Q :=
  ⟨PEimp (pe_fld h.p hb) fun σ H QQ ⟨s, k⟩ => ⟨s, fun v d s1 H1 ⟨d', i, q1⟩ sat1 e1 r1 => by
    cases i with
    | obj h =>
      cases r1 with
      | obj e n r =>
        obtain ⟨u, h1, h2⟩ := r.lookup h
        exact ⟨_, C, _, _, u, rfl, e, hc, hn, h1, k _ _ s1 H1 q1 sat1 e1 h2⟩
    | own j e h =>
      cases r1
      obtain ⟨dx, vs, h1, h2⟩ := sat1.ok.ok _ _ (List.mem_of_getElem? e)
      obtain ⟨u, h3, h4⟩ := h2.lookup h
      exact ⟨_, C, _, _, u, rfl, h1, hc, hn, h3, k _ _ s1 H1 q1 sat1 e1 h4⟩⟩⟩
def putD (f : Str) (d : D) : List (Str × D) → List (Str × D)
  | [] => [(f, d)]
  | (g, e) :: r => if g = f then (f, d) :: r else (g, e) :: putD f d r
theorem map_set {cs : Cs} {j : Nat} {a : Addr} {c c' : Cell} (h : cs[j]? = some (a, c)) : (cs.set j (a, c')).map Prod.fst = cs.map Prod.fst := by
  apply List.ext_getElem?
  intro i
  rw [List.getElem?_map, List.getElem?_map]
  by_cases e : j = i
  · subst e
    rw [List.getElem?_set_self (List.getElem?_eq_some_iff.mp h).1, h]
    rfl
  · rw [List.getElem?_set_ne e]
theorem ow_set {cs : Cs} {j : Nat} {a : Addr} {c c' : Cell} (h : cs[j]? = some (a, c)) : ow (cs.set j (a, c')) = ow cs := by
  funext b
  unfold ow
  rw [map_set h]
/-- a cell is changed -/
theorem Sat.mut {σ : L2.St} {H : Hp} (s : Sat B ss σ H) {j : Nat} {a : Addr} {c c' : Cell} {u : HO} (h : ss.cs[j]? = some (a, c)) (ok : ∀ {H' : Hp}, Ext (ow ss.cs) H (ow ss.cs) H' → H' a = some u → CellOk H' (ow ss.cs) a c') :
    Sat B ⟨ss.sl, ss.cs.set j (a, c')⟩ σ (upd H a u) ∧ Ext (ow ss.cs) H (ow (ss.cs.set j (a, c'))) (upd H a u) := by
  have ma : ow ss.cs a := List.mem_map.mpr ⟨_, List.mem_of_getElem? h, rfl⟩
  have e : Ext (ow ss.cs) H (ow ss.cs) (upd H a u) := ⟨fun b o n _ q => by
    rw [upd_ne (fun z => n (by rw [z]; exact ma))]
    exact q, fun b m => .inl m⟩
  have e2 : Ext (ow ss.cs) H (ow (ss.cs.set j (a, c'))) (upd H a u) := by
    rw [ow_set h]
    exact e
  refine ⟨s.cs e2 ⟨fun b d hm => ?_, by rw [map_set h]; exact s.ok.nd⟩, e2⟩
  rw [ow_set h]
  obtain ⟨i, hi⟩ := List.getElem?_of_mem hm
  by_cases z : j = i
  · subst z
    rw [List.getElem?_set_self (List.getElem?_eq_some_iff.mp h).1] at hi
    cases hi
    exact ok e upd_same
  · rw [List.getElem?_set_ne z] at hi
    have hb : b ≠ a := fun q => by
      have n1 : (ss.cs.map Prod.fst)[i]? = some b := by rw [List.getElem?_map, hi]; rfl
      have n2 : (ss.cs.map Prod.fst)[j]? = some b := by rw [List.getElem?_map, h, q]; rfl
      have l1 := (List.getElem?_eq_some_iff.mp n1)
      have l2 := (List.getElem?_eq_some_iff.mp n2)
      obtain ⟨b1, x1⟩ := l1
      obtain ⟨b2, x2⟩ := l2
      exact z ((List.getElem_inj s.ok.nd).mp (x2.trans x1.symm))
    exact (s.ok.ok b d (List.mem_of_getElem? hi)).ext e fun o q => by rw [upd_ne hb]; exact q
theorem putF_ok {H : Hp} {M : Addr → Prop} {f : Str} {v : V} {d : D} (r : Vl H M v d) : ∀ {vs : List (Str × V)} {ds : List (Str × D)}, VlF H M vs ds → VlF H M (putF f v vs) (putD f d ds)
  | [], [], .nil => .cons r .nil
  | (g, u) :: vs, (_, e) :: ds, .cons h q => by
    unfold putF putD
    split
    · subst_vars
      exact .cons r q
    · exact .cons h (putF_ok r q)
/-- o.f = e -/
theorem s1_fld {f : Str} {pos' : Pos} (hc : Cls X.K C) (hn : NoAttr X.K C f) (h : EW X B e ss fun d s => EW X B o s fun d2 s2 => ∃ a j fs, d2 = .own a ∧ s2.cs[j]? = some (a, .ins C fs) ∧ fs.length < 1000 ∧ k.nx ⟨s2.sl, s2.cs.set j (a, .ins C (putD f d fs))⟩)
    (hs : swapsWith e (some (.Attribute o f pos')) pos.line X.env = pure false := by rfl) : S1 X B (.Assign [.Attribute o f pos'] e pos) ss k :=
  ⟨PSimp (ps_fld pe_any h.p hs) fun D σ H ⟨s, h1, _⟩ => ⟨s, fun v d s1 H1 q1 sat1 e1 r1 => ⟨_, q1.p, sat1, fun v2 d2 s2 H2 ⟨a, j, fs, q2, hj, hl, q3⟩ sat2 e2 r2 => by
    subst q2
    cases r2
    obtain ⟨dx, vs, x1, x2⟩ := sat2.ok.ok _ _ (List.mem_of_getElem? hj)
    obtain ⟨sat3, e3⟩ := sat2.mut (c' := .ins C (putD f d fs)) (u := .ins C dx (putF f v vs)) hj fun e q => ⟨dx, _, q, putF_ok ((r1.ext e2).ext e) (x2.ext e)⟩
    exact ⟨a, C, dx, vs, rfl, x1, hc, hn, by rw [x2.len]; exact hl, h1 _ _ _ q3 sat3 ((e1.trans e2).trans e3)⟩⟩⟩⟩
/-! ### subscripts, slices -/
def ixAny (X : Cx) : R2 := fun x y H Q => ∃ r, IxR X r ∧ r x y H Q
theorem ix_any : IxR X (ixAny X) := fun a b pins s σ H x y v u Q I r1 r2 ⟨_, h, q⟩ hs => h a b pins s σ H x y v u Q I r1 r2 q hs
def IxD (X : Cx) (B : Bs) (d1 d2 : D) (ss : SS) (Q : D → SS → Prop) : Prop :=
  ∀ v1 v2 σ H QQ, Sat B ss σ H → Vl H (ow ss.cs) v1 d1 → Vl H (ow ss.cs) v2 d2 → (∀ v d ss' H', Q d ss' → Sat B ss' σ H' → Ext (ow ss.cs) H (ow ss'.cs) H' → Vl H' (ow ss'.cs) v d → QQ v H') → ∃ r, IxR X r ∧ r v1 v2 H QQ
theorem ew_ix (h : EW X B a ss fun d1 s1 => EW X B b s1 fun d2 s2 => IxD X B d1 d2 s2 Q) (hs : PlainIx b := by exact fun _ _ => rfl) : EW X B (.Subscript a b pos) ss Q :=
  ⟨PEimp (pe_ix ix_any h.p pe_any hs) fun σ H QQ ⟨s, k⟩ => ⟨s, fun v1 d1 s1 H1 q1 sat1 e1 r1 => ⟨_, q1.p, sat1, fun v2 d2 s2 H2 q2 sat2 e2 r2 => (show IxD X B d1 d2 s2 Q from q2) v1 v2 σ H2 QQ sat2 (r1.ext e2) r2 fun v d s3 H3 q3 sat3 e3 r3 => k v d s3 H3 q3 sat3 ((e1.trans e2).trans e3) r3⟩⟩⟩
theorem VlL.atI {H : Hp} {M : Addr → Prop} {vs : List V} {ds : List D} (r : VlL H M vs ds) {i : Int} {d : D} (h : atI ds i = some d) : ∃ v, L2.atI vs i = some v ∧ Vl H M v d := by
  unfold L2.atI at h ⊢
  rw [r.len]
  cases q : ixN ds.length i with
  | none => rw [q] at h; cases h
  | some j =>
    rw [q] at h
    exact r.at_ h
theorem ix_lst {ds : List D} {i : Int} {d : D} (h : atI ds i = some d) (q : Q d ss) : IxD X B (.lst ds) (.int i) ss Q := fun v1 v2 σ H QQ s r1 r2 k => by
  cases r2
  cases r1 with
  | lst e n r =>
    obtain ⟨v, h1, h2⟩ := r.atI h
    exact ⟨_, ix_list, _, _, _, v, rfl, rfl, SqL.of e, h1, k _ _ _ _ q s Ext.refl h2⟩
theorem ix_tpl {ds : List D} {i : Int} {d : D} (h : atI ds i = some d) (q : Q d ss) : IxD X B (.tup ds) (.int i) ss Q := fun v1 v2 σ H QQ s r1 r2 k => by
  cases r2
  cases r1 with
  | tup e n r =>
    obtain ⟨v, h1, h2⟩ := r.atI h
    exact ⟨_, L2.ix_tup, _, _, _, v, rfl, rfl, SqT.of e, h1, k _ _ _ _ q s Ext.refl h2⟩
theorem ix_own (j : Nat) {l : Addr} {ds : List D} {i : Int} {d : D} (hj : ss.cs[j]? = some (l, .lst ds)) (h : atI ds i = some d) (q : Q d ss) : IxD X B (.own l) (.int i) ss Q := fun v1 v2 σ H QQ s r1 r2 k => by
  cases r2
  cases r1
  obtain ⟨xs, e, r⟩ := s.ok.ok _ _ (List.mem_of_getElem? hj)
  obtain ⟨v, h1, h2⟩ := r.atI h
  exact ⟨_, ix_list, _, _, _, v, rfl, rfl, SqL.of e, h1, k _ _ _ _ q s Ext.refl h2⟩
def cutD (ds : List D) (lo hi : Option Int) : List D := (ds.drop (HT.sIx ds.length 0 lo)).take (HT.sIx ds.length ds.length hi - HT.sIx ds.length 0 lo)
theorem VlL.cut {H : Hp} {M : Addr → Prop} {vs : List V} {ds : List D} (r : VlL H M vs ds) (lo hi : Option Int) : VlL H M (cutV vs lo hi) (cutD ds lo hi) := by
  unfold cutV cutD
  rw [r.len]
  exact (r.drop _).take _
/-- a part of a slice -/
def PartW (X : Cx) (B : Bs) (e : Option Expr) (ss : SS) (R : Option Int → SS → Prop) : Prop := match e with
  | none => R none ss
  | some e => EW X B e ss fun d s => ∃ i, d = .int i ∧ R (some i) s
def tP (B : Bs) (ss : SS) (R : Option Int → SS → Prop) : TO := fun σ H QQ => Sat B ss σ H ∧ ∀ o ss' H', R o ss' → Sat B ss' σ H' → Ext (ow ss.cs) H (ow ss'.cs) H' → QQ o H'
theorem PartW.po {R : Option Int → SS → Prop} {e : Option Expr} (h : PartW X B e ss R) : PO X e (tP B ss R) := by
  cases e with
  | none => exact ⟨fun pins s σ H Q I ⟨sat, k⟩ => po_none.run pins s σ H Q I (k none ss H h sat Ext.refl)⟩
  | some e => exact ⟨fun pins s σ H Q I ⟨sat, k⟩ => (po_some h.p).run pins s σ H Q I ⟨sat, fun v d s1 H1 ⟨i, e1, q⟩ sat1 x1 r1 => by
      subst e1
      cases r1
      exact ⟨i, rfl, k _ _ _ q sat1 x1⟩⟩⟩
def toAny (X : Cx) (e : Option Expr) : TO := fun σ H Q => ∃ t, PO X e t ∧ t σ H Q
theorem po_any {e : Option Expr} : PO X e (toAny X e) := ⟨fun pins s σ H Q I ⟨_, h, q⟩ => h.run pins s σ H Q I q⟩
theorem ew_sl {lo hi : Option Expr} {p2 : Pos} (h : EW X B a ss fun d s => PartW X B lo s fun i s => PartW X B hi s fun j s => ∃ ds, d = .lst ds ∧ Q (.lst (cutD ds i j)) s) : EW X B (.Subscript a (.Slice lo hi none p2) pos) ss Q :=
  ⟨PEimp (pe_slice sl_list h.p po_any po_any) fun σ H QQ ⟨s, k⟩ => ⟨s, fun v d s1 H1 q1 sat1 e1 r1 => ⟨_, PartW.po q1, sat1, fun i s2 H2 q2 sat2 e2 => ⟨_, PartW.po q2, sat2, fun j s3 H3 ⟨ds, q3, q4⟩ sat3 e3 => by
    subst q3
    have r3 := r1.ext (e2.trans e3)
    cases r3 with
    | @lst _ xs _ e n r =>
      refine ⟨_, _, rfl, SqL.of e, fun p hp => ?_⟩
      have S := Pre.Same.upd (o := .lst (cutV xs i j)) hp
      exact k _ (.lst (cutD ds i j)) s3 _ q4 (sat3.same S) (((e1.trans e2).trans e3).trans (Ext.same S)) (.lst upd_same (sat3.new hp) ((r.cut i j).ext (Ext.same S)))⟩⟩⟩⟩
/-! ### built-ins -/
def ClD (X : Cx) (B : Bs) (f : Value) (ds : List D) (ss : SS) (Q : D → SS → Prop) : Prop :=
  ∀ vs σ H QQ, Sat B ss σ H → VlL H (ow ss.cs) vs ds → (∀ v d ss' H', Q d ss' → Sat B ss' σ H' → Ext (ow ss.cs) H (ow ss'.cs) H' → Vl H' (ow ss'.cs) v d → QQ v H') → ∃ r, CallR X f r ∧ r vs H QQ
def clAny (X : Cx) (f : Value) : List V → Hp → VK → Prop := fun vs H Q => ∃ r, CallR X f r ∧ r vs H Q
theorem cl_any {f : Value} : CallR X f (clAny X f) := fun pins s σ H xs us Q I r ⟨_, h, q⟩ => h pins s σ H xs us Q I r q
theorem cl_go {f : Value} (h : AW X B es ss fun ds s => ClD X B f ds s Q) {σ : L2.St} {H : Hp} {QQ : VK} (q : tE B ss Q σ H QQ) : tCB (clAny X f) (tA B ss fun ds s => ClD X B f ds s Q) σ H QQ := by
  obtain ⟨s, k⟩ := q
  exact ⟨s, fun vs ds s1 H1 q1 sat1 e1 r1 => (show ClD X B f ds s1 Q from q1) vs σ H1 QQ sat1 r1 fun v d s2 H2 q2 sat2 e2 r2 => k v d s2 H2 q2 sat2 (e1.trans e2) r2⟩
theorem ew_callB {id : String} (hm : X.mg x = none) (hg : Gl X x) (hv : bootBuiltins x = some (.builtin id)) (h : AW X B (e :: es) ss fun ds s => ClD X B (.builtin id) ds s Q) (hn : x ≠ "__name__" := by decide) (hdb : (x == ("__debug__" : Str)) = false := by decide)
    (he : starEach (e :: es) X.env = (false, eval e X.env) :: starEach es X.env := by rfl) (hpl : (backTo pos (starEach es X.env)).any (·.1) = false := by rfl) : EW X B (.Call (.Name x p) (e :: es) [] pos) ss Q :=
  ⟨PEimp (pe_callB cl_any hg hm hv h.p hn hdb he hpl) fun _ _ _ q => cl_go h q⟩
theorem ew_callT {T : String} (hm : X.mg x = none) (hg : Gl X x) (hv : bootBuiltins x = some (.type T)) (h : AW X B (e :: es) ss fun ds s => ClD X B (.type T) ds s Q) (hn : x ≠ "__name__" := by decide) (hdb : (x == ("__debug__" : Str)) = false := by decide)
    (he : starEach (e :: es) X.env = (false, eval e X.env) :: starEach es X.env := by rfl) (hpl : (backTo pos (starEach es X.env)).any (·.1) = false := by rfl) : EW X B (.Call (.Name x p) (e :: es) [] pos) ss Q :=
  ⟨PEimp (pe_callTy cl_any hg hm hv h.p hn hdb he hpl) fun _ _ _ q => cl_go h q⟩
theorem cl_c {f : Value} {ds : List D} {d : D} (q : Q d ss) (h : ∀ H M vs, VlL H M vs ds → ∃ r v, CallR X f r ∧ Vl H M v d ∧ ∀ QQ : VK, QQ v H → r vs H QQ) : ClD X B f ds ss Q := fun vs σ H QQ s r1 k => by
  obtain ⟨r, v, ho, hv, hq⟩ := h H _ vs r1
  exact ⟨r, ho, hq QQ (k _ _ _ _ q s Ext.refl hv)⟩
theorem vl1 {H : Hp} {M : Addr → Prop} {vs : List V} {d : D} (r : VlL H M vs [d]) : ∃ v, vs = [v] ∧ Vl H M v d := by
  cases r with
  | cons h r => cases r; exact ⟨_, rfl, h⟩
theorem vl2 {H : Hp} {M : Addr → Prop} {vs : List V} {d e : D} (r : VlL H M vs [d, e]) : ∃ v u, vs = [v, u] ∧ Vl H M v d ∧ Vl H M u e := by
  cases r with
  | cons h r =>
    obtain ⟨u, rfl, r2⟩ := vl1 r
    exact ⟨_, u, rfl, h, r2⟩
theorem cl_len {ds : List D} (q : Q (.int ds.length) ss) : ClD X B (.builtin "len") [.lst ds] ss Q := cl_c q fun H M vs r => by
  obtain ⟨v, rfl, r1⟩ := vl1 r
  cases r1 with
  | lst e n r => exact ⟨_, _, call_len_seq, .int _, fun QQ q => ⟨_, _, rfl, .inl (SqL.of e), by rw [r.len]; exact q⟩⟩
theorem cl_lenT {ds : List D} (q : Q (.int ds.length) ss) : ClD X B (.builtin "len") [.tup ds] ss Q := cl_c q fun H M vs r => by
  obtain ⟨v, rfl, r1⟩ := vl1 r
  cases r1 with
  | tup e n r => exact ⟨_, _, call_len_seq, .int _, fun QQ q => ⟨_, _, rfl, .inr (SqT.of e), by rw [r.len]; exact q⟩⟩
theorem cl_lenO (j : Nat) {l : Addr} {ds : List D} (hj : ss.cs[j]? = some (l, .lst ds)) (q : Q (.int ds.length) ss) : ClD X B (.builtin "len") [.own l] ss Q := fun vs σ H QQ s r k => by
  obtain ⟨v, rfl, r1⟩ := vl1 r
  cases r1
  obtain ⟨xs, e, r⟩ := s.ok.ok _ _ (List.mem_of_getElem? hj)
  exact ⟨_, call_len_seq, _, _, rfl, .inl (SqL.of e), k _ _ _ _ (by rw [r.len]; exact q) s Ext.refl (.int _)⟩
theorem cl_lenS {z : Str} (hz : z.length ≤ sizeLine) (q : Q (.int z.length) ss) : ClD X B (.builtin "len") [.str z] ss Q := cl_c q fun H M vs r => by
  obtain ⟨v, rfl, r1⟩ := vl1 r
  cases r1
  exact ⟨_, _, call_len, .int _, fun QQ q => ⟨_, _, rfl, ⟨hz, rfl⟩, q⟩⟩
theorem cl_abs {i : Int} (q : Q (.int (if i < 0 then -i else i)) ss) : ClD X B (.builtin "abs") [.int i] ss Q := cl_c q fun H M vs r => by
  obtain ⟨v, rfl, r1⟩ := vl1 r
  cases r1
  exact ⟨_, _, call_abs, .int _, fun QQ q => ⟨_, rfl, q⟩⟩
theorem cl_int {i : Int} (q : Q (.int i) ss) : ClD X B (.type "int") [.int i] ss Q := cl_c q fun H M vs r => by
  obtain ⟨v, rfl, r1⟩ := vl1 r
  cases r1
  exact ⟨_, _, call_int1, .int _, fun QQ q => .inl ⟨_, rfl, q⟩⟩
theorem cl_intB {i : Bool} (q : Q (.int (if i then 1 else 0)) ss) : ClD X B (.type "int") [.bl i] ss Q := cl_c q fun H M vs r => by
  obtain ⟨v, rfl, r1⟩ := vl1 r
  cases r1
  exact ⟨_, _, call_int1, .int _, fun QQ q => .inr ⟨_, rfl, q⟩⟩
theorem cl_new {f : Value} {ds : List D} {d : D} (q : Q d ss) (h : ∀ H (M : Addr → Prop) vs, VlL H M vs ds → ∃ r o, CallR X f r ∧ (∀ H' p, H' p = some o → ¬ M p → Same H H' → Vl H' M (.ref p) d) ∧ ∀ QQ : VK, (∀ p, H p = none → QQ (.ref p) (upd H p o)) → r vs H QQ) : ClD X B f ds ss Q := fun vs σ H QQ s r1 k => by
  obtain ⟨r, o, ho, hv, hq⟩ := h H _ vs r1
  refine ⟨r, ho, hq QQ fun p hp => ?_⟩
  have S := Pre.Same.upd (o := o) hp
  exact k _ _ ss _ q (s.same S) (Ext.same S) (hv _ p upd_same (s.new hp) S)
theorem cl_list {ds : List D} (q : Q (.lst ds) ss) : ClD X B (.type "list") [.lst ds] ss Q := cl_new q fun H M vs r => by
  obtain ⟨v, rfl, r1⟩ := vl1 r
  cases r1 with
  | lst e n r => exact ⟨_, .lst _, call_list_of, fun H' p h1 h2 S => .lst h1 h2 (r.ext (Ext.same S)), fun QQ q => ⟨_, _, rfl, .inl (SqL.of e), q⟩⟩
theorem cl_listT {ds : List D} (q : Q (.lst ds) ss) : ClD X B (.type "list") [.tup ds] ss Q := cl_new q fun H M vs r => by
  obtain ⟨v, rfl, r1⟩ := vl1 r
  cases r1 with
  | tup e n r => exact ⟨_, .lst _, call_list_of, fun H' p h1 h2 S => .lst h1 h2 (r.ext (Ext.same S)), fun QQ q => ⟨_, _, rfl, .inr (SqT.of e), q⟩⟩
theorem cl_tuple {ds : List D} (q : Q (.tup ds) ss) : ClD X B (.type "tuple") [.lst ds] ss Q := cl_new q fun H M vs r => by
  obtain ⟨v, rfl, r1⟩ := vl1 r
  cases r1 with
  | lst e n r => exact ⟨_, .tup _, call_tuple_of, fun H' p h1 h2 S => .tup h1 h2 (r.ext (Ext.same S)), fun QQ q => ⟨_, _, rfl, .inl ⟨SqL.of e, q⟩⟩⟩
theorem cl_tupleT {ds : List D} (q : Q (.tup ds) ss) : ClD X B (.type "tuple") [.tup ds] ss Q := cl_c q fun H M vs r => by
  obtain ⟨v, rfl, r1⟩ := vl1 r
  cases r1 with
  | tup e n r => exact ⟨_, _, call_tuple_of, .tup e n r, fun QQ q => ⟨_, _, rfl, .inr ⟨SqT.of e, q⟩⟩⟩
/-! ### operators over lists and tuples -/
theorem od_new {f : Value → Value → Sem Value} {d1 d2 d : D} (q : Q d ss) (h : ∀ H (M : Addr → Prop) v1 v2, Vl H M v1 d1 → Vl H M v2 d2 → ∃ r o, OpR X f r ∧ (∀ H' p, H' p = some o → ¬ M p → Same H H' → Vl H' M (.ref p) d) ∧ ∀ QQ : VK, (∀ p, H p = none → QQ (.ref p) (upd H p o)) → r v1 v2 H QQ) : OpD X B f d1 d2 ss Q := fun v1 v2 σ H QQ s r1 r2 k => by
  obtain ⟨r, o, ho, hv, hq⟩ := h H _ v1 v2 r1 r2
  refine ⟨r, ho, hq QQ fun p hp => ?_⟩
  have S := Pre.Same.upd (o := o) hp
  exact k _ _ ss _ q (s.same S) (Ext.same S) (hv _ p upd_same (s.new hp) S)
theorem od_cat {xs ys : List D} (h : xs.length + ys.length ≤ sizeLine) (q : Q (.lst (xs ++ ys)) ss) : OpD X B (binaryOp .Add) (.lst xs) (.lst ys) ss Q := od_new q fun H M v1 v2 r1 r2 => by
  cases r1 with
  | lst e n r =>
    cases r2 with
    | lst e2 n2 r2 => exact ⟨_, .lst _, op_cat, fun H' p h1 h2 S => .lst h1 h2 ((r.app r2).ext (Ext.same S)), fun QQ q => ⟨_, _, _, _, rfl, rfl, e, e2, by rw [r.len, r2.len]; exact h, q⟩⟩
end
end Sx
set_option Elab.async false
set_option linter.all false
set_option maxRecDepth 100000
set_option maxHeartbeats 2000000
namespace Sx
open PySem PySem.Spec PyProof.Rows L2
section
variable {X : Cx} {B : Bs} {ss : SS} {Q : D → SS → Prop} {T : Bool → SS → Prop} {L : List D → SS → Prop} {k : Kt} {a b c e o : Expr} {es : List Expr} {pos p apos : Pos} {CX : CXT} {n : Nat} {x m : Str} {C : Addr} {ps : List Str} {F : FT}
/-! ### equality of data -/
mutual
def D.py : D → PyData
  | .non => .none
  | .bl b => .bool b
  | .int i => .int i
  | .str x => .str x
  | .lst xs => .list (D.pyL xs)
  | .tup xs => .tuple (D.pyL xs)
  | .obj _ _ => .none
  | .exc _ _ => .none
  | .dct0 => .dict []
  | .own _ => .none
  | .raw _ => .none
def D.pyL : List D → List PyData
  | [] => []
  | d :: ds => D.py d :: D.pyL ds
end
mutual
def D.dat : D → Bool
  | .lst xs => D.datL xs
  | .tup xs => D.datL xs
  | .obj _ _ => false
  | .exc _ _ => false
  | .dct0 => false
  | .own _ => false
  | .raw _ => false
  | _ => true
def D.datL : List D → Bool
  | [] => true
  | d :: ds => D.dat d && D.datL ds
end
mutual
theorem Vl.dp {K : PySem.W.Frag} {H : Hp} {M : Addr → Prop} : ∀ {v : V} {d : D}, Vl H M v d → d.dat = true → Dp K H v d.py
  | _, _, .non, _ => .non
  | _, _, .bl b, _ => .bl b
  | _, _, .int i, _ => .int i
  | _, _, .str x, _ => .str x
  | _, _, .lst e n r, h => .lst (SqL.of e) (VlL.dp r (by simpa only [D.dat] using h))
  | _, _, .tup e n r, h => .tup (SqT.of e) (VlL.dp r (by simpa only [D.dat] using h))
  | _, _, .obj _ _ _, h => by simp only [D.dat] at h; cases h
  | _, _, .exc _ _ _ _ _, h => by simp only [D.dat] at h; cases h
  | _, _, .dct0 _ _, h => by simp only [D.dat] at h; cases h
  | _, _, .own _, h => by simp only [D.dat] at h; cases h
  | _, _, .raw _, h => by simp only [D.dat] at h; cases h
theorem VlL.dp {K : PySem.W.Frag} {H : Hp} {M : Addr → Prop} : ∀ {vs : List V} {ds : List D}, VlL H M vs ds → D.datL ds = true → DpAll K H vs (D.pyL ds)
  | _, _, .nil, _ => .nil
  | _, _, .cons h r, q => by
    simp only [D.datL, Bool.and_eq_true] at q
    exact .cons (Vl.dp h q.1) (VlL.dp r q.2)
end
def D.ok (d : D) : Bool := d.dat && SeqAt.shaped d.py
def D.eqv (d e : D) : Bool := PyData.eqv d.py e.py
theorem od_eq (hu : X.A.units + 64 < cLine) {d1 d2 : D} (h1 : d1.ok = true) (h2 : d2.ok = true) (q : Q (.bl (D.eqv d1 d2)) ss) : OpD X B (compareOp .Eq) d1 d2 ss Q := od_c q fun H M v1 v2 r1 r2 => by
  obtain ⟨a1, a2⟩ := Bool.and_eq_true_iff.mp h1
  obtain ⟨b1, b2⟩ := Bool.and_eq_true_iff.mp h2
  exact ⟨_, _, op_eqD hu, .bl _, fun QQ q => ⟨_, _, r1.dp a1, r2.dp b1, a2, b2, q⟩⟩
theorem od_ne (hu : X.A.units + 64 < cLine) {d1 d2 : D} (h1 : d1.ok = true) (h2 : d2.ok = true) (q : Q (.bl (!D.eqv d1 d2)) ss) : OpD X B (compareOp .NotEq) d1 d2 ss Q := od_c q fun H M v1 v2 r1 r2 => by
  obtain ⟨a1, a2⟩ := Bool.and_eq_true_iff.mp h1
  obtain ⟨b1, b2⟩ := Bool.and_eq_true_iff.mp h2
  exact ⟨_, _, op_neD hu, .bl _, fun QQ q => ⟨_, _, r1.dp a1, r2.dp b1, a2, b2, q⟩⟩
/-! ### lists that grow -/
def insAt : Nat → Cs → Addr × Cell → Cs
  | 0, cs, c => c :: cs
  | _ + 1, [], c => [c]
  | j + 1, a :: r, c => a :: insAt j r c
theorem mem_insAt {j : Nat} {cs : Cs} {c d : Addr × Cell} : d ∈ insAt j cs c ↔ d = c ∨ d ∈ cs := by
  induction j generalizing cs with
  | zero => simp [insAt]
  | succ j ih =>
    cases cs with
    | nil => simp [insAt]
    | cons a r =>
      simp only [insAt, List.mem_cons, ih]
      constructor
      · rintro (h | h | h)
        · exact .inr (.inl h)
        · exact .inl h
        · exact .inr (.inr h)
      · rintro (h | h | h)
        · exact .inr (.inl h)
        · exact .inl h
        · exact .inr (.inr h)
theorem ow_insAt {j : Nat} {cs : Cs} {x : Addr} {c : Cell} {b : Addr} : ow (insAt j cs (x, c)) b ↔ b = x ∨ ow cs b := by
  unfold ow
  simp only [List.mem_map]
  constructor
  · rintro ⟨d, hd, rfl⟩
    rcases mem_insAt.mp hd with rfl | h
    · exact .inl rfl
    · exact .inr ⟨d, h, rfl⟩
  · rintro (rfl | ⟨d, hd, rfl⟩)
    · exact ⟨_, mem_insAt.mpr (.inl rfl), rfl⟩
    · exact ⟨d, mem_insAt.mpr (.inr hd), rfl⟩
theorem nd_insAt {j : Nat} {cs : Cs} {x : Addr} {c : Cell} (h : (cs.map Prod.fst).Nodup) (n : ¬ ow cs x) : ((insAt j cs (x, c)).map Prod.fst).Nodup := by
  induction j generalizing cs with
  | zero =>
    show ((x, c) :: cs |>.map Prod.fst).Nodup
    rw [List.map_cons, List.nodup_cons]
    exact ⟨n, h⟩
  | succ j ih =>
    cases cs with
    | nil => exact List.nodup_cons.mpr ⟨by simp, List.nodup_nil⟩
    | cons a r =>
      obtain ⟨a, ca⟩ := a
      rw [List.map_cons, List.nodup_cons] at h
      show (List.map Prod.fst ((a, ca) :: insAt j r (x, c))).Nodup
      rw [List.map_cons, List.nodup_cons]
      refine ⟨fun z => ?_, ih h.2 fun z => n (ow_cons.mpr (.inr z))⟩
      rcases ow_insAt.mp (show ow (insAt j r (x, c)) a from z) with e | e
      · exact n (ow_cons.mpr (.inl e.symm))
      · exact h.1 e
/-- a new cell -/
theorem CsOk.ins {H H' : Hp} {cs : Cs} {x : Addr} {c : Cell} (ok : CsOk H cs) (j : Nat) (nx : H x = none) (S : Same H H') (hc : ∀ M, (∀ b, M b ↔ b = x ∨ ow cs b) → Ext (ow cs) H M H' → CellOk H' M x c) :
    CsOk H' (insAt j cs (x, c)) ∧ Ext (ow cs) H (ow (insAt j cs (x, c))) H' := by
  have e : Ext (ow cs) H (ow (insAt j cs (x, c))) H' := ⟨fun b o _ _ h => S b o h, fun b h => (ow_insAt.mp h).elim (fun z => .inr (nwN (by rw [z]; exact nx))) .inl⟩
  refine ⟨⟨fun a d hm => ?_, nd_insAt ok.nd fun z => ?_⟩, e⟩
  · rcases mem_insAt.mp hm with z | z
    · cases z
      exact hc _ (fun b => ow_insAt) e
    · exact (ok.ok a d z).ext e fun o q => S _ _ q
  · obtain ⟨o, q⟩ := ok.there z
    rw [nx] at q
    cases q
/-- [..], the list to be changed later: a cell, put in at j -/
theorem ew_lstO (j : Nat) (h : AW X B es ss fun ds s => ds.length ≤ sizeLine ∧ ∀ l, Q (.own l) ⟨s.sl, insAt j s.cs (l, Cell.lst ds)⟩) : EW X B (.List es pos) ss Q :=
  ⟨PEimp (pe_lst h.p) fun σ H QQ ⟨s, k⟩ => ⟨s, fun vs ds s1 H1 q1 sat1 e1 r1 => ⟨by rw [r1.len]; exact q1.1, fun p hp => by
    have S := Pre.Same.upd (o := .lst vs) hp
    obtain ⟨ok, e2⟩ := sat1.ok.ins (c := Cell.lst ds) j hp S fun M hM e => ⟨vs, upd_same, r1.ext e⟩
    exact k _ (.own p) ⟨s1.sl, _⟩ _ (q1.2 p) (sat1.cs e2 ok) (e1.trans e2) (.own p)⟩⟩⟩
/-- l.append(e) -/
theorem ew_append {apos : Pos} (h : EW X B o ss fun d s => ∃ (l : Addr) (j : Nat) (ds : List D), d = .own l ∧ s.cs[j]? = some (l, Cell.lst ds) ∧ EW X B e s fun d2 s2 => ∃ (j2 : Nat) (ds2 : List D), s2.cs[j2]? = some (l, Cell.lst ds2) ∧ ds2.length < sizeLine ∧ Q .non ⟨s2.sl, s2.cs.set j2 (l, Cell.lst (ds2 ++ [d2]))⟩)
    (hbase : attributeBase o ("append" : Str) X.env (eval o X.env) = eval o X.env := by rfl)
    (hfew : ((backTo pos (starEach [e] X.env)).all (fun x => !x.1) && (backToKw pos (keywordEach [] X.env)).all (fun x => x.1.isSome)
      && decide (([e] : List Expr).length + ([] : List Keyword).length + (if ([] : List Keyword).isEmpty then 0 else 1) < 30)) = true := by rfl)
    (hline : (apos.endLine == pos.line) = true := by rfl) (hs : starEach [e] X.env = (false, eval e X.env) :: starEach [] X.env := by rfl) (hplain : (backTo pos (starEach [] X.env)).any (·.1) = false := by rfl) :
    EW X B (.Call (.Attribute o "append" apos) [e] [] pos) ss Q := by
  refine ⟨PEimp (pe_bm PySem.F.plainAttrs_list PySem.F.slot_list_append PySem.F.type_list_append mt_append h.p (pa_cons (pe_any (e := e)) pa_nil hs) hbase hfew hline hs hplain) fun σ H QQ ⟨s, k⟩ => ⟨s, fun v d s1 H1 q1 sat1 e1 r1 => ?_⟩⟩
  obtain ⟨l, j, ds, rfl, hj, q2⟩ := q1
  cases r1
  obtain ⟨xs, x1, x2⟩ := sat1.ok.ok _ _ (List.mem_of_getElem? hj)
  refine ⟨.inl ⟨rfl, _, SqL.of x1⟩, _, q2.p, sat1, fun v2 d2 s2 H2 ⟨j2, ds2, h1, h2, h3⟩ sat2 e2 r2 => ?_⟩
  obtain ⟨ys, y1, y2⟩ := sat2.ok.ok _ _ (List.mem_of_getElem? h1)
  obtain ⟨sat3, e3⟩ := sat2.mut (c' := Cell.lst (ds2 ++ [d2])) (u := .lst (ys ++ [v2])) h1 fun e q => ⟨_, q, (y2.ext e).app (.cons (r2.ext e) .nil)⟩
  exact ⟨l, ys, v2, rfl, rfl, y1, by rw [y2.len]; exact h2, k _ _ _ _ h3 sat3 ((e1.trans e2).trans e3) .non⟩
/-- the cell at j changes no more: the name i holds the list itself -/
theorem eraseIdx_mem {cs : Cs} {j : Nat} {c : Addr × Cell} (h : c ∈ cs.eraseIdx j) : c ∈ cs := List.mem_of_mem_eraseIdx h
theorem map_erase : ∀ (cs : Cs) (j : Nat), (cs.eraseIdx j).map Prod.fst = (cs.map Prod.fst).eraseIdx j
  | [], _ => by simp
  | a :: r, 0 => by simp
  | a :: r, j + 1 => by
    rw [List.eraseIdx_cons_succ, List.map_cons, List.map_cons, List.eraseIdx_cons_succ, map_erase r j]
theorem nd_erase {cs : Cs} (h : (cs.map Prod.fst).Nodup) (j : Nat) : ((cs.eraseIdx j).map Prod.fst).Nodup := by
  rw [map_erase]
  exact h.sublist (List.eraseIdx_sublist ..)
theorem erase_ok {H : Hp} {cs : Cs} {j : Nat} {l : Addr} {c : Cell} (ok : CsOk H cs) (h : cs[j]? = some (l, c)) : CsOk H (cs.eraseIdx j) ∧ Ext (ow cs) H (ow (cs.eraseIdx j)) H ∧ ¬ ow (cs.eraseIdx j) l ∧ CellOk H (ow (cs.eraseIdx j)) l c := by
  have e : Ext (ow cs) H (ow (cs.eraseIdx j)) H := Ext.less fun a hm => by
    obtain ⟨d, hd, rfl⟩ := List.mem_map.mp hm
    exact List.mem_map.mpr ⟨d, eraseIdx_mem hd, rfl⟩
  refine ⟨⟨fun a c hm => (ok.ok a c (eraseIdx_mem hm)).ext e fun _ q => q, nd_erase ok.nd j⟩, e, fun z => ?_, (ok.ok _ _ (List.mem_of_getElem? h)).ext e fun _ q => q⟩
  obtain ⟨hj, hv⟩ := List.getElem?_eq_some_iff.mp h
  have n := ok.nd
  have z2 : l ∈ (cs.map Prod.fst).eraseIdx j := by
    rw [← map_erase]
    exact z
  obtain ⟨i, hi⟩ := List.mem_iff_getElem?.mp z2
  rw [List.getElem?_eraseIdx] at hi
  have hl : (cs.map Prod.fst)[j]? = some l := by rw [List.getElem?_map, h]; rfl
  obtain ⟨b1, x1⟩ := List.getElem?_eq_some_iff.mp hl
  split at hi
  · obtain ⟨b2, x2⟩ := List.getElem?_eq_some_iff.mp hi
    have := (List.getElem_inj n).mp (x2.trans x1.symm)
    omega
  · obtain ⟨b2, x2⟩ := List.getElem?_eq_some_iff.mp hi
    have := (List.getElem_inj n).mp (x2.trans x1.symm)
    omega
theorem sat_freeze {σ : L2.St} {H : Hp} (s : Sat B ss σ H) {j i : Nat} {l : Addr} {ds : List D} (h : ss.cs[j]? = some (l, Cell.lst ds)) (hi : ss.sl[i]? = some (some (.own l))) : Sat B ⟨ss.sl.set i (some (.lst ds)), ss.cs.eraseIdx j⟩ σ H := by
  obtain ⟨ok, e, n, xs, x1, x2⟩ := erase_ok s.ok h
  have s2 := s.cs e ok
  obtain ⟨v, v1, v2⟩ := s.sl _ _ hi
  cases v2
  have s3 := s2.set (i := i) (v := .ref l) (d := .lst ds) (.lst x1 n x2)
  have e2 : σ.set i (some (V.ref l)) = σ := by
    apply List.ext_getElem?
    intro t
    by_cases z : i = t
    · subst z
      rw [v1, List.getElem?_set_self (List.getElem?_eq_some_iff.mp v1).1]
    · rw [List.getElem?_set_ne z]
  rw [e2] at s3
  exact s3
theorem sw_freeze {sts : List Stmt} (j i : Nat) {l : Addr} {ds : List D} (h : ss.cs[j]? = some (l, Cell.lst ds)) (hi : ss.sl[i]? = some (some (.own l))) (w : SW X B sts ⟨ss.sl.set i (some (.lst ds)), ss.cs.eraseIdx j⟩ k) : SW X B sts ss k :=
  sw_re (fun σ H s => ⟨sat_freeze s h hi, fun a hm => by
    obtain ⟨d, hd, rfl⟩ := List.mem_map.mp hm
    exact List.mem_map.mpr ⟨d, eraseIdx_mem hd, rfl⟩⟩) w
/-- the state forgets: a slot's data that s2 tells, ss tells the same -/
theorem sat_less {σ : L2.St} {H : Hp} (s : Sat B ss σ H) {sl : List (Option D)} (hl : sl.length = ss.sl.length) (h : ∀ (i : Nat) (d : D), sl[i]? = some (some d) → ss.sl[i]? = some (some d)) : Sat B ⟨sl, ss.cs⟩ σ H :=
  ⟨by rw [hl]; exact s.len, fun i d e => s.sl i d (h i d e), s.ok, s.ext, s.bok⟩
/-- more draws may have been made -/
theorem sat_pen {σ : L2.St} {H : Hp} {sl : List (Option D)} {p : Addr} {ns : List Int} {k1 k2 : Int} {cs : Cs} (s : Sat B ⟨sl, (p, Cell.pen ns k1) :: cs⟩ σ H) (h : k1 ≤ k2) : Sat B ⟨sl, (p, Cell.pen ns k2) :: cs⟩ σ H := by
  have eo : ow ((p, Cell.pen ns k1) :: cs) = ow ((p, Cell.pen ns k2) :: cs) := by
    funext b
    unfold ow
    rfl
  have e : Ext (ow ((p, Cell.pen ns k1) :: cs)) H (ow ((p, Cell.pen ns k2) :: cs)) H := Ext.less fun a h => h
  refine ⟨s.len, fun i d h => s.sl i d h, ⟨fun a c hm => ?_, s.ok.nd⟩, s.ext, s.bok⟩
  rcases List.mem_cons.mp hm with z | z
  · cases z
    obtain ⟨b, t, g, h1, h2, h3, h4, h5, h6, h7⟩ := s.ok.ok p _ (List.mem_cons_self ..)
    exact ⟨b, t, g, h1, h2, h3, h4, h5, Int.le_trans h6 h, h7⟩
  · exact s.ok.ok a c (List.mem_cons_of_mem _ z)
theorem sw_pen {sts : List Stmt} {sl : List (Option D)} {p : Addr} {ns : List Int} {k1 k2 : Int} {cs : Cs} (h : k1 ≤ k2) (w : SW X B sts ⟨sl, (p, Cell.pen ns k2) :: cs⟩ k) : SW X B sts ⟨sl, (p, Cell.pen ns k1) :: cs⟩ k := sw_re (fun σ H s => ⟨sat_pen s h, fun a m => m⟩) w
/-! ### targets -/
def gAny (X : Cx) (t : Expr) : TG := fun v σ H Q => ∃ g, PG X t g ∧ g v σ H Q
theorem pg_any {t : Expr} : PG X t (gAny X t) := ⟨fun pins s σ H v u Q I r ⟨_, h, q⟩ => h.run pins s σ H v u Q I r q⟩
def gsAny (X : Cx) (t : List Expr) : TGs := fun v σ H Q => ∃ g, PGs X t g ∧ g v σ H Q
theorem pgs_any {t : List Expr} : PGs X t (gsAny X t) := ⟨fun pins s σ H v u Q I r ⟨_, h, q⟩ => h.run pins s σ H v u Q I r q⟩
/-- the slots but vs stay -/
def Outs (vs : List Nat) (σ σ' : L2.St) : Prop := σ'.length = σ.length ∧ ∀ i, i ∉ vs → σ'[i]? = σ[i]?
theorem Outs.refl {vs : List Nat} {σ : L2.St} : Outs vs σ σ := ⟨rfl, fun _ _ => rfl⟩
theorem Outs.trans {vs : List Nat} {σ σ1 σ2 : L2.St} (a : Outs vs σ σ1) (b : Outs vs σ1 σ2) : Outs vs σ σ2 := ⟨b.1.trans a.1, fun i h => (b.2 i h).trans (a.2 i h)⟩
def tG (B : Bs) (ss : SS) (d : D) (vs : List Nat) (R : SS → Prop) : TG := fun v σ H QQ => Sat B ss σ H ∧ Vl H (ow ss.cs) v d ∧ ∀ ss' σ', R ss' → ss'.cs = ss.cs → Sat B ss' σ' H → Outs vs σ σ' → QQ σ' H
def tGs (B : Bs) (ss : SS) (ds : List D) (vs : List Nat) (R : SS → Prop) : TGs := fun us σ H QQ => Sat B ss σ H ∧ VlL H (ow ss.cs) us ds ∧ ∀ ss' σ', R ss' → ss'.cs = ss.cs → Sat B ss' σ' H → Outs vs σ σ' → QQ σ' H
structure TgW (X : Cx) (B : Bs) (t : Expr) (d : D) (vs : List Nat) (ss : SS) (R : SS → Prop) : Prop where
  p : PG X t (tG B ss d vs R)
structure TgsW (X : Cx) (B : Bs) (t : List Expr) (ds : List D) (vs : List Nat) (ss : SS) (R : SS → Prop) : Prop where
  p : PGs X t (tGs B ss ds vs R)
theorem PGimp {t : Expr} {g g' : TG} (h : PG X t g) (i : ∀ v σ H Q, g' v σ H Q → g v σ H Q) : PG X t g' := ⟨fun pins s σ H v u Q I r q => h.run pins s σ H v u Q I r (i v σ H Q q)⟩
theorem PGsimp {t : List Expr} {g g' : TGs} (h : PGs X t g) (i : ∀ v σ H Q, g' v σ H Q → g v σ H Q) : PGs X t g' := ⟨fun pins s σ H v u Q I r q => h.run pins s σ H v u Q I r (i v σ H Q q)⟩
theorem outs_set {vs : List Nat} {σ : L2.St} {i : Nat} {v : Option V} (h : i ∈ vs) : Outs vs σ (σ.set i v) := ⟨List.length_set .., fun j hj => by rw [List.getElem?_set_ne (fun z => hj (by rw [← z]; exact h))]⟩
theorem tg_name (i : Nat) {d : D} {vs : List Nat} {R : SS → Prop} (hN : X.N.Nodup) (hi : X.N[i]? = some x) (hx : Loc X.env.scope x) (q : R ⟨ss.sl.set i (some d), ss.cs⟩) (hvs : i ∈ vs := by decide)
    (hf : X.fn x = true ∨ X.env.scope.names.lookup x = some .local := by first | exact .inl rfl | exact .inr rfl | assumption) : TgW X B (.Name x pos) d vs ss R :=
  ⟨PGimp (pg_name (i := i) hN hi hx hf) fun v σ H QQ ⟨s, r, k⟩ => k _ _ q rfl (s.set r) (outs_set hvs)⟩
theorem tgs_nil {vs : List Nat} {R : SS → Prop} (q : R ss) : TgsW X B [] [] vs ss R := ⟨PGsimp pgs_nil fun us σ H QQ ⟨s, r, k⟩ => by
  cases r
  exact ⟨rfl, k _ _ q rfl s .refl⟩⟩
theorem tgs_cons {t : Expr} {ts : List Expr} {d : D} {ds : List D} {vs : List Nat} {R : SS → Prop} (h : TgW X B t d vs ss fun s => TgsW X B ts ds vs s R) (hs : (assignEach (t :: ts) X.env).map (·.2) = assign t X.env :: (assignEach ts X.env).map (·.2) := by rfl) : TgsW X B (t :: ts) (d :: ds) vs ss R :=
  ⟨PGsimp (pgs_cons h.p pgs_any hs) fun us σ H QQ ⟨s, r, k⟩ => by
    cases r with
    | cons h1 r1 =>
      exact ⟨_, _, rfl, s, h1, fun ss1 σ1 q1 e1 sat1 o1 => ⟨_, q1.p, sat1, by rw [e1]; exact r1, fun ss2 σ2 q2 e2 sat2 o2 => k ss2 σ2 q2 (e2.trans e1) sat2 (o1.trans o2)⟩⟩⟩
theorem tg_tup {ts : List Expr} {j : Nat} {ds : List D} {vs : List Nat} {R : SS → Prop} (hc : X.calm = true) (h : TgsW X B ts ds vs ss R) (hn : ts.length = ds.length := by rfl) 
    (hl : ∀ g : TGs, PGs X ts g → PG X (.Tuple ts j pos) (gTup X.K ts.length g) := by exact fun _ h => pg_tup rfl h) : TgW X B (.Tuple ts j pos) (.tup ds) vs ss R :=
  ⟨PGimp (hl _ h.p) fun v σ H QQ ⟨s, r, k⟩ => by
    cases r with
    | tup e n r => exact ⟨_, _, rfl, SqT.of e, by rw [r.len, hn], s, r, k⟩⟩
/-- a, b = e -/
theorem s1_asg {tg : Expr} {vs : List Nat} (h : EW X B e ss fun d s => TgW X B tg d vs s k.nx) (hs : swapsWithSole [tg] e pos.line X.env = pure false := by rfl) (hw : swappedStores [tg] e X.env = pure none := by rfl) (ht : (assignEach [tg] X.env).map (·.2) = [assign tg X.env] := by rfl) : S1 X B (.Assign [tg] e pos) ss k :=
  ⟨PSimp (ps_asg h.p pg_any hs hw ht) fun D σ H ⟨s, h1, _⟩ => ⟨s, fun v d s1 H1 q1 sat1 e1 r1 => ⟨_, q1.p, sat1, r1, fun ss2 σ2 q2 e2 sat2 _ => h1 ss2 σ2 H1 q2 sat2 (by rw [e2]; exact e1)⟩⟩⟩
/-! ### loops -/
def piAny (X : Cx) (tg iter : Expr) : TI := fun σ H R => ∃ w, PI X tg iter w ∧ w σ H R
/-- what is walked: a list, a tuple of data, a range -/
inductive Walked (ds : List D) : D → Prop where
  | lst : Walked ds (.lst ds)
  | tup : Walked ds (.tup ds)
theorem s1_forL {tg it : Expr} {body : List Stmt} (vs : List Nat) (hp : PassesOwn (model X.prog X.w) X.A X.env X.xe) (hc : X.calm = true)
    (h : EW X B it ss fun d s => ∃ ds, d = .lst ds ∧ ∃ Iv : Nat → SS → Prop, Iv 0 s ∧ (∀ j dj s', ds[j]? = some dj → Iv j s' → TgW X B tg dj vs s' fun s2 => SW X B body s2 { nx := Iv (j + 1), rt := k.rt, bk := k.nx, ct := Iv (j + 1) }) ∧ ∀ s', Iv ds.length s' → k.nx s')
    (hs : ∀ x, foldedSetIterable it X.env x = pure x := by intro _; rfl) : S1 X B (.For tg it body [] pos) ss k :=
  ⟨PSimp (ps_for hp hc (pi_list h.p) pg_any pss_any hs) fun D σ H ⟨s, h1, h2, h3, h4⟩ => ⟨s, fun v d s1 H1 ⟨ds, q1, Iv, i0, i1, i2⟩ sat1 e1 r1 => by
    subst q1
    cases r1 with
    | @lst a xs _ ea n r =>
      refine ⟨a, rfl, ⟨xs, SqL.of ea⟩, for_list (xs := xs) (fun i σ' H' => ∃ s', Iv i s' ∧ Sat B s' σ' H' ∧ Ext (ow s1.cs) H1 (ow s'.cs) H') ⟨s1, i0, sat1, Ext.refl⟩ (fun i σ' H' _ ⟨s', _, _, e'⟩ => SqL.of (e'.kp _ _ n ntL ea)) (fun i y σ' H' hy ⟨s', q', sat', e'⟩ => ?_) fun σ' H' ⟨s', q', sat', e'⟩ => h1 s' σ' H' (i2 s' (by rw [r.len] at q'; exact q')) sat' (e1.trans e')⟩
      obtain ⟨dj, hd, rd⟩ := r.back hy
      refine ⟨_, (i1 i dj s' hd q').p, sat', rd.ext e', fun s2 σ2 q2 c2 sat2 _ => ⟨_, q2.p, sat2, fun s3 σ3 H3 q3 sat3 e3 => ?_, fun v d s3 σ3 H3 q3 sat3 e3 r3 => ?_, fun s3 σ3 H3 q3 sat3 e3 => ?_, fun s3 σ3 H3 q3 sat3 e3 => ?_⟩⟩
      · exact ⟨s3, q3, sat3, e'.trans (by rw [c2] at e3; exact e3)⟩
      · exact h2 v d s3 σ3 H3 q3 sat3 ((e1.trans e').trans (by rw [c2] at e3; exact e3)) r3
      · exact h1 s3 σ3 H3 q3 sat3 ((e1.trans e').trans (by rw [c2] at e3; exact e3))
      · exact ⟨s3, q3, sat3, e'.trans (by rw [c2] at e3; exact e3)⟩⟩⟩
theorem s1_forT {tg it : Expr} {body : List Stmt} (vs : List Nat) (hp : PassesOwn (model X.prog X.w) X.A X.env X.xe) (hc : X.calm = true)
    (h : EW X B it ss fun d s => ∃ ds, d = .tup ds ∧ ∃ Iv : Nat → SS → Prop, Iv 0 s ∧ (∀ j dj s', ds[j]? = some dj → Iv j s' → TgW X B tg dj vs s' fun s2 => SW X B body s2 { nx := Iv (j + 1), rt := k.rt, bk := k.nx, ct := Iv (j + 1) }) ∧ ∀ s', Iv ds.length s' → k.nx s')
    (hs : ∀ x, foldedSetIterable it X.env x = pure x := by intro _; rfl) : S1 X B (.For tg it body [] pos) ss k :=
  ⟨PSimp (ps_for hp hc (pi_tup h.p) pg_any pss_any hs) fun D σ H ⟨s, h1, h2, h3, h4⟩ => ⟨s, fun v d s1 H1 ⟨ds, q1, Iv, i0, i1, i2⟩ sat1 e1 r1 => by
    subst q1
    cases r1 with
    | @tup a xs _ ea n r =>
      refine ⟨a, rfl, ⟨xs, SqT.of ea⟩, for_tup (xs := xs) (fun i σ' H' => ∃ s', Iv i s' ∧ Sat B s' σ' H' ∧ Ext (ow s1.cs) H1 (ow s'.cs) H') ⟨s1, i0, sat1, Ext.refl⟩ (fun i σ' H' _ ⟨s', _, _, e'⟩ => SqT.of (e'.kp _ _ n ntT ea)) (fun i y σ' H' hy ⟨s', q', sat', e'⟩ => ?_) fun σ' H' ⟨s', q', sat', e'⟩ => h1 s' σ' H' (i2 s' (by rw [r.len] at q'; exact q')) sat' (e1.trans e')⟩
      obtain ⟨dj, hd, rd⟩ := r.back hy
      refine ⟨_, (i1 i dj s' hd q').p, sat', rd.ext e', fun s2 σ2 q2 c2 sat2 _ => ⟨_, q2.p, sat2, fun s3 σ3 H3 q3 sat3 e3 => ?_, fun v d s3 σ3 H3 q3 sat3 e3 r3 => ?_, fun s3 σ3 H3 q3 sat3 e3 => ?_, fun s3 σ3 H3 q3 sat3 e3 => ?_⟩⟩
      · exact ⟨s3, q3, sat3, e'.trans (by rw [c2] at e3; exact e3)⟩
      · exact h2 v d s3 σ3 H3 q3 sat3 ((e1.trans e').trans (by rw [c2] at e3; exact e3)) r3
      · exact h1 s3 σ3 H3 q3 sat3 ((e1.trans e').trans (by rw [c2] at e3; exact e3))
      · exact ⟨s3, q3, sat3, e'.trans (by rw [c2] at e3; exact e3)⟩⟩⟩
/-- for i in range(e) -/
theorem s1_forR {tg e : Expr} {body : List Stmt} {rp rpos : Pos} (vs : List Nat) (hp : PassesOwn (model X.prog X.w) X.A X.env X.xe) (hc : X.calm = true) (hg : Gl X "range") (hm : X.mg "range" = none)
    (h : EW X B e ss fun d s => ∃ n : Int, d = .int n ∧ (-(2 ^ 62) ≤ n ∧ n < 2 ^ 62) ∧ ∃ Iv : Nat → SS → Prop, Iv 0 s ∧ (∀ (j : Nat) s', (j : Int) < n → Iv j s' → TgW X B tg (.int (0 + j)) vs s' fun s2 => SW X B body s2 { nx := Iv (j + 1), rt := k.rt, bk := k.nx, ct := Iv (j + 1) }) ∧ ∀ s', Iv n.toNat s' → k.nx s')
    (hse : starEach [e] X.env = [(false, eval e X.env)] := by rfl)
    (hs : ∀ x, foldedSetIterable (.Call (.Name "range" rp) [e] [] rpos) X.env x = pure x := by intro _; rfl) : S1 X B (.For tg (.Call (.Name "range" rp) [e] [] rpos) body [] pos) ss k :=
  ⟨PSimp (ps_for hp hc (pi_range1 hg hm (pa_cons h.p pa_nil hse) hse) pg_any pss_any hs) fun D σ H ⟨s, h1, h2, h3, h4⟩ => ⟨s, fun v d s1 H1 ⟨n, q1, ⟨n1, n2⟩, Iv, i0, i1, i2⟩ sat1 e1 r1 => by
    subst q1
    cases r1
    refine ⟨n, rfl, n1, n2, for_range (lo := 0) (n := n.toNat) (fun i σ' H' => ∃ s', Iv i s' ∧ Sat B s' σ' H' ∧ Ext (ow s1.cs) H1 (ow s'.cs) H') ⟨s1, i0, sat1, Ext.refl⟩ (fun i σ' H' hi ⟨s', q', sat', e'⟩ => ?_) fun σ' H' ⟨s', q', sat', e'⟩ => h1 s' σ' H' (i2 s' q') sat' (e1.trans e')⟩
    refine ⟨_, (i1 i s' (by omega) q').p, sat', .int _, fun s2 σ2 q2 c2 sat2 _ => ⟨_, q2.p, sat2, fun s3 σ3 H3 q3 sat3 e3 => ?_, fun v d s3 σ3 H3 q3 sat3 e3 r3 => ?_, fun s3 σ3 H3 q3 sat3 e3 => ?_, fun s3 σ3 H3 q3 sat3 e3 => ?_⟩⟩
    · exact ⟨s3, q3, sat3, e'.trans (by rw [c2] at e3; exact e3)⟩
    · exact h2 v d s3 σ3 H3 q3 sat3 ((e1.trans e').trans (by rw [c2] at e3; exact e3)) r3
    · exact h1 s3 σ3 H3 q3 sat3 ((e1.trans e').trans (by rw [c2] at e3; exact e3))
    · exact ⟨s3, q3, sat3, e'.trans (by rw [c2] at e3; exact e3)⟩⟩⟩
end
end Sx
set_option Elab.async false
set_option linter.all false
set_option maxRecDepth 100000
set_option maxHeartbeats 2000000
/-! enumerate(t), t a tuple. -/
namespace Enu
open PySem
open AutoSeq1 (wpAny_loadPart')
theorem newT (l : Addr) (items : Array Value) (n : Nat) (dct : Option Addr) (sl : Array (Option Value)) :
    Meets (Builtin.«enumerate.__new__» ⟨[.type "enumerate", .ref l], []⟩) (fun _ R s => s.heap.get? l = some ({ cls := .type "tuple", dict := dct, data := .seq items n, slots := sl } : Obj) ∧
      R (.ok (.ret (.ref (s.heap.push ({ cls := .type "tuple_iterator", data := .fields #[.ref l, .int 0 0] } : Obj)).objs.size)))
        { s with heap := (s.heap.push ({ cls := .type "tuple_iterator", data := .fields #[.ref l, .int 0 0] } : Obj)).push ({ cls := .type "enumerate", data := .fields #[.none, .bool false, .ref s.heap.objs.size, rawInt 0, .none, .none] } : Obj) }) :=
  .of_wp fun prog w A R s h => by
    obtain ⟨hp, g, d, tk, os⟩ := s
    obtain ⟨hl, h⟩ := h
    have hsub := sub_enumerate
    have hL : Heap.IsTuple (Shared.heap ⟨hp, g, d, tk, os⟩) l items := ⟨_, hl, rfl, n, rfl⟩
    wp_walk using wpAny_loadPart' hl
    refine (wpAny_stack_any fun st => (wpAny_pure ?_))
    split
    · rename_i c _ _ _ _ _
      cases (c == Value.type "enumerate")
      · wp_walk using wpAny_loadPart' hl, wpAny_pyIter_tuple hL
        exact ⟨_, rfl, h⟩
      · wp_walk using wpAny_loadPart' hl, wpAny_pyIter_tuple hL
        exact ⟨_, rfl, h⟩
    · wp_walk using wpAny_loadPart' hl, wpAny_pyIter_tuple hL
      exact ⟨_, rfl, h⟩
theorem call_enumT {prog : Program} {w : World} {A : Around} {E : Value → Shared → Prop} {s : Shared} {l : Addr} {items : Array Value} {Q : Value → Shared → Prop} (hL : s.heap.IsTuple l items)
    (h : ∀ h', IsEnum h' (s.heap.objs.size + 1) s.heap.objs.size 0 .none → h'.IsTupleIter s.heap.objs.size l 0 → (∀ b o, s.heap.get? b = some o → h'.get? b = some o) → Q (.ref (s.heap.objs.size + 1)) { s with heap := h' }) :
    wpAny (model prog w) A (call (.type "enumerate") [.ref l]) Q E s := by
  obtain ⟨⟨c, dct, dt, sl⟩, hl, hc, n, hd⟩ := hL
  obtain rfl : c = .type "tuple" := hc
  obtain rfl : dt = .seq items n := hd
  refine callType_new F.called_enumerate (by decide) (F.typeCall_enumerate_1 _) (F.newCall_enumerate_1 _) (fun obj => F.args_object_init_2 obj _) F.entry_enumerate_new (newT l items n dct sl) ⟨hl, ?_⟩
  have hz : (s.heap.push ({ cls := .type "tuple_iterator", data := .fields #[.ref l, .int 0 0] } : Obj)).objs.size = s.heap.objs.size + 1 := Heap.size_push ..
  show _ ∧ _
  rw [hz]
  have he : IsEnum ((s.heap.push ({ cls := .type "tuple_iterator", data := .fields #[.ref l, .int 0 0] } : Obj)).push
      ({ cls := .type "enumerate", data := .fields #[.none, .bool false, .ref s.heap.objs.size, rawInt 0, .none, .none] } : Obj)) (s.heap.objs.size + 1) s.heap.objs.size 0 .none := by
    have z := Heap.get?_push_size (s.heap.push ({ cls := .type "tuple_iterator", data := .fields #[.ref l, .int 0 0] } : Obj))
      (o := ({ cls := .type "enumerate", data := .fields #[.none, .bool false, .ref s.heap.objs.size, rawInt 0, .none, .none] } : Obj)) rfl
    rw [hz] at z
    exact z
  exact ⟨⟨_, he, rfl⟩, h _ he ⟨_, Heap.get?_push_of_some _ (Heap.get?_push_size _ rfl), rfl, rfl⟩ fun b o x => Heap.get?_push_of_some _ (Heap.get?_push_of_some _ x)⟩
end Enu
namespace Enu
open PySem PySem.Spec PyProof.Rows L2
/-- the tuple at a, each item in a new pair with its place -/
def IteT (K : PySem.W.Frag) (a : Addr) : It :=
  ⟨fun i H => ∃ (xs : List V) (x : V), SqT K H a xs ∧ xs[i]? = some x, fun i H v H' => ∃ T x, v = .ref T ∧ H T = none ∧ H' = upd H T (.tup [.int (i : Nat), x]) ∧ ∀ xs, SqT K H a xs → xs[i]? = some x, fun i H => ∃ xs : List V, SqT K H a xs ∧ xs.length = i⟩
theorem apart {h : Heap} {a it e : Addr} {items : Array Value} {i : Nat} {j : Int} {old : Value} (p : h.IsTuple a items) (hit : h.IsTupleIter it a i) (he : IsEnum h e it j old) : a ≠ it ∧ e ∉ [it, a] ∧ e ≠ it := by
  obtain ⟨o1, e1, c1, _⟩ := p
  obtain ⟨o2, e2, c2, _⟩ := hit
  have n1 : a ≠ it := by
    rintro rfl
    rw [e1] at e2
    cases e2
    rw [c1] at c2
    injection c2 with z
    exact absurd z (by decide)
  have n2 : e ≠ it := by
    rintro rfl
    rw [show h.get? e = _ from he] at e2
    cases e2
    injection c2 with z
    exact absurd z (by decide)
  have n3 : e ≠ a := by
    rintro rfl
    rw [show h.get? e = _ from he] at e1
    cases e1
    injection c1 with z
    exact absurd z (by decide)
  exact ⟨n1, by simp [n2, n3], n2⟩
theorem turn_enumT {P : Program} {w : World} {K : PySem.W.Frag} {elts : List Expr} {kk : Nat} {tpos : Pos} (a e it : Addr) :
    Turn P w K (.Tuple elts kk tpos) (IteT K a) [e, it] e (fun i h => (∃ old, IsEnum h e it ((i : Nat) : Int) old) ∧ h.IsTupleIter it a i ∧ e ≠ it) where
  mem := by simp
  obj := fun i h st b hb => by
    obtain ⟨⟨old, he⟩, ⟨o, ho, hc, hd⟩, _⟩ := st
    rcases (show b = e ∨ b = it by simpa using hb) with rfl | rfl
    · exact ⟨_, he, fun v q => nomatch q⟩
    · exact ⟨o, ho, fun v q => by rw [hd] at q; cases q⟩
  keep := fun i h h' st k => by
    obtain ⟨⟨old, he⟩, hi, hne⟩ := st
    exact ⟨⟨old, k e (by simp) _ he⟩, hi.at fun o q => k it (by simp) o q, hne⟩
  item := by
    intro X hP hw hK hc i pins s σ H E I hf st hg
    subst hP hw hK
    obtain ⟨⟨old, he⟩, hit, hne⟩ := st
    obtain ⟨xs, x, hq, hx⟩ := hg
    obtain ⟨its, rv, p, hz⟩ := I.tuple hq
    obtain ⟨u, hu, ru⟩ := rv.get hx
    obtain ⟨n1, n2, n3⟩ := apart p hit he
    have hel : e < s.heap.objs.size := Heap.lt_size he
    have hil : it < s.heap.objs.size := by
      obtain ⟨_, q, _⟩ := hit
      exact Heap.lt_size q
    have hlt : i < its.toArray.size := by
      have z := (List.getElem?_eq_some_iff.mp hu).1
      simpa using z
    refine wpAny_pyNext_enum_itemD (Draws.tuple (prog := X.prog) (w := X.w) (A := X.A.in1) (I.ok.hd hc) it a n1 its.toArray) he ⟨hit, p⟩ hlt n3 n2 fun y h' tk hP ho hst hT hsz hk => ?_
    obtain rfl : y = u := by
      have z : its.toArray[i]? = some y := hP
      rw [List.getElem?_toArray, hu] at z
      exact (Option.some.inj z).symm
    refine ⟨_, rfl, wpAny_letOwnedTupleGo_enum (s := { s with heap := h', toks := tk + 1 }) ho fun h'' he' sb => ?_⟩
    have hT2 : h''.get? s.heap.objs.size = some ({ cls := .type "tuple", data := .seq #[.int i tk, y] } : Obj) := (sb.2 _ (Nat.ne_of_gt hel)).trans hT
    have made : ObjOk X.prog X.w (upd H s.heap.objs.size (.tup [.int (i : Nat), x])) h'' s.heap.objs.size (.tup [.int (i : Nat), x]) :=
      ⟨by show 2 ≤ sizeLine; decide, [.int i tk, y], .cons ⟨_, rfl⟩ (.cons ru .nil), ⟨_, hT2, rfl, _, rfl⟩⟩
    have I1 : Inv X pins σ (upd H s.heap.objs.size (.tup [.int (i : Nat), x])) { s with heap := h'', toks := tk + 1 } :=
      I.turnedNew (ch := [e, it]) (fun b ob hb q => (sb.2 b (fun z => hb (by simp [z]))).trans (hk b ob (fun z => hb (by simp [z])) (fun z => hb (by simp [z])) q)) hf (Nat.le_refl _) made
    refine ⟨.ref s.heap.objs.size, _, I1, rfl, ⟨_, x, rfl, I.hok.fresh (Nat.le_refl _), rfl, fun ys hy => by rw [I.tuple_inj hy hq]; exact hx⟩, ⟨⟨y, ?_⟩, hst.1.at fun o q => (sb.2 it (Ne.symm hne)).trans q, hne⟩, fun b hb => ?_⟩
    · have e1 : ((i + 1 : Nat) : Int) = (i : Int) + 1 := by omega
      rw [e1]
      exact he'
    · have hb' : b < s.heap.objs.size := by
        rcases (show b = e ∨ b = it by simpa using hb) with rfl | rfl
        · exact hel
        · exact hil
      rw [upd_ne (Nat.ne_of_lt hb')]
      exact (hf b hb).1
  done := by
    intro X hP hw hK hc i pins s σ H E I hf st hg
    subst hP hw hK
    obtain ⟨⟨old, he⟩, hit, hne⟩ := st
    obtain ⟨xs, hq, hx⟩ := hg
    obtain ⟨its, rv, p, hz⟩ := I.tuple hq
    obtain ⟨f0, f1, f2, f3, f4, f5⟩ := hf it (by simp)
    obtain ⟨n1, n2, n3⟩ := apart p hit he
    have hl : i = its.toArray.size := by
      have z := rv.length
      rw [hx] at z
      simpa using z
    subst hl
    exact wpAny_pyNext_enum_endD (Draws.tuple (prog := X.prog) (w := X.w) (A := X.A.in1) (I.ok.hd hc) it a n1 its.toArray) he ⟨hit, p⟩ fun h' eb => ⟨rfl, I.turned (t' := s.toks) (fun b o hb q => eb b o hb q) f0 f1 f3 f4 f5⟩
  self := fun A i s Q E st h => by
    obtain ⟨⟨_, he⟩, _⟩ := st
    exact wpAny_pyIter_enum he h
/-- enumerate of a list or a tuple -/
def iEnumA (K : PySem.W.Frag) (ta : TA) : TI := fun σ H R => ta σ H fun vs H1 => ∃ a xs, vs = [.ref a] ∧ ((SqL K H1 a xs ∧ R (Ite K a) H1) ∨ (SqT K H1 a xs ∧ R (IteT K a) H1))
theorem pi_enumA {X : Cx} {e : Expr} {ta : TA} {p pos tpos : Pos} {elts : List Expr} {kk : Nat} (hg : Gl X "enumerate") (hm : X.mg "enumerate" = none) (ha : PA X [e] ta) (hs : starEach [e] X.env = [(false, eval e X.env)] := by rfl) :
    PI X (.Tuple elts kk tpos) (.Call (.Name "enumerate" p) [e] [] pos) (iEnumA X.K ta) := by
  refine ⟨fun pins s σ H R I h => ?_⟩
  refine (Call_ (ld_blt I hg hm boot_enumerate (PyProof.Rows.callWith_type1 (thn (ha.run pos pins s σ H _ I h) fun us s1 q0 => ?_) hs rfl)))
  obtain ⟨vs, H1, I1, r1, a, xs, rfl, q⟩ := q0
  cases r1 with
  | cons r rr =>
    cases rr
    cases r
    have new2 : ∀ b, b ∈ [s1.heap.objs.size + 1, s1.heap.objs.size] → FpOk X pins H1 b := fun b hb => by
      have hle : s1.heap.objs.size ≤ b := by
        rcases (show b = s1.heap.objs.size + 1 ∨ b = s1.heap.objs.size by simpa using hb) with rfl | rfl
        · exact Nat.le_add_right _ _
        · exact Nat.le_refl _
      exact I1.fpOk hle (I1.hok.fresh hle)
    rcases q with ⟨hq, q⟩ | ⟨hq, q⟩
    · obtain ⟨its, rv, p', hz⟩ := I1.list hq
      refine call_enumerate_list p'.isList fun h' he hit hsz hk => wpAny_pyIter_enum he ?_
      have I2 : Inv X pins σ H1 { s1 with heap := h' } := I1.kept (t' := s1.toks) hk
      exact ⟨_, _, _, _, H1, rfl, I2, turn_enum a (s1.heap.objs.size + 1) s1.heap.objs.size, ⟨⟨.none, he⟩, hit, Nat.succ_ne_self _⟩, new2, q⟩
    · obtain ⟨its, rv, p', hz⟩ := I1.tuple hq
      refine call_enumT p' fun h' he hit hk => wpAny_pyIter_enum he ?_
      have I2 : Inv X pins σ H1 { s1 with heap := h' } := I1.kept (t' := s1.toks) hk
      exact ⟨_, _, _, _, H1, rfl, I2, turn_enumT a (s1.heap.objs.size + 1) s1.heap.objs.size, ⟨⟨.none, he⟩, hit, Nat.succ_ne_self _⟩, new2, q⟩
theorem walk_enumT {K : PySem.W.Frag} {a : Addr} {xs : List V} : Walk (IteT K a) xs.length (fun H => SqT K H a xs) (YPair (fun i => some (.int (i : Nat))) (fun i => xs[i]?)) := by
  refine ⟨fun i H hi q => ⟨xs, xs[i], q, by simp [hi]⟩, fun H q => ⟨xs, q, rfl⟩, fun i H v H' hi q y => ?_⟩
  obtain ⟨T, x, h1, h2, h3, h4⟩ := y
  exact ⟨T, _, x, h1, h2, h3, rfl, h4 xs q⟩
end Enu
set_option Elab.async false
set_option linter.all false
set_option maxRecDepth 100000
set_option maxHeartbeats 2000000
namespace Sx
open PySem PySem.Spec PyProof.Rows L2
theorem kit_NoneType_int {K : PySem.W.Frag} : PySem.W.kitOne K (.type "NoneType") (.type "int") = some false := kit_ty (by kernel_rfl)
theorem kit_NoneType_bool {K : PySem.W.Frag} : PySem.W.kitOne K (.type "NoneType") (.type "bool") = some false := kit_ty (by kernel_rfl)
theorem kit_NoneType_str {K : PySem.W.Frag} : PySem.W.kitOne K (.type "NoneType") (.type "str") = some false := kit_ty (by kernel_rfl)
theorem kit_NoneType_list {K : PySem.W.Frag} : PySem.W.kitOne K (.type "NoneType") (.type "list") = some false := kit_ty (by kernel_rfl)
theorem kit_NoneType_tuple {K : PySem.W.Frag} : PySem.W.kitOne K (.type "NoneType") (.type "tuple") = some false := kit_ty (by kernel_rfl)
theorem kit_NoneType_dict {K : PySem.W.Frag} : PySem.W.kitOne K (.type "NoneType") (.type "dict") = some false := kit_ty (by kernel_rfl)
theorem kit_bool_int {K : PySem.W.Frag} : PySem.W.kitOne K (.type "bool") (.type "int") = some true := kit_ty (by kernel_rfl)
theorem kit_bool_bool {K : PySem.W.Frag} : PySem.W.kitOne K (.type "bool") (.type "bool") = some true := kit_ty (by kernel_rfl)
theorem kit_bool_str {K : PySem.W.Frag} : PySem.W.kitOne K (.type "bool") (.type "str") = some false := kit_ty (by kernel_rfl)
theorem kit_bool_list {K : PySem.W.Frag} : PySem.W.kitOne K (.type "bool") (.type "list") = some false := kit_ty (by kernel_rfl)
theorem kit_bool_tuple {K : PySem.W.Frag} : PySem.W.kitOne K (.type "bool") (.type "tuple") = some false := kit_ty (by kernel_rfl)
theorem kit_bool_dict {K : PySem.W.Frag} : PySem.W.kitOne K (.type "bool") (.type "dict") = some false := kit_ty (by kernel_rfl)
theorem kit_int_int {K : PySem.W.Frag} : PySem.W.kitOne K (.type "int") (.type "int") = some true := kit_ty (by kernel_rfl)
theorem kit_int_bool {K : PySem.W.Frag} : PySem.W.kitOne K (.type "int") (.type "bool") = some false := kit_ty (by kernel_rfl)
theorem kit_int_str {K : PySem.W.Frag} : PySem.W.kitOne K (.type "int") (.type "str") = some false := kit_ty (by kernel_rfl)
theorem kit_int_list {K : PySem.W.Frag} : PySem.W.kitOne K (.type "int") (.type "list") = some false := kit_ty (by kernel_rfl)
theorem kit_int_tuple {K : PySem.W.Frag} : PySem.W.kitOne K (.type "int") (.type "tuple") = some false := kit_ty (by kernel_rfl)
theorem kit_int_dict {K : PySem.W.Frag} : PySem.W.kitOne K (.type "int") (.type "dict") = some false := kit_ty (by kernel_rfl)
theorem kit_str_int {K : PySem.W.Frag} : PySem.W.kitOne K (.type "str") (.type "int") = some false := kit_ty (by kernel_rfl)
theorem kit_str_bool {K : PySem.W.Frag} : PySem.W.kitOne K (.type "str") (.type "bool") = some false := kit_ty (by kernel_rfl)
theorem kit_str_str {K : PySem.W.Frag} : PySem.W.kitOne K (.type "str") (.type "str") = some true := kit_ty (by kernel_rfl)
theorem kit_str_list {K : PySem.W.Frag} : PySem.W.kitOne K (.type "str") (.type "list") = some false := kit_ty (by kernel_rfl)
theorem kit_str_tuple {K : PySem.W.Frag} : PySem.W.kitOne K (.type "str") (.type "tuple") = some false := kit_ty (by kernel_rfl)
theorem kit_str_dict {K : PySem.W.Frag} : PySem.W.kitOne K (.type "str") (.type "dict") = some false := kit_ty (by kernel_rfl)
theorem kit_list_int {K : PySem.W.Frag} : PySem.W.kitOne K (.type "list") (.type "int") = some false := kit_ty (by kernel_rfl)
theorem kit_list_bool {K : PySem.W.Frag} : PySem.W.kitOne K (.type "list") (.type "bool") = some false := kit_ty (by kernel_rfl)
theorem kit_list_str {K : PySem.W.Frag} : PySem.W.kitOne K (.type "list") (.type "str") = some false := kit_ty (by kernel_rfl)
theorem kit_list_list {K : PySem.W.Frag} : PySem.W.kitOne K (.type "list") (.type "list") = some true := kit_ty (by kernel_rfl)
theorem kit_list_tuple {K : PySem.W.Frag} : PySem.W.kitOne K (.type "list") (.type "tuple") = some false := kit_ty (by kernel_rfl)
theorem kit_list_dict {K : PySem.W.Frag} : PySem.W.kitOne K (.type "list") (.type "dict") = some false := kit_ty (by kernel_rfl)
theorem kit_tuple_int {K : PySem.W.Frag} : PySem.W.kitOne K (.type "tuple") (.type "int") = some false := kit_ty (by kernel_rfl)
theorem kit_tuple_bool {K : PySem.W.Frag} : PySem.W.kitOne K (.type "tuple") (.type "bool") = some false := kit_ty (by kernel_rfl)
theorem kit_tuple_str {K : PySem.W.Frag} : PySem.W.kitOne K (.type "tuple") (.type "str") = some false := kit_ty (by kernel_rfl)
theorem kit_tuple_list {K : PySem.W.Frag} : PySem.W.kitOne K (.type "tuple") (.type "list") = some false := kit_ty (by kernel_rfl)
theorem kit_tuple_tuple {K : PySem.W.Frag} : PySem.W.kitOne K (.type "tuple") (.type "tuple") = some true := kit_ty (by kernel_rfl)
theorem kit_tuple_dict {K : PySem.W.Frag} : PySem.W.kitOne K (.type "tuple") (.type "dict") = some false := kit_ty (by kernel_rfl)
theorem kit_dict_int {K : PySem.W.Frag} : PySem.W.kitOne K (.type "dict") (.type "int") = some false := kit_ty (by kernel_rfl)
theorem kit_dict_bool {K : PySem.W.Frag} : PySem.W.kitOne K (.type "dict") (.type "bool") = some false := kit_ty (by kernel_rfl)
theorem kit_dict_str {K : PySem.W.Frag} : PySem.W.kitOne K (.type "dict") (.type "str") = some false := kit_ty (by kernel_rfl)
theorem kit_dict_list {K : PySem.W.Frag} : PySem.W.kitOne K (.type "dict") (.type "list") = some false := kit_ty (by kernel_rfl)
theorem kit_dict_tuple {K : PySem.W.Frag} : PySem.W.kitOne K (.type "dict") (.type "tuple") = some false := kit_ty (by kernel_rfl)
theorem kit_dict_dict {K : PySem.W.Frag} : PySem.W.kitOne K (.type "dict") (.type "dict") = some true := kit_ty (by kernel_rfl)
section
variable {X : Cx} {B : Bs} {ss : SS} {Q : D → SS → Prop} {T : Bool → SS → Prop} {L : List D → SS → Prop} {k : Kt} {a b c e o : Expr} {es : List Expr} {pos p apos : Pos} {CX : CXT} {n : Nat} {x m : Str} {C : Addr} {ps : List Str} {F : FT}
/-! ### types -/
inductive TyD (K : PySem.W.Frag) : D → Cs → Value → Prop where
  | non {cs} : TyD K .non cs (.type "NoneType")
  | bl {b cs} : TyD K (.bl b) cs (.type "bool")
  | int {i cs} : TyD K (.int i) cs (.type "int")
  | str {x cs} : TyD K (.str x) cs (.type "str")
  | lst {ds cs} : TyD K (.lst ds) cs (.type "list")
  | tup {ds cs} : TyD K (.tup ds) cs (.type "tuple")
  | dct0 {cs} : TyD K .dct0 cs (.type "dict")
  | obj {C fs cs} (i : Vls.Ins K C) (c : Cls K C) : TyD K (.obj C fs) cs (.ref C)
  | ownI {a C fs cs} (j : Nat) (e : (cs : Cs)[j]? = some (a, .ins C fs)) (i : Vls.Ins K C) (c : Cls K C) : TyD K (.own a) cs (.ref C)
  | ownL {a ds cs} (j : Nat) (e : (cs : Cs)[j]? = some (a, Cell.lst ds)) : TyD K (.own a) cs (.type "list")
theorem TyD.ty {K : PySem.W.Frag} {H : Hp} {d : D} {cs : Cs} {t : Value} {v : V} (h : TyD K d cs t) (ok : CsOk H cs) (r : Vl H (ow cs) v d) : TyX K H v t := by
  cases h with
  | non => cases r; exact .base .non
  | bl => cases r; exact .base (.bl _)
  | int => cases r; exact .base (.int _)
  | str => cases r; exact .base (.str _)
  | lst => cases r with | lst e n r => exact .base (.lst e)
  | tup => cases r with | tup e n r => exact .base (.tup e)
  | dct0 => cases r with | dct0 e n => exact .base (.dK e)
  | obj i c => cases r with | obj e n r => exact i.ty c e
  | ownI j e i c =>
    cases r
    obtain ⟨dx, vs, h1, _⟩ := ok.ok _ _ (List.mem_of_getElem? e)
    exact i.ty c h1
  | ownL j e =>
    cases r
    obtain ⟨vs, h1, _⟩ := ok.ok _ _ (List.mem_of_getElem? e)
    exact .base (.lst h1)
theorem cl_isi {d : D} {v : V} {t u : Value} {b : Bool} (hc : ClsV v u) (ht : TyD X.K d ss.cs t) (he : PySem.W.kitOne X.K t u = some b) (q : Q (.bl b) ss) : ClD X B (.builtin "isinstance") [d, .raw v] ss Q := fun vs σ H QQ s r k => by
  obtain ⟨v1, v2, rfl, r1, r2⟩ := vl2 r
  cases r2
  exact ⟨_, call_isi, _, _, t, u, b, rfl, hc, ht.ty s.ok r1, he, k _ _ _ _ q s Ext.refl (.bl _)⟩
/-! ### own operators -/
/-- an instance unchanged, or a cell -/
inductive InsD (C : Addr) : D → Cs → Prop where
  | obj {fs cs} : InsD C (.obj C fs) cs
  | own {a fs cs} (j : Nat) (e : (cs : Cs)[j]? = some (a, .ins C fs)) : InsD C (.own a) cs
theorem InsD.at_ {H : Hp} {cs : Cs} {v : V} {d : D} (i : InsD C d cs) (ok : CsOk H cs) (r : Vl H (ow cs) v d) : ∃ a dx fs, v = .ref a ∧ H a = some (.ins C dx fs) := by
  cases i with
  | obj =>
    cases r with
    | obj e n r => exact ⟨_, _, _, rfl, e⟩
  | own j e =>
    cases r
    obtain ⟨dx, vs, e1, r1⟩ := ok.ok _ _ (List.mem_of_getElem? e)
    exact ⟨_, dx, vs, rfl, e1⟩
theorem op_spF {E' : XK} {KE' : Addr → List (Str × D) → Cs → Prop} (xs : Exs B E' KE') {f : Value → Value → Sem Value} {d1 d2 : D} (R : D → Cs → Prop) (h : F [d1, d2] ss.cs R KE') {v1 v2 : V} {σ : L2.St} {H : Hp} {QQ : VK} (s : Sat B ss σ H) (r1 : Vl H (ow ss.cs) v1 d1) (r2 : Vl H (ow ss.cs) v2 d2)
    (k : ∀ v d H' cs', R d cs' → Sat B ⟨ss.sl, cs'⟩ σ H' → Ext (ow ss.cs) H (ow cs') H' → Vl H' (ow cs') v d → QQ v H') : spF F [v1, v2] H QQ E' :=
  ⟨[d1, d2], ss.cs, R, _, .cons r1 (.cons r2 .nil), s.ok, h, fun v d H' cs' q e ok rv => k v d H' cs' q (s.cs e ok) e rv, fun C fs cs' x vs H' q e ok hx rf => xs.go s q e ok hx rf⟩
theorem od_eqO {E' : XK} {KE' : Addr → List (Str × D) → Cs → Prop} {f : Addr} (xs : Exs B E' KE') {fd : FuncData} {d1 d2 : D} {t : Value} (m : Meth X.K C "__eq__" f) (G : FnOk X.prog X.w X.K X.mg X.base CX n f fd ["self", "other"] (spF F)) (hb : L2.Binds X.K fd ["self", "other"] []) (hr : Room n X.A) (hx : Passes CX X E')
    (i : InsD C d1 ss.cs) (ht : TyD X.K d2 ss.cs t) (nf : PySem.W.notFirst X.K C t = true) (h : F [d1, d2] ss.cs (fun d cs => IsB d fun b => Q (.bl b) ⟨ss.sl, cs⟩) KE') : OpD X B (compareOp .Eq) d1 d2 ss Q := fun v1 v2 σ H QQ s r1 r2 k => by
  obtain ⟨a, dx, fs, rfl, ea⟩ := i.at_ s.ok r1
  refine ⟨_, Oeq.op_eqX m G hb hr hx, a, dx, fs, t, rfl, ea, ht.ty s.ok r2, nf, op_spF xs (f := compareOp .Eq) _ h s r1 r2 fun v d H' cs' q sat' e r => ?_⟩
  obtain ⟨b, rfl, q⟩ := q
  cases r
  exact ⟨b, rfl, k _ _ _ _ q sat' e (.bl _)⟩
theorem od_neO {E' : XK} {KE' : Addr → List (Str × D) → Cs → Prop} {f : Addr} (xs : Exs B E' KE') {fd : FuncData} {d1 d2 : D} {t : Value} (m : Meth X.K C "__eq__" f) (G : FnOk X.prog X.w X.K X.mg X.base CX n f fd ["self", "other"] (spF F)) (hb : L2.Binds X.K fd ["self", "other"] []) (hr : Room (n + 2) X.A) (hx : Passes CX X E')
    (hne : PySem.W.findIn X.K (.ref C) "__ne__" = some (some (.builtin "object.__ne__"))) (ho : PySem.W.mroIn X.K C (.type "object") = some true)
    (i : InsD C d1 ss.cs) (ht : TyD X.K d2 ss.cs t) (nf : PySem.W.notFirst X.K C t = true) (h : F [d1, d2] ss.cs (fun d cs => IsB d fun b => Q (.bl (!b)) ⟨ss.sl, cs⟩) KE') : OpD X B (compareOp .NotEq) d1 d2 ss Q := fun v1 v2 σ H QQ s r1 r2 k => by
  obtain ⟨a, dx, fs, rfl, ea⟩ := i.at_ s.ok r1
  refine ⟨_, Oeq.op_neX m G hb hr hx hne ho, a, dx, fs, t, rfl, ea, ht.ty s.ok r2, nf, op_spF xs (f := compareOp .NotEq) _ h s r1 r2 fun v d H' cs' q sat' e r => ?_⟩
  obtain ⟨b, rfl, q⟩ := q
  cases r
  exact ⟨b, rfl, k _ _ _ _ q sat' e (.bl _)⟩
/-! ### comprehensions -/
/-- in whatever block of the comprehension -/
def Blk (X : Cx) (scope : Scope) (P : Cx → Prop) : Prop := ∀ (s : Shared) (H : Hp) (D : Addr) (cl : List (Str × Addr)) (fp : List Addr), P (X.blk s H scope (compEnvC scope cl D X.env) fp)
def wipeD : List (Option D) → List Nat → List (Option D)
  | s, [] => s
  | s, v :: vs => (wipeD s vs).set v none
theorem wipeD_len (s : List (Option D)) : ∀ vs, (wipeD s vs).length = s.length
  | [] => rfl
  | v :: vs => by unfold wipeD; rw [List.length_set, wipeD_len s vs]
theorem wipeD_get {s : List (Option D)} {i : Nat} {d : D} : ∀ {vs : List Nat}, (wipeD s vs)[i]? = some (some d) → s[i]? = some (some d) ∧ i ∉ vs
  | [], h => ⟨h, by simp⟩
  | v :: vs, h => by
    unfold wipeD at h
    by_cases z : v = i
    · subst z
      rw [List.getElem?_set] at h
      split at h
      · split at h <;> cases h
      · exact absurd rfl ‹_›
    · rw [List.getElem?_set_ne z] at h
      obtain ⟨h1, h2⟩ := wipeD_get h
      exact ⟨h1, fun q => (List.mem_cons.mp q).elim (fun q => z q.symm) h2⟩
theorem sat_wipe {σ : L2.St} {H : Hp} {sl : List (Option D)} {cs : Cs} (s : Sat B ⟨sl, cs⟩ σ H) (vs : List Nat) : Sat B ⟨wipeD sl vs, cs⟩ (wipe σ vs) H := by
  refine ⟨by rw [wipe_length, s.len, wipeD_len], fun i d h => ?_, s.ok, s.ext, s.bok⟩
  obtain ⟨h1, h2⟩ := wipeD_get h
  obtain ⟨v, e, r⟩ := s.sl i d h1
  exact ⟨v, by rw [wipe_out h2]; exact e, r⟩
theorem sat_unwipe {σ : L2.St} {H : Hp} {sl s2 : List (Option D)} {cs cs2 : Cs} (s : Sat B ⟨sl, cs⟩ σ H) {H2 : Hp} (ok : CsOk H2 cs2) (e : Ext (ow cs) H (ow cs2) H2) : Sat B ⟨sl, cs2⟩ σ H2 := s.cs e ok
theorem wipe_outs {vs : List Nat} {σ σ2 : L2.St} (h : Outs vs σ σ2) : wipe σ2 vs = wipe σ vs := by
  apply List.ext_getElem?
  intro i
  by_cases z : i ∈ vs
  · have none_at : ∀ (τ : L2.St) (ws : List Nat), i ∈ ws → (wipe τ ws)[i]? = if i < τ.length then some none else none := by
      intro τ ws
      induction ws with
      | nil => intro h; cases h
      | cons w ws ih =>
        intro hm
        unfold wipe
        by_cases q : w = i
        · subst q
          rw [List.getElem?_set]
          simp [wipe_length]
        · rw [List.getElem?_set_ne q]
          exact ih ((List.mem_cons.mp hm).resolve_left fun e => q e.symm)
    rw [none_at _ _ z, none_at _ _ z, h.1]
  · rw [wipe_out z, wipe_out z]
    exact h.2 i z
theorem wipe_wipe {vs : List Nat} {σ : L2.St} : wipe (wipe σ vs) vs = wipe σ vs := by
  have h : Outs vs σ (wipe σ vs) := ⟨wipe_length σ vs, fun i z => wipe_out z⟩
  exact wipe_outs h
structure TsW (X : Cx) (B : Bs) (ifs : List Expr) (ss : SS) (Q : Bool → SS → Prop) : Prop where
  p : PTs X ifs (tT B ss Q)
theorem ts_nil (q : T true ss) : TsW X B [] ss T := ⟨fun pins s σ H Q I ⟨sat, k⟩ => pts_nil.run pins s σ H Q I (k _ _ _ q sat Ext.refl)⟩ |> fun h => ⟨h⟩
theorem ts_one (h : TW X B c ss T) : TsW X B [c] ss T := ⟨pts_one h.p⟩
end
end Sx
set_option Elab.async false
set_option linter.all false
set_option maxRecDepth 100000
set_option maxHeartbeats 2000000
namespace Sx
open PySem PySem.Spec PyProof.Rows L2
section
variable {X : Cx} {B : Bs} {ss : SS} {Q : D → SS → Prop} {T : Bool → SS → Prop} {L : List D → SS → Prop} {k : Kt} {a b c e o elt tg iter : Expr} {es ifs : List Expr} {pos p apos : Pos} {CX : CXT} {n : Nat} {x m : Str} {C : Addr} {ps : List Str} {F : FT} {scope : Scope}
/-- what a block's elt gives, in whatever block -/
def teB (X : Cx) (scope : Scope) (e : Expr) : TE := fun σ H Q => ∃ t, Blk X scope (fun X' => PE X' e t) ∧ t σ H Q
def ttB (X : Cx) (scope : Scope) (ifs : List Expr) : TT := fun σ H Q => ∃ t, Blk X scope (fun X' => PTs X' ifs t) ∧ t σ H Q
def tgB (X : Cx) (scope : Scope) (e : Expr) : TG := fun v σ H Q => ∃ t, Blk X scope (fun X' => PG X' e t) ∧ t v σ H Q
theorem pe_blk {e : Expr} : Blk X scope fun X' => PE X' e (teB X scope e) := fun s H D cl fp => ⟨fun pins s σ H Q I ⟨_, h, q⟩ => (h _ _ _ _ _).run pins s σ H Q I q⟩
theorem pt_blk {ifs : List Expr} : Blk X scope fun X' => PTs X' ifs (ttB X scope ifs) := fun s H D cl fp => ⟨fun pins s σ H Q I ⟨_, h, q⟩ => (h _ _ _ _ _).run pins s σ H Q I q⟩
theorem pg_blk {e : Expr} : Blk X scope fun X' => PG X' e (tgB X scope e) := fun s H D cl fp => ⟨fun pins s σ H v u Q I r ⟨_, h, q⟩ => (h _ _ _ _ _).run pins s σ H v u Q I r q⟩
/-- a turn: from the cells cs and what is made so far -/
def LcTurn (X : Cx) (B : Bs) (scope : Scope) (elt tg : Expr) (ifs : List Expr) (vs : List Nat) (jx : Nat) (sl : List (Option D)) (dj : D) (acc : List D) (cs : Cs) (Nx : List D → Cs → Prop) : Prop :=
  ∀ l, Blk X scope fun X' => TgW X' B tg dj vs ⟨wipeD sl vs, insAt jx cs (l, Cell.lst acc)⟩ fun s2 => Blk X scope fun X' => TsW X' B ifs s2 fun b s3 =>
    Br b (Blk X scope fun X' => EW X' B elt s3 fun r s4 => ∃ cs4, s4.cs = insAt jx cs4 (l, Cell.lst acc) ∧ Nx (acc ++ [r]) cs4) (∃ cs4, s3.cs = insAt jx cs4 (l, Cell.lst acc) ∧ Nx acc cs4)
/-- the state of a loop that makes a list at l -/
structure LcAt (B : Bs) (sl : List (Option D)) (cs1 : Cs) (H1 : Hp) (vs : List Nat) (σ : L2.St) (jx : Nat) (l : Addr) (acc : List D) (cs : Cs) (H : Hp) : Prop where
  sat : Sat B ⟨wipeD sl vs, insAt jx cs (l, Cell.lst acc)⟩ (wipe σ vs) H
  ext : Ext (ow cs1) H1 (ow (insAt jx cs (l, Cell.lst acc))) H
theorem nth_insAt : ∀ (j : Nat) (cs : Cs) (c : Addr × Cell), ∃ i : Nat, (insAt j cs c)[i]? = some c ∧ (insAt j cs c).eraseIdx i = cs ∧ ∀ c', (insAt j cs c).set i c' = insAt j cs c'
  | 0, cs, c => ⟨0, rfl, rfl, fun _ => rfl⟩
  | j + 1, [], c => ⟨0, rfl, rfl, fun _ => rfl⟩
  | j + 1, a :: r, c => by
    obtain ⟨i, h1, h2, h3⟩ := nth_insAt j r c
    refine ⟨i + 1, h1, ?_, fun c' => ?_⟩
    · show a :: (insAt j r c).eraseIdx i = a :: r
      rw [h2]
    · show a :: (insAt j r c).set i c' = a :: insAt j r c'
      rw [h3]
theorem drop_insAt {H : Hp} {j : Nat} {cs : Cs} {l : Addr} {c : Cell} (ok : CsOk H (insAt j cs (l, c))) : CsOk H cs ∧ Ext (ow (insAt j cs (l, c))) H (ow cs) H ∧ ¬ ow cs l ∧ CellOk H (ow cs) l c := by
  obtain ⟨i, h1, h2, _⟩ := nth_insAt j cs (l, c)
  have z := erase_ok ok h1
  rw [h2] at z
  exact z
theorem lc_go {vs : List Nat} {σ : L2.St} {H1 Hj : Hp} {sl : List (Option D)} {cs1 : Cs} {jx : Nat} {l : Addr} {dj : D} {v : V} {acc : List D} {cs : Cs} {Nx : List D → Cs → Prop} {NQ : Hp → Prop} (hlen : acc.length < sizeLine) (st : LcAt B sl cs1 H1 vs σ jx l acc cs Hj) (rv : Vl Hj (ow (insAt jx cs (l, Cell.lst acc))) v dj)
    (turn : LcTurn X B scope elt tg ifs vs jx sl dj acc cs Nx) (hN : ∀ acc' cs' H', Nx acc' cs' → LcAt B sl cs1 H1 vs σ jx l acc' cs' H' → NQ H') :
    tgB X scope tg v (wipe σ vs) Hj fun σ2 H2 => wipe σ2 vs = wipe σ vs ∧ ttB X scope ifs σ2 H2 fun b H3 =>
      if b = true then teB X scope elt σ2 H3 fun y H4 => ∃ acc, H4 l = some (.lst acc) ∧ acc.length < sizeLine ∧ NQ (upd H4 l (.lst (acc ++ [y]))) else NQ H3 := by
  refine ⟨_, fun s H D cl fp => (turn l s H D cl fp).p, st.sat, rv, fun s2 σ2 q2 c2 sat2 o2 => ⟨(wipe_outs o2).trans wipe_wipe, ?_⟩⟩
  refine ⟨_, fun s H D cl fp => (q2 s H D cl fp).p, sat2, fun b s3 H3 q3 sat3 e3 => ?_⟩
  have back : ∀ {acc' : List D} {cs' : Cs} {sx : SS} {H' : Hp}, Sat B sx σ2 H' → sx.cs = insAt jx cs' (l, Cell.lst acc') → Ext (ow s2.cs) Hj (ow sx.cs) H' → LcAt B sl cs1 H1 vs σ jx l acc' cs' H' := fun {acc' cs' sx H'} sat ec e => by
    rw [ec] at e
    rw [c2] at e
    refine ⟨st.sat.cs e (by rw [← ec]; exact sat.ok), st.ext.trans e⟩
  cases b with
  | false =>
    show NQ H3
    obtain ⟨cs4, e4, q4⟩ := q3.2 rfl
    exact hN _ _ _ q4 (back sat3 e4 e3)
  | true =>
    show teB X scope elt σ2 H3 _
    refine ⟨_, fun s H D cl fp => (q3.1 rfl s H D cl fp).p, sat3, fun y d s4 H4 ⟨cs4, e4, q4⟩ sat4 e34 r4 => ?_⟩
    have b4 := back sat4 e4 (e3.trans e34)
    obtain ⟨i, h1, h2, h3⟩ := nth_insAt jx cs4 (l, Cell.lst acc)
    obtain ⟨xs, x1, x2⟩ := b4.sat.ok.ok l _ (List.mem_of_getElem? h1)
    rw [e4] at r4
    obtain ⟨sat5, e5⟩ := b4.sat.mut (c' := Cell.lst (acc ++ [d])) (u := .lst (xs ++ [y])) h1 fun e q => ⟨_, q, (x2.ext e).app (.cons (r4.ext e) .nil)⟩
    rw [h3] at sat5 e5
    exact ⟨xs, x1, by rw [x2.len]; exact hlen, hN _ _ _ q4 ⟨sat5, b4.ext.trans e5⟩⟩
/-- the list is made -/
theorem lc_end {vs : List Nat} {σ : L2.St} {H H1 Hj : Hp} {QQ : VK} {sl : List (Option D)} {cs1 : Cs} {jx : Nat} {l : Addr} {acc : List D} {cs : Cs} (sat1 : Sat B ⟨sl, cs1⟩ σ H1) (e1 : Ext (ow ss.cs) H (ow cs1) H1) (st : LcAt B sl cs1 H1 vs σ jx l acc cs Hj)
    (k : ∀ v d ss' H', Q d ss' → Sat B ss' σ H' → Ext (ow ss.cs) H (ow ss'.cs) H' → Vl H' (ow ss'.cs) v d → QQ v H') (q : Q (.lst acc) ⟨sl, cs⟩) : QQ (.ref l) Hj := by
  obtain ⟨ok, e, n, xs, x1, x2⟩ := drop_insAt st.sat.ok
  exact k _ _ ⟨sl, cs⟩ Hj q (sat1.cs (st.ext.trans e) ok) (e1.trans (st.ext.trans e)) (.lst x1 n x2)
theorem lc_start {vs : List Nat} {σ : L2.St} {H1 : Hp} {sl : List (Option D)} {cs1 : Cs} {jx : Nat} {l : Addr} (sat1 : Sat B ⟨sl, cs1⟩ σ H1) (hl : H1 l = none) : LcAt B sl cs1 H1 vs σ jx l [] cs1 (upd H1 l (.lst [])) := by
  have S := Pre.Same.upd (o := .lst []) hl
  obtain ⟨ok, e⟩ := sat1.ok.ins (c := Cell.lst []) jx hl S fun M hM e => ⟨[], upd_same, .nil⟩
  exact ⟨(sat_wipe sat1 vs).cs e ok, e⟩
/-- [elt for tg in iter if ..], iter a list -/
theorem ew_lcL (own : List (Str × Nat)) (jx : Nat) (hc : X.calm = true) (hN : X.N.Nodup) (ok : BlkOk X.N X.env.scope scope own)
    (h : EW X B iter ss fun d s => ∃ ds, d = .lst ds ∧ ds.length ≤ sizeLine ∧ ∃ Iv : Nat → List D → Cs → Prop, Iv 0 [] s.cs ∧
      (∀ j dj acc cs, ds[j]? = some dj → Iv j acc cs → acc.length ≤ j ∧ LcTurn X B scope elt tg ifs (own.map (·.2)) jx s.sl dj acc cs (Iv (j + 1))) ∧ ∀ acc cs, Iv ds.length acc cs → Q (.lst acc) ⟨s.sl, cs⟩)
    (hs : ∀ x, foldedSetIterable iter X.env x = pure x := by intro _; rfl) : EW X B (.ListComp elt [⟨tg, iter, ifs, 0⟩] scope pos) ss Q :=
  ⟨PEimp (pe_lc hc hN (pi_list h.p) ok pg_blk pt_blk pe_blk hs) fun σ H QQ ⟨s, k⟩ => ⟨s, fun v d s1 H1 ⟨ds, q1, hl, Iv, i0, i1, i2⟩ sat1 e1 r1 => by
    subst q1
    cases r1 with
    | @lst a xs _ ea n r =>
      refine ⟨a, rfl, ⟨xs, SqL.of ea⟩, fun l hnew => ?_⟩
      refine lc_list (K := X.K) (a := a) (xs := xs) (fun i H' => ∃ acc cs, Iv i acc cs ∧ LcAt B s1.sl s1.cs H1 (own.map (·.2)) σ jx l acc cs H') ⟨[], s1.cs, i0, lc_start sat1 hnew⟩ (fun i H' _ ⟨acc, cs, _, st⟩ => SqL.of (st.ext.kp _ _ n ntL ea)) (fun i y H' hy ⟨acc, cs, q, st⟩ => ?_) fun H' ⟨acc, cs, q, st⟩ => ?_
      · obtain ⟨dj, hd, rd⟩ := r.back hy
        obtain ⟨hacc, turn⟩ := i1 i dj acc cs hd q
        have hi := (List.getElem?_eq_some_iff.mp hd).1
        exact lc_go (by omega) st (rd.ext st.ext) turn fun acc' cs' H'' nq st' => ⟨acc', cs', nq, st'⟩
      · rw [r.len] at q
        exact lc_end (ss := ss) sat1 e1 st k (i2 acc cs q)⟩⟩
theorem ew_lcT (own : List (Str × Nat)) (jx : Nat) (hc : X.calm = true) (hN : X.N.Nodup) (ok : BlkOk X.N X.env.scope scope own)
    (h : EW X B iter ss fun d s => ∃ ds, d = .tup ds ∧ ds.length ≤ sizeLine ∧ ∃ Iv : Nat → List D → Cs → Prop, Iv 0 [] s.cs ∧
      (∀ j dj acc cs, ds[j]? = some dj → Iv j acc cs → acc.length ≤ j ∧ LcTurn X B scope elt tg ifs (own.map (·.2)) jx s.sl dj acc cs (Iv (j + 1))) ∧ ∀ acc cs, Iv ds.length acc cs → Q (.lst acc) ⟨s.sl, cs⟩)
    (hs : ∀ x, foldedSetIterable iter X.env x = pure x := by intro _; rfl) : EW X B (.ListComp elt [⟨tg, iter, ifs, 0⟩] scope pos) ss Q :=
  ⟨PEimp (pe_lc hc hN (pi_tup h.p) ok pg_blk pt_blk pe_blk hs) fun σ H QQ ⟨s, k⟩ => ⟨s, fun v d s1 H1 ⟨ds, q1, hl, Iv, i0, i1, i2⟩ sat1 e1 r1 => by
    subst q1
    cases r1 with
    | @tup a xs _ ea n r =>
      refine ⟨a, rfl, ⟨xs, SqT.of ea⟩, fun l hnew => ?_⟩
      refine lc_tup (K := X.K) (a := a) (xs := xs) (fun i H' => ∃ acc cs, Iv i acc cs ∧ LcAt B s1.sl s1.cs H1 (own.map (·.2)) σ jx l acc cs H') ⟨[], s1.cs, i0, lc_start sat1 hnew⟩ (fun i H' _ ⟨acc, cs, _, st⟩ => SqT.of (st.ext.kp _ _ n ntT ea)) (fun i y H' hy ⟨acc, cs, q, st⟩ => ?_) fun H' ⟨acc, cs, q, st⟩ => ?_
      · obtain ⟨dj, hd, rd⟩ := r.back hy
        obtain ⟨hacc, turn⟩ := i1 i dj acc cs hd q
        have hi := (List.getElem?_eq_some_iff.mp hd).1
        exact lc_go (by omega) st (rd.ext st.ext) turn fun acc' cs' H'' nq st' => ⟨acc', cs', nq, st'⟩
      · rw [r.len] at q
        exact lc_end (ss := ss) sat1 e1 st k (i2 acc cs q)⟩⟩
end
end Sx
set_option Elab.async false
set_option linter.all false
set_option maxRecDepth 100000
set_option maxHeartbeats 2000000
/-! C(*y). -/
namespace Mks
open PySem PySem.Spec PyProof.Rows L2 StX
section
variable {X : Cx} {CX : CXT} {k : Nat} {f C : Addr} {sp : Sp} {E : XK} {x : Str} {e : Expr} {te : TE} {p sp_ pos : Pos}
def tMakeS (K : PySem.W.Frag) (C : Addr) (sp : Sp) (E : XK) (te : TE) : TE := fun σ H Q => te σ H fun y H1 => ∃ a xs, y = V.ref a ∧ (SqT K H1 a xs ∨ SqL K H1 a xs) ∧ ∀ x dx, H1 x = none → H1 dx = none → dx ≠ x →
  sp (V.ref x :: xs) (upd (upd H1 dx (.own x)) x (.ins C dx [])) (fun v H2 => v = .non ∧ Q (.ref x) H2) E
theorem pe_makeS (M : Mk X.K C f) (F : FnR X.prog X.w X.K X.mg X.base CX k f sp) (hr : Room (k + 1) X.A) (hg : Gl X x) (hm : X.mg x = some (.ref C)) (hx : Passes CX X E) (he : PE X e te) (hd : (x == ("__debug__" : Str)) = false := by decide)
    (hst : starEach [.Starred e sp_] X.env = [(true, eval e X.env)] := by rfl) : PE X (.Call (.Name x p) [.Starred e sp_] [] pos) (tMakeS X.K C sp E te) := by
  refine ⟨fun pins s σ H Q I h => ?_⟩
  refine (wpAny_Call_Name_kw (ld_glob I hg hm ?_ hd))
  refine PySem.W.callWith_S (h₀ := X.base) I.ok.mod.kin M.kp (thn (he.run pins s σ H _ I h) ?_) hst
  rintro v s1 ⟨y, H1, I1, ry, a, xs, rfl, hxs, q⟩
  obtain rfl : v = Value.ref a := ry
  exact star_any I1 hxs fun us s2 I2 rv => ⟨I2.kIn, run_makeR M F hr hx I2 rv q⟩
end
end Mks
set_option Elab.async false
set_option linter.all false
set_option maxRecDepth 100000
set_option maxHeartbeats 2000000
namespace Sx
open PySem PySem.Spec PyProof.Rows L2
section
variable {X : Cx} {B : Bs} {ss : SS} {Q : D → SS → Prop} {T : Bool → SS → Prop} {L : List D → SS → Prop} {k : Kt} {a b c e o elt tg iter : Expr} {es ifs : List Expr} {pos p apos p' : Pos} {CX : CXT} {n : Nat} {x m f : Str} {C : Addr} {ps : List Str} {F : FT} {scope : Scope}
/-! ### own operators, len, properties -/
theorem od_ownT {E' : XK} {KE' : Addr → List (Str × D) → Cs → Prop} (xs : Exs B E' KE') {op : Operator} {g : Addr} {fd : FuncData} {d1 d2 : D} {T : String} (bt : Owp.BinT X.K C g op T) (G : FnOk X.prog X.w X.K X.mg X.base CX n g fd ps (spF F)) (hb : L2.Binds X.K fd ps []) (hr : Room n X.A) (hx : Passes CX X E')
    (i : InsD C d1 ss.cs) (ht : TyD X.K d2 ss.cs (.type T)) (h : F [d1, d2] ss.cs (fun d cs => Q d ⟨ss.sl, cs⟩) KE') : OpD X B (binaryOp op) d1 d2 ss Q := fun v1 v2 σ H QQ s r1 r2 k => by
  obtain ⟨a, dx, fs, rfl, ea⟩ := i.at_ s.ok r1
  exact ⟨_, Owp.op_own bt G hb hr hx, a, dx, fs, rfl, ea, ht.ty s.ok r2, op_spF xs (f := binaryOp op) _ h s r1 r2 fun v d H' cs' q sat' e r => k v d _ H' q sat' e r⟩
theorem cl_lenI {E' : XK} {KE' : Addr → List (Str × D) → Cs → Prop} (xs : Exs B E' KE') {g : Addr} {fd : FuncData} {d : D} (m : Meth X.K C "__len__" g) (G : FnOk X.prog X.w X.K X.mg X.base CX n g fd ["self"] (spF F)) (hb : L2.Binds X.K fd ["self"] []) (hr : Room (n + 1) X.A) (hx : Passes CX X E')
    (i : InsD C d ss.cs) (h : F [d] ss.cs (fun d cs => ∃ j : Int, d = .int j ∧ 0 ≤ j ∧ j < 2 ^ 63 ∧ Q (.int j) ⟨ss.sl, cs⟩) KE') : ClD X B (.builtin "len") [d] ss Q := fun vs σ H QQ s r k => by
  obtain ⟨v, rfl, r1⟩ := vl1 r
  obtain ⟨a, dx, fs, rfl, ea⟩ := i.at_ s.ok r1
  refine ⟨_, Owp.call_lenO m G hb hr hx, a, dx, fs, rfl, ea, [d], ss.cs, _, _, .cons r1 .nil, s.ok, h, fun v d H' cs' q e ok rv => ?_, fun C fs cs' x vs H' q e ok hx rf => xs.go s q e ok hx rf⟩
  obtain ⟨j, rfl, j0, j1, q⟩ := q
  cases rv
  exact ⟨j, rfl, j0, j1, k _ _ _ H' q (s.cs e ok) e (.int _)⟩
theorem ew_prop {E' : XK} {KE' : Addr → List (Str × D) → Cs → Prop} (xs : Exs B E' KE') {pr g : Addr} {fd : FuncData} (hc : Cls X.K C) (hp : PropOf X.K C f pr g) (G : FnOk X.prog X.w X.K X.mg X.base CX n g fd ps (spF F)) (hr : Room (n + 1) X.A) (hb : L2.Binds X.K fd ps []) (hx : Passes CX X.nox E')
    (h : EW X B a ss fun d s => InsD C d s.cs ∧ F [d] s.cs (fun d cs => Q d ⟨s.sl, cs⟩) KE') (hab : attributeBase a f X.env (eval a X.env) = eval a X.env := by rfl) : EW X B (.Attribute a f pos) ss Q :=
  ⟨PEimp (pe_prop h.p hc hp G hr hb .nil hx hab) fun σ H QQ ⟨s, k⟩ => ⟨s, fun v d s1 H1 ⟨i, q1⟩ sat1 e1 r1 => by
    obtain ⟨a, dx, fs, rfl, ea⟩ := i.at_ sat1.ok r1
    exact ⟨a, dx, fs, rfl, ea, sp_go xs sat1 e1 (.cons r1 .nil) k q1⟩⟩⟩
/-! ### [.. for .. in x], x an own instance that gives its tuple's iterator -/
def spItT (C : Addr) (f : Str) : Nat → Sp := fun N vs H Q _ => ∃ a dx fs t xs, vs = [.ref a] ∧ H a = some (.ins C dx fs) ∧ fs.lookup f = some (.ref t) ∧ H t = some (.tup xs) ∧ ∀ it, H it = none → N ≤ it → Q (.ref it) (upd H it (Owp.TIt it t))
theorem del_upd {H : Hp} {a : Addr} {o : HO} (h : H a = none) : L2.del (upd H a o) a = H := by
  funext b
  unfold L2.del
  by_cases e : b = a
  · rw [if_pos e, e, h]
  · rw [if_neg e, upd_ne e]
theorem ew_lcI (own : List (Str × Nat)) (jx : Nat) {g : Addr} {fd : FuncData} (hc : X.calm = true) (hx0 : X.ex = []) (hN : X.N.Nodup) (ok : BlkOk X.N X.env.scope scope own)
    (m : Meth X.K C "__iter__" g) (G : Owp.FnN X.prog X.w X.K X.mg X.base CX n g fd ["self"] (spItT C f)) (hb : L2.Binds X.K fd ["self"] []) (hr : Room n X.A) {E' : XK} (hx : Passes CX X E')
    (h : EW X B iter ss fun d s => ∃ fs ds, d = .obj C fs ∧ fs.lookup f = some (.tup ds) ∧ ds.length ≤ sizeLine ∧ ∃ Iv : Nat → List D → Cs → Prop, Iv 0 [] s.cs ∧
      (∀ j dj acc cs, ds[j]? = some dj → Iv j acc cs → acc.length ≤ j ∧ LcTurn X B scope elt tg ifs (own.map (·.2)) jx s.sl dj acc cs (Iv (j + 1))) ∧ ∀ acc cs, Iv ds.length acc cs → Q (.lst acc) ⟨s.sl, cs⟩)
    (hs : ∀ x, foldedSetIterable iter X.env x = pure x := by intro _; rfl) : EW X B (.ListComp elt [⟨tg, iter, ifs, 0⟩] scope pos) ss Q :=
  ⟨PEimp (pe_lc hc hN (Owp.pi_ownT hx0 m G hb hr hx h.p) ok pg_blk pt_blk pe_blk hs) fun σ H QQ ⟨s, k⟩ => ⟨s, fun v d s1 H1 ⟨fs, ds, q1, hl0, hl, Iv, i0, i1, i2⟩ sat1 e1 r1 => by
    subst q1
    cases r1 with
    | @obj a0 _ dx vs _ eo no ro =>
      obtain ⟨u, hu, ru⟩ := ro.lookup hl0
      cases ru with
      | @tup a xs _ ea n r =>
        refine ⟨a0, dx, vs, rfl, eo, a0, dx, vs, a, xs, rfl, eo, hu, ea, fun it hit hN => ⟨it, a, rfl, upd_same, hN, ?_, ?_⟩⟩
        · rw [del_upd hit]
          exact ⟨xs, SqT.of ea⟩
        · rw [del_upd hit]
          intro l hnew
          refine lc_tup (K := X.K) (a := a) (xs := xs) (fun i H' => ∃ acc cs, Iv i acc cs ∧ LcAt B s1.sl s1.cs H1 (own.map (·.2)) σ jx l acc cs H') ⟨[], s1.cs, i0, lc_start sat1 hnew⟩ (fun i H' _ ⟨acc, cs, _, st⟩ => SqT.of (st.ext.kp _ _ n ntT ea)) (fun i y H' hy ⟨acc, cs, q, st⟩ => ?_) fun H' ⟨acc, cs, q, st⟩ => ?_
          · obtain ⟨dj, hd, rd⟩ := r.back hy
            obtain ⟨hacc, turn⟩ := i1 i dj acc cs hd q
            have hi := (List.getElem?_eq_some_iff.mp hd).1
            exact lc_go (by omega) st (rd.ext st.ext) turn fun acc' cs' H'' nq st' => ⟨acc', cs', nq, st'⟩
          · rw [r.len] at q
            exact lc_end (ss := ss) sat1 e1 st k (i2 acc cs q)⟩⟩
/-! ### classes whose __init__ takes *args -/
theorem sp_make {E' : XK} {KE' : Addr → List (Str × D) → Cs → Prop} (xs : Exs B E' KE') {σ : L2.St} {H H1 : Hp} {QQ : VK} {s1 : SS} {vs : List V} {ds : List D} (sat1 : Sat B s1 σ H1) (e1 : Ext (ow ss.cs) H (ow s1.cs) H1) (r1 : VlL H1 (ow s1.cs) vs ds) (k : ∀ v d ss' H', Q d ss' → Sat B ss' σ H' → Ext (ow ss.cs) H (ow ss'.cs) H' → Vl H' (ow ss'.cs) v d → QQ v H')
    {y dy : Addr} (ny : H1 y = none) (nd : H1 dy = none) (ne : dy ≠ y) (q1 : F (.own y :: ds) ((y, .ins C []) :: s1.cs) (fun d cs => d = .non ∧ ∃ fs cs1, cs = (y, .ins C fs) :: cs1 ∧ Q (.obj C fs) ⟨s1.sl, cs1⟩) (fun Ce fs cs => ∃ c cs1, cs = (y, c) :: cs1 ∧ KE' Ce fs cs1)) :
    spF F (.ref y :: vs) (upd (upd H1 dy (.own y)) y (.ins C dy [])) (fun v H2 => v = .non ∧ QQ (.ref y) H2) E' := by
  obtain ⟨ok2, e2⟩ := made_ok (C := C) sat1.ok ny nd ne
  refine ⟨_, _, _, _, .cons (.own y) (r1.ext e2), ok2, q1, fun v d H' cs' q e ok rv => ?_, fun C fs cs' z vs H' q e ok hz rf => ?_⟩
  · obtain ⟨rfl, fs, cs1, rfl, q⟩ := q
    cases rv
    obtain ⟨ok3, e3, n3, c3⟩ := drop_ok ok
    obtain ⟨dz, vz, h1, h2⟩ := c3
    exact ⟨rfl, k _ _ ⟨s1.sl, cs1⟩ H' q (sat1.cs ((e2.trans e).trans e3) ok3) (e1.trans ((e2.trans e).trans e3)) (.obj h1 n3 h2)⟩
  · obtain ⟨c, cs1, rfl, q⟩ := q
    obtain ⟨ok3, e3, n3, c3⟩ := drop_ok ok
    exact xs.go sat1 q ((e2.trans e).trans e3) ok3 hz (rf.ext e3)
/-- what C(..) is, its __init__ promising F -/
def MkF (F : FT) (C : Addr) (KE' : Addr → List (Str × D) → Cs → Prop) (Q : D → SS → Prop) (ds : List D) (s : SS) : Prop := ∀ y, F (.own y :: ds) ((y, .ins C []) :: s.cs) (fun d cs => d = .non ∧ ∃ fs cs1, cs = (y, .ins C fs) :: cs1 ∧ Q (.obj C fs) ⟨s.sl, cs1⟩) (fun Ce fs cs => ∃ c cs1, cs = (y, c) :: cs1 ∧ KE' Ce fs cs1)
theorem ew_makeR {E' : XK} {KE' : Addr → List (Str × D) → Cs → Prop} (xs : Exs B E' KE') {g : Addr} (M : Mk X.K C g) (G : FnR X.prog X.w X.K X.mg X.base CX n g (spF F)) (hr : Room (n + 1) X.A) (hg : Gl X x) (hm : X.mg x = some (.ref C)) (hx : Passes CX X E') (h : AW X B (e :: es) ss fun ds s => MkF F C KE' Q ds s)
    (hdb : (x == ("__debug__" : Str)) = false := by decide) (he : starEach (e :: es) X.env = (false, eval e X.env) :: starEach es X.env := by rfl) (hpl : (backTo pos (starEach es X.env)).any (·.1) = false := by rfl) : EW X B (.Call (.Name x p) (e :: es) [] pos) ss Q :=
  ⟨PEimp (StX.pe_makeR M G hr hg hm hx h.p hdb he hpl) fun σ H QQ ⟨s, k⟩ => ⟨s, fun vs ds s1 H1 q1 sat1 e1 r1 y dy ny nd ne => sp_make xs (ss := ss) sat1 e1 r1 k ny nd ne (q1 y)⟩⟩
/-- C(*e) -/
theorem ew_makeS {E' : XK} {KE' : Addr → List (Str × D) → Cs → Prop} (xs : Exs B E' KE') {g : Addr} {sp_ : Pos} (M : Mk X.K C g) (G : FnR X.prog X.w X.K X.mg X.base CX n g (spF F)) (hr : Room (n + 1) X.A) (hg : Gl X x) (hm : X.mg x = some (.ref C)) (hx : Passes CX X E')
    (h : EW X B e ss fun d s => ∃ ds, (d = .tup ds ∨ d = .lst ds) ∧ MkF F C KE' Q ds s) (hd : (x == ("__debug__" : Str)) = false := by decide) (hst : starEach [.Starred e sp_] X.env = [(true, eval e X.env)] := by rfl) : EW X B (.Call (.Name x p) [.Starred e sp_] [] pos) ss Q :=
  ⟨PEimp (Mks.pe_makeS M G hr hg hm hx h.p hd hst) fun σ H QQ ⟨s, k⟩ => ⟨s, fun v d s1 H1 ⟨ds, q0, q1⟩ sat1 e1 r1 => by
    rcases q0 with rfl | rfl
    · cases r1 with
      | tup ea n r => exact ⟨_, _, rfl, .inl (SqT.of ea), fun y dy ny nd ne => sp_make xs (ss := ss) sat1 e1 r k ny nd ne (q1 y)⟩
    · cases r1 with
      | lst ea n r => exact ⟨_, _, rfl, .inr (SqL.of ea), fun y dy ny nd ne => sp_make xs (ss := ss) sat1 e1 r k ny nd ne (q1 y)⟩⟩⟩
/-- C(*e, e2, ..): the items of e, then the others -/
theorem callSt {M : Model} {A : Around} {E : Value → Shared → Prop} {s : Shared} {K : PySem.W.Frag} {env : Env} {f : Value} {Q : Value → Shared → Prop} {sp_ : Pos} {e2 : Expr} {rest : List Expr} (hk : PySem.W.keepIn K f = true)
    (h : wpAny M A (spliced (backTo pos (starEach (.Starred e sp_ :: e2 :: rest) env))) (fun vs s1 => K.In s1.heap ∧ wpAny M A (call f vs) Q E s1) E s)
    (he : starEach (.Starred e sp_ :: e2 :: rest) env = (true, eval e env) :: starEach (e2 :: rest) env) (he2 : starEach (e2 :: rest) env = (false, eval e2 env) :: starEach rest env) :
    wpAny M A (callWith pos f [] (backTo pos (starEach (.Starred e sp_ :: e2 :: rest) env)) []) Q E s := by
  rw [he, he2] at h ⊢
  refine PySem.W.ks_call (P := K.In) rfl (PySem.W.keeps_K hk) ?_
  have plain : ∀ (x y : Sem Value) (more : List (Bool × Sem Value)) (R : Args → Shared → Prop), wpAny M A (spliced ((true, x) :: (false, y) :: more)) (fun vs s1 => R ⟨vs, []⟩ s1) E s → wpAny M A (evalArgs f true ((true, x) :: (false, y) :: more) []) R E s := by
    intro x y more R all
    unfold evalArgs
    show wpAny M A (spliced ((true, x) :: (false, y) :: more) >>= _) R E s
    exact wpAny_bind (wpAny_mono all (fun vs s1 q => wpAny_holding (wpAny_bind (wpAny_pure (wpAny_bind (wpAny_pure (wpAny_pure q)))))) fun _ _ z => z)
  exact plain _ _ _ _ h
theorem ew_makeSt {E' : XK} {KE' : Addr → List (Str × D) → Cs → Prop} (xs : Exs B E' KE') {g : Addr} {sp_ : Pos} {e2 : Expr} (M : Mk X.K C g) (G : FnR X.prog X.w X.K X.mg X.base CX n g (spF F)) (hr : Room (n + 1) X.A) (hg : Gl X x) (hm : X.mg x = some (.ref C)) (hx : Passes CX X E')
    (h : EW X B e ss fun d s => ∃ ds, (d = .tup ds ∨ d = .lst ds) ∧ AW X B (e2 :: es) s fun ds2 s2 => MkF F C KE' Q (ds ++ ds2) s2) (hd : (x == ("__debug__" : Str)) = false := by decide)
    (hst : starEach (.Starred e sp_ :: e2 :: es) X.env = (true, eval e X.env) :: starEach (e2 :: es) X.env := by rfl) (hst2 : starEach (e2 :: es) X.env = (false, eval e2 X.env) :: starEach es X.env := by rfl) : EW X B (.Call (.Name x p) (.Starred e sp_ :: e2 :: es) [] pos) ss Q := by
  have args := StX.pa_star (p := sp_) h.p (pa_any (es := e2 :: es)) hst
  refine ⟨⟨fun pins s σ H QQ I ⟨sat, k⟩ => ?_⟩⟩
  refine wpAny_Call_Name_kw (ld_glob I hg hm ?_ hd)
  refine callSt (K := X.K) M.kp (thn (args.run pos pins s σ H (fun vs H1 => ∀ y dy, H1 y = none → H1 dy = none → dy ≠ y → spF F (.ref y :: vs) (upd (upd H1 dy (.own y)) y (.ins C dy [])) (fun v H2 => v = .non ∧ QQ (.ref y) H2) E') I ⟨sat, fun v d s1 H1 ⟨ds, q0, q1⟩ sat1 e1 r1 => ?_⟩) fun us s1 ⟨vs, H1, I1, r, q⟩ => ⟨I1.kIn, StX.run_makeR M G hr hx I1 r q⟩) hst hst2
  rcases q0 with rfl | rfl
  · cases r1 with
    | tup ea n r => exact ⟨_, _, rfl, .inl (SqT.of ea), _, q1.p, sat1, fun vs ds2 s2 H2 q2 sat2 e2 r2 y dy ny nd ne => sp_make xs (ss := ss) sat2 (e1.trans e2) ((r.ext e2).app r2) k ny nd ne (q2 y)⟩
  · cases r1 with
    | lst ea n r => exact ⟨_, _, rfl, .inr (SqL.of ea), _, q1.p, sat1, fun vs ds2 s2 H2 q2 sat2 e2 r2 y dy ny nd ne => sp_make xs (ss := ss) sat2 (e1.trans e2) ((r.ext e2).app r2) k ny nd ne (q2 y)⟩
/-! ### raise -/
theorem s1_raise1 {fI : Addr} {fd : FuncData} (O : OexC X.K C) (iC : PySem.W.findIn X.K (.ref C) "__init__" = some (some (.ref fI))) (tI : PySem.W.typeIn X.K (.ref fI) = some (.type "function"))
    (G : FnOk X.prog X.w X.K X.mg X.base L2.CX0 1 fI fd ["self", f] (Ers.spIni1 C f)) (hr : Room 2 X.A) (hb : L2.Binds X.K fd ["self", f] []) (hg : Gl X x) (hm : X.mg x = some (.ref C))
    (hc : X.calm = true) (tk : Takes X (fun cls d _ H => B.E cls d H)) (h : EW X B e ss fun d s => B.Ex C [(f, d)] s.cs) (hdb : (x == ("__debug__" : Str)) = false := by decide)
    (hst : starEach [e] X.env = (false, eval e X.env) :: starEach [] X.env := by rfl) : S1 X B (.Raise (some (.Call (.Name x p) [e] [] pos)) none p') ss k :=
  ⟨PSimp (Ers.ps_raise1 O iC tI G hr hb hg hm hc tk h.p hdb hst) fun D σ H ⟨s, _⟩ => ⟨s, fun v d s1 H1 q1 sat1 e1 r1 y hy => by
    have S := Pre.Same.upd (o := .xd [(f, v)]) hy
    exact sat1.bok C _ s1.cs (some y) _ _ q1 (sat1.ext.trans (Ext.same S)) (sat1.ok.same S) upd_same (.cons (r1.ext (Ext.same S)) .nil)⟩⟩
theorem s1_raise2 {fI : Addr} {fd : FuncData} {g : Str} {e2 : Expr} (O : OexC X.K C) (iC : PySem.W.findIn X.K (.ref C) "__init__" = some (some (.ref fI))) (tI : PySem.W.typeIn X.K (.ref fI) = some (.type "function"))
    (G : FnOk X.prog X.w X.K X.mg X.base L2.CX0 1 fI fd ["self", f, g] (Ers.spIni2 C f g)) (hr : Room 2 X.A) (hb : L2.Binds X.K fd ["self", f, g] []) (hg : Gl X x) (hm : X.mg x = some (.ref C))
    (hc : X.calm = true) (tk : Takes X (fun cls d _ H => B.E cls d H)) (h : EW X B e ss fun d s => EW X B e2 s fun d2 s2 => B.Ex C [(g, d2), (f, d)] s2.cs) (hdb : (x == ("__debug__" : Str)) = false := by decide)
    (hst : starEach [e, e2] X.env = (false, eval e X.env) :: starEach [e2] X.env := by rfl) (hst2 : starEach [e2] X.env = (false, eval e2 X.env) :: starEach [] X.env := by rfl) (hpl : (backTo pos (starEach [e2] X.env)).any (·.1) = false := by rfl) : S1 X B (.Raise (some (.Call (.Name x p) [e, e2] [] pos)) none p') ss k :=
  ⟨PSimp (Ers.ps_raise2 O iC tI G hr hb hg hm hc tk h.p pe_any hdb hst hst2 hpl) fun D σ H ⟨s, _⟩ => ⟨s, fun v d s1 H1 q1 sat1 e1 r1 => ⟨_, q1.p, sat1, fun v2 d2 s2 H2 q2 sat2 e2 r2 y hy => by
    have S := Pre.Same.upd (o := .xd [(g, v2), (f, v)]) hy
    exact sat2.bok C _ s2.cs (some y) _ _ q2 (sat2.ext.trans (Ext.same S)) (sat2.ok.same S) upd_same (.cons (r2.ext (Ext.same S)) (.cons ((r1.ext e2).ext (Ext.same S)) .nil))⟩⟩⟩
/-! ### errors that were caught -/
theorem cl_isErr {ds : List (Str × D)} {v : V} {u : Value} {b : Bool} (T : Kept.ErrC X.K C) (hc : ClsV v u) (he : PySem.W.kitOne X.K (.ref C) u = some b) (q : Q (.bl b) ss) : ClD X B (.builtin "isinstance") [.exc C ds, .raw v] ss Q := fun vs σ H QQ s r k => by
  obtain ⟨v1, v2, rfl, r1, r2⟩ := vl2 r
  cases r2
  cases r1 with
  | exc ea n ea2 n2 r => exact ⟨_, Kept.call_isErr, _, C, _, _, u, b, rfl, ea, fun dd e => ⟨_, by subst e; exact ea2⟩, T, hc, he, k _ _ _ _ q s Ext.refl (.bl _)⟩
theorem ew_errF (T : Kept.ErrC X.K C) (no : PySem.W.findIn X.K (.ref C) f = some none) (h : EW X B a ss fun d s => ∃ ds d', d = .exc C ds ∧ ds.lookup f = some d' ∧ Q d' s) (hb : attributeBase a f X.env (eval a X.env) = eval a X.env := by rfl) : EW X B (.Attribute a f pos) ss Q :=
  ⟨PEimp (Kept.pe_errF h.p hb) fun σ H QQ ⟨s, k⟩ => ⟨s, fun v d s1 H1 ⟨ds, d', q0, hl, q1⟩ sat1 e1 r1 => by
    subst q0
    cases r1 with
    | exc ea n ea2 n2 r =>
      obtain ⟨u, hu, ru⟩ := r.lookup hl
      rename_i xo _
      cases xo with
      | none =>
        have z : _ = [] := ea2
        subst z
        cases hu
      | some xo =>
      exact ⟨_, C, _, _, u, rfl, ea, ea2, T, no, hu, k _ _ s1 H1 q1 sat1 e1 ru⟩⟩⟩
theorem cl_repr {d : D} {j : Nat} (hr : Room j X.A) (still : X.A.guards = some []) (h1 : d.dat = true) (h2 : d.py.showable = true) (h3 : d.py.hasDict = false) (h4 : d.py.depth ≤ 60) (h5 : d.py.shown.length ≤ sizeLine) (q : Q (.str d.py.shown) ss) : ClD X B (.builtin "repr") [d] ss Q := cl_c q fun H M vs r => by
  obtain ⟨v, rfl, r1⟩ := vl1 r
  exact ⟨_, _, Shw.call_repr hr still, .str _, fun QQ q => ⟨_, _, rfl, r1.dp h1, h2, h3, h4, h5, q⟩⟩
end
end Sx
set_option Elab.async false
set_option linter.all false
set_option maxRecDepth 100000
set_option maxHeartbeats 2000000
namespace Sx
open PySem PySem.Spec PyProof.Rows L2
section
variable {X : Cx} {B : Bs} {ss : SS} {Q : D → SS → Prop} {T : Bool → SS → Prop} {L : List D → SS → Prop} {k : Kt} {a b c e o elt tg iter : Expr} {es ifs : List Expr} {pos p apos p' : Pos} {CX : CXT} {n : Nat} {x m f : Str} {C : Addr} {ps : List Str} {F : FT} {scope : Scope}
theorem ew_dict0 (q : Q .dct0 ss) : EW X B (.Dict [] [] pos) ss Q := ⟨PEimp pe_dnewK fun σ H QQ ⟨s, k⟩ p hp => by
  have S := Pre.Same.upd (o := .dK []) hp
  exact k _ .dct0 ss _ q (s.same S) (Ext.same S) (.dct0 upd_same (s.new hp))⟩
/-- repr of an empty dict -/
theorem call_repr0 {j : Nat} (hr : Room j X.A) (still : X.A.guards = some []) : CallR X (.builtin "repr") (fun xs H Q => ∃ a, xs = [.ref a] ∧ H a = some (.dK []) ∧ Q (.str (PyData.shown (.dict []))) H) := by
  intro pins s σ H xs us Q I r h
  obtain ⟨a, rfl, ea, q⟩ := h
  obtain ⟨u, rfl, ru⟩ := vals1 r
  cases (show u = Value.ref a from ru)
  obtain ⟨_, nm, vs, kv, od, es, ep, ho, hc, hd, hkk, he, _⟩ := I.hok a _ ea
  cases kv
  have un := hr.un
  have e0 : es.toList = [] := by
    cases q : es.toList with
    | nil => rfl
    | cons y r => rw [q] at he; cases he
  have rd : Reads s.heap (.ref a) (.dict []) (a :: [] ++ []) := .dict ho hc.1 hd (by rw [e0]; exact .nil) (by rw [e0]; exact .nil)
  exact repr_of_reads' rd (by decide) (fun _ z => by
    have z : sysModules = a := by simpa using z
    rw [← z] at nm
    simp at nm) still (by show X.A.units + (1 + 1) < cLine; omega) (fun _ _ z => z) (fun h' u tk hk => ⟨.str _, H, I.kept hk, ⟨_, rfl⟩, q⟩) (by rw [sizeLine_eq]; decide)
theorem cl_repr0 {j : Nat} (hr : Room j X.A) (still : X.A.guards = some []) (q : Q (.str (PyData.shown (.dict []))) ss) : ClD X B (.builtin "repr") [.dct0] ss Q := cl_c q fun H M vs r => by
  obtain ⟨v, rfl, r1⟩ := vl1 r
  cases r1 with
  | dct0 e n => exact ⟨_, _, call_repr0 hr still, .str _, fun QQ q => ⟨_, rfl, e, q⟩⟩
/-! ### a lambda handed to a def that calls it once and keeps the error -/
/-- from the error's class, its fields, the cells: what is made of it -/
abbrev HRt := Addr → List (Str × D) → Cs → (D → Cs → Prop) → Prop
def TThD (HR : HRt) : (XK → Hp → VK → Prop) → Hp → VK → Prop := fun tl H Q => tl (fun cls d H1 => ∃ C x vs fs cs, cls = .ref C ∧ d = x ∧ Xat H1 x vs ∧ CsOk H1 cs ∧ VlF H1 (ow cs) vs fs ∧
    ∃ R, HR C fs cs R ∧ ∀ v d H2 cs2, R d cs2 → Ext (ow cs) H1 (ow cs2) H2 → CsOk H2 cs2 → Vl H2 (ow cs2) v d → Q v H2) H (fun v H1 => ∀ l, H1 l = none → Q (.ref l) (upd H1 l (.lst [v])))
theorem CsOk.notx {H : Hp} {cs : Cs} {y : Addr} {vs : List (Str × V)} (ok : CsOk H cs) (h : H y = some (.xd vs)) : ¬ ow cs y := fun m => by
  obtain ⟨⟨b, c⟩, hb, rfl⟩ := List.mem_map.mp m
  have z := ok.ok _ _ hb
  have h : H b = some (.xd vs) := h
  cases c with
  | lst ds => obtain ⟨_, e, _⟩ := z; rw [h] at e; cases e
  | ins C fs => obtain ⟨_, _, e, _⟩ := z; rw [h] at e; cases e
  | pen ns k => obtain ⟨_, _, _, e, _⟩ := z; rw [h] at e; cases e
  | tab q => obtain ⟨_, e, _⟩ := z; rw [h] at e; cases e
theorem Sat.tabs {σ : L2.St} {H H1 : Hp} {j : Nat} {Pa : Addr} {q : Str} (s : Sat B ss σ H) (hj : ss.cs[j]? = some (Pa, .tab q)) (eN : LamX.ExtN H H1) (t : LamX.Tabs [(Pa, q)] H1) (only : ∀ (i : Nat) a q', ss.cs[i]? = some (a, .tab q') → a = Pa ∧ q' = q) {E' : XK} {Ex : Addr → List (Str × D) → Cs → Prop} (bok : BOk ⟨H1, ss.cs, E', Ex⟩) :
    Sat ⟨H1, ss.cs, E', Ex⟩ ss σ H1 ∧ Ext (ow ss.cs) H (ow ss.cs) H1 := by
  have e : Ext (ow ss.cs) H (ow ss.cs) H1 := Ext.tabs eN
  refine ⟨⟨s.len, fun i d h => ?_, ⟨fun b c hm => ?_, s.ok.nd⟩, Ext.refl, bok⟩, e⟩
  · obtain ⟨v, e1, r⟩ := s.sl i d h
    exact ⟨v, e1, r.ext e⟩
  · obtain ⟨i, hi⟩ := List.getElem?_of_mem hm
    have z := s.ok.ok b c hm
    cases c with
    | tab q' =>
      obtain ⟨rfl, rfl⟩ := only i b q' hi
      obtain ⟨ps, h1, h2, h3⟩ := t (b, q') (by simp)
      refine ⟨ps, h1, h2, fun pos cv hc => ?_⟩
      obtain ⟨c, e1, e2⟩ := h3 pos cv hc
      refine ⟨c, e1, e2, fun m => ?_⟩
      obtain ⟨o, ho⟩ := s.ok.there m
      obtain ⟨⟨b2, c2⟩, hb2, eb⟩ := List.mem_map.mp m
      have z2 := s.ok.ok _ _ hb2
      have eb : b2 = c := eb
      subst eb
      have diff : ∀ o, H b2 = some o → (∀ ps, o ≠ .tbl ps) → o = LamX.CodeO b2 q' := fun o h nt => Option.some.inj ((eN _ _ h nt).symm.trans e2)
      cases c2 with
      | lst ds => obtain ⟨_, e, _⟩ := z2; have := diff _ e ntL; unfold LamX.CodeO at this; cases this
      | ins C fs => obtain ⟨_, _, e, _⟩ := z2; have := diff _ e ntI; unfold LamX.CodeO at this; cases this
      | pen ns k => obtain ⟨_, _, _, e, _⟩ := z2; have := diff _ e ntL; unfold LamX.CodeO at this; cases this
      | tab q2 =>
        obtain ⟨i2, hi2⟩ := List.getElem?_of_mem hb2
        obtain ⟨e3, e4⟩ := only i2 _ _ hi2
        have e3 : b2 = b := e3
        subst e3
        rw [h1] at e2
        have := Option.some.inj e2
        unfold LamX.CodeO at this
        cases this
    | lst ds =>
      obtain ⟨xs, h1, h2⟩ := z
      exact ⟨xs, eN _ _ h1 ntL, h2.ext e⟩
    | ins C fs =>
      obtain ⟨dx, vs, h1, h2⟩ := z
      exact ⟨dx, vs, eN _ _ h1 ntI, h2.ext e⟩
    | pen ns n =>
      obtain ⟨b, s, g, h1, h2, h3, h4⟩ := z
      exact ⟨b, s, g, eN _ _ h1 ntL, e.kp _ _ h3 ntL h2, h3, h4⟩
/-- _law_heard(lambda: body) -/
theorem ew_heard {HR : HRt} {Pa cc g : Addr} {q a : Str} {j : Nat} {pg params : Arguments} {bg : List Stmt} {sg lsc : Scope} {dV kV doc pm cdv ct oc : Value} {an od : Option Addr} {osl : Array (Option Value)} {Ng : List Str} {body : Expr} {kk : Nat} {lpos : Pos}
    (hg : Gl X x) (hm : X.mg x = some (.ref g)) (hk : PySem.W.keepIn X.K (.ref g) = true)
    (lk : X.K.lookup g = some ⟨oc, od, .func (PySem.W.fnOf x x pg bg sg dV kV doc pm an cdv ct), osl⟩) (hcg : PySem.W.codeIn X.K cdv x = true) (hb : L2.Binds X.K (PySem.W.fnOf x x pg bg sg dV kV doc pm an cdv ct) [a] []) (Sg : FnScope Ng [a] sg) (hNg : Ng[0]? = some a) (hva : Vis sg a)
    (hG : LamX.GivesTo X Ng x sg g cdv bg a (X.env.qual ++ "<lambda>") (TThD HR)) (TB : LamX.TabB X.base X.mg cc Pa) (hcode : X.env.code = .ref cc) (hq : q = X.env.qual ++ "<lambda>") (hj : ss.cs[j]? = some (Pa, .tab q)) (only : ∀ (i : Nat) a q', ss.cs[i]? = some (a, .tab q') → a = Pa ∧ q' = q)
    (hr : Room (kk + 2) X.A) (Ls : LamX.LamS X.env.scope lsc) (hdef : defaultsOf params X.env = ([], []))
    (hbind : ∀ (q : Str) (cl : List (Str × Addr)) (pm cv ctv : Value), bindArgs (PySem.W.kla_fn "<lambda>" q params body lsc cl pm cv ctv) ⟨[], []⟩ = pure [])
    (h : ∀ (A : Around) (outer : List Env) (s : Shared) (H Hb : Hp) (E : XK) (f c' : Addr), Room kk (A.deeper (LamX.lamEnv X lsc s.heap.objs.size f c')) → EW (LamX.lamCx X A outer s H E lsc f c') ⟨Hb, ss.cs, E, fun C fs cs => HR C fs cs fun d cs => Q d ⟨ss.sl, cs⟩⟩ body ss fun d s' => Q (.lst [d]) ⟨ss.sl, s'.cs⟩)
    (hdb : (x == ("__debug__" : Str)) = false := by decide) (hd : (a == ("__debug__" : Str)) = false := by decide) (hcd : (a == ("__classdict__" : Str)) = false := by decide) : EW X B (.Call (.Name x p) [.Lambda params body lsc lpos] [] pos) ss Q := by
  subst hq
  have body_ := fun A outer s H E f c' hr2 => (PEimp (t' := fun σ H1 QQ => tE ⟨H1, ss.cs, E, fun C fs cs => HR C fs cs fun d cs => Q d ⟨ss.sl, cs⟩⟩ ss (fun d s' => Q (.lst [d]) ⟨ss.sl, s'.cs⟩) σ H1 QQ)
    (t := fun σ H1 QQ => ∃ Hb, tE ⟨Hb, ss.cs, E, fun C fs cs => HR C fs cs fun d cs => Q d ⟨ss.sl, cs⟩⟩ ss (fun d s' => Q (.lst [d]) ⟨ss.sl, s'.cs⟩) σ H1 QQ) ⟨fun pins s1 σ H1 QQ I ⟨Hb, q⟩ => (h A outer s H Hb E f c' hr2).p.run pins s1 σ H1 QQ I q⟩ fun σ H1 QQ q => ⟨H1, q⟩)
  have P := LamX.pe_lamcall (X := X) (T := [(Pa, X.env.qual ++ "<lambda>")]) (p := p) (lpos := lpos) (pos := pos) (t := fun E σ H1 QQ => tE ⟨H1, ss.cs, E, fun C fs cs => HR C fs cs fun d cs => Q d ⟨ss.sl, cs⟩⟩ ss (fun d s' => Q (.lst [d]) ⟨ss.sl, s'.cs⟩) σ H1 QQ)
    hg hm hk lk hcg hb Sg hNg hva hG TB hcode (by simp) (fun p hp _ => by
      obtain rfl := List.mem_singleton.mp hp
      rfl) hr Ls hdef hbind body_ hdb hd hcd
  refine ⟨PEimp P fun σ H QQ ⟨s, k⟩ => ⟨fun p hp => ?_, fun H1 eN t1 => ?_⟩⟩
  · obtain rfl := List.mem_singleton.mp hp
    obtain ⟨ps, h1, h2, h3⟩ := s.ok.ok _ _ (List.mem_of_getElem? hj)
    exact ⟨ps, h1, h2, fun pos cv hc => by
      obtain ⟨c, e1, e2, _⟩ := h3 pos cv hc
      exact ⟨c, e1, e2⟩⟩
  · have bok : BOk ⟨H1, ss.cs, fun cls d H1 => ∃ C x vs fs cs, cls = .ref C ∧ d = x ∧ Xat H1 x vs ∧ CsOk H1 cs ∧ VlF H1 (ow cs) vs fs ∧
        ∃ R, HR C fs cs R ∧ ∀ v d H2 cs2, R d cs2 → Ext (ow cs) H1 (ow cs2) H2 → CsOk H2 cs2 → Vl H2 (ow cs2) v d → QQ v H2, fun C fs cs => HR C fs cs fun d cs => Q d ⟨ss.sl, cs⟩⟩ := by
      intro C fs cs x vs H' hx e ok hxd rf
      refine ⟨C, x, vs, fs, cs, rfl, rfl, hxd, ok, rf, _, hx, fun v d H2 cs2 q2 e2 ok2 r2 => ?_⟩
      have e0 : Ext (ow ss.cs) H (ow ss.cs) H1 := Ext.tabs eN
      have st := (s.tabs hj eN t1 only (E' := fun _ _ _ => True) (Ex := fun _ _ _ => False) (fun _ _ _ _ _ _ z => z.elim)).1
      refine k v d ⟨ss.sl, cs2⟩ H2 q2 ?_ ((e0.trans e).trans e2) r2
      exact s.cs ((e0.trans e).trans e2) ok2
    obtain ⟨sat1, e1⟩ := s.tabs hj eN t1 only bok
    refine ⟨sat1, fun v d ss' H' q sat' e' r' l hl => ?_⟩
    have S := Pre.Same.upd (o := .lst [v]) hl
    refine k _ (.lst [d]) ⟨ss.sl, ss'.cs⟩ _ q ?_ ((e1.trans e').trans (Ext.same S)) (.lst upd_same (sat'.new hl) (.cons (r'.ext (Ext.same S)) .nil))
    exact s.cs ((e1.trans e').trans (Ext.same S)) (sat'.ok.same S)
end
end Sx
set_option Elab.async false
set_option linter.all false
set_option maxRecDepth 100000
set_option maxHeartbeats 2000000
namespace Sx
open PySem PySem.Spec PyProof.Rows L2
theorem szl {n : Nat} (h : n ≤ 10000) : n ≤ sizeLine := by rw [sizeLine_eq]; omega
theorem szt {n : Nat} (h : n < 10000) : n < sizeLine := by rw [sizeLine_eq]; omega
section
variable {X : Cx} {B : Bs} {ss : SS} {Q : D → SS → Prop} {T : Bool → SS → Prop} {L : List D → SS → Prop} {k : Kt} {a b c e o elt tg iter : Expr} {es ifs : List Expr} {pos p apos p' : Pos} {CX : CXT} {n : Nat} {x m f : Str} {C : Addr} {ps : List Str} {F : FT} {scope : Scope}
theorem ew_isinstance (hm : X.mg "isinstance" = none) (h : AW X B (e :: es) ss fun ds s => ClD X B (.builtin "isinstance") ds s Q) (hg : Gl X "isinstance" := by rfl)
    (he : starEach (e :: es) X.env = (false, eval e X.env) :: starEach es X.env := by rfl) (hpl : (backTo pos (starEach es X.env)).any (·.1) = false := by rfl) : EW X B (.Call (.Name "isinstance" p) (e :: es) [] pos) ss Q := ew_callB hm hg (by decide +kernel) h (by decide) (by decide) he hpl
theorem ew_len (hm : X.mg "len" = none) (h : AW X B (e :: es) ss fun ds s => ClD X B (.builtin "len") ds s Q) (hg : Gl X "len" := by rfl)
    (he : starEach (e :: es) X.env = (false, eval e X.env) :: starEach es X.env := by rfl) (hpl : (backTo pos (starEach es X.env)).any (·.1) = false := by rfl) : EW X B (.Call (.Name "len" p) (e :: es) [] pos) ss Q := ew_callB hm hg (by decide +kernel) h (by decide) (by decide) he hpl
theorem ew_abs (hm : X.mg "abs" = none) (h : AW X B (e :: es) ss fun ds s => ClD X B (.builtin "abs") ds s Q) (hg : Gl X "abs" := by rfl)
    (he : starEach (e :: es) X.env = (false, eval e X.env) :: starEach es X.env := by rfl) (hpl : (backTo pos (starEach es X.env)).any (·.1) = false := by rfl) : EW X B (.Call (.Name "abs" p) (e :: es) [] pos) ss Q := ew_callB hm hg (by decide +kernel) h (by decide) (by decide) he hpl
theorem ew_repr (hm : X.mg "repr" = none) (h : AW X B (e :: es) ss fun ds s => ClD X B (.builtin "repr") ds s Q) (hg : Gl X "repr" := by rfl)
    (he : starEach (e :: es) X.env = (false, eval e X.env) :: starEach es X.env := by rfl) (hpl : (backTo pos (starEach es X.env)).any (·.1) = false := by rfl) : EW X B (.Call (.Name "repr" p) (e :: es) [] pos) ss Q := ew_callB hm hg (by decide +kernel) h (by decide) (by decide) he hpl
theorem ew_tint (hm : X.mg "int" = none) (h : AW X B (e :: es) ss fun ds s => ClD X B (.type "int") ds s Q) (hg : Gl X "int" := by rfl)
    (he : starEach (e :: es) X.env = (false, eval e X.env) :: starEach es X.env := by rfl) (hpl : (backTo pos (starEach es X.env)).any (·.1) = false := by rfl) : EW X B (.Call (.Name "int" p) (e :: es) [] pos) ss Q := ew_callT hm hg (by decide +kernel) h (by decide) (by decide) he hpl
theorem ew_tlist (hm : X.mg "list" = none) (h : AW X B (e :: es) ss fun ds s => ClD X B (.type "list") ds s Q) (hg : Gl X "list" := by rfl)
    (he : starEach (e :: es) X.env = (false, eval e X.env) :: starEach es X.env := by rfl) (hpl : (backTo pos (starEach es X.env)).any (·.1) = false := by rfl) : EW X B (.Call (.Name "list" p) (e :: es) [] pos) ss Q := ew_callT hm hg (by decide +kernel) h (by decide) (by decide) he hpl
theorem ew_ttuple (hm : X.mg "tuple" = none) (h : AW X B (e :: es) ss fun ds s => ClD X B (.type "tuple") ds s Q) (hg : Gl X "tuple" := by rfl)
    (he : starEach (e :: es) X.env = (false, eval e X.env) :: starEach es X.env := by rfl) (hpl : (backTo pos (starEach es X.env)).any (·.1) = false := by rfl) : EW X B (.Call (.Name "tuple" p) (e :: es) [] pos) ss Q := ew_callT hm hg (by decide +kernel) h (by decide) (by decide) he hpl
/-- a built-in type's name as a value -/
theorem ew_vint (hm : X.mg "int" = none) (q : Q (.raw (.ty "int")) ss) (hg : Gl X "int" := by rfl) : EW X B (.Name "int" pos) ss Q := ew_bltn (v := .ty "int") hm hg (by kernel_rfl) rfl q
theorem ew_vbool (hm : X.mg "bool" = none) (q : Q (.raw (.ty "bool")) ss) (hg : Gl X "bool" := by rfl) : EW X B (.Name "bool" pos) ss Q := ew_bltn (v := .ty "bool") hm hg (by kernel_rfl) rfl q
theorem ew_vtuple (hm : X.mg "tuple" = none) (q : Q (.raw (.ty "tuple")) ss) (hg : Gl X "tuple" := by rfl) : EW X B (.Name "tuple" pos) ss Q := ew_bltn (v := .ty "tuple") hm hg (by kernel_rfl) rfl q
theorem ew_vlist (hm : X.mg "list" = none) (q : Q (.raw (.ty "list")) ss) (hg : Gl X "list" := by rfl) : EW X B (.Name "list" pos) ss Q := ew_bltn (v := .ty "list") hm hg (by kernel_rfl) rfl q
theorem ew_vstr (hm : X.mg "str" = none) (q : Q (.raw (.ty "str")) ss) (hg : Gl X "str" := by rfl) : EW X B (.Name "str" pos) ss Q := ew_bltn (v := .ty "str") hm hg (by kernel_rfl) rfl q
/-! plain data -/
def Pln : D → Prop
  | .obj _ _ => False
  | .exc _ _ => False
  | .own _ => False
  | .raw _ => False
  | _ => True
def isW : D → Bool
  | .int _ => true
  | _ => false
def inR (lo hi : Int) : D → Bool
  | .int i => decide (lo ≤ i) && decide (i ≤ hi)
  | _ => false
theorem bt {b : Bool} {p : Prop} (h : b = false) (z : b = true) : p := by rw [h] at z; cases z
end
end Sx
set_option Elab.async false
set_option linter.all false
set_option maxRecDepth 100000
set_option maxHeartbeats 2000000
namespace Sx
open PySem PySem.Spec PyProof.Rows L2
section
variable {X : Cx} {B : Bs} {ss : SS} {Q : D → SS → Prop} {T : Bool → SS → Prop} {L : List D → SS → Prop} {k : Kt} {a b c e o elt tg iter : Expr} {es ifs : List Expr} {pos p apos p' : Pos} {CX : CXT} {n : Nat} {x m f : Str} {C : Addr} {ps : List Str} {F : FT} {scope : Scope}
/-! ### list(range(n)) -/
def rgD (n : Int) : List D := (List.range n.toNat).map fun (i : Nat) => D.int (i : Int)
theorem vl_ints {H : Hp} {M : Addr → Prop} (f : Nat → V) (g : Nat → D) (h : ∀ i, Vl H M (f i) (g i)) : ∀ l : List Nat, VlL H M (l.map f) (l.map g)
  | [] => .nil
  | i :: r => .cons (h i) (vl_ints f g h r)
theorem ew_listRg {rp rpos : Pos} (hc : X.calm = true) (hl : X.mg "list" = none) (hm : X.mg "range" = none) (h : EW X B e ss fun d s => ∃ n : Int, d = .int n ∧ 0 ≤ n ∧ n ≤ 10000 ∧ Q (.lst (rgD n)) s) (hgl : Gl X "list" := by rfl) (hgr : Gl X "range" := by rfl)
    (na : starEach [e] X.env = (false, eval e X.env) :: starEach [] X.env := by rfl) (na2 : starEach [.Call (.Name "range" rp) [e] [] rpos] X.env = (false, eval (.Call (.Name "range" rp) [e] [] rpos) X.env) :: starEach [] X.env := by rfl) :
    EW X B (.Call (.Name "list" p) [.Call (.Name "range" rp) [e] [] rpos] [] pos) ss Q :=
  ⟨PEimp (pe_listRg hc hgl hl (prg_1 hgr hm h.p na) na2) fun σ H QQ ⟨s, k⟩ => ⟨s, fun v d s1 H1 ⟨n, q1, n0, n1, q2⟩ sat1 e1 r1 => by
    subst q1
    cases r1
    refine ⟨n, rfl, RgOk.of_le (by omega) (by omega) (by omega) (by omega), fun p hp => ?_⟩
    have S := Pre.Same.upd (o := .lst (rgV 0 n)) hp
    refine k _ (.lst (rgD n)) s1 _ q2 (sat1.same S) (e1.trans (Ext.same S)) (.lst upd_same (sat1.new hp) ?_)
    unfold rgV rgD
    rw [Int.sub_zero]
    exact vl_ints _ _ (fun i => by rw [Int.zero_add]; exact .int _) _⟩⟩
/-! ### a, b, .. = a list -/
theorem tg_lst {ts : List Expr} {j : Nat} {ds : List D} {vs : List Nat} {R : SS → Prop} (h : TgsW X B ts ds vs ss R) (hn : ts.length = ds.length := by rfl) 
    (hl : ∀ g : TGs, PGs X ts g → PG X (.Tuple ts j pos) (gLst X.K ts.length g) := by exact fun _ h => pg_lst rfl h) : TgW X B (.Tuple ts j pos) (.lst ds) vs ss R :=
  ⟨PGimp (hl _ h.p) fun v σ H QQ ⟨s, r, k⟩ => by
    cases r with
    | lst e n r => exact ⟨_, _, rfl, SqL.of e, by rw [r.len, hn], s, r, k⟩⟩
/-! ### for i, x in enumerate(t) -/
theorem s1_forE {e : Expr} {elts : List Expr} {kk : Nat} {tpos : Pos} {body : List Stmt} {rp rpos : Pos} (vs : List Nat) (hp : PassesOwn (model X.prog X.w) X.A X.env X.xe) (hc : X.calm = true) (hm : X.mg "enumerate" = none)
    (h : EW X B e ss fun d s => ∃ ds, d = .tup ds ∧ ∃ Iv : Nat → SS → Prop, Iv 0 s ∧ (∀ j dj s', ds[j]? = some dj → Iv j s' → TgW X B (.Tuple elts kk tpos) (.tup [.int (j : Int), dj]) vs s' fun s2 => SW X B body s2 { nx := Iv (j + 1), rt := k.rt, bk := k.nx, ct := Iv (j + 1) }) ∧ ∀ s', Iv ds.length s' → k.nx s') (hg : Gl X "enumerate" := by rfl)
    (hse : starEach [e] X.env = [(false, eval e X.env)] := by rfl)
    (hs : ∀ x, foldedSetIterable (.Call (.Name "enumerate" rp) [e] [] rpos) X.env x = pure x := by intro _; rfl) : S1 X B (.For (.Tuple elts kk tpos) (.Call (.Name "enumerate" rp) [e] [] rpos) body [] pos) ss k :=
  ⟨PSimp (ps_for hp hc (Enu.pi_enumA hg hm (pa_cons h.p pa_nil hse) hse) pg_any pss_any hs) fun D σ H ⟨s, h1, h2, h3, h4⟩ => ⟨s, fun v d s1 H1 ⟨ds, q1, Iv, i0, i1, i2⟩ sat1 e1 r1 => by
    subst q1
    cases r1 with
    | @tup a xs _ ea n r =>
      refine ⟨a, xs, rfl, .inr ⟨SqT.of ea, for_it Enu.walk_enumT (fun i σ' H' => ∃ s', Iv i s' ∧ Sat B s' σ' H' ∧ Ext (ow s1.cs) H1 (ow s'.cs) H') ⟨s1, i0, sat1, Ext.refl⟩ (fun i σ' H' _ ⟨s', _, _, e'⟩ => SqT.of (e'.kp _ _ n ntT ea)) (fun i y σ' H' H'' hi ⟨s', q', sat', e'⟩ hy => ?_) fun σ' H' ⟨s', q', sat', e'⟩ => h1 s' σ' H' (i2 s' (by rw [r.len] at q'; exact q')) sat' (e1.trans e')⟩⟩
      obtain ⟨T, x0, y0, rfl, hT, rfl, hx, hy⟩ := hy
      cases hx
      obtain ⟨dj, hd, rd⟩ := r.back hy
      have S := Pre.Same.upd (o := .tup [V.int (i : Nat), y0]) hT
      have e'' := e'.trans (Ext.same (M := ow s'.cs) S)
      refine ⟨_, (i1 i dj s' hd q').p, sat'.same S, .tup upd_same (sat'.new hT) (.cons (.int _) (.cons (rd.ext e'') .nil)), fun s2 σ2 q2 c2 sat2 _ => ⟨_, q2.p, sat2, fun s3 σ3 H3 q3 sat3 e3 => ?_, fun v d s3 σ3 H3 q3 sat3 e3 r3 => ?_, fun s3 σ3 H3 q3 sat3 e3 => ?_, fun s3 σ3 H3 q3 sat3 e3 => ?_⟩⟩
      · exact ⟨s3, q3, sat3, e''.trans (by rw [c2] at e3; exact e3)⟩
      · exact h2 v d s3 σ3 H3 q3 sat3 ((e1.trans e'').trans (by rw [c2] at e3; exact e3)) r3
      · exact h1 s3 σ3 H3 q3 sat3 ((e1.trans e'').trans (by rw [c2] at e3; exact e3))
      · exact ⟨s3, q3, sat3, e''.trans (by rw [c2] at e3; exact e3)⟩⟩⟩
/-! ### truth -/
def TruD (d : D) (R : Bool → Prop) : Prop := match d with
  | .lst ds => R (!ds.isEmpty)
  | .tup ds => R (!ds.isEmpty)
  | .int i => R (i != 0)
  | .non => R false
  | _ => False
theorem tw_truth (h : EW X B e ss fun d s => TruD d fun k => T k s) (he : ∀ whole, isTrue e X.env whole = (do let v ← whole; standAt e.pos; holding [v] (truthy v)) := by intro _; rfl) : TW X B e ss T :=
  ⟨PTimp (pt_truth h.p he) fun σ H QQ ⟨s, k⟩ => ⟨s, fun v d s1 H1 q1 sat1 e1 r1 => by
    have emp : ∀ {vs : List V} {ds : List D}, VlL H1 (ow s1.cs) vs ds → vs.isEmpty = ds.isEmpty := fun {vs ds} r => by cases r <;> rfl
    cases r1 with
    | lst ea n r => exact ⟨_, .inl ⟨_, SqL.of ea, rfl⟩, by rw [emp r]; exact k _ s1 H1 q1 sat1 e1⟩
    | tup ea n r => exact ⟨_, .inr (.inl ⟨_, SqT.of ea, rfl⟩), by rw [emp r]; exact k _ s1 H1 q1 sat1 e1⟩
    | int i => exact ⟨_, rfl, k _ s1 H1 q1 sat1 e1⟩
    | non => exact ⟨false, rfl, k _ s1 H1 q1 sat1 e1⟩
    | _ => exact q1.elim⟩⟩
/-! ### lists repeated -/
def repD (n : Nat) (ds : List D) : List D := (List.replicate n ds).flatten
theorem VlL.rep {H : Hp} {M : Addr → Prop} {vs : List V} {ds : List D} (r : VlL H M vs ds) : ∀ n, VlL H M (List.replicate n vs).flatten (repD n ds)
  | 0 => .nil
  | n + 1 => by
    rw [List.replicate_succ, List.flatten_cons]
    unfold repD
    rw [List.replicate_succ, List.flatten_cons]
    exact r.app (VlL.rep r n)
theorem od_rep {ds : List D} {i : Int} (h1 : -(2 ^ 63) ≤ i) (h2 : i < 2 ^ 63) (h : ds.length * i.toNat ≤ 10000) (q : Q (.lst (repD i.toNat ds)) ss) : OpD X B (binaryOp .Mult) (.lst ds) (.int i) ss Q := od_new q fun H M v1 v2 r1 r2 => by
  cases r2
  cases r1 with
  | lst e n r => exact ⟨_, .lst _, op_rep, fun H' p h1 h2 S => .lst h1 h2 ((r.rep _).ext (Ext.same S)), fun QQ q => ⟨_, _, _, rfl, rfl, e, h1, h2, by rw [r.len]; exact szl h, q⟩⟩
theorem od_catT {xs ys : List D} (hx : xs ≠ []) (hy : ys ≠ []) (h : xs.length + ys.length ≤ 10000) (q : Q (.tup (xs ++ ys)) ss) : OpD X B (binaryOp .Add) (.tup xs) (.tup ys) ss Q := od_new q fun H M v1 v2 r1 r2 => by
  cases r1 with
  | @tup _ us _ e n r =>
    cases r2 with
    | @tup _ ws _ e2 n2 r2 =>
      have nu : us ≠ [] := fun z => hx (List.length_eq_zero_iff.mp (by rw [← r.len, z]; rfl))
      have nw : ws ≠ [] := fun z => hy (List.length_eq_zero_iff.mp (by rw [← r2.len, z]; rfl))
      exact ⟨_, .tup (us ++ ws), op_catT, fun H' p h1 h2 S => .tup h1 h2 ((r.app r2).ext (Ext.same S)), fun QQ q => ⟨_, _, _, _, rfl, rfl, SqT.of e, SqT.of e2, nu, by rw [r.len, r2.len]; exact szl h, fun z => absurd z nw, fun _ => q⟩⟩
def IntD (d : D) (R : Int → Prop) : Prop := ∃ i, d = .int i ∧ R i
theorem intD {i : Int} {R : Int → Prop} (h : R i) : IntD (.int i) R := ⟨i, rfl, h⟩
theorem ew_neg (h : EW X B a ss fun d s => IntD d fun i => Q (.int (-i)) s) : EW X B (.UnaryOp .USub a pos) ss Q := ⟨PEimp (pe_un un_neg h.p) fun σ H QQ ⟨s, k⟩ => ⟨s, fun v d s1 H1 ⟨i, q0, q1⟩ sat1 e1 r1 => by
  subst q0
  cases r1
  exact ⟨i, rfl, k _ _ s1 H1 q1 sat1 e1 (.int _)⟩⟩⟩
/-! ### a def with a star parameter -/
theorem sp_star {F F' : FT} {n : Nat} (h : ∀ ds cs Kk KE, F' ds cs Kk KE → ∃ ws rest, ds = ws ++ rest ∧ ws.length = n ∧ rest.length ≤ 10000 ∧ F (ws ++ [.tup rest]) cs Kk KE) {vs : List V} {H : Hp} {Q : VK} {E : XK} (q : spF F' vs H Q E) :
    ∃ ws rest, vs = ws ++ rest ∧ ws.length = n ∧ rest.length ≤ sizeLine ∧ ∀ p, H p = none → spF F (ws ++ [V.ref p]) (upd H p (.tup rest)) Q E := by
  obtain ⟨ds, cs, Kk, KE, r, ok, f, q1, q2⟩ := q
  obtain ⟨wd, rd, rfl, h1, h2, f2⟩ := h _ _ _ _ f
  have hl := r.len
  rw [List.length_append] at hl
  have rt := r.take n
  have rr := r.drop n
  rw [← h1, List.take_left' rfl] at rt
  rw [← h1, List.drop_left' rfl] at rr
  refine ⟨vs.take n, vs.drop n, (List.take_append_drop n vs).symm, by rw [List.length_take]; omega, by rw [List.length_drop]; exact szl (by omega), fun p hp => ?_⟩
  have S := Pre.Same.upd (o := .tup (vs.drop n)) hp
  have np : ¬ ow cs p := fun m => by
    obtain ⟨o, e⟩ := ok.there m
    rw [hp] at e
    cases e
  rw [h1] at rt rr
  refine ⟨wd ++ [.tup rd], cs, Kk, KE, (rt.ext (Ext.same S)).app (.cons (.tup upd_same np (rr.ext (Ext.same S))) .nil), ok.same S, f2, fun v d H' cs' q e => q1 v d H' cs' q ((Ext.same S).trans e), fun C fs cs' x vs H' q e => q2 C fs cs' x vs H' q ((Ext.same S).trans e)⟩
end
end Sx
set_option Elab.async false
set_option linter.all false
set_option maxRecDepth 100000
set_option maxHeartbeats 2000000
/-! o.m(k = v, ..): a method by keywords alone. -/
namespace Mk0
open PySem PySem.Spec PyProof.Rows L2 Pre
def tMethK (C : Addr) (m : Str) (n : Nat) (sp : Sp) (gV : List V → List V → List V) (E : XK) (ta : TE) (tk : TA) : TE := fun σ H Q => ta σ H fun x H1 => ∃ a dx fs, x = .ref a ∧ H1 a = some (.ins C dx fs) ∧ fs.lookup m = none ∧ tk σ H1 fun zs H2 => zs.length = n ∧ sp (gV [x] zs) H2 Q E
theorem pe_methK {X : Cx} {CX : CXT} {k : Nat} {f C : Addr} {fd : FuncData} {ps ks : List Str} {sp : Sp} {E : XK} {m : Str} {pos apos : Pos} {o : Expr} {kws : List Keyword} {ta : TE} {tk : TA} {g : List Value → List Value → List Value} {gV : List V → List V → List V} {pl : Sem Bool}
    (he : PE X o ta) (c : Cls X.K C) (hm : Meth X.K C m f) (F : FnOk X.prog X.w X.K X.mg X.base CX k f fd ps sp) (hr : Room k X.A) (hb : KBn X.K fd ps 1 ks g gV) (hx : Passes CX X E) (hkw : PK X kws tk)
    (hall : (backToKw pos (keywordEach kws X.env)).all (·.1.isSome) = true := by rfl) (hks : (backToKw pos (keywordEach kws X.env)).filterMap (·.1) = ks := by rfl)
    (hpl : ((backTo pos (starEach [] X.env)).any (·.1) || (backToKw pos (keywordEach kws X.env)).any (·.1.isNone)) = false := by rfl)
    (ht : eval (.Call (.Attribute o m apos) [] kws pos) X.env = (do
      let ov ← eval o X.env
      standAt apos.atName
      let (f, first) ← holding [ov] (getMethod ov m pl)
      callWith pos f first (backTo pos (starEach [] X.env)) (backToKw pos (keywordEach kws X.env))) := by rfl) :
    PE X (.Call (.Attribute o m apos) [] kws pos) (tMethK C m ks.length sp gV E ta tk) := by
  refine ⟨fun pins s σ H Q I h => ?_⟩
  refine PySem.W.methodCall_KW (pl := pl) (thn (he.run pins s σ H _ I h) ?_) ht
  rintro u s1 ⟨x, H1, I1, rx, a, dx, fs, rfl, ea, l, q⟩
  cases (show u = Value.ref a from rx)
  refine getmeth_ok I1 ea c hm l ?_
  refine PySem.W.callWith_KW0 (first := [.ref a]) (h₀ := X.base) I.ok.mod.kin hm.kp hall (thn (hkw.run pos pins s1 σ H1 _ I1 q) ?_) hpl
  rintro ws s2 ⟨zs, H2, I2, rz, l2, q2⟩
  refine ⟨I2.kIn, ?_⟩
  rw [hks]
  exact run_fnN (us := [.ref a]) (vs := [.ref a]) F hr hb hx I2 (.cons rfl .nil) rz rfl l2 q2
/-- two positional names, the keywords in this order or the other -/
theorem kb1 {K : PySem.W.Frag} {fd : FuncData} {p0 p1 : Str} (h : ∀ (s : Shared) (a b : Value), K.In s.heap → BindsTo s fd ⟨[a], [p1].zip [b]⟩ ([p0, p1].zip [a, b])) : KBn K fd [p0, p1] 1 [p1] (fun us ws => us ++ ws) (fun vs zs => vs ++ zs) := by
  refine ⟨fun s us ws X l1 l2 => ?_, fun r1 r2 => r1.append r2⟩
  match us, ws, l1, l2 with
  | [a], [b], _, _ => exact h s a b X
theorem kb2 {K : PySem.W.Frag} {fd : FuncData} {p0 p1 p2 : Str} (h : ∀ (s : Shared) (a b c : Value), K.In s.heap → BindsTo s fd ⟨[a], [p2, p1].zip [c, b]⟩ ([p0, p1, p2].zip [a, b, c])) : KBn K fd [p0, p1, p2] 1 [p2, p1] (fun us ws => us ++ ws.reverse) (fun vs zs => vs ++ zs.reverse) := by
  refine ⟨fun s us ws X l1 l2 => ?_, fun {vs us zs ws} r1 r2 => r1.append ?_⟩
  · match us, ws, l1, l2 with
    | [a], [c, b], _, _ => exact h s a b c X
  · induction r2 with
    | nil => exact .nil
    | cons a b ih =>
      rw [List.reverse_cons, List.reverse_cons]
      exact ih.append (.cons a .nil)
section
variable {P : Program} {w : World} {K : PySem.W.Frag} {mg : Str → Option Value} {base : Heap} {CX : CXT} {k : Nat} {x qual : Str} {params : Arguments} {body : List Stmt} {scope : Scope} {N : List Str} {sp : Sp} {C : Addr} {p0 p1 p2 : Str}
/-- a method of two parameters, also by its keyword -/
structure Mk1 (P : Program) (w : World) (K : PySem.W.Frag) (mg : Str → Option Value) (base : Heap) (CX : CXT) (k : Nat) (C : Addr) (m p0 p1 : Str) (sp : Sp) : Prop where
  cl : Cls K C
  mt : Meth K C m (He.ma K C m)
  ok : ∃ fd, FnOk P w K mg base CX k (He.ma K C m) fd [p0, p1] sp ∧ Binds K fd [p0, p1] [] ∧ KBn K fd [p0, p1] 1 [p1] (fun us ws => us ++ ws) (fun vs zs => vs ++ zs)
/-- a method of three, also by the two keywords, the last one first -/
structure Mk2 (P : Program) (w : World) (K : PySem.W.Frag) (mg : Str → Option Value) (base : Heap) (CX : CXT) (k : Nat) (C : Addr) (m p0 p1 p2 : Str) (sp : Sp) : Prop where
  cl : Cls K C
  mt : Meth K C m (He.ma K C m)
  ok : ∃ fd, FnOk P w K mg base CX k (He.ma K C m) fd [p0, p1, p2] sp ∧ Binds K fd [p0, p1, p2] [] ∧ KBn K fd [p0, p1, p2] 1 [p2, p1] (fun us ws => us ++ ws.reverse) (fun vs zs => vs ++ zs.reverse)
theorem Mk1.mfn {m : Str} (h : Mk1 P w K mg base CX k C m p0 p1 sp) : Dfs.Mfn P w K mg base CX k C m [p0, p1] sp := by
  obtain ⟨fd, a, b, _⟩ := h.ok
  exact ⟨h.cl, h.mt, fd, a, b⟩
theorem Mk2.mfn {m : Str} (h : Mk2 P w K mg base CX k C m p0 p1 p2 sp) : Dfs.Mfn P w K mg base CX k C m [p0, p1, p2] sp := by
  obtain ⟨fd, a, b, _⟩ := h.ok
  exact ⟨h.cl, h.mt, fd, a, b⟩
theorem mfk1 (q : ∃ fd, FunD K x qual params body scope [] [] (He.ma K C x) fd) (c : Cls K C) (m : Meth K C x (He.ma K C x)) (S : FnScope N [p0, p1] scope) (len : ∀ vs H Q E, sp vs H Q E → vs.length = [p0, p1].length)
    (hb : ∀ (kV doc pm : Value) (an : Option Addr) (cdv ct : Value) (a b : Value), bindArgs (PySem.W.fnOf x qual params body scope .none kV doc pm an cdv ct) ⟨[a, b], []⟩ = pure [(p0, a), (p1, b)])
    (hk : ∀ (kV doc pm : Value) (an : Option Addr) (cdv ct : Value) (a b : Value), bindArgs (PySem.W.fnOf x qual params body scope .none kV doc pm an cdv ct) ⟨[a], [(p1, b)]⟩ = pure [(p0, a), (p1, b)])
    (walk : ∀ (cdv : Value) (A : Around) (outer : List Env) (s : Shared) (H : Hp) (vs : List V) (Q : VK) (E : XK), Room k (A.deeper (envOfC qual scope s.heap.objs.size (He.ma K C x) cdv)) → sp vs H Q E →
      ∃ t, PSs (cxOf CX P w K mg base N qual scope (He.ma K C x) cdv A outer s H E) body t ∧ t { nx := fun _ H' => Q .non H', rt := Q } (start N vs) H) : Mk1 P w K mg base CX (k + 1) C x p0 p1 sp := by
  obtain ⟨fd, F⟩ := q
  refine ⟨c, m, fd, F.ok S len walk, F.bindsN fun kV doc pm an cdv ct => Vls.bind2 fun a b => hb kV doc pm an cdv ct a b, kb1 fun s a b _ => ?_⟩
  obtain ⟨oc, od, dV, kV, doc, pm, an, cdv, ct, osl, rfl, lk, hcd, hD, hK⟩ := F.ex
  rcases hD with ⟨_, rfl⟩ | ⟨e, _⟩
  · exact .of_eq (hk _ _ _ _ _ _ a b)
  · exact absurd rfl e
theorem mfk2 (q : ∃ fd, FunD K x qual params body scope [] [] (He.ma K C x) fd) (c : Cls K C) (m : Meth K C x (He.ma K C x)) (S : FnScope N [p0, p1, p2] scope) (len : ∀ vs H Q E, sp vs H Q E → vs.length = [p0, p1, p2].length)
    (hb : ∀ (kV doc pm : Value) (an : Option Addr) (cdv ct : Value) (a b c : Value), bindArgs (PySem.W.fnOf x qual params body scope .none kV doc pm an cdv ct) ⟨[a, b, c], []⟩ = pure [(p0, a), (p1, b), (p2, c)])
    (hk : ∀ (kV doc pm : Value) (an : Option Addr) (cdv ct : Value) (a b c : Value), bindArgs (PySem.W.fnOf x qual params body scope .none kV doc pm an cdv ct) ⟨[a], [(p2, c), (p1, b)]⟩ = pure [(p0, a), (p1, b), (p2, c)])
    (walk : ∀ (cdv : Value) (A : Around) (outer : List Env) (s : Shared) (H : Hp) (vs : List V) (Q : VK) (E : XK), Room k (A.deeper (envOfC qual scope s.heap.objs.size (He.ma K C x) cdv)) → sp vs H Q E →
      ∃ t, PSs (cxOf CX P w K mg base N qual scope (He.ma K C x) cdv A outer s H E) body t ∧ t { nx := fun _ H' => Q .non H', rt := Q } (start N vs) H) : Mk2 P w K mg base CX (k + 1) C x p0 p1 p2 sp := by
  obtain ⟨fd, F⟩ := q
  refine ⟨c, m, fd, F.ok S len walk, F.bindsN fun kV doc pm an cdv ct => Vls.bind3 fun a b c => hb kV doc pm an cdv ct a b c, kb2 fun s a b c _ => ?_⟩
  obtain ⟨oc, od, dV, kV, doc, pm, an, cdv, ct, osl, rfl, lk, hcd, hD, hK⟩ := F.ex
  rcases hD with ⟨_, rfl⟩ | ⟨e, _⟩
  · exact .of_eq (hk _ _ _ _ _ _ a b c)
  · exact absurd rfl e
end
end Mk0
set_option Elab.async false
set_option linter.all false
set_option maxRecDepth 100000
set_option maxHeartbeats 2000000
namespace Sx
open PySem PySem.Spec PyProof.Rows L2 Mk0
/-! ### o.m(k = v, ..) -/
theorem PKimp {X : Cx} {e : List Keyword} {t t' : TA} (h : PK X e t) (i : ∀ σ H Q, t' σ H Q → t σ H Q) : PK X e t' := ⟨fun pos pins s σ H Q I q => h.run pos pins s σ H Q I (i σ H Q q)⟩
def tkAny (X : Cx) (kws : List Keyword) : TA := fun σ H Q => ∃ t, PK X kws t ∧ t σ H Q
theorem pk_any {X : Cx} {kws : List Keyword} : PK X kws (tkAny X kws) := ⟨fun pos pins s σ H Q I ⟨_, h, q⟩ => h.run pos pins s σ H Q I q⟩
structure KW (X : Cx) (B : Bs) (kws : List Keyword) (ss : SS) (L : List D → SS → Prop) : Prop where
  p : PK X kws (tA B ss L)
section
variable {X : Cx} {B : Bs} {ss : SS} {Q : D → SS → Prop} {L : List D → SS → Prop} {e o : Expr} {kws : List Keyword} {pos p apos kpos : Pos} {CX : CXT} {n : Nat} {m p0 p1 p2 : Str} {C : Addr} {ps : List Str} {F : FT} {nm : Option Str}
theorem kw_nil (q : L [] ss) : KW X B [] ss L := ⟨PKimp pk_nil fun σ H QQ ⟨s, k⟩ => k [] [] ss H q s Ext.refl .nil⟩
theorem kw_cons (h : EW X B e ss fun d s => KW X B kws s fun ds s' => L (d :: ds) s') : KW X B (⟨nm, e, kpos⟩ :: kws) ss L :=
  ⟨PKimp (pk_cons h.p pk_any) fun σ H QQ ⟨s, k⟩ => ⟨s, fun v d s1 H1 q1 sat1 e1 r1 => ⟨_, q1.p, sat1, fun vs ds s2 H2 q2 sat2 e2 r2 => k (v :: vs) (d :: ds) s2 H2 q2 sat2 (e1.trans e2) (.cons (r1.ext e2) r2)⟩⟩⟩
theorem VlL.rev {H : Hp} {M : Addr → Prop} : ∀ {ds : List D} {vs : List V}, VlL H M vs ds → VlL H M vs.reverse ds.reverse
  | [], _, r => by cases r; exact .nil
  | _ :: ds, _, r => by
    cases r with
    | cons a b =>
      rw [List.reverse_cons, List.reverse_cons]
      exact (VlL.rev b).app (.cons a .nil)
theorem ew_methK1 {E' : XK} {KE' : Addr → List (Str × D) → Cs → Prop} {pl : Sem Bool} (xs : Exs B E' KE') (Dd : Mk1 X.prog X.w X.K X.mg X.base CX n C m p0 p1 (spF F)) (hr : Room n X.A) (hx : Passes CX X E') (h : EW X B o ss fun d s => IsI C m d s.cs ∧ KW X B kws s fun ds s => ds.length = 1 ∧ F (d :: ds) s.cs (fun d cs => Q d ⟨s.sl, cs⟩) KE')
    (hall : (backToKw pos (keywordEach kws X.env)).all (·.1.isSome) = true := by rfl) (hks : (backToKw pos (keywordEach kws X.env)).filterMap (·.1) = [p1] := by rfl)
    (hpl : ((backTo pos (starEach [] X.env)).any (·.1) || (backToKw pos (keywordEach kws X.env)).any (·.1.isNone)) = false := by rfl)
    (ht : eval (.Call (.Attribute o m apos) [] kws pos) X.env = (do
      let ov ← eval o X.env
      standAt apos.atName
      let (f, first) ← holding [ov] (getMethod ov m pl)
      callWith pos f first (backTo pos (starEach [] X.env)) (backToKw pos (keywordEach kws X.env))) := by rfl) : EW X B (.Call (.Attribute o m apos) [] kws pos) ss Q := by
  obtain ⟨fd, G, _, hb⟩ := Dd.ok
  exact ⟨PEimp (pe_methK h.p Dd.cl Dd.mt G hr hb hx (pk_any (kws := kws)) hall hks hpl ht) fun σ H QQ ⟨s, k⟩ => ⟨s, fun v d s1 H1 ⟨i, q1⟩ sat1 e1 r1 => by
    obtain ⟨a, dx, fs, rfl, ea, hl⟩ := i.at_ sat1.ok r1
    exact ⟨a, dx, fs, rfl, ea, hl, _, q1.p, sat1, fun vs ds s2 H2 q2 sat2 e2 r2 => ⟨by rw [r2.len]; exact q2.1, sp_go xs sat2 (e1.trans e2) (.cons (r1.ext e2) r2) k q2.2⟩⟩⟩⟩
theorem ew_methK2 {E' : XK} {KE' : Addr → List (Str × D) → Cs → Prop} {pl : Sem Bool} (xs : Exs B E' KE') (Dd : Mk2 X.prog X.w X.K X.mg X.base CX n C m p0 p1 p2 (spF F)) (hr : Room n X.A) (hx : Passes CX X E') (h : EW X B o ss fun d s => IsI C m d s.cs ∧ KW X B kws s fun ds s => ds.length = 2 ∧ F (d :: ds.reverse) s.cs (fun d cs => Q d ⟨s.sl, cs⟩) KE')
    (hall : (backToKw pos (keywordEach kws X.env)).all (·.1.isSome) = true := by rfl) (hks : (backToKw pos (keywordEach kws X.env)).filterMap (·.1) = [p2, p1] := by rfl)
    (hpl : ((backTo pos (starEach [] X.env)).any (·.1) || (backToKw pos (keywordEach kws X.env)).any (·.1.isNone)) = false := by rfl)
    (ht : eval (.Call (.Attribute o m apos) [] kws pos) X.env = (do
      let ov ← eval o X.env
      standAt apos.atName
      let (f, first) ← holding [ov] (getMethod ov m pl)
      callWith pos f first (backTo pos (starEach [] X.env)) (backToKw pos (keywordEach kws X.env))) := by rfl) : EW X B (.Call (.Attribute o m apos) [] kws pos) ss Q := by
  obtain ⟨fd, G, _, hb⟩ := Dd.ok
  exact ⟨PEimp (pe_methK h.p Dd.cl Dd.mt G hr hb hx (pk_any (kws := kws)) hall hks hpl ht) fun σ H QQ ⟨s, k⟩ => ⟨s, fun v d s1 H1 ⟨i, q1⟩ sat1 e1 r1 => by
    obtain ⟨a, dx, fs, rfl, ea, hl⟩ := i.at_ sat1.ok r1
    exact ⟨a, dx, fs, rfl, ea, hl, _, q1.p, sat1, fun vs ds s2 H2 q2 sat2 e2 r2 => ⟨by rw [r2.len]; exact q2.1, sp_go xs sat2 (e1.trans e2) (.cons (r1.ext e2) (VlL.rev r2)) k q2.2⟩⟩⟩⟩
end
section
variable {P : Program} {w : World} {K : PySem.W.Frag} {mg : Str → Option Value} {base : Heap} {CX : CXT} {k : Nat} {x qual : Str} {params : Arguments} {body : List Stmt} {scope : Scope} {N : List Str} {C : Addr} {p0 p1 p2 : Str} {F : FT}
theorem mfkF1 (q : ∃ fd, FunD K x qual params body scope [] [] (He.ma K C x) fd) (c : Cls K C) (m : Meth K C x (He.ma K C x)) (S : FnScope N [p0, p1] scope)
    (hb : ∀ (kV doc pm : Value) (an : Option Addr) (cdv ct : Value) (a b : Value), bindArgs (PySem.W.fnOf x qual params body scope .none kV doc pm an cdv ct) ⟨[a, b], []⟩ = pure [(p0, a), (p1, b)])
    (hk : ∀ (kV doc pm : Value) (an : Option Addr) (cdv ct : Value) (a b : Value), bindArgs (PySem.W.fnOf x qual params body scope .none kV doc pm an cdv ct) ⟨[a], [(p1, b)]⟩ = pure [(p0, a), (p1, b)])
    (len : ∀ ds cs Kk KE, F ds cs Kk KE → ds.length = 2)
    (walk : ∀ (cdv : Value) (A : Around) (outer : List Env) (s : Shared) (H : Hp) (E : XK) (ds : List D) (cs : Cs) (Kk : D → Cs → Prop) (KE : Addr → List (Str × D) → Cs → Prop), Room k (A.deeper (envOfC qual scope s.heap.objs.size (He.ma K C x) cdv)) → F ds cs Kk KE →
      SW (cxOf CX P w K mg base N qual scope (He.ma K C x) cdv A outer s H E) ⟨H, cs, E, KE⟩ body ⟨startD N ds, cs⟩ { nx := fun s => Kk .non s.cs, rt := fun d s => Kk d s.cs }) : Mk1 P w K mg base CX (k + 1) C x p0 p1 (spF F) := by
  refine mfk1 q c m S (fun vs H Q E h => ?_) hb hk (fun cdv A outer s H vs Q E hr h => ?_)
  · obtain ⟨ds, cs, Kk, KE, r, ok, f, _⟩ := h
    rw [r.len]
    exact len _ _ _ _ f
  · obtain ⟨ds, cs, Kk, KE, r, ok, f, q1, q2⟩ := h
    exact body_go r ok q1 q2 (walk cdv A outer s H E ds cs Kk KE hr f)
theorem mfkF2 (q : ∃ fd, FunD K x qual params body scope [] [] (He.ma K C x) fd) (c : Cls K C) (m : Meth K C x (He.ma K C x)) (S : FnScope N [p0, p1, p2] scope)
    (hb : ∀ (kV doc pm : Value) (an : Option Addr) (cdv ct : Value) (a b c : Value), bindArgs (PySem.W.fnOf x qual params body scope .none kV doc pm an cdv ct) ⟨[a, b, c], []⟩ = pure [(p0, a), (p1, b), (p2, c)])
    (hk : ∀ (kV doc pm : Value) (an : Option Addr) (cdv ct : Value) (a b c : Value), bindArgs (PySem.W.fnOf x qual params body scope .none kV doc pm an cdv ct) ⟨[a], [(p2, c), (p1, b)]⟩ = pure [(p0, a), (p1, b), (p2, c)])
    (len : ∀ ds cs Kk KE, F ds cs Kk KE → ds.length = 3)
    (walk : ∀ (cdv : Value) (A : Around) (outer : List Env) (s : Shared) (H : Hp) (E : XK) (ds : List D) (cs : Cs) (Kk : D → Cs → Prop) (KE : Addr → List (Str × D) → Cs → Prop), Room k (A.deeper (envOfC qual scope s.heap.objs.size (He.ma K C x) cdv)) → F ds cs Kk KE →
      SW (cxOf CX P w K mg base N qual scope (He.ma K C x) cdv A outer s H E) ⟨H, cs, E, KE⟩ body ⟨startD N ds, cs⟩ { nx := fun s => Kk .non s.cs, rt := fun d s => Kk d s.cs }) : Mk2 P w K mg base CX (k + 1) C x p0 p1 p2 (spF F) := by
  refine mfk2 q c m S (fun vs H Q E h => ?_) hb hk (fun cdv A outer s H vs Q E hr h => ?_)
  · obtain ⟨ds, cs, Kk, KE, r, ok, f, _⟩ := h
    rw [r.len]
    exact len _ _ _ _ f
  · obtain ⟨ds, cs, Kk, KE, r, ok, f, q1, q2⟩ := h
    exact body_go r ok q1 q2 (walk cdv A outer s H E ds cs Kk KE hr f)
end
end Sx
set_option Elab.async false
set_option linter.all false
set_option maxRecDepth 100000
set_option maxHeartbeats 2000000
namespace Sx
open PySem PySem.Spec PyProof.Rows L2
/-! ### equality told by ours -/
mutual
/-- data no deeper than n -/
def D.tm : D → Nat → Bool
  | .non, _ => true
  | .bl _, _ => true
  | .int _, _ => true
  | .str x, _ => PyData.strOk x
  | .lst xs, n => decide (0 < n) && D.tmL xs (n - 1)
  | .tup xs, n => decide (0 < n) && D.tmL xs (n - 1)
  | .obj _ _, _ => false
  | .exc _ _, _ => false
  | .dct0, _ => false
  | .own _, _ => false
  | .raw _, _ => false
def D.tmL : List D → Nat → Bool
  | [], _ => true
  | d :: ds, n => D.tm d n && D.tmL ds n
end
mutual
theorem tm_go : ∀ (d : D) (n : Nat), d.tm n = true → d.dat = true ∧ d.py.canLay0 = true ∧ d.py.depth ≤ n
  | .non, n, h => ⟨rfl, rfl, Nat.zero_le _⟩
  | .bl b, n, h => ⟨rfl, rfl, Nat.zero_le _⟩
  | .int i, n, h => ⟨rfl, rfl, Nat.zero_le _⟩
  | .str x, n, h => ⟨rfl, by simpa [D.tm, D.py, PyData.canLay0] using h, Nat.zero_le _⟩
  | .lst xs, n, h => by
    simp only [D.tm, Bool.and_eq_true, decide_eq_true_eq] at h
    obtain ⟨a, b, c⟩ := tmL_go xs _ h.2
    refine ⟨by simpa only [D.dat] using a, by simpa only [D.py, PyData.canLay0] using b, ?_⟩
    simp only [D.py, PyData.depth]
    omega
  | .tup xs, n, h => by
    simp only [D.tm, Bool.and_eq_true, decide_eq_true_eq] at h
    obtain ⟨a, b, c⟩ := tmL_go xs _ h.2
    refine ⟨by simpa only [D.dat] using a, by simpa only [D.py, PyData.canLay0] using b, ?_⟩
    simp only [D.py, PyData.depth]
    omega
  | .obj _ _, _, h => by simp only [D.tm] at h; cases h
  | .exc _ _, _, h => by simp only [D.tm] at h; cases h
  | .dct0, _, h => by simp only [D.tm] at h; cases h
  | .own _, _, h => by simp only [D.tm] at h; cases h
  | .raw _, _, h => by simp only [D.tm] at h; cases h
theorem tmL_go : ∀ (ds : List D) (n : Nat), D.tmL ds n = true → D.datL ds = true ∧ PyData.canLayAll0 (D.pyL ds) = true ∧ PyData.depthAll (D.pyL ds) ≤ n
  | [], n, h => ⟨rfl, rfl, Nat.zero_le _⟩
  | d :: ds, n, h => by
    simp only [D.tmL, Bool.and_eq_true] at h
    obtain ⟨a, b, c⟩ := tm_go d n h.1
    obtain ⟨a2, b2, c2⟩ := tmL_go ds n h.2
    refine ⟨by simp only [D.datL, a, a2]; rfl, by simp only [D.pyL, PyData.canLayAll0, b, b2]; rfl, ?_⟩
    simp only [D.pyL, PyData.depthAll]
    omega
end
theorem tm_ok {d : D} {n : Nat} (h : d.tm n = true) (hn : n ≤ 64) : d.ok = true := by
  obtain ⟨a, b, c⟩ := tm_go d n h
  unfold D.ok SeqAt.shaped
  rw [a, b, decide_eq_true (by omega)]
  rfl
theorem tmL_map {α : Type} (f : α → D) (n : Nat) : ∀ l : List α, (∀ x ∈ l, (f x).tm n = true) → D.tmL (l.map f) n = true
  | [], _ => rfl
  | x :: l, h => by
    simp only [List.map_cons, D.tmL, Bool.and_eq_true]
    exact ⟨h x List.mem_cons_self, tmL_map f n l fun y hy => h y (List.mem_cons_of_mem _ hy)⟩
theorem eqv_self {d : D} (h : d.ok = true) : D.eqv d d = true := by
  obtain ⟨_, b⟩ := Bool.and_eq_true_iff.mp h
  exact SeqAt.eqv_refl _ (SeqAt.canLay_of_shaped b)
mutual
/-- no bool -/
def D.nb : D → Bool
  | .non => true
  | .int _ => true
  | .str _ => true
  | .lst xs => D.nbL xs
  | .tup xs => D.nbL xs
  | .bl _ => false
  | .obj _ _ => false
  | .exc _ _ => false
  | .dct0 => false
  | .own _ => false
  | .raw _ => false
def D.nbL : List D → Bool
  | [] => true
  | d :: ds => D.nb d && D.nbL ds
end
mutual
theorem eqv_eq : ∀ (d e : D), d.nb = true → e.nb = true → PyData.eqv d.py e.py = true → d = e
  | .non, e, _, h2, q => by cases e <;> first | rfl | (refine absurd q ?_; simp [D.py, PyData.eqv]; done) | (refine absurd h2 ?_; simp [D.nb]; done)
  | .int i, e, _, h2, q => by
    cases e with
    | int j =>
      simp only [D.py, PyData.eqv, beq_iff_eq] at q
      rw [q]
    | _ => first | (refine absurd q ?_; simp [D.py, PyData.eqv]; done) | (refine absurd h2 ?_; simp [D.nb]; done)
  | .str x, e, _, h2, q => by
    cases e with
    | str j =>
      simp only [D.py, PyData.eqv, beq_iff_eq] at q
      rw [q]
    | _ => first | (refine absurd q ?_; simp [D.py, PyData.eqv]; done) | (refine absurd h2 ?_; simp [D.nb]; done)
  | .lst xs, e, h1, h2, q => by
    cases e with
    | lst ys =>
      simp only [D.nb] at h1 h2
      simp only [D.py, PyData.eqv] at q
      rw [eqvL_eq xs ys h1 h2 q]
    | _ => first | (refine absurd q ?_; simp [D.py, PyData.eqv]; done) | (refine absurd h2 ?_; simp [D.nb]; done)
  | .tup xs, e, h1, h2, q => by
    cases e with
    | tup ys =>
      simp only [D.nb] at h1 h2
      simp only [D.py, PyData.eqv] at q
      rw [eqvL_eq xs ys h1 h2 q]
    | _ => first | (refine absurd q ?_; simp [D.py, PyData.eqv]; done) | (refine absurd h2 ?_; simp [D.nb]; done)
  | .bl _, _, h, _, _ => by simp only [D.nb] at h; cases h
  | .obj _ _, _, h, _, _ => by simp only [D.nb] at h; cases h
  | .exc _ _, _, h, _, _ => by simp only [D.nb] at h; cases h
  | .dct0, _, h, _, _ => by simp only [D.nb] at h; cases h
  | .own _, _, h, _, _ => by simp only [D.nb] at h; cases h
  | .raw _, _, h, _, _ => by simp only [D.nb] at h; cases h
theorem eqvL_eq : ∀ (ds es : List D), D.nbL ds = true → D.nbL es = true → PyData.eqvAll (D.pyL ds) (D.pyL es) = true → ds = es
  | [], [], _, _, _ => rfl
  | [], _ :: _, _, _, q => by simp only [D.pyL, PyData.eqvAll] at q; cases q
  | _ :: _, [], _, _, q => by simp only [D.pyL, PyData.eqvAll] at q; cases q
  | d :: ds, e :: es, h1, h2, q => by
    simp only [D.nbL, Bool.and_eq_true] at h1 h2
    simp only [D.pyL, PyData.eqvAll, Bool.and_eq_true] at q
    rw [eqv_eq d e h1.1 h2.1 q.1, eqvL_eq ds es h1.2 h2.2 q.2]
end
theorem nbL_map {α : Type} (f : α → D) : ∀ l : List α, (∀ x ∈ l, (f x).nb = true) → D.nbL (l.map f) = true
  | [], _ => rfl
  | x :: l, h => by
    simp only [List.map_cons, D.nbL, Bool.and_eq_true]
    exact ⟨h x List.mem_cons_self, nbL_map f l fun y hy => h y (List.mem_cons_of_mem _ hy)⟩
theorem eqv_no {d e : D} (h1 : d.nb = true) (h2 : e.nb = true) (n : d ≠ e) : D.eqv d e = false := by
  cases q : D.eqv d e with
  | false => rfl
  | true => exact absurd (eqv_eq d e h1 h2 q) n
end Sx
set_option Elab.async false
set_option linter.all false
set_option maxRecDepth 100000
set_option maxHeartbeats 2000000
namespace Sx
open PySem PySem.Spec PyProof.Rows L2
section
variable {X : Cx} {B : Bs} {ss : SS} {Q : D → SS → Prop} {T : Bool → SS → Prop} {L : List D → SS → Prop} {k : Kt} {a b c e o elt tg iter : Expr} {es ifs : List Expr} {pos p apos p' : Pos} {CX : CXT} {n : Nat} {x m f : Str} {C : Addr} {ps : List Str} {F : FT} {scope : Scope}
def tabsOf : Cs → List (Addr × Str)
  | [] => []
  | (a, .tab q) :: r => (a, q) :: tabsOf r
  | (_, .lst _) :: r => tabsOf r
  | (_, .ins _ _) :: r => tabsOf r
  | (_, .pen _ _) :: r => tabsOf r
theorem mem_tabsOf {a : Addr} {q : Str} : ∀ {cs : Cs}, (a, q) ∈ tabsOf cs ↔ (a, Cell.tab q) ∈ cs
  | [] => by simp [tabsOf]
  | (b, .tab q2) :: r => by
    unfold tabsOf
    rw [List.mem_cons, List.mem_cons, mem_tabsOf (cs := r)]
    exact or_congr ⟨fun h => by cases h; rfl, fun h => by cases h; rfl⟩ Iff.rfl
  | (b, .lst _) :: r => by
    unfold tabsOf
    rw [List.mem_cons, mem_tabsOf (cs := r)]
    exact ⟨.inr, fun h => h.elim (fun z => by cases z) id⟩
  | (b, .ins _ _) :: r => by
    unfold tabsOf
    rw [List.mem_cons, mem_tabsOf (cs := r)]
    exact ⟨.inr, fun h => h.elim (fun z => by cases z) id⟩
  | (b, .pen _ _) :: r => by
    unfold tabsOf
    rw [List.mem_cons, mem_tabsOf (cs := r)]
    exact ⟨.inr, fun h => h.elim (fun z => by cases z) id⟩
/-- what every state of the kind tells -/
theorem ew_of {q : Prop} (hq : ∀ σ H, Sat B ss σ H → q) (h : q → EW X B e ss Q) : EW X B e ss Q := ⟨⟨fun pins s σ H QQ I z => (h (hq σ H z.1)).p.run pins s σ H QQ I z⟩⟩
theorem nd_mem {cs : Cs} (n : (cs.map Prod.fst).Nodup) {a : Addr} {c d : Cell} (h1 : (a, c) ∈ cs) (h2 : (a, d) ∈ cs) : c = d := by
  induction cs with
  | nil => cases h1
  | cons x r ih =>
    rw [List.map_cons, List.nodup_cons] at n
    rcases List.mem_cons.mp h1 with z | z
    · rcases List.mem_cons.mp h2 with y | y
      · rw [← z] at y
        cases y
        rfl
      · exact absurd (List.mem_map.mpr ⟨_, y, rfl⟩) (by rw [← z] at n; exact n.1)
    · rcases List.mem_cons.mp h2 with y | y
      · exact absurd (List.mem_map.mpr ⟨_, z, rfl⟩) (by rw [← y] at n; exact n.1)
      · exact ih n.2 z y
theorem Sat.tabsA {σ : L2.St} {H H1 : Hp} (s : Sat B ss σ H) (eN : LamX.ExtN H H1) (t : LamX.Tabs (tabsOf ss.cs) H1) {E' : XK} {Ex : Addr → List (Str × D) → Cs → Prop} (bok : BOk ⟨H1, ss.cs, E', Ex⟩) :
    Sat ⟨H1, ss.cs, E', Ex⟩ ss σ H1 ∧ Ext (ow ss.cs) H (ow ss.cs) H1 := by
  have e : Ext (ow ss.cs) H (ow ss.cs) H1 := Ext.tabs eN
  refine ⟨⟨s.len, fun i d h => ?_, ⟨fun b c hm => ?_, s.ok.nd⟩, Ext.refl, bok⟩, e⟩
  · obtain ⟨v, e1, r⟩ := s.sl i d h
    exact ⟨v, e1, r.ext e⟩
  · obtain ⟨i, hi⟩ := List.getElem?_of_mem hm
    have z := s.ok.ok b c hm
    cases c with
    | tab q' =>
      obtain ⟨ps, h1, h2, h3⟩ := t (b, q') (mem_tabsOf.mpr hm)
      refine ⟨ps, h1, h2, fun pos cv hc => ?_⟩
      obtain ⟨c, e1, e2⟩ := h3 pos cv hc
      refine ⟨c, e1, e2, fun m => ?_⟩
      obtain ⟨o, ho⟩ := s.ok.there m
      obtain ⟨⟨b2, c2⟩, hb2, eb⟩ := List.mem_map.mp m
      have z2 := s.ok.ok _ _ hb2
      have eb : b2 = c := eb
      subst eb
      have diff : ∀ o, H b2 = some o → (∀ ps, o ≠ .tbl ps) → o = LamX.CodeO b2 q' := fun o h nt => Option.some.inj ((eN _ _ h nt).symm.trans e2)
      cases c2 with
      | lst ds => obtain ⟨_, e, _⟩ := z2; have := diff _ e ntL; unfold LamX.CodeO at this; cases this
      | ins C fs => obtain ⟨_, _, e, _⟩ := z2; have := diff _ e ntI; unfold LamX.CodeO at this; cases this
      | pen ns k => obtain ⟨_, _, _, e, _⟩ := z2; have := diff _ e ntL; unfold LamX.CodeO at this; cases this
      | tab q2 =>
        obtain ⟨ps2, g1, _⟩ := t (b2, q2) (mem_tabsOf.mpr hb2)
        have g1 : H1 b2 = some (.tbl ps2) := g1
        rw [g1] at e2
        have := Option.some.inj e2
        unfold LamX.CodeO at this
        cases this
    | lst ds =>
      obtain ⟨xs, h1, h2⟩ := z
      exact ⟨xs, eN _ _ h1 ntL, h2.ext e⟩
    | ins C fs =>
      obtain ⟨dx, vs, h1, h2⟩ := z
      exact ⟨dx, vs, eN _ _ h1 ntI, h2.ext e⟩
    | pen ns n =>
      obtain ⟨b, s, g, h1, h2, h3, h4⟩ := z
      exact ⟨b, s, g, eN _ _ h1 ntL, e.kp _ _ h3 ntL h2, h3, h4⟩
/-- _law_heard(lambda: body) -/
theorem ew_heardA {HR : HRt} {Pa cc g : Addr} {q a : Str} {j : Nat} {pg params : Arguments} {bg : List Stmt} {sg lsc : Scope} {dV kV doc pm cdv ct oc : Value} {an od : Option Addr} {osl : Array (Option Value)} {Ng : List Str} {body : Expr} {kk : Nat} {lpos : Pos}
    (hg : Gl X x) (hm : X.mg x = some (.ref g)) (hk : PySem.W.keepIn X.K (.ref g) = true)
    (lk : X.K.lookup g = some ⟨oc, od, .func (PySem.W.fnOf x x pg bg sg dV kV doc pm an cdv ct), osl⟩) (hcg : PySem.W.codeIn X.K cdv x = true) (hb : L2.Binds X.K (PySem.W.fnOf x x pg bg sg dV kV doc pm an cdv ct) [a] []) (Sg : FnScope Ng [a] sg) (hNg : Ng[0]? = some a) (hva : Vis sg a)
    (hG : LamX.GivesTo X Ng x sg g cdv bg a (X.env.qual ++ "<lambda>") (TThD HR)) (TB : LamX.TabB X.base X.mg cc Pa) (hcode : X.env.code = .ref cc) (hq : q = X.env.qual ++ "<lambda>") (hj : ss.cs[j]? = some (Pa, .tab q)) (only : ∀ a q', (a, Cell.tab q') ∈ ss.cs → a = Pa → q' = q)
    (hr : Room (kk + 2) X.A) (Ls : LamX.LamS X.env.scope lsc) (hdef : defaultsOf params X.env = ([], []))
    (hbind : ∀ (q : Str) (cl : List (Str × Addr)) (pm cv ctv : Value), bindArgs (PySem.W.kla_fn "<lambda>" q params body lsc cl pm cv ctv) ⟨[], []⟩ = pure [])
    (h : ∀ (A : Around) (outer : List Env) (s : Shared) (H Hb : Hp) (E : XK) (f c' : Addr), Room kk (A.deeper (LamX.lamEnv X lsc s.heap.objs.size f c')) → EW (LamX.lamCx X A outer s H E lsc f c') ⟨Hb, ss.cs, E, fun C fs cs => HR C fs cs fun d cs => Q d ⟨ss.sl, cs⟩⟩ body ss fun d s' => Q (.lst [d]) ⟨ss.sl, s'.cs⟩)
    (hdb : (x == ("__debug__" : Str)) = false := by decide) (hd : (a == ("__debug__" : Str)) = false := by decide) (hcd : (a == ("__classdict__" : Str)) = false := by decide) : EW X B (.Call (.Name x p) [.Lambda params body lsc lpos] [] pos) ss Q := by
  subst hq
  have body_ := fun A outer s H E f c' hr2 => (PEimp (t' := fun σ H1 QQ => tE ⟨H1, ss.cs, E, fun C fs cs => HR C fs cs fun d cs => Q d ⟨ss.sl, cs⟩⟩ ss (fun d s' => Q (.lst [d]) ⟨ss.sl, s'.cs⟩) σ H1 QQ)
    (t := fun σ H1 QQ => ∃ Hb, tE ⟨Hb, ss.cs, E, fun C fs cs => HR C fs cs fun d cs => Q d ⟨ss.sl, cs⟩⟩ ss (fun d s' => Q (.lst [d]) ⟨ss.sl, s'.cs⟩) σ H1 QQ) ⟨fun pins s1 σ H1 QQ I ⟨Hb, q⟩ => (h A outer s H Hb E f c' hr2).p.run pins s1 σ H1 QQ I q⟩ fun σ H1 QQ q => ⟨H1, q⟩)
  have P := LamX.pe_lamcall (X := X) (T := tabsOf ss.cs) (p := p) (lpos := lpos) (pos := pos) (t := fun E σ H1 QQ => tE ⟨H1, ss.cs, E, fun C fs cs => HR C fs cs fun d cs => Q d ⟨ss.sl, cs⟩⟩ ss (fun d s' => Q (.lst [d]) ⟨ss.sl, s'.cs⟩) σ H1 QQ)
    hg hm hk lk hcg hb Sg hNg hva hG TB hcode (mem_tabsOf.mpr (List.mem_of_getElem? hj)) (fun p hp e => only p.1 p.2 (mem_tabsOf.mp hp) e) hr Ls hdef hbind body_ hdb hd hcd
  refine ⟨PEimp P fun σ H QQ ⟨s, k⟩ => ⟨fun p hp => ?_, fun H1 eN t1 => ?_⟩⟩
  · obtain ⟨ps, h1, h2, h3⟩ := s.ok.ok p.1 (Cell.tab p.2) (mem_tabsOf.mp hp)
    exact ⟨ps, h1, h2, fun pos cv hc => by
      obtain ⟨c, e1, e2, _⟩ := h3 pos cv hc
      exact ⟨c, e1, e2⟩⟩
  · have bok : BOk ⟨H1, ss.cs, fun cls d H1 => ∃ C x vs fs cs, cls = .ref C ∧ d = x ∧ Xat H1 x vs ∧ CsOk H1 cs ∧ VlF H1 (ow cs) vs fs ∧
        ∃ R, HR C fs cs R ∧ ∀ v d H2 cs2, R d cs2 → Ext (ow cs) H1 (ow cs2) H2 → CsOk H2 cs2 → Vl H2 (ow cs2) v d → QQ v H2, fun C fs cs => HR C fs cs fun d cs => Q d ⟨ss.sl, cs⟩⟩ := by
      intro C fs cs x vs H' hx e ok hxd rf
      refine ⟨C, x, vs, fs, cs, rfl, rfl, hxd, ok, rf, _, hx, fun v d H2 cs2 q2 e2 ok2 r2 => ?_⟩
      have e0 : Ext (ow ss.cs) H (ow ss.cs) H1 := Ext.tabs eN
      have st := (s.tabsA eN t1 (E' := fun _ _ _ => True) (Ex := fun _ _ _ => False) (fun _ _ _ _ _ _ z => z.elim)).1
      refine k v d ⟨ss.sl, cs2⟩ H2 q2 ?_ ((e0.trans e).trans e2) r2
      exact s.cs ((e0.trans e).trans e2) ok2
    obtain ⟨sat1, e1⟩ := s.tabsA eN t1 bok
    refine ⟨sat1, fun v d ss' H' q sat' e' r' l hl => ?_⟩
    have S := Pre.Same.upd (o := .lst [v]) hl
    refine k _ (.lst [d]) ⟨ss.sl, ss'.cs⟩ _ q ?_ ((e1.trans e').trans (Ext.same S)) (.lst upd_same (sat'.new hl) (.cons (r'.ext (Ext.same S)) .nil))
    exact s.cs ((e1.trans e').trans (Ext.same S)) (sat'.ok.same S)
theorem ew_heardT {HR : HRt} {Pa cc g : Addr} {q a : Str} {j : Nat} {pg params : Arguments} {bg : List Stmt} {sg lsc : Scope} {dV kV doc pm cdv ct oc : Value} {an od : Option Addr} {osl : Array (Option Value)} {Ng : List Str} {body : Expr} {kk : Nat} {lpos : Pos}
    (hg : Gl X x) (hm : X.mg x = some (.ref g)) (hk : PySem.W.keepIn X.K (.ref g) = true)
    (lk : X.K.lookup g = some ⟨oc, od, .func (PySem.W.fnOf x x pg bg sg dV kV doc pm an cdv ct), osl⟩) (hcg : PySem.W.codeIn X.K cdv x = true) (hb : L2.Binds X.K (PySem.W.fnOf x x pg bg sg dV kV doc pm an cdv ct) [a] []) (Sg : FnScope Ng [a] sg) (hNg : Ng[0]? = some a) (hva : Vis sg a)
    (hG : LamX.GivesTo X Ng x sg g cdv bg a (X.env.qual ++ "<lambda>") (TThD HR)) (TB : LamX.TabB X.base X.mg cc Pa) (hcode : X.env.code = .ref cc) (hq : q = X.env.qual ++ "<lambda>") (hj : ss.cs[j]? = some (Pa, .tab q))
    (hr : Room (kk + 2) X.A) (Ls : LamX.LamS X.env.scope lsc) (hdef : defaultsOf params X.env = ([], []))
    (hbind : ∀ (q : Str) (cl : List (Str × Addr)) (pm cv ctv : Value), bindArgs (PySem.W.kla_fn "<lambda>" q params body lsc cl pm cv ctv) ⟨[], []⟩ = pure [])
    (h : ∀ (A : Around) (outer : List Env) (s : Shared) (H Hb : Hp) (E : XK) (f c' : Addr), Room kk (A.deeper (LamX.lamEnv X lsc s.heap.objs.size f c')) → EW (LamX.lamCx X A outer s H E lsc f c') ⟨Hb, ss.cs, E, fun C fs cs => HR C fs cs fun d cs => Q d ⟨ss.sl, cs⟩⟩ body ss fun d s' => Q (.lst [d]) ⟨ss.sl, s'.cs⟩)
    (hdb : (x == ("__debug__" : Str)) = false := by decide) (hd : (a == ("__debug__" : Str)) = false := by decide) (hcd : (a == ("__classdict__" : Str)) = false := by decide) : EW X B (.Call (.Name x p) [.Lambda params body lsc lpos] [] pos) ss Q := ew_of (q := ∀ a q', (a, Cell.tab q') ∈ ss.cs → a = Pa → q' = q) (fun σ H s a q' h e => by
    have h2 := List.mem_of_getElem? hj
    rw [e] at h
    have z := nd_mem s.ok.nd h h2
    cases z
    rfl) fun only => ew_heardA hg hm hk lk hcg hb Sg hNg hva hG TB hcode hq hj only hr Ls hdef hbind h hdb hd hcd
/-! ### defs that show data -/
structure DfnG (P : Program) (w : World) (K : PySem.W.Frag) (mg : Str → Option Value) (base : Heap) (CX : CXT) (k : Nat) (x : Str) (ps : List Str) (sp : Sp) : Prop where
  at_ : mg x = some (.ref (He.ga K x))
  kp : PySem.W.keepIn K (.ref (He.ga K x)) = true
  ok : ∃ fd, Shw.FnG P w K mg base CX k (He.ga K x) fd ps sp ∧ L2.Binds K fd ps []
theorem ew_callG {E' : XK} {KE' : Addr → List (Str × D) → Cs → Prop} (xs : Exs B E' KE') (Dd : DfnG X.prog X.w X.K X.mg X.base CX n x ps (spF F)) (hr : Room n X.A) (still : X.A.guards = some []) (hg : Gl X x) (hx : Passes CX X E') (h : AW X B (e :: es) ss fun ds s => F ds s.cs (fun d cs => Q d ⟨s.sl, cs⟩) KE')
    (hdb : (x == ("__debug__" : Str)) = false := by decide) (he : starEach (e :: es) X.env = (false, eval e X.env) :: starEach es X.env := by rfl) (hpl : (backTo pos (starEach es X.env)).any (·.1) = false := by rfl) : EW X B (.Call (.Name x p) (e :: es) [] pos) ss Q := by
  obtain ⟨fd, G, hb⟩ := Dd.ok
  exact ⟨PEimp (Shw.pe_callG G hr still hg Dd.at_ Dd.kp hb (.nil) hx h.p hdb he hpl) fun σ H QQ ⟨s, k⟩ => ⟨s, fun vs ds s1 H1 q1 sat1 e1 r1 => by
    show spF F (vs ++ []) H1 QQ E'
    rw [List.append_nil]
    exact sp_go xs sat1 e1 r1 k q1⟩⟩
end
section
variable {P : Program} {w : World} {K : PySem.W.Frag} {mg : Str → Option Value} {base : Heap} {CX : CXT} {k : Nat} {x qual : Str} {params : Arguments} {body : List Stmt} {scope : Scope} {N ps : List Str} {F : FT}
theorem okGF {f : Addr} {fd : FuncData} {dvs : List V} {kws : List (Str × V)} (q : FunD K x qual params body scope dvs kws f fd) (S : FnScope N ps scope) (len : ∀ ds cs Kk KE, F ds cs Kk KE → ds.length = ps.length)
    (walk : ∀ (cdv : Value) (A : Around) (outer : List Env) (s : Shared) (H : Hp) (E : XK) (ds : List D) (cs : Cs) (Kk : D → Cs → Prop) (KE : Addr → List (Str × D) → Cs → Prop), Room k (A.deeper (envOfC qual scope s.heap.objs.size f cdv)) → (A.deeper (envOfC qual scope s.heap.objs.size f cdv)).guards = some [] → F ds cs Kk KE →
      SW (cxOf CX P w K mg base N qual scope f cdv A outer s H E) ⟨H, cs, E, KE⟩ body ⟨startD N ds, cs⟩ { nx := fun s => Kk .non s.cs, rt := fun d s => Kk d s.cs }) : Shw.FnG P w K mg base CX (k + 1) f fd ps (spF F) := by
  refine Shw.okG q S (fun vs H Q E h => ?_) (fun cdv A outer s H vs Q E hr hgu h => ?_)
  · obtain ⟨ds, cs, Kk, KE, r, ok, f, _⟩ := h
    rw [r.len]
    exact len _ _ _ _ f
  · obtain ⟨ds, cs, Kk, KE, r, ok, f, q1, q2⟩ := h
    exact body_go r ok q1 q2 (walk cdv A outer s H E ds cs Kk KE hr hgu f)
end
end Sx
set_option Elab.async false
set_option linter.all false
set_option maxRecDepth 100000
set_option maxHeartbeats 2000000
namespace Sx
open PySem PySem.Spec PyProof.Rows L2
section
variable {P : Program} {w : World} {K : PySem.W.Frag} {mg : Str → Option Value} {base : Heap} {CX : CXT} {k : Nat} {x qual : Str} {params : Arguments} {body : List Stmt} {scope : Scope} {N ps : List Str} {F : FT}
theorem fnGF {f : Addr} {oc : Value} {od : Option Addr} {osl : Array (Option Value)} {dV kV doc pm cdv ct : Value} {an : Option Addr}
    (lk : K.lookup f = some ⟨oc, od, .func (PySem.W.fnOf x qual params body scope dV kV doc pm an cdv ct), osl⟩) (hcd : PySem.W.codeIn K cdv qual = true) (S : FnScope N ps scope) (len : ∀ ds cs Kk KE, F ds cs Kk KE → ds.length = ps.length)
    (walk : ∀ (A : Around) (outer : List Env) (s : Shared) (H : Hp) (E : XK) (ds : List D) (cs : Cs) (Kk : D → Cs → Prop) (KE : Addr → List (Str × D) → Cs → Prop), Room k (A.deeper (envOfC qual scope s.heap.objs.size f cdv)) → (A.deeper (envOfC qual scope s.heap.objs.size f cdv)).guards = some [] → F ds cs Kk KE →
      SW (cxOf CX P w K mg base N qual scope f cdv A outer s H E) ⟨H, cs, E, KE⟩ body ⟨startD N ds, cs⟩ { nx := fun s => Kk .non s.cs, rt := fun d s => Kk d s.cs }) : Shw.FnG P w K mg base CX (k + 1) f (PySem.W.fnOf x qual params body scope dV kV doc pm an cdv ct) ps (spF F) := by
  refine Shw.fnG_of lk hcd S (fun vs H Q E h => ?_) (fun A outer s H vs Q E hr hgu h => ?_)
  · obtain ⟨ds, cs, Kk, KE, r, ok, f, _⟩ := h
    rw [r.len]
    exact len _ _ _ _ f
  · obtain ⟨ds, cs, Kk, KE, r, ok, f, q1, q2⟩ := h
    exact body_go r ok q1 q2 (walk A outer s H E ds cs Kk KE hr hgu f)
/-- a def that shows data, of which lambdas are born: its code is the table's -/
theorem dfnGT (q : ∃ fd, FunD K x qual params body scope [] [] (He.ga K x) fd) (g : mg x = some (.ref (He.ga K x))) (S : FnScope N ps scope)
    (hb : ∀ (kV doc pm : Value) (an : Option Addr) (cdv ct : Value) (us : List Value), us.length = ps.length → bindArgs (PySem.W.fnOf x qual params body scope .none kV doc pm an cdv ct) ⟨us, []⟩ = pure (ps.zip us))
    (len : ∀ ds cs Kk KE, F ds cs Kk KE → ds.length = ps.length) {Pa : Addr} (TB : LamX.TabB base mg (He.codeOf K (x, none)) Pa) (hf : He.fAd K (x, none) = He.ga K x)
    (walk : ∀ (c : Addr) (TB : LamX.TabB base mg c Pa) (A : Around) (outer : List Env) (s : Shared) (H : Hp) (E : XK) (ds : List D) (cs : Cs) (Kk : D → Cs → Prop) (KE : Addr → List (Str × D) → Cs → Prop), Room k (A.deeper (envOfC qual scope s.heap.objs.size (He.ga K x) (.ref c))) → (A.deeper (envOfC qual scope s.heap.objs.size (He.ga K x) (.ref c))).guards = some [] → F ds cs Kk KE →
      SW (cxOf CX P w K mg base N qual scope (He.ga K x) (.ref c) A outer s H E) ⟨H, cs, E, KE⟩ body ⟨startD N ds, cs⟩ { nx := fun s => Kk .non s.cs, rt := fun d s => Kk d s.cs }) : DfnG P w K mg base CX (k + 1) x ps (spF F) := by
  obtain ⟨fd, F⟩ := q
  have hb := F.bindsN hb
  have kp := F.kp
  obtain ⟨oc, od, dV, kV, doc, pm, an, cdv, ct, osl, rfl, lk, hcd, _, _⟩ := F.ex
  obtain ⟨c, rfl⟩ := He.codeIn_ref hcd
  have ec : He.codeOf K (x, none) = c := He.codeOf_eq (by rw [hf]; exact lk) rfl
  rw [ec] at TB
  exact ⟨g, kp, _, fnGF lk hcd S len (fun A outer s H E ds cs Kk KE hr hgu f => walk c TB A outer s H E ds cs Kk KE hr hgu f), hb⟩
/-- a def that shows data -/
theorem dfnG (q : ∃ fd, FunD K x qual params body scope [] [] (He.ga K x) fd) (g : mg x = some (.ref (He.ga K x))) (S : FnScope N ps scope)
    (hb : ∀ (kV doc pm : Value) (an : Option Addr) (cdv ct : Value) (us : List Value), us.length = ps.length → bindArgs (PySem.W.fnOf x qual params body scope .none kV doc pm an cdv ct) ⟨us, []⟩ = pure (ps.zip us))
    (len : ∀ ds cs Kk KE, F ds cs Kk KE → ds.length = ps.length)
    (walk : ∀ (cdv : Value) (A : Around) (outer : List Env) (s : Shared) (H : Hp) (E : XK) (ds : List D) (cs : Cs) (Kk : D → Cs → Prop) (KE : Addr → List (Str × D) → Cs → Prop), Room k (A.deeper (envOfC qual scope s.heap.objs.size (He.ga K x) cdv)) → (A.deeper (envOfC qual scope s.heap.objs.size (He.ga K x) cdv)).guards = some [] → F ds cs Kk KE →
      SW (cxOf CX P w K mg base N qual scope (He.ga K x) cdv A outer s H E) ⟨H, cs, E, KE⟩ body ⟨startD N ds, cs⟩ { nx := fun s => Kk .non s.cs, rt := fun d s => Kk d s.cs }) : DfnG P w K mg base CX (k + 1) x ps (spF F) := by
  obtain ⟨fd, F⟩ := q
  exact ⟨g, F.kp, fd, okGF F S len walk, F.bindsN hb⟩
end
end Sx
set_option Elab.async false
set_option linter.all false
set_option maxRecDepth 100000
set_option maxHeartbeats 2000000
namespace Sx
open PySem PySem.Spec PyProof.Rows L2
/-! ### texts -/
theorem vl_strs {H : Hp} {M : Addr → Prop} : ∀ zs : List Str, VlL H M (zs.map V.str) (zs.map D.str)
  | [] => .nil
  | z :: zs => .cons (.str z) (vl_strs zs)
theorem vl_strs' {H : Hp} {M : Addr → Prop} : ∀ {zs : List Str} {vs : List V}, VlL H M vs (zs.map D.str) → vs = zs.map V.str
  | [], _, r => by cases r; rfl
  | z :: zs, _, r => by
    cases r with
    | cons a b =>
      cases a
      rw [vl_strs' b]
      rfl
section
variable {X : Cx} {B : Bs} {ss : SS} {Q : D → SS → Prop} {T : Bool → SS → Prop} {L : List D → SS → Prop} {k : Kt} {a b c e o elt tg iter : Expr} {es ifs : List Expr} {pos p apos p' : Pos} {CX : CXT} {n : Nat} {x m f : Str} {C : Addr} {ps : List Str} {F : FT} {scope : Scope}
theorem ew_starts (h : EW X B o ss fun d s => ∃ z, d = .str z ∧ EW X B e s fun d2 s2 => ∃ y, d2 = .str y ∧ Q (.bl (Txt.startswith z y)) s2)
    (hs : starEach [e] X.env = [(false, eval e X.env)] := by rfl) (hbase : attributeBase o "startswith" X.env (eval o X.env) = eval o X.env := by rfl) (hline : (apos.endLine == pos.line) = true := by rfl) : EW X B (.Call (.Attribute o "startswith" apos) [e] [] pos) ss Q :=
  ⟨PEimp (pe_m1 F.slot_str_startswith F.type_str_startswith mt_startswith h.p (pe_any (e := e)) hs hbase hline) fun σ H QQ ⟨s, k⟩ => ⟨s, fun v d s1 H1 ⟨z, q0, q1⟩ sat1 e1 r1 => by
    subst q0
    cases r1
    exact ⟨⟨z, rfl⟩, _, q1.p, sat1, fun v2 d2 s2 H2 ⟨y, q2, q3⟩ sat2 e2 r2 => by
      subst q2
      cases r2
      exact ⟨z, y, rfl, rfl, k _ _ _ _ q3 sat2 (e1.trans e2) (.bl _)⟩⟩⟩⟩
theorem ew_split (h : EW X B o ss fun d s => ∃ z, d = .str z ∧ EW X B e s fun d2 s2 => ∃ y, d2 = .str y ∧ (y.length == 0) = false ∧ z.length + 2 ≤ sizeLine ∧ Q (.lst ((Txt.split z y).map D.str)) s2)
    (hs : starEach [e] X.env = [(false, eval e X.env)] := by rfl) (hbase : attributeBase o "split" X.env (eval o X.env) = eval o X.env := by rfl) (hline : (apos.endLine == pos.line) = true := by rfl) : EW X B (.Call (.Attribute o "split" apos) [e] [] pos) ss Q :=
  ⟨PEimp (pe_m1 F.slot_str_split F.type_str_split mt_split h.p (pe_any (e := e)) hs hbase hline) fun σ H QQ ⟨s, k⟩ => ⟨s, fun v d s1 H1 ⟨z, q0, q1⟩ sat1 e1 r1 => by
    subst q0
    cases r1
    exact ⟨⟨z, rfl⟩, _, q1.p, sat1, fun v2 d2 s2 H2 ⟨y, q2, q3, q4, q5⟩ sat2 e2 r2 => by
      subst q2
      cases r2
      refine ⟨z, y, rfl, rfl, q3, q4, fun p hp => ?_⟩
      have S := Pre.Same.upd (o := .lst ((Txt.split z y).map V.str)) hp
      exact k _ (.lst ((Txt.split z y).map D.str)) s2 _ q5 (sat2.same S) ((e1.trans e2).trans (Ext.same S)) (.lst upd_same (sat2.new hp) (vl_strs _))⟩⟩⟩
theorem ew_join (h : EW X B o ss fun d s => ∃ z, d = .str z ∧ EW X B e s fun d2 s2 => ∃ ys : List Str, (d2 = .lst (ys.map D.str) ∨ d2 = .tup (ys.map D.str)) ∧ (ys.map (·.length)).sum + ys.length * z.length ≤ 16777216 ∧ Q (.str (Txt.join z ys)) s2)
    (hs : starEach [e] X.env = [(false, eval e X.env)] := by rfl) (hbase : attributeBase o "join" X.env (eval o X.env) = eval o X.env := by rfl) (hline : (apos.endLine == pos.line) = true := by rfl) : EW X B (.Call (.Attribute o "join" apos) [e] [] pos) ss Q :=
  ⟨PEimp (pe_m1 F.slot_str_join F.type_str_join mt_join h.p (pe_any (e := e)) hs hbase hline) fun σ H QQ ⟨s, k⟩ => ⟨s, fun v d s1 H1 ⟨z, q0, q1⟩ sat1 e1 r1 => by
    subst q0
    cases r1
    exact ⟨⟨z, rfl⟩, _, q1.p, sat1, fun v2 d2 s2 H2 ⟨ys, q2, q3, q4⟩ sat2 e2 r2 => by
      rcases q2 with rfl | rfl
      · cases r2 with
        | lst ea n r =>
          rw [vl_strs' r] at ea
          exact ⟨z, _, ys, rfl, rfl, .inl (SqL.of ea), q3, k _ _ _ _ q4 sat2 (e1.trans e2) (.str _)⟩
      · cases r2 with
        | tup ea n r =>
          rw [vl_strs' r] at ea
          exact ⟨z, _, ys, rfl, rfl, .inr (SqT.of ea), q3, k _ _ _ _ q4 sat2 (e1.trans e2) (.str _)⟩⟩⟩⟩
theorem cl_strI {i : Int} (h : i.natAbs.log2 < 1920) (q : Q (.str (toString i : String)) ss) : ClD X B (.type "str") [.int i] ss Q := cl_c q fun H M vs r => by
  obtain ⟨v, rfl, r1⟩ := vl1 r
  cases r1
  exact ⟨_, _, call_str_int, .str _, fun QQ q => ⟨i, rfl, h, q⟩⟩
theorem cl_intS {z : Str} {i : Int} (h : intText? z = some i) (hl : z.length ≤ 640) (q : Q (.int i) ss) : ClD X B (.type "int") [.str z] ss Q := cl_c q fun H M vs r => by
  obtain ⟨v, rfl, r1⟩ := vl1 r
  cases r1
  exact ⟨_, _, call_int_str, .int _, fun QQ q => ⟨z, i, rfl, h, hl, q⟩⟩
theorem od_catS {y z : Str} (h : y.length + z.length ≤ sizeLine) (q : Q (.str (y ++ z)) ss) : OpD X B (binaryOp .Add) (.str y) (.str z) ss Q := od_c q fun H M v1 v2 r1 r2 => by
  cases r1
  cases r2
  exact ⟨_, _, op_add_str, .str _, fun QQ q => ⟨y, z, rfl, rfl, h, q⟩⟩
theorem od_nsign {ch : Nat} {z : Str} (q : Q (.bl (!decide (ch ∈ z.cps.toList))) ss) : OpD X B (compareOp .NotIn) (.str ⟨#[ch]⟩) (.str z) ss Q := od_c q fun H M v1 v2 r1 r2 => by
  cases r1
  cases r2
  exact ⟨_, _, op_notIn_sign, .bl _, fun QQ q => ⟨ch, z, rfl, rfl, q⟩⟩
theorem inV_strs (z : Str) (opts : List Str) : inV (.str z) (opts.map V.str) = decide (z ∈ opts) := by
  unfold inV
  rw [Bool.eq_iff_iff, List.any_eq_true, decide_eq_true_eq]
  constructor
  · rintro ⟨y, hy, e⟩
    obtain ⟨w, hw, rfl⟩ := List.mem_map.mp hy
    have : w = z := by simpa [eqV] using e
    rw [← this]
    exact hw
  · intro h
    exact ⟨.str z, List.mem_map_of_mem h, by simp [eqV]⟩
theorem flat_strs (opts : List Str) : (opts.map V.str).all flatV = true := by
  rw [List.all_eq_true]
  intro x hx
  obtain ⟨y, _, rfl⟩ := List.mem_map.mp hx
  rfl
theorem od_ninT {z : Str} {opts : List Str} (q : Q (.bl (!decide (z ∈ opts))) ss) : OpD X B (compareOp .NotIn) (.str z) (.tup (opts.map D.str)) ss Q := od_c q fun H M v1 v2 r1 r2 => by
  cases r1
  cases r2 with
  | tup ea n r =>
    rw [vl_strs' r] at ea
    exact ⟨_, _, op_notIn_seq, .bl _, fun QQ q => ⟨_, _, rfl, .inr (SqT.of ea), rfl, flat_strs opts, by rw [if_pos rfl, inV_strs]; exact q⟩⟩
theorem ix_strD {z : Str} {i : Int} {ch : Nat} (hz : z.length ≤ sizeLine) (h : atI z.cps.toList i = some ch) (q : Q (.str ⟨#[ch]⟩) ss) : IxD X B (.str z) (.int i) ss Q := fun v1 v2 σ H QQ s r1 r2 k => by
  cases r1
  cases r2
  exact ⟨_, ix_str, z, i, ch, rfl, rfl, hz, h, k _ _ _ _ q s Ext.refl (.str _)⟩
theorem ew_slS {lo hi : Option Expr} {p2 : Pos} (h : EW X B a ss fun d s => PartW X B lo s fun i s => PartW X B hi s fun j s => ∃ z, d = .str z ∧ z.length ≤ sizeLine ∧ Q (.str (cutS z i j)) s) : EW X B (.Subscript a (.Slice lo hi none p2) pos) ss Q :=
  ⟨PEimp (pe_slice sl_str h.p po_any po_any) fun σ H QQ ⟨s, k⟩ => ⟨s, fun v d s1 H1 q1 sat1 e1 r1 => ⟨_, PartW.po q1, sat1, fun i s2 H2 q2 sat2 e2 => ⟨_, PartW.po q2, sat2, fun j s3 H3 ⟨z, q3, q4, q5⟩ sat3 e3 => by
    subst q3
    have r3 := r1.ext (e2.trans e3)
    cases r3
    exact ⟨z, rfl, q4, k _ _ s3 _ q5 sat3 ((e1.trans e2).trans e3) (.str _)⟩⟩⟩⟩⟩
/-! ### o.f += e, of ints -/
theorem s1_augF {f : Str} {tpos : Pos} (hc : Cls X.K C) (hn : NoAttr X.K C f) (h : EW X B o ss fun d s => ∃ (y : Addr) (j : Nat) (fs : List (Str × D)) (i : Int), d = .own y ∧ s.cs[j]? = some (y, .ins C fs) ∧ fs.lookup f = some (.int i) ∧
    EW X B e s fun d2 s2 => ∃ (i2 : Int) (j2 : Nat) (fs2 : List (Str × D)), d2 = .int i2 ∧ s2.cs[j2]? = some (y, .ins C fs2) ∧ fs2.length < 1000 ∧ k.nx ⟨s2.sl, s2.cs.set j2 (y, .ins C (putD f (.int (i + i2)) fs2))⟩) : S1 X B (.AugAssign (.Attribute o f tpos) .Add e pos) ss k :=
  ⟨PSimp (ps_fldaug h.p (pe_any (e := e)) in_add) fun D σ H ⟨s, h1, _⟩ => ⟨s, fun v d s1 H1 ⟨y, j, fs, i, q0, hj, hl, q1⟩ sat1 e1 r1 => by
    subst q0
    cases r1
    obtain ⟨dx, vs, x1, x2⟩ := sat1.ok.ok _ _ (List.mem_of_getElem? hj)
    obtain ⟨u, l1, l2⟩ := x2.lookup hl
    cases l2
    exact ⟨y, C, dx, vs, .int i, rfl, x1, hc, hn, l1, _, q1.p, sat1, fun v2 d2 s2 H2 ⟨i2, j2, fs2, q2, hj2, hl2, q3⟩ sat2 e2 r2 => by
      subst q2
      cases r2
      obtain ⟨dx2, vs2, y1, y2⟩ := sat2.ok.ok _ _ (List.mem_of_getElem? hj2)
      obtain ⟨sat3, e3⟩ := sat2.mut (c' := .ins C (putD f (.int (i + i2)) fs2)) (u := .ins C dx2 (putF f (.int (i + i2)) vs2)) hj2 fun e q => ⟨dx2, _, q, putF_ok (.int _) (y2.ext e)⟩
      exact ⟨i, i2, rfl, rfl, dx2, vs2, y1, by rw [y2.len]; exact hl2, h1 _ _ _ q3 sat3 ((e1.trans e2).trans e3)⟩⟩⟩⟩
/-! ### [.. for sign in a text] -/
theorem lc_signs {z : Str} {g : TG} {tt : TT} {te : TE} {vs : List Nat} {σ : L2.St} {H1 : Hp} {D : Addr} {Qd : Hp → Prop} (Pv : Nat → Hp → Prop) (h0 : Pv 0 (upd H1 D (.lst [])))
    (hs : ∀ i ch H, z.cps[i]? = some ch → Pv i H → g (.str ⟨#[ch]⟩) (wipe σ vs) H fun σ2 H2 => wipe σ2 vs = wipe σ vs ∧ tt σ2 H2 fun b H3 =>
      if b = true then te σ2 H3 fun y H4 => ∃ acc, H4 D = some (.lst acc) ∧ acc.length < sizeLine ∧ Pv (i + 1) (upd H4 D (.lst (acc ++ [y]))) else Pv (i + 1) H3) (hd : ∀ H, Pv z.cps.size H → Qd H) :
    ∃ W : Nat → Nat → Hp → Prop, (∃ m, W 0 m (upd H1 D (.lst []))) ∧ ∀ i m H, W i m H →
      ((Its z).stop i H ∧ Qd H) ∨ ((Its z).go i H ∧ ∃ Nx : Hp → Prop, (∀ H', Nx H' → ∃ m', m' < m ∧ W (i + 1) m' H') ∧ ∀ x H', (Its z).yld i H x H' → g x (wipe σ vs) H' fun σ2 H2 => wipe σ2 vs = wipe σ vs ∧ tt σ2 H2 fun b H3 =>
        if b = true then te σ2 H3 fun y H4 => ∃ acc, H4 D = some (.lst acc) ∧ acc.length < sizeLine ∧ Nx (upd H4 D (.lst (acc ++ [y]))) else Nx H3) := by
  refine ⟨fun i m H => m = z.cps.size - i ∧ i ≤ z.cps.size ∧ Pv i H, ⟨z.cps.size, rfl, Nat.zero_le _, h0⟩, ?_⟩
  rintro i m H ⟨rfl, hi, p⟩
  by_cases e : i = z.cps.size
  · subst e
    exact .inl ⟨Nat.le_refl _, hd H p⟩
  · refine .inr ⟨show i < z.cps.size by omega, Pv (i + 1), fun H' h => ⟨z.cps.size - (i + 1), by omega, rfl, by omega, h⟩, ?_⟩
    rintro x H' ⟨rfl, ch, hc, rfl⟩
    exact hs i ch _ hc p
theorem ew_lcS (own : List (Str × Nat)) (jx : Nat) (hc : X.calm = true) (hN : X.N.Nodup) (ok : BlkOk X.N X.env.scope scope own)
    (h : EW X B iter ss fun d s => ∃ z, d = .str z ∧ z.length ≤ sizeLine ∧ ∃ Iv : Nat → List D → Cs → Prop, Iv 0 [] s.cs ∧
      (∀ j ch acc cs, z.cps[j]? = some ch → Iv j acc cs → acc.length ≤ j ∧ LcTurn X B scope elt tg ifs (own.map (·.2)) jx s.sl (.str ⟨#[ch]⟩) acc cs (Iv (j + 1))) ∧ ∀ acc cs, Iv z.cps.size acc cs → Q (.lst acc) ⟨s.sl, cs⟩)
    (hs : ∀ x, foldedSetIterable iter X.env x = pure x := by intro _; rfl) : EW X B (.ListComp elt [⟨tg, iter, ifs, 0⟩] scope pos) ss Q :=
  ⟨PEimp (pe_lc hc hN (pi_str h.p) ok pg_blk pt_blk pe_blk hs) fun σ H QQ ⟨s, k⟩ => ⟨s, fun v d s1 H1 ⟨z, q1, hl, Iv, i0, i1, i2⟩ sat1 e1 r1 => by
    subst q1
    cases r1
    refine ⟨z, rfl, fun l hnew => ?_⟩
    refine lc_signs (z := z) (fun i H' => ∃ acc cs, Iv i acc cs ∧ LcAt B s1.sl s1.cs H1 (own.map (·.2)) σ jx l acc cs H') ⟨[], s1.cs, i0, lc_start sat1 hnew⟩ (fun i ch H' hy ⟨acc, cs, q, st⟩ => ?_) fun H' ⟨acc, cs, q, st⟩ => ?_
    · obtain ⟨hacc, turn⟩ := i1 i ch acc cs hy q
      have hi : i < z.length := (Array.getElem?_eq_some_iff.mp hy).1
      exact lc_go (by omega) st (.str _) turn fun acc' cs' H'' nq st' => ⟨acc', cs', nq, st'⟩
    · exact lc_end (ss := ss) sat1 e1 st k (i2 acc cs q)⟩⟩
/-! ### f'..' -/
def FmtD (d : D) (R : Str → Prop) : Prop := match d with
  | .int i => i.natAbs.log2 < 1920 ∧ R (toString i : String)
  | .str y => y.length ≤ sizeLine ∧ R y
  | _ => False
def JW (X : Cx) (B : Bs) : List Expr → Str → SS → (Str → SS → Prop) → Prop
  | [], acc, ss, L => L acc ss
  | e :: es, acc, ss, L => EW X B e ss fun d s => ∃ y, d = .str y ∧ (acc ++ y).length ≤ sizeLine ∧ JW X B es (acc ++ y) s L
theorem jw_run {L : Str → SS → Prop} {σ : L2.St} {QQ : Str → Hp → Prop} : ∀ (es : List Expr) (acc : Str) (ss : SS) (H : Hp), JW X B es acc ss L → Sat B ss σ H → (∀ out s' H', L out s' → Sat B s' σ H' → Ext (ow ss.cs) H (ow s'.cs) H' → QQ out H') → tJs (es.map (tAny X)) acc σ H QQ
  | [], acc, ss, H, h, s, k => k acc ss H h s Ext.refl
  | e :: es, acc, ss, H, h, s, k => ⟨_, (show EW X B e ss _ from h).p, s, fun v d s1 H1 ⟨y, q0, q1, q2⟩ sat1 e1 r1 => by
    subst q0
    cases r1
    exact ⟨y, rfl, q1, jw_run es (acc ++ y) s1 H1 q2 sat1 fun out s' H' q sat' e' => k out s' H' q sat' (e1.trans e')⟩⟩
theorem pj_any : ∀ es : List Expr, PJ X es (es.map (tAny X))
  | [] => .nil
  | e :: es => .cons pe_any (pj_any es)
theorem ew_js {e1 e2 : Expr} (h : JW X B (e1 :: e2 :: es) Str.empty ss fun out s => Q (.str out) s) : EW X B (.JoinedStr (e1 :: e2 :: es) pos) ss Q :=
  ⟨PEimp (pe_joined (pj_any (e1 :: e2 :: es))) fun σ H QQ ⟨s, k⟩ => jw_run (e1 :: e2 :: es) Str.empty ss H h s fun out s' H' q sat e => k _ _ s' H' q sat e (.str _)⟩
theorem ew_fmt (h : EW X B e ss fun d s => FmtD d fun y => Q (.str y) s) : EW X B (.FormattedValue e (-1) none pos) ss Q :=
  ⟨PEimp (pe_fmt h.p) fun σ H QQ ⟨s, k⟩ => ⟨s, fun v d s1 H1 q1 sat1 e1 r1 => by
    cases r1 with
    | int i => exact .inr ⟨i, rfl, q1.1, k _ _ _ _ q1.2 sat1 e1 (.str _)⟩
    | str y => exact .inl ⟨y, rfl, q1.1, k _ _ _ _ q1.2 sat1 e1 (.str _)⟩
    | _ => exact q1.elim⟩⟩
/-! ### while -/
theorem s1_while {body : List Stmt} (hp : PassesOwn (model X.prog X.w) X.A X.env X.xe)
    (h : ∃ Iv : Nat → SS → Prop, (∃ m, Iv m ss) ∧ ∀ m s, Iv m s → TW X B c s fun b s1 => Br b (SW X B body s1 { nx := fun s' => ∃ m', m' < m ∧ Iv m' s', rt := k.rt, bk := k.nx, ct := fun s' => ∃ m', m' < m ∧ Iv m' s' }) (k.nx s1)) : S1 X B (.While c body [] pos) ss k := by
  obtain ⟨Iv, ⟨m0, i0⟩, turn⟩ := h
  refine ⟨PSimp (ps_while hp (pt_any (e := c)) (pss_any (sts := body))) fun D σ H ⟨s, h1, h2, h3, h4⟩ => ⟨fun m σ' H' => ∃ s', Iv m s' ∧ Sat B s' σ' H' ∧ Ext (ow ss.cs) H (ow s'.cs) H', ⟨m0, ss, i0, s, Ext.refl⟩, fun m σ' H' ⟨s', iv, sat', e'⟩ => ⟨_, (turn m s' iv).p, sat', fun b s1 H1 q1 sat1 e1 => ?_⟩⟩⟩
  cases b with
  | true =>
    refine ⟨fun σ2 H2 => ∃ m', m' < m ∧ ∃ s2, Iv m' s2 ∧ Sat B s2 σ2 H2 ∧ Ext (ow ss.cs) H (ow s2.cs) H2, fun σ2 H2 z => z, ⟨_, (q1.1 rfl).p, sat1, fun s2 σ2 H2 ⟨m', lt, iv2⟩ sat2 e2 => ?_, fun v d s2 σ2 H2 q2 sat2 e2 r2 => ?_, fun s2 σ2 H2 q2 sat2 e2 => ?_, fun s2 σ2 H2 ⟨m', lt, iv2⟩ sat2 e2 => ?_⟩⟩
    · exact ⟨m', lt, s2, iv2, sat2, (e'.trans e1).trans e2⟩
    · exact h2 v d s2 σ2 H2 q2 sat2 ((e'.trans e1).trans e2) r2
    · exact h1 s2 σ2 H2 q2 sat2 ((e'.trans e1).trans e2)
    · exact ⟨m', lt, s2, iv2, sat2, (e'.trans e1).trans e2⟩
  | false => exact h1 s1 σ' H1 (q1.2 rfl) sat1 (e'.trans e1)
end
end Sx
set_option Elab.async false
set_option linter.all false
set_option maxRecDepth 100000
set_option maxHeartbeats 2000000
/-! str(x), x an instance whose class says __str__. -/
namespace Sto
open PySem PySem.Spec PyProof.Rows L2
section
variable {X : Cx} {CX : CXT} {k : Nat} {f C : Addr} {fd : FuncData} {sp : Sp} {E : XK}
def rStrO (C : Addr) (sp : Sp) (E : XK) : List V → Hp → VK → Prop := fun xs H Q => ∃ a dx fs, xs = [.ref a] ∧ H a = some (.ins C dx fs) ∧ sp [.ref a] H (fun v H' => ∃ z, v = .str z ∧ Q v H') E
theorem call_strO (m : Meth X.K C "__str__" f) (F : FnOk X.prog X.w X.K X.mg X.base CX k f fd ["self"] sp) (hb : Binds X.K fd ["self"] []) (hr : Room (k + 2) X.A) (hx : Passes CX X E) : CallR X (.type "str") (rStrO C sp E) := by
  intro pins s σ H xs us Q I r h
  obtain ⟨a, dx, fs, rfl, e, q⟩ := h
  cases r with
  | cons ra rr =>
    cases rr
    cases ra
    obtain ⟨mA, O, _⟩ := ins_get I.hok e
    obtain ⟨od, hod, _⟩ := lookIn_ns O.ns
    refine PySem.W.kso_call (C := C) (od := some od) hr.in1.in1.units0 I.kIn ⟨O.obj, rfl, rfl, hod⟩ m.at_ m.fn ?_
    have hb2 := hb s [Value.ref a] I.kIn rfl
    refine wpAny_call (codeAny_mono (F.run X.A.in1.in1 X.stack s H ⟨[Value.ref a], []⟩ [Value.ref a] [V.ref a] _ E (hr.in1.in1) I.env0.in1.in1 hb2 (.cons rfl .nil) q) ?_)
    intro out s' hq
    cases out with
    | error z => exact hx pins σ H s z s' I hq
    | ok fl =>
      cases fl with
      | ret u =>
        obtain ⟨v, H2, I2, rv, z, rfl, q2⟩ := I.after hq
        obtain ⟨t, rfl⟩ := (show ∃ t, u = Value.str z t from rv)
        exact ⟨.str z, H2, I2, ⟨_, rfl⟩, q2⟩
      | next => exact hq.elim
      | brk => exact hq.elim
      | cont => exact hq.elim
end
end Sto
set_option Elab.async false
set_option linter.all false
set_option maxRecDepth 100000
set_option maxHeartbeats 2000000
namespace Sx
open PySem PySem.Spec PyProof.Rows L2
section
variable {X : Cx} {B : Bs} {ss : SS} {Q : D → SS → Prop} {T : Bool → SS → Prop} {L : List D → SS → Prop} {k : Kt} {a b c e o elt tg iter : Expr} {es ifs : List Expr} {pos p apos p' : Pos} {CX : CXT} {n : Nat} {x m f : Str} {C : Addr} {ps : List Str} {F : FT} {scope : Scope}
/-- o.m(e, ..), the method takes a star -/
theorem ew_methR {E' : XK} {KE' : Addr → List (Str × D) → Cs → Prop} {pl : Sem Bool} {g : Addr} (xs : Exs B E' KE') (hc : Cls X.K C) (hm : Meth X.K C m g) (G : FnR X.prog X.w X.K X.mg X.base CX n g (spF F)) (hr : Room n X.A) (hx : Passes CX X E') (h : EW X B o ss fun d s => IsI C m d s.cs ∧ AW X B (e :: es) s fun ds s => F (d :: ds) s.cs (fun d cs => Q d ⟨s.sl, cs⟩) KE')
    (hst : starEach (e :: es) X.env = (false, eval e X.env) :: starEach es X.env := by rfl) (hpl : (backTo pos (starEach es X.env)).any (·.1) = false := by rfl)
    (ht : eval (.Call (.Attribute o m apos) (e :: es) [] pos) X.env = (do
      let ov ← eval o X.env
      standAt apos.atName
      let (f, first) ← holding [ov] (getMethod ov m pl)
      callWith pos f first (backTo pos (starEach (e :: es) X.env)) (backToKw pos (keywordEach [] X.env))) := by rfl) : EW X B (.Call (.Attribute o m apos) (e :: es) [] pos) ss Q :=
  ⟨PEimp (pe_methR h.p hc hm G hr hx (pa_any (es := e :: es)) hst hpl ht) fun σ H QQ ⟨s, k⟩ => ⟨s, fun v d s1 H1 ⟨i, q1⟩ sat1 e1 r1 => by
    obtain ⟨a, dx, fs, rfl, ea, hl⟩ := i.at_ sat1.ok r1
    exact ⟨a, dx, fs, rfl, ea, hl, _, q1.p, sat1, fun vs ds s2 H2 q2 sat2 e2 r2 => sp_go xs sat2 (e1.trans e2) (.cons (r1.ext e2) r2) k q2⟩⟩⟩
/-- C(e, ..), the new instance is a cell, in front of the others; dds: the defaults -/
theorem ew_makeO {E' : XK} {KE' : Addr → List (Str × D) → Cs → Prop} {f : Addr} {us : List Value} {dvs : List V} {dds : List D} (xs : Exs B E' KE') {fd : FuncData} (M : Mk X.K C f) (G : FnOk X.prog X.w X.K X.mg X.base CX n f fd ps (spF F)) (hr : Room (n + 1) X.A) (hg : Gl X x) (hm : X.mg x = some (.ref C)) (hb : L2.Binds X.K fd ps us) (hd : Vals dvs us) (hv : ∀ H M, VlL H M dvs dds) (hx : Passes CX X E')
    (h : AW X B (e :: es) ss fun ds s => ∀ y, F (.own y :: (ds ++ dds)) ((y, .ins C []) :: s.cs) (fun d cs => d = .non ∧ Q (.own y) ⟨s.sl, cs⟩) (fun Ce fs cs => ∃ c cs1, cs = (y, c) :: cs1 ∧ KE' Ce fs cs1))
    (hdb : (x == ("__debug__" : Str)) = false := by decide) (he : starEach (e :: es) X.env = (false, eval e X.env) :: starEach es X.env := by rfl) (hpl : (backTo pos (starEach es X.env)).any (·.1) = false := by rfl) : EW X B (.Call (.Name x p) (e :: es) [] pos) ss Q :=
  ⟨PEimp (pe_make M G hr hg hm hb hd hx h.p hdb he hpl) fun σ H QQ ⟨s, k⟩ => ⟨s, fun vs ds s1 H1 q1 sat1 e1 r1 y dy ny nd ne => by
    obtain ⟨ok2, e2⟩ := made_ok (C := C) sat1.ok ny nd ne
    refine ⟨_, _, _, _, .cons (.own y) ((r1.ext e2).app (hv _ _)), ok2, q1 y, fun v d H' cs' q e ok rv => ?_, fun C fs cs' z vs H' q e ok hz rf => ?_⟩
    · obtain ⟨rfl, q⟩ := q
      cases rv
      exact ⟨rfl, k _ _ ⟨s1.sl, cs'⟩ H' q (sat1.cs (e2.trans e) ok) (e1.trans (e2.trans e)) (.own y)⟩
    · obtain ⟨c, cs1, rfl, q⟩ := q
      obtain ⟨ok3, e3, n3, c3⟩ := drop_ok ok
      exact xs.go sat1 q ((e2.trans e).trans e3) ok3 hz (rf.ext e3)⟩⟩
/-- the first cell is forgotten -/
theorem sw_drop {sts : List Stmt} {y : Addr} {c : Cell} {cs : Cs} {sl : List (Option D)} (w : SW X B sts ⟨sl, cs⟩ k) : SW X B sts ⟨sl, (y, c) :: cs⟩ k :=
  sw_re (fun σ H s => by
    obtain ⟨ok, e, _, _⟩ := drop_ok s.ok
    exact ⟨s.cs e ok, fun a h => ow_cons.mpr (.inr h)⟩) w
/-- str(x) by an own __str__ -/
theorem cl_strO {E' : XK} {KE' : Addr → List (Str × D) → Cs → Prop} (xs : Exs B E' KE') {g : Addr} {fd : FuncData} {d : D} (m : Meth X.K C "__str__" g) (G : FnOk X.prog X.w X.K X.mg X.base CX n g fd ["self"] (spF F)) (hb : L2.Binds X.K fd ["self"] []) (hr : Room (n + 2) X.A) (hx : Passes CX X E')
    (i : InsD C d ss.cs) (h : F [d] ss.cs (fun d cs => ∃ z, d = .str z ∧ Q (.str z) ⟨ss.sl, cs⟩) KE') : ClD X B (.type "str") [d] ss Q := fun vs σ H QQ s r k => by
  obtain ⟨v, rfl, r1⟩ := vl1 r
  obtain ⟨a, dx, fs, rfl, ea⟩ := i.at_ s.ok r1
  refine ⟨_, Sto.call_strO m G hb hr hx, a, dx, fs, rfl, ea, [d], ss.cs, _, _, .cons r1 .nil, s.ok, h, fun v d H' cs' q e ok rv => ?_, fun C fs cs' x vs H' q e ok hx rf => xs.go s q e ok hx rf⟩
  obtain ⟨z, rfl, q⟩ := q
  cases rv
  exact ⟨z, rfl, k _ _ _ _ q (s.cs e ok) e (.str z)⟩
/-- C.m(e, ..), m a class method -/
theorem ew_cmeth {E' : XK} {KE' : Addr → List (Str × D) → Cs → Prop} {pl : Sem Bool} {g pc : Addr} {mc : Value} (xs : Exs B E' KE') (r : ClX.CRead X.K C mc) (c : ClX.CMet X.K C mc m pc g) (G : FnR X.prog X.w X.K X.mg X.base CX n g (spF F)) (hr : Room n X.A) (hx : Passes CX X E')
    (h : EW X B o ss fun d s => d = .raw (.ref C) ∧ AW X B (e :: es) s fun ds s => F (.raw (.ref C) :: ds) s.cs (fun d cs => Q d ⟨s.sl, cs⟩) KE')
    (hst : starEach (e :: es) X.env = (false, eval e X.env) :: starEach es X.env := by rfl) (hpl : (backTo pos (starEach es X.env)).any (·.1) = false := by rfl)
    (ht : eval (.Call (.Attribute o m apos) (e :: es) [] pos) X.env = (do
      let ov ← eval o X.env
      standAt apos.atName
      let (f, first) ← holding [ov] (getMethod ov m pl)
      callWith pos f first (backTo pos (starEach (e :: es) X.env)) (backToKw pos (keywordEach [] X.env))) := by rfl) : EW X B (.Call (.Attribute o m apos) (e :: es) [] pos) ss Q :=
  ⟨PEimp (ClX.pe_cmeth h.p r c G hr hx (pa_any (es := e :: es)) hst hpl ht) fun σ H QQ ⟨s, k⟩ => ⟨s, fun v d s1 H1 ⟨i, q1⟩ sat1 e1 r1 => by
    subst i
    cases r1
    exact ⟨rfl, _, q1.p, sat1, fun vs ds s2 H2 q2 sat2 e2 r2 => sp_go xs sat2 (e1.trans e2) (.cons (.raw _) r2) k q2⟩⟩⟩
end
end Sx
set_option Elab.async false
set_option linter.all false
set_option maxRecDepth 100000
set_option maxHeartbeats 2000000
namespace Sx
open PySem PySem.Spec PyProof.Rows L2
section
variable {X : Cx} {B : Bs} {ss : SS} {Q : D → SS → Prop} {e : Expr} {pos p : Pos} {CX : CXT} {n : Nat} {x : Str} {C : Addr} {F : FT}
/-- C() -/
theorem ew_makeR0 {E' : XK} {KE' : Addr → List (Str × D) → Cs → Prop} (xs : Exs B E' KE') {g : Addr} (M : Mk X.K C g) (G : FnR X.prog X.w X.K X.mg X.base CX n g (spF F)) (hr : Room (n + 1) X.A) (hg : Gl X x) (hm : X.mg x = some (.ref C)) (hx : Passes CX X E') (h : MkF F C KE' Q [] ss)
    (hdb : (x == ("__debug__" : Str)) = false := by decide) : EW X B (.Call (.Name x p) [] [] pos) ss Q := by
  refine ⟨⟨fun pins s σ H QQ I ⟨sat, k⟩ => ?_⟩⟩
  refine wpAny_Call_Name_kw (ld_glob I hg hm ?_ hdb)
  exact PySem.W.callWith_K0 I.kIn M.kp (StX.run_makeR M G hr hx I .nil fun y dy ny nd ne => sp_make xs (ss := ss) sat Ext.refl .nil k ny nd ne (h y))
end
end Sx
set_option Elab.async false
set_option linter.all false
set_option maxRecDepth 100000
set_option maxHeartbeats 2000000
namespace Sx
open PySem PySem.Spec PyProof.Rows L2
section
variable {X : Cx} {B : Bs} {ss : SS} {k : Kt} {a b : Expr} {pos : Pos}
/-- x, y = a, b, two plain names -/
theorem s1_par (i j : Nat) {x y : Str} {px py pt : Pos} {kt k2 pt2} (hc : X.calm = true) (hN : X.N.Nodup) (hi : X.N[i]? = some x) (hj : X.N[j]? = some y) (hij : i ≠ j) (hx : X.env.scope.names.lookup x = some .local) (hy : X.env.scope.names.lookup y = some .local)
    (h : AW X B [a, b] ss fun ds s => ∃ d1 d2, ds = [d1, d2] ∧ k.nx ⟨(s.sl.set i (some d1)).set j (some d2), s.cs⟩) (hw : swappedStores [.Tuple [.Name x px, .Name y py] kt pt] (.Tuple [a, b] k2 pt2) X.env = pure (some [x, y]) := by rfl)
    (hs : swapsWithSole [.Tuple [.Name x px, .Name y py] kt pt] (.Tuple [a, b] k2 pt2) pos.line X.env = pure false := by rfl) : S1 X B (.Assign [.Tuple [.Name x px, .Name y py] kt pt] (.Tuple [a, b] k2 pt2) pos) ss k :=
  ⟨PSimp (ps_par hc hN hi hj hij hx hy h.p hw hs) fun D σ H ⟨s, h1, _⟩ => ⟨s, fun vs ds s1 H1 ⟨d1, d2, q0, q1⟩ sat1 e1 r1 => by
    subst q0
    cases r1 with
    | cons r1 r2 =>
      cases r2 with
      | cons r2 r3 =>
        cases r3
        exact ⟨_, _, rfl, h1 _ _ _ q1 ((sat1.set r1).set r2) e1⟩⟩⟩
end
theorem cut_to {ds : List D} (n : Nat) : cutD ds none (some (n : Int)) = ds.take n := by
  have e : HT.sIx ds.length ds.length (some (n : Int)) = min n ds.length := HT.sIx_nat _ _ n
  unfold cutD
  rw [HT.sIx_none, e, List.drop_zero, Nat.sub_zero]
  by_cases h : n ≤ ds.length
  · rw [Nat.min_eq_left h]
  · rw [Nat.min_eq_right (by omega), List.take_length, List.take_of_length_le (by omega)]
theorem cut_from {ds : List D} (n : Nat) (h : n ≤ ds.length) : cutD ds (some (n : Int)) none = ds.drop n := by
  have e : HT.sIx ds.length 0 (some (n : Int)) = min n ds.length := HT.sIx_nat _ _ n
  unfold cutD
  rw [HT.sIx_none, e, Nat.min_eq_left h]
  exact List.take_of_length_le (by rw [List.length_drop]; omega)
end Sx
set_option Elab.async false
set_option linter.all false
set_option maxRecDepth 100000
set_option maxHeartbeats 2000000
namespace Sx
open PySem PySem.Spec PyProof.Rows L2
section
variable {X : Cx} {B : Bs} {ss : SS} {Q : D → SS → Prop} {a : Expr} {pos : Pos} {C : Addr} {f : Str} {mc u : Value} {v : V} {d : D}
/-- C.f, a value of the class -/
theorem ew_cval (r : ClX.CRead X.K C mc) (cv : ClX.CVal X.K C mc f v u) (hv : ∀ H M, Vl H M v d) (h : EW X B a ss fun d0 s => d0 = .raw (.ref C) ∧ Q d s) (hb : attributeBase a f X.env (eval a X.env) = eval a X.env := by rfl) : EW X B (.Attribute a f pos) ss Q :=
  ⟨PEimp (ClX.pe_cval h.p hb) fun σ H QQ ⟨s, k⟩ => ⟨s, fun w d0 s1 H1 ⟨e, q⟩ sat1 e1 r1 => by
    subst e
    cases r1
    exact ⟨C, mc, v, u, rfl, r, cv, k _ _ _ _ q sat1 e1 (hv _ _)⟩⟩⟩
end
end Sx
set_option Elab.async false
set_option linter.all false
set_option maxRecDepth 100000
set_option maxHeartbeats 2000000
namespace Sx
open PySem PySem.Spec PyProof.Rows L2 ClX
section
variable {X : Cx} {CX : CXT} {k : Nat} {C pc g : Addr} {mc : Value} {sp : Sp} {E : XK} {o : Expr} {m : Str} {pos apos : Pos} {ta : TE} {tk : TA} {pl : Sem Bool} {kws : List Keyword} {fd : FuncData} {ps ks : List Str}
def tCMethK (C : Addr) (n : Nat) (sp : Sp) (gV : List V → List V → List V) (E : XK) (ta : TE) (tk : TA) : TE := fun σ H Q => ta σ H fun x H1 => x = .ref C ∧ tk σ H1 fun zs H2 => zs.length = n ∧ sp (gV [.ref C] zs) H2 Q E
/-- C.m(k = v, ..), m a class method -/
theorem pe_cmethK {gg : List Value → List Value → List Value} {gV : List V → List V → List V} (he : PE X o ta) (r : CRead X.K C mc) (c : CMet X.K C mc m pc g) (F : FnOk X.prog X.w X.K X.mg X.base CX k g fd ps sp) (hr : Room k X.A) (hb : KBn X.K fd ps 1 ks gg gV) (hx : Passes CX X E) (hkw : PK X kws tk)
    (hall : (backToKw pos (keywordEach kws X.env)).all (·.1.isSome) = true := by rfl) (hks : (backToKw pos (keywordEach kws X.env)).filterMap (·.1) = ks := by rfl)
    (hpl : ((backTo pos (starEach [] X.env)).any (·.1) || (backToKw pos (keywordEach kws X.env)).any (·.1.isNone)) = false := by rfl)
    (ht : eval (.Call (.Attribute o m apos) [] kws pos) X.env = (do
      let ov ← eval o X.env
      standAt apos.atName
      let (f, first) ← holding [ov] (getMethod ov m pl)
      callWith pos f first (backTo pos (starEach [] X.env)) (backToKw pos (keywordEach kws X.env))) := by rfl) : PE X (.Call (.Attribute o m apos) [] kws pos) (tCMethK C ks.length sp gV E ta tk) := by
  refine ⟨fun pins s σ H Q I h => ?_⟩
  refine PySem.W.methodCall_KW (pl := pl) (thn (he.run pins s σ H _ I h) fun u s1 ⟨x, H1, I1, rx, ex, q⟩ => ?_) ht
  subst ex
  obtain rfl : u = Value.ref C := rx
  refine getmethcm_ok I1 r c fun s2 I2 => ?_
  refine PySem.W.callWith_of hpl (PySem.W.keeps_M c.fi) (PyProof.Rows.evalArgs_kw2_nil hall (thn (hkw.run pos _ s2 σ H1 _ I2 q) fun ws s3 ⟨zs, H2, I3, rz, l2, q2⟩ => ⟨⟨pin_at I3, I3.kIn⟩, ?_⟩))
  rw [hks]
  have r2 := hb.rel (vs := [.ref C]) (us := [.ref C]) (.cons rfl .nil) rz
  have z : wpAny (model X.prog X.w) X.A (call (.ref s1.heap.objs.size) [] (ks.zip ws)) (EP X ((s1.heap.objs.size, PySem.W.methodObj (.ref g) (.ref C)) :: pins) σ Q) X.xe s3 := by
    refine wpAny_call (PySem.W.method_call (pin_at I3) (codeAny_mono (F.run X.A X.stack s3 H2 ⟨[.ref C], ks.zip ws⟩ (gg [.ref C] ws) (gV [.ref C] zs) Q E hr I3.env0 (hb.to s3 [.ref C] ws I3.kIn rfl (rz.length.symm.trans l2)) r2 q2) fun out s' hq => ?_))
    cases out with
    | error e => exact hx _ σ H2 s3 e s' I3 hq
    | ok fl =>
      cases fl with
      | ret u => exact I3.after hq
      | next => exact hq.elim
      | brk => exact hq.elim
      | cont => exact hq.elim
  exact thn z fun _ _ y => unpinE y
theorem ew_cmethK {B : Bs} {ss : SS} {Q : D → SS → Prop} {F : FT} {n : Nat} {E' : XK} {KE' : Addr → List (Str × D) → Cs → Prop} (xs : Exs B E' KE') (r : CRead X.K C mc) (c : CMet X.K C mc m pc g) (G : FnOk X.prog X.w X.K X.mg X.base CX n g fd ps (spF F)) (hr : Room n X.A)
    (hb : KBn X.K fd ps 1 ks (fun us ws => us ++ ws) (fun vs zs => vs ++ zs)) (hx : Passes CX X E')
    (h : EW X B o ss fun d s => d = .raw (.ref C) ∧ KW X B kws s fun ds s => ds.length = ks.length ∧ F (.raw (.ref C) :: ds) s.cs (fun d cs => Q d ⟨s.sl, cs⟩) KE')
    (hall : (backToKw pos (keywordEach kws X.env)).all (·.1.isSome) = true := by rfl) (hks : (backToKw pos (keywordEach kws X.env)).filterMap (·.1) = ks := by rfl)
    (hpl : ((backTo pos (starEach [] X.env)).any (·.1) || (backToKw pos (keywordEach kws X.env)).any (·.1.isNone)) = false := by rfl)
    (ht : eval (.Call (.Attribute o m apos) [] kws pos) X.env = (do
      let ov ← eval o X.env
      standAt apos.atName
      let (f, first) ← holding [ov] (getMethod ov m pl)
      callWith pos f first (backTo pos (starEach [] X.env)) (backToKw pos (keywordEach kws X.env))) := by rfl) : EW X B (.Call (.Attribute o m apos) [] kws pos) ss Q :=
  ⟨PEimp (pe_cmethK h.p r c G hr hb hx (pk_any (kws := kws)) hall hks hpl ht) fun σ H QQ ⟨s, k⟩ => ⟨s, fun v d s1 H1 ⟨i, q1⟩ sat1 e1 r1 => by
    subst i
    cases r1
    exact ⟨rfl, _, q1.p, sat1, fun vs ds s2 H2 q2 sat2 e2 r2 => ⟨by rw [r2.len]; exact q2.1, sp_go xs sat2 (e1.trans e2) (.cons (.raw _) r2) k q2.2⟩⟩⟩⟩
end
end Sx
set_option Elab.async false
set_option linter.all false
set_option maxRecDepth 100000
set_option maxHeartbeats 2000000
namespace Sx
open PySem PySem.Spec PyProof.Rows L2
section
variable {X : Cx} {B : Bs} {ss : SS} {Q : D → SS → Prop} {k : Kt} {a b c : Expr} {pos : Pos}
/-- x, y, z = a, b, c, three plain names -/
theorem s1_par3 (i j l : Nat) {x y z : Str} {px py pz pt : Pos} {kt k2 pt2} (hc : X.calm = true) (hN : X.N.Nodup) (hi : X.N[i]? = some x) (hj : X.N[j]? = some y) (hl : X.N[l]? = some z) (hij : i ≠ j) (hil : i ≠ l) (hjl : j ≠ l)
    (hx : X.env.scope.names.lookup x = some .local) (hy : X.env.scope.names.lookup y = some .local) (hz : X.env.scope.names.lookup z = some .local)
    (h : AW X B [a, b, c] ss fun ds s => ∃ d1 d2 d3, ds = [d1, d2, d3] ∧ k.nx ⟨((s.sl.set i (some d1)).set j (some d2)).set l (some d3), s.cs⟩) (hw : swappedStores [.Tuple [.Name x px, .Name y py, .Name z pz] kt pt] (.Tuple [a, b, c] k2 pt2) X.env = pure (some [x, y, z]) := by rfl)
    (hs : swapsWithSole [.Tuple [.Name x px, .Name y py, .Name z pz] kt pt] (.Tuple [a, b, c] k2 pt2) pos.line X.env = pure false := by rfl) : S1 X B (.Assign [.Tuple [.Name x px, .Name y py, .Name z pz] kt pt] (.Tuple [a, b, c] k2 pt2) pos) ss k :=
  ⟨PSimp (ps_par3 hc hN hi hj hl hij hil hjl hx hy hz h.p hw hs) fun D σ H ⟨s, h1, _⟩ => ⟨s, fun vs ds s1 H1 ⟨d1, d2, d3, q0, q1⟩ sat1 e1 r1 => by
    subst q0
    cases r1 with
    | cons r1 r2 =>
      cases r2 with
      | cons r2 r3 =>
        cases r3 with
        | cons r3 r4 =>
          cases r4
          exact ⟨_, _, _, rfl, h1 _ _ _ q1 (((sat1.set r1).set r2).set r3) e1⟩⟩⟩
/-- a list that still changes, compared with data -/
theorem own_dp {K : PySem.W.Frag} {H : Hp} {cs : Cs} {y : Addr} {v : V} {xs : List D} {j : Nat} (ok : CsOk H cs) (hj : cs[j]? = some (y, Cell.lst xs)) (r : Vl H (ow cs) v (.own y)) (h : D.datL xs = true) : Dp K H v (.list (D.pyL xs)) := by
  cases r
  obtain ⟨ys, e, rr⟩ := ok.ok y (Cell.lst xs) (List.mem_of_getElem? hj)
  exact .lst (SqL.of e) (VlL.dp rr h)
theorem od_neL (j : Nat) (hu : X.A.units + 64 < cLine) {y : Addr} {xs : List D} {d2 : D} (hj : ss.cs[j]? = some (y, Cell.lst xs)) (h1 : (D.lst xs).ok = true) (h2 : d2.ok = true) (q : Q (.bl (!D.eqv (.lst xs) d2)) ss) : OpD X B (compareOp .NotEq) (.own y) d2 ss Q := fun v1 v2 σ H QQ s r1 r2 k => by
  obtain ⟨a1, a2⟩ := Bool.and_eq_true_iff.mp h1
  obtain ⟨b1, b2⟩ := Bool.and_eq_true_iff.mp h2
  exact ⟨_, op_neD hu, _, _, own_dp s.ok hj r1 (by simpa only [D.dat] using a1), r2.dp b1, a2, b2, k _ _ _ _ q s Ext.refl (.bl _)⟩
theorem od_eqL (j : Nat) (hu : X.A.units + 64 < cLine) {y : Addr} {xs : List D} {d2 : D} (hj : ss.cs[j]? = some (y, Cell.lst xs)) (h1 : (D.lst xs).ok = true) (h2 : d2.ok = true) (q : Q (.bl (D.eqv (.lst xs) d2)) ss) : OpD X B (compareOp .Eq) (.own y) d2 ss Q := fun v1 v2 σ H QQ s r1 r2 k => by
  obtain ⟨a1, a2⟩ := Bool.and_eq_true_iff.mp h1
  obtain ⟨b1, b2⟩ := Bool.and_eq_true_iff.mp h2
  exact ⟨_, op_eqD hu, _, _, own_dp s.ok hj r1 (by simpa only [D.dat] using a1), r2.dp b1, a2, b2, k _ _ _ _ q s Ext.refl (.bl _)⟩
end
end Sx
set_option Elab.async false
set_option linter.all false
set_option maxRecDepth 100000
set_option maxHeartbeats 2000000
namespace Sx
open PySem PySem.Spec PyProof.Rows L2
section
variable {P : Program} {w : World} {K : PySem.W.Frag} {mg : Str → Option Value} {base : Heap} {CX : CXT} {k : Nat} {x qual : Str} {params : Arguments} {body : List Stmt} {scope : Scope} {N ps : List Str} {sp : Sp} {dvs : List V} {kws : List (Str × V)} {fd : FuncData}
/-- a def of which lambdas are born: its code is the table's -/
theorem okGT (F : FunD K x qual params body scope dvs kws (He.ga K x) fd) (S : FnScope N ps scope) (many : ∀ vs H Q E, sp vs H Q E → vs.length = ps.length) {Pa : Addr} (TB : LamX.TabB base mg (He.codeOf K (x, none)) Pa) (hf : He.fAd K (x, none) = He.ga K x)
    (walk : ∀ (c : Addr) (TB : LamX.TabB base mg c Pa) (A : Around) (up : List Env) (s : Shared) (H : Hp) (vs : List V) (Q : VK) (E : XK), Room k (A.deeper (envOfC qual scope s.heap.objs.size (He.ga K x) (.ref c))) →
      (A.deeper (envOfC qual scope s.heap.objs.size (He.ga K x) (.ref c))).guards = some [] → sp vs H Q E →
      ∃ t, PSs (cxOf CX P w K mg base N qual scope (He.ga K x) (.ref c) A up s H E) body t ∧ t { nx := fun _ H' => Q .non H', rt := Q } (start N vs) H) :
    Shw.FnG P w K mg base CX (k + 1) (He.ga K x) fd ps sp := by
  obtain ⟨oc, od, dV, kV, doc, pm, an, cdv, ct, osl, rfl, lk, hcd, _, _⟩ := F.ex
  obtain ⟨c, rfl⟩ := He.codeIn_ref hcd
  have ec : He.codeOf K (x, none) = c := He.codeOf_eq (by rw [hf]; exact lk) rfl
  rw [ec] at TB
  exact Shw.fnG_of lk hcd S many fun A up s H vs Q E hr hg hsp => walk c TB A up s H vs Q E hr hg hsp
end
end Sx
set_option Elab.async false
set_option linter.all false
set_option maxRecDepth 100000
/-! math.lcm; the least number with the given rests. -/
namespace Crt
open PySem PySem.Spec PyProof.Rows L2
theorem crt_at {L p n : Nat} (hL : 0 < L) (hp : 0 < p) : n % L + (n % Nat.lcm L p) / L * L = n % Nat.lcm L p := by
  have h := Nat.mod_add_div (n % Nat.lcm L p) L
  rw [Nat.mod_mod_of_dvd n (Nat.dvd_lcm_left L p), Nat.mul_comm] at h
  exact h
theorem crt_lt {L p n : Nat} (hL : 0 < L) (hp : 0 < p) : (n % Nat.lcm L p) / L < p := by
  have hM : 0 < Nat.lcm L p := Nat.lcm_pos hL hp
  refine Nat.div_lt_of_lt_mul (Nat.lt_of_lt_of_le (Nat.mod_lt _ hM) ?_)
  exact Nat.le_of_dvd (Nat.mul_pos hL hp) (Nat.lcm_dvd_mul L p)
theorem crt_ok {L p n : Nat} (hL : 0 < L) (hp : 0 < p) : (n % L + (n % Nat.lcm L p) / L * L) % p = n % p := by
  rw [crt_at hL hp, Nat.mod_mod_of_dvd n (Nat.dvd_lcm_right L p)]
theorem crt {L p n k : Nat} (hL : 0 < L) (hp : 0 < p) (h0 : (n % L + k * L) % p = n % p) (hmin : ∀ j, j < k → (n % L + j * L) % p ≠ n % p) : n % L + k * L = n % Nat.lcm L p := by
  have hM : 0 < Nat.lcm L p := Nat.lcm_pos hL hp
  have hk : k ≤ (n % Nat.lcm L p) / L := Nat.le_of_not_lt fun z => hmin _ z (crt_ok hL hp)
  have hle : n % L + k * L ≤ n % Nat.lcm L p := by
    rw [← crt_at (n := n) hL hp]
    exact Nat.add_le_add_left (Nat.mul_le_mul_right L hk) _
  have e1 : (n % Nat.lcm L p) % L = (n % L + k * L) % L := by
    rw [Nat.mod_mod_of_dvd n (Nat.dvd_lcm_left L p), Nat.add_mul_mod_self_right, Nat.mod_mod]
  have e2 : (n % Nat.lcm L p) % p = (n % L + k * L) % p := by
    rw [Nat.mod_mod_of_dvd n (Nat.dvd_lcm_right L p), h0]
  have d1 : L ∣ n % Nat.lcm L p - (n % L + k * L) := Nat.dvd_of_mod_eq_zero (Nat.sub_mod_eq_zero_of_mod_eq e1)
  have d2 : p ∣ n % Nat.lcm L p - (n % L + k * L) := Nat.dvd_of_mod_eq_zero (Nat.sub_mod_eq_zero_of_mod_eq e2)
  have d3 := Nat.lcm_dvd d1 d2
  have lt : n % Nat.lcm L p - (n % L + k * L) < Nat.lcm L p := Nat.lt_of_le_of_lt (Nat.sub_le _ _) (Nat.mod_lt _ hM)
  have z := Nat.eq_zero_of_dvd_of_lt d3 lt
  omega
/-- the first of the numbers below p that fits -/
theorem first {p : Nat} {f : Nat → Bool} {j : Nat} (hj : j < p) (h : f j = true) : ∃ k r, (List.range p).filter f = k :: r ∧ f k = true ∧ k < p ∧ ∀ i, i < k → f i = false := by
  have ne : (List.range p).filter f ≠ [] := fun e => by
    have z : j ∈ (List.range p).filter f := List.mem_filter.mpr ⟨List.mem_range.mpr hj, h⟩
    rw [e] at z
    cases z
  cases q : (List.range p).filter f with
  | nil => exact absurd q ne
  | cons k r =>
    have hh : ((List.range p).filter f).head? = some k := by
      rw [q]
      rfl
    rw [List.head?_filter] at hh
    obtain ⟨h1, h2, h3⟩ := List.find?_range_eq_some.mp hh
    exact ⟨k, r, rfl, h1, List.mem_range.mp h2, fun i hi => by simpa using h3 i hi⟩
def rLcm : List V → Hp → VK → Prop := fun vs H Q => ∃ a b : Nat, vs = [.int (a : Int), .int (b : Int)] ∧ a < 2 ^ 64 ∧ b < 2 ^ 10 ∧ 0 < a ∧ 0 < b ∧ Q (.int ((Nat.lcm a b : Nat) : Int)) H
theorem cr_lcm {X : Cx} : CallR X (.builtin "math.lcm") rLcm := by
  intro pins s σ H vs us Q I r h
  obtain ⟨a, b, rfl, ha, hb, pa, pb, q⟩ := h
  obtain ⟨t, u, rfl⟩ := Vals.int2 r
  have e : (((Nat.lcm 1 (a : Int).natAbs).lcm (b : Int).natAbs : Nat) : Int) = ((Nat.lcm a b : Nat) : Int) := by
    rw [Int.natAbs_natCast, Int.natAbs_natCast, Nat.lcm_one_left]
  refine PySem.W.mg_lcm_v (by rw [Int.natAbs_natCast]; exact ha) (by rw [Int.natAbs_natCast]; omega) e ?_ ⟨.int _, H, I.tok _, ⟨_, rfl⟩, q⟩
  rw [Int.natAbs_natCast]
  have le : Nat.lcm a b ≤ a * b := Nat.le_of_dvd (Nat.mul_pos pa pb) (Nat.lcm_dvd_mul a b)
  have lt : Nat.lcm a b < 2 ^ 74 := by
    have : a * b < 2 ^ 64 * 2 ^ 10 := Nat.mul_lt_mul'' ha hb
    have e2 : (2 : Nat) ^ 64 * 2 ^ 10 = 2 ^ 74 := by decide
    omega
  have hz : Nat.lcm a b ≠ 0 := Nat.pos_iff_ne_zero.mp (Nat.lcm_pos pa pb)
  have l2 : (Nat.lcm a b).log2 < 74 := (Nat.log2_lt hz).mpr lt
  exact Nat.lt_of_lt_of_le l2 (by rw [bitsLine_eq]; decide)
end Crt
set_option Elab.async false
set_option linter.all false
set_option maxRecDepth 100000
set_option maxHeartbeats 2000000
namespace Sx
open PySem PySem.Spec PyProof.Rows L2
theorem vl_bls {H : Hp} {M : Addr → Prop} : ∀ {bs : List Bool} {vs : List V}, VlL H M vs (bs.map D.bl) → vs = bs.map V.bl
  | [], _, r => by cases r; rfl
  | z :: zs, _, r => by
    cases r with
    | cons a b =>
      cases a
      rw [vl_bls b]
      rfl
section
variable {X : Cx} {B : Bs} {ss : SS} {Q : D → SS → Prop} {T : Bool → SS → Prop} {L : List D → SS → Prop} {k : Kt} {a b c e e2 o elt tg iter : Expr} {es ifs : List Expr} {pos p apos p' : Pos} {CX : CXT} {n : Nat} {x m f : Str} {C : Addr} {ps : List Str} {F : FT} {scope : Scope}
/-- *e, .. among the items of a display, the arguments of a call -/
theorem aw_star {sp_ : Pos} (h : EW X B e ss fun d s => ∃ ds, (d = .tup ds ∨ d = .lst ds) ∧ AW X B es s fun rest s' => L (ds ++ rest) s') (hs : starEach (.Starred e sp_ :: es) X.env = (true, eval e X.env) :: starEach es X.env := by rfl) : AW X B (.Starred e sp_ :: es) ss L :=
  ⟨PAimp (StX.pa_star h.p pa_any hs) fun σ H QQ ⟨s, k⟩ => ⟨s, fun v d s1 H1 ⟨ds, hd, aw⟩ sat1 e1 r1 => by
    rcases hd with rfl | rfl
    · cases r1 with
      | @tup a xs _ ea nn r => exact ⟨a, xs, rfl, .inl (SqT.of ea), _, aw.p, sat1, fun ys rest s2 H2 q2 sat2 e2 r2 => k _ _ s2 H2 q2 sat2 (e1.trans e2) ((VlL.ext e2 r).app r2)⟩
    · cases r1 with
      | @lst a xs _ ea nn r => exact ⟨a, xs, rfl, .inr (SqL.of ea), _, aw.p, sat1, fun ys rest s2 H2 q2 sat2 e2 r2 => k _ _ s2 H2 q2 sat2 (e1.trans e2) ((VlL.ext e2 r).app r2)⟩⟩⟩
/-- [elt for tg in range(a) if ..] -/
theorem ew_lcR {rp rpos : Pos} (own : List (Str × Nat)) (jx : Nat) (hc : X.calm = true) (hN : X.N.Nodup) (ok : BlkOk X.N X.env.scope scope own) (hm : X.mg "range" = none)
    (h : EW X B a ss fun d s => ∃ n : Nat, d = .int (n : Int) ∧ n ≤ 10000 ∧ ∃ Iv : Nat → List D → Cs → Prop, Iv 0 [] s.cs ∧
      (∀ j acc cs, j < n → Iv j acc cs → acc.length ≤ j ∧ LcTurn X B scope elt tg ifs (own.map (·.2)) jx s.sl (.int (j : Int)) acc cs (Iv (j + 1))) ∧ ∀ acc cs, Iv n acc cs → Q (.lst acc) ⟨s.sl, cs⟩)
    (hg : Gl X "range" := by rfl) (hse : starEach [a] X.env = [(false, eval a X.env)] := by rfl)
    (hs : ∀ x, foldedSetIterable (.Call (.Name "range" rp) [a] [] rpos) X.env x = pure x := by intro _; rfl) : EW X B (.ListComp elt [⟨tg, .Call (.Name "range" rp) [a] [] rpos, ifs, 0⟩] scope pos) ss Q :=
  ⟨PEimp (pe_lc hc hN (pi_range1 hg hm (pa_cons h.p pa_nil hse) hse) ok pg_blk pt_blk pe_blk hs) fun σ H QQ ⟨s, k⟩ => ⟨s, fun v d s1 H1 ⟨n, q1, hl, Iv, i0, i1, i2⟩ sat1 e1 r1 => by
    subst q1
    cases r1
    refine ⟨(n : Int), rfl, by omega, by omega, fun l hnew => ?_⟩
    refine lc_range (lo := 0) (n := n) (fun i H' => ∃ acc cs, Iv i acc cs ∧ LcAt B s1.sl s1.cs H1 (own.map (·.2)) σ jx l acc cs H') ⟨[], s1.cs, i0, lc_start sat1 hnew⟩ (fun i H' hi ⟨acc, cs, q, st⟩ => ?_) fun H' ⟨acc, cs, q, st⟩ => ?_
    · obtain ⟨hacc, turn⟩ := i1 i acc cs hi q
      have z := lc_go (v := .int (i : Int)) (szt (by omega)) st (.int _) turn fun acc' cs' H'' nq st' => (⟨acc', cs', nq, st'⟩ : ∃ acc cs, Iv (i + 1) acc cs ∧ LcAt B s1.sl s1.cs H1 (own.map (·.2)) σ jx l acc cs H'')
      rw [Int.zero_add]
      exact z
    · exact lc_end (ss := ss) sat1 e1 st k (i2 acc cs q)⟩⟩
/-- [elt for tg in range(a, b) if ..] -/
theorem ew_lcR2 {rp rpos : Pos} (own : List (Str × Nat)) (jx : Nat) (hc : X.calm = true) (hN : X.N.Nodup) (ok : BlkOk X.N X.env.scope scope own) (hm : X.mg "range" = none)
    (h : AW X B [a, b] ss fun ds s => ∃ (lo : Int) (n : Nat), ds = [.int lo, .int (lo + n)] ∧ -10 ^ 15 ≤ lo ∧ lo ≤ 10 ^ 15 ∧ n ≤ 10000 ∧ ∃ Iv : Nat → List D → Cs → Prop, Iv 0 [] s.cs ∧
      (∀ j acc cs, j < n → Iv j acc cs → acc.length ≤ j ∧ LcTurn X B scope elt tg ifs (own.map (·.2)) jx s.sl (.int (lo + j)) acc cs (Iv (j + 1))) ∧ ∀ acc cs, Iv n acc cs → Q (.lst acc) ⟨s.sl, cs⟩)
    (hg : Gl X "range" := by rfl) (hse : starEach [a, b] X.env = [(false, eval a X.env), (false, eval b X.env)] := by rfl) (hse2 : starEach [b] X.env = [(false, eval b X.env)] := by rfl)
    (hs : ∀ x, foldedSetIterable (.Call (.Name "range" rp) [a, b] [] rpos) X.env x = pure x := by intro _; rfl) : EW X B (.ListComp elt [⟨tg, .Call (.Name "range" rp) [a, b] [] rpos, ifs, 0⟩] scope pos) ss Q :=
  ⟨PEimp (pe_lc hc hN (pi_range2 hg hm h.p hse hse2) ok pg_blk pt_blk pe_blk hs) fun σ H QQ ⟨s, k⟩ => ⟨s, fun vs ds s1 H1 ⟨lo, n, q1, l1, l2, hl, Iv, i0, i1, i2⟩ sat1 e1 r1 => by
    subst q1
    obtain ⟨v, u, rfl, r1, r2⟩ := vl2 r1
    cases r1
    cases r2
    have en : (lo + n - lo).toNat = n := by omega
    refine ⟨lo, lo + n, rfl, ⟨by omega, by omega, by omega, by omega⟩, fun l hnew => ?_⟩
    rw [en]
    refine lc_range (lo := lo) (n := n) (fun i H' => ∃ acc cs, Iv i acc cs ∧ LcAt B s1.sl s1.cs H1 (own.map (·.2)) σ jx l acc cs H') ⟨[], s1.cs, i0, lc_start sat1 hnew⟩ (fun i H' hi ⟨acc, cs, q, st⟩ => ?_) fun H' ⟨acc, cs, q, st⟩ => ?_
    · obtain ⟨hacc, turn⟩ := i1 i acc cs hi q
      exact lc_go (v := .int (lo + i)) (szt (by omega)) st (.int _) turn fun acc' cs' H'' nq st' => ⟨acc', cs', nq, st'⟩
    · exact lc_end (ss := ss) sat1 e1 st k (i2 acc cs q)⟩⟩
theorem walk_zT {K : PySem.W.Frag} {a b : Addr} {xs ys : List V} {n : Nat} (hn : n = min xs.length ys.length) :
    Walk (RZ.ItzT K a b) n (fun H => SqT K H a xs ∧ SqT K H b ys) (YPair (fun i => xs[i]?) (fun i => ys[i]?)) := by
  refine ⟨fun i H hi q => ?_, fun H q => ⟨xs, ys, q.1, q.2, by omega⟩, fun i H v H' hi q y => ?_⟩
  · have h1 : i < xs.length := by omega
    have h2 : i < ys.length := by omega
    exact ⟨xs, ys, xs[i], ys[i], q.1, q.2, by simp [h1], by simp [h2]⟩
  · obtain ⟨T, x, z, h1, h2, h3, h4, h5⟩ := y
    exact ⟨T, x, z, h1, h2, h3, h4 xs q.1, h5 ys q.2⟩
/-- [elt for t, .. in zip(a, b) if ..], a and b tuples -/
theorem ew_lcZ {rp rpos tpos : Pos} {elts : List Expr} {kk : Nat} (own : List (Str × Nat)) (jx : Nat) (hc : X.calm = true) (hN : X.N.Nodup) (ok : BlkOk X.N X.env.scope scope own) (hm : X.mg "zip" = none)
    (h : AW X B [a, b] ss fun ds s => ∃ d1 d2 : List D, ds = [.tup d1, .tup d2] ∧ d1.length ≤ 10000 ∧ ∃ Iv : Nat → List D → Cs → Prop, Iv 0 [] s.cs ∧
      (∀ j x1 x2 acc cs, d1[j]? = some x1 → d2[j]? = some x2 → Iv j acc cs → acc.length ≤ j ∧ LcTurn X B scope elt (.Tuple elts kk tpos) ifs (own.map (·.2)) jx s.sl (.tup [x1, x2]) acc cs (Iv (j + 1))) ∧ ∀ acc cs, Iv (min d1.length d2.length) acc cs → Q (.lst acc) ⟨s.sl, cs⟩)
    (hg : Gl X "zip" := by rfl) (hse : starEach [a, b] X.env = (false, eval a X.env) :: starEach [b] X.env := by rfl) (hpl : (backTo rpos (starEach [b] X.env)).any (·.1) = false := by rfl)
    (hs : ∀ x, foldedSetIterable (.Call (.Name "zip" rp) [a, b] [] rpos) X.env x = pure x := by intro _; rfl) : EW X B (.ListComp elt [⟨.Tuple elts kk tpos, .Call (.Name "zip" rp) [a, b] [] rpos, ifs, 0⟩] scope pos) ss Q :=
  ⟨PEimp (pe_lc hc hN (RZ.pi_zipA hg hm h.p hse hpl) ok pg_blk pt_blk pe_blk hs) fun σ H QQ ⟨s, k⟩ => ⟨s, fun vs ds s1 H1 ⟨d1, d2, q1, hl, Iv, i0, i1, i2⟩ sat1 e1 r1 => by
    subst q1
    obtain ⟨v, u, rfl, r1, r2⟩ := vl2 r1
    cases r1 with
    | @tup a xs _ ea na ra =>
      cases r2 with
      | @tup b ys _ eb nb rb =>
        refine ⟨a, b, xs, ys, rfl, .inr ⟨SqT.of ea, SqT.of eb, fun l hnew => ?_⟩⟩
        refine lc_it (walk_zT (n := min d1.length d2.length) (by rw [ra.len, rb.len])) (fun i H' => ∃ acc cs, Iv i acc cs ∧ LcAt B s1.sl s1.cs H1 (own.map (·.2)) σ jx l acc cs H') ⟨[], s1.cs, i0, lc_start sat1 hnew⟩ (fun i H' _ ⟨acc, cs, _, st⟩ => ⟨SqT.of (st.ext.kp _ _ na ntT ea), SqT.of (st.ext.kp _ _ nb ntT eb)⟩) (fun i y H' H2 hi ⟨acc, cs, q, st⟩ hy => ?_) fun H' ⟨acc, cs, q, st⟩ => ?_
        · obtain ⟨T, x0, y0, rfl, hT, rfl, hx, hy⟩ := hy
          obtain ⟨x1, hx1, rx⟩ := ra.back hx
          obtain ⟨x2, hx2, ry⟩ := rb.back hy
          obtain ⟨hacc, turn⟩ := i1 i x1 x2 acc cs hx1 hx2 q
          have S := Pre.Same.upd (o := .tup [x0, y0]) hT
          have st2 : LcAt B s1.sl s1.cs H1 (own.map (·.2)) σ jx l acc cs (upd H' T (.tup [x0, y0])) := ⟨st.sat.same S, st.ext.trans (Ext.same S)⟩
          exact lc_go (v := .ref T) (szt (by omega)) st2 (.tup upd_same (st.sat.new hT) (.cons (rx.ext st2.ext) (.cons (ry.ext st2.ext) .nil))) turn fun acc' cs' H'' nq st' => ⟨acc', cs', nq, st'⟩
        · exact lc_end (ss := ss) sat1 e1 st k (i2 acc cs q)⟩⟩
/-- for t, .. in zip(a, b), a and b tuples -/
theorem s1_forZ {rp rpos tpos : Pos} {elts : List Expr} {kk : Nat} {body : List Stmt} (vs : List Nat) (hp : PassesOwn (model X.prog X.w) X.A X.env X.xe) (hc : X.calm = true) (hm : X.mg "zip" = none)
    (h : AW X B [a, b] ss fun ds s => ∃ d1 d2 : List D, ds = [.tup d1, .tup d2] ∧ ∃ Iv : Nat → SS → Prop, Iv 0 s ∧ (∀ j x1 x2 s', d1[j]? = some x1 → d2[j]? = some x2 → Iv j s' → TgW X B (.Tuple elts kk tpos) (.tup [x1, x2]) vs s' fun s2 => SW X B body s2 { nx := Iv (j + 1), rt := k.rt, bk := k.nx, ct := Iv (j + 1) }) ∧ ∀ s', Iv (min d1.length d2.length) s' → k.nx s') (hg : Gl X "zip" := by rfl)
    (hse : starEach [a, b] X.env = (false, eval a X.env) :: starEach [b] X.env := by rfl) (hpl : (backTo rpos (starEach [b] X.env)).any (·.1) = false := by rfl)
    (hs : ∀ x, foldedSetIterable (.Call (.Name "zip" rp) [a, b] [] rpos) X.env x = pure x := by intro _; rfl) : S1 X B (.For (.Tuple elts kk tpos) (.Call (.Name "zip" rp) [a, b] [] rpos) body [] pos) ss k :=
  ⟨PSimp (ps_for hp hc (RZ.pi_zipA hg hm h.p hse hpl) pg_any pss_any hs) fun D σ H ⟨s, h1, h2, h3, h4⟩ => ⟨s, fun us ds s1 H1 ⟨d1, d2, q1, Iv, i0, i1, i2⟩ sat1 e1 r1 => by
    subst q1
    obtain ⟨v, u, rfl, r1, r2⟩ := vl2 r1
    cases r1 with
    | @tup a xs _ ea na ra =>
      cases r2 with
      | @tup b ys _ eb nb rb =>
        refine ⟨a, b, xs, ys, rfl, .inr ⟨SqT.of ea, SqT.of eb, for_it (walk_zT (n := min d1.length d2.length) (by rw [ra.len, rb.len])) (fun i σ' H' => ∃ s', Iv i s' ∧ Sat B s' σ' H' ∧ Ext (ow s1.cs) H1 (ow s'.cs) H') ⟨s1, i0, sat1, Ext.refl⟩ (fun i σ' H' _ ⟨s', _, _, e'⟩ => ⟨SqT.of (e'.kp _ _ na ntT ea), SqT.of (e'.kp _ _ nb ntT eb)⟩) (fun i y σ' H' H'' hi ⟨s', q', sat', e'⟩ hy => ?_) fun σ' H' ⟨s', q', sat', e'⟩ => h1 s' σ' H' (i2 s' q') sat' (e1.trans e')⟩⟩
        obtain ⟨T, x0, y0, rfl, hT, rfl, hx, hy⟩ := hy
        obtain ⟨x1, hx1, rx⟩ := ra.back hx
        obtain ⟨x2, hx2, ry⟩ := rb.back hy
        have S := Pre.Same.upd (o := .tup [x0, y0]) hT
        have e'' := e'.trans (Ext.same (M := ow s'.cs) S)
        refine ⟨_, (i1 i x1 x2 s' hx1 hx2 q').p, sat'.same S, .tup upd_same (sat'.new hT) (.cons (rx.ext e'') (.cons (ry.ext e'') .nil)), fun s2 σ2 q2 c2 sat2 _ => ⟨_, q2.p, sat2, fun s3 σ3 H3 q3 sat3 e3 => ?_, fun v d s3 σ3 H3 q3 sat3 e3 r3 => ?_, fun s3 σ3 H3 q3 sat3 e3 => ?_, fun s3 σ3 H3 q3 sat3 e3 => ?_⟩⟩
        · exact ⟨s3, q3, sat3, e''.trans (by rw [c2] at e3; exact e3)⟩
        · exact h2 v d s3 σ3 H3 q3 sat3 ((e1.trans e'').trans (by rw [c2] at e3; exact e3)) r3
        · exact h1 s3 σ3 H3 q3 sat3 ((e1.trans e'').trans (by rw [c2] at e3; exact e3))
        · exact ⟨s3, q3, sat3, e''.trans (by rw [c2] at e3; exact e3)⟩⟩⟩
theorem cl_all {bs : List Bool} (hc : X.calm = true) (q : Q (.bl (bs.all id)) ss) : ClD X B (.builtin "all") [.lst (bs.map D.bl)] ss Q := cl_c q fun H M vs r => by
  obtain ⟨v, rfl, r1⟩ := vl1 r
  cases r1 with
  | @lst a xs _ ea n r2 =>
    have := vl_bls r2
    subst this
    exact ⟨_, _, cr_all hc, .bl _, fun QQ q => ⟨a, bs, rfl, SqL.of ea, q⟩⟩
theorem cl_any' {bs : List Bool} (hc : X.calm = true) (q : Q (.bl (bs.any id)) ss) : ClD X B (.builtin "any") [.lst (bs.map D.bl)] ss Q := cl_c q fun H M vs r => by
  obtain ⟨v, rfl, r1⟩ := vl1 r
  cases r1 with
  | @lst a xs _ ea n r2 =>
    have := vl_bls r2
    subst this
    exact ⟨_, _, cr_any hc, .bl _, fun QQ q => ⟨a, bs, rfl, SqL.of ea, q⟩⟩
/-- a built-in of another module, imported by name -/
theorem ew_callF {id : String} (hm : X.mg x = some (.builtin id)) (hg : Gl X x) (h : AW X B (e :: es) ss fun ds s => ClD X B (.builtin id) ds s Q) (hdb : (x == ("__debug__" : Str)) = false := by decide)
    (he : starEach (e :: es) X.env = (false, eval e X.env) :: starEach es X.env := by rfl) (hpl : (backTo pos (starEach es X.env)).any (·.1) = false := by rfl) : EW X B (.Call (.Name x p) (e :: es) [] pos) ss Q :=
  ⟨PEimp (pe_callBfun cl_any hg hm h.p hdb he hpl) fun _ _ _ q => cl_go h q⟩
theorem cl_lcm {i j : Nat} (h1 : 0 < i) (h2 : i < 2 ^ 64) (h3 : 0 < j) (h4 : j < 2 ^ 10) (q : Q (.int ((Nat.lcm i j : Nat) : Int)) ss) : ClD X B (.builtin "math.lcm") [.int (i : Int), .int (j : Int)] ss Q := cl_c q fun H M vs r => by
  obtain ⟨v, u, rfl, r1, r2⟩ := vl2 r
  cases r1
  cases r2
  exact ⟨_, _, Crt.cr_lcm, .int _, fun QQ q => ⟨i, j, rfl, h2, h4, h1, h3, q⟩⟩
theorem od_inT {z : Str} {opts : List Str} (q : Q (.bl (decide (z ∈ opts))) ss) : OpD X B (compareOp .In) (.str z) (.tup (opts.map D.str)) ss Q := od_c q fun H M v1 v2 r1 r2 => by
  cases r1
  cases r2 with
  | @tup a xs _ ea n r =>
    have := vl_strs' r
    subst this
    exact ⟨_, _, op_in_seq, .bl _, fun QQ q => ⟨a, opts.map V.str, rfl, .inr (SqT.of ea), rfl, flat_strs opts, by rw [inV_strs]; exact q⟩⟩
end
end Sx
set_option Elab.async false
set_option linter.all false
set_option maxRecDepth 100000
set_option maxHeartbeats 2000000
/-! a def that says super().__init__(..): its statements run as its own activation -/
namespace Sx
open PySem PySem.Spec PyProof.Rows L2
structure SA (X : Cx) (B : Bs) (c : Code) (sts : List Stmt) (ss : SS) (k : Kt) : Prop where
  p : Sup.PSa X c sts (tS B ss k)
def tsaAny (X : Cx) (c : Code) (sts : List Stmt) : TS := fun D σ H => ∃ t, Sup.PSa X c sts t ∧ t D σ H
theorem psa_any {X : Cx} {c : Code} {sts : List Stmt} : Sup.PSa X c sts (tsaAny X c sts) := ⟨fun pins s σ H D I ⟨t, h, q⟩ => h.run pins s σ H D I q⟩
theorem PSaimp {X : Cx} {c : Code} {e : List Stmt} {t t' : TS} (h : Sup.PSa X c e t) (i : ∀ D σ H, t' D σ H → t D σ H) : Sup.PSa X c e t' := ⟨fun pins s σ H D I q => h.run pins s σ H D I (i _ _ _ q)⟩
section
variable {X : Cx} {c : Code} {B : Bs} {ss : SS} {k : Kt} {st : Stmt} {sts : List Stmt}
theorem sa_of (h : SW X B sts ss k) : SA X B c sts ss k := ⟨Sup.psa_of h.p⟩
theorem sa_cons (h : S1 X B st ss { k with nx := fun s => SA X B c sts s k }) : SA X B c (st :: sts) ss k :=
  ⟨PSaimp (Sup.psa_cons h.p psa_any) fun D σ H ⟨s, h1, h2, h3, h4⟩ => ⟨s, fun s1 σ1 H1 q1 sat1 e1 => ⟨_, q1.p, sat1, fun s2 σ2 H2 q2 sat2 e2 => h1 s2 σ2 H2 q2 sat2 (e1.trans e2),
    fun v d s2 σ2 H2 q2 sat2 e2 r2 => h2 v d s2 σ2 H2 q2 sat2 (e1.trans e2) r2, fun s2 σ2 H2 q2 sat2 e2 => h3 s2 σ2 H2 q2 sat2 (e1.trans e2), fun s2 σ2 H2 q2 sat2 e2 => h4 s2 σ2 H2 q2 sat2 (e1.trans e2)⟩, h2, h3, h4⟩⟩
end
section
variable {CX CX' : CXT} {P : Program} {w : World} {K : PySem.W.Frag} {mg : Str → Option Value} {base : Heap} {N : List Str} {x qual : Str} {params : Arguments} {body : List Stmt} {scope : Scope} {D0 cc c f g : Addr} {fd gd : FuncData} {A : Around} {outer : List Env} {s0 : Shared} {H0 : Hp} {E0 E' : XK}
  {n : Nat} {ps : List Str} {F : FT} {sts : List Stmt} {z : Str} {pz : Pos} {p0 p1 p2 p3 p4 : Pos} {ar : Arg} {pl : Sem Bool} {B : Bs} {ss : SS} {k : Kt} {KE' : Addr → List (Str × D) → Cs → Prop}
/-- super().__init__(z), z a name -/
theorem sa_super (i j : Nat) (xs : Exs B E' KE') (S : Sup.FunS P K x qual params body scope D0 cc c f fd) (hopq : Sup.Opq base) (hp : (params.posonlyargs ++ params.args).head? = some ar) (hN : N[0]? = some ar.arg)
    (hks : scope.names.lookup ("super" : Str) = some .globalImplicit) (hkc : scope.names.lookup ("__class__" : Str) = some .free) (hka : scope.names.lookup ar.arg = some .local)
    (hm : PySem.W.ks_superIn K D0 D0 "__init__" = some (some (.ref g))) (ht : PySem.W.typeIn K (.ref g) = some (.type "function")) (hf : PySem.W.fnIn K g = true)
    (G : FnOk P w K mg base CX' n g gd ps (spF F)) (hr : Room n (A.deeper (NdefX.envF (Sup.nfS x qual params body scope cc c) f s0.heap.objs.size))) (hb : L2.Binds K gd ps [])
    (hx : Passes CX' (NdefX.ncx CX P w K mg base N (Sup.nfS x qual params body scope cc c) f A outer s0 H0 E0) E')
    (hz : PE (NdefX.ncx CX P w K mg base N (Sup.nfS x qual params body scope cc c) f A outer s0 H0 E0) (.Name z pz) (tVar i))
    (h : ∃ (y : Addr) (fs : List (Str × D)) (d : D), ss.sl[0]? = some (some (.own y)) ∧ ss.cs[j]? = some (y, .ins D0 fs) ∧ ss.sl[i]? = some (some d) ∧
      F [.own y, d] ss.cs (fun _ cs' => SA (NdefX.ncx CX P w K mg base N (Sup.nfS x qual params body scope cc c) f A outer s0 H0 E0) B (.func body (NdefX.envF (Sup.nfS x qual params body scope cc c) f s0.heap.objs.size)) sts ⟨ss.sl, cs'⟩ k) KE')
    (hst : starEach [.Name z pz] (NdefX.envF (Sup.nfS x qual params body scope cc c) f s0.heap.objs.size) = (false, eval (.Name z pz) (NdefX.envF (Sup.nfS x qual params body scope cc c) f s0.heap.objs.size)) :: starEach [] (NdefX.envF (Sup.nfS x qual params body scope cc c) f s0.heap.objs.size) := by rfl)
    (hi : interactive (NdefX.envF (Sup.nfS x qual params body scope cc c) f s0.heap.objs.size) = false := by rfl)
    (hs : swapsWith (.Call (.Attribute (.Call (.Name "super" p0) [] [] p1) "__init__" p2) [.Name z pz] [] p3) none p4.line (NdefX.envF (Sup.nfS x qual params body scope cc c) f s0.heap.objs.size) = pure false := by rfl)
    (he : eval (.Call (.Attribute (.Call (.Name "super" p0) [] [] p1) "__init__" p2) [.Name z pz] [] p3) (NdefX.envF (Sup.nfS x qual params body scope cc c) f s0.heap.objs.size) = (do
      let ov ← attributeBase (.Call (.Name "super" p0) [] [] p1) "__init__" (NdefX.envF (Sup.nfS x qual params body scope cc c) f s0.heap.objs.size) (eval (.Call (.Name "super" p0) [] [] p1) (NdefX.envF (Sup.nfS x qual params body scope cc c) f s0.heap.objs.size))
      standAt p2.atName
      let (h, first) ← holding [ov] (getMethod ov "__init__" pl)
      callWith p3 h first (backTo p3 (starEach [.Name z pz] (NdefX.envF (Sup.nfS x qual params body scope cc c) f s0.heap.objs.size))) []) := by rfl) :
    SA (NdefX.ncx CX P w K mg base N (Sup.nfS x qual params body scope cc c) f A outer s0 H0 E0) B (.func body (NdefX.envF (Sup.nfS x qual params body scope cc c) f s0.heap.objs.size))
      (.Expr (.Call (.Attribute (.Call (.Name "super" p0) [] [] p1) "__init__" p2) [.Name z pz] [] p3) p4 :: sts) ss k := by
  obtain ⟨y, fs, d, h1, h2, h3, h4⟩ := h
  refine ⟨PSaimp (Sup.psa_super S hopq hp hN hks hkc hka hm ht hf G hr hb (E := E') hx (pa_cons hz pa_nil hst) psa_any hst hi hs he) fun Dn σ H ⟨s, k1, k2, k3, k4⟩ => ?_⟩
  obtain ⟨v0, e0, r0⟩ := s.sl 0 _ h1
  obtain ⟨v1, e1, r1⟩ := s.sl i _ h3
  cases r0
  obtain ⟨dx, vs, ea, rf⟩ := s.ok.ok y _ (List.mem_of_getElem? h2)
  refine ⟨y, dx, vs, e0, ea, v1, e1, ea, ?_⟩
  refine ⟨[.own y, d], ss.cs, _, KE', .cons (.own y) (.cons r1 .nil), s.ok, h4, fun v d' H' cs' q x ok r => ?_, fun C fs' cs' x vs' H' q x1 ok hx2 rf2 => xs.go s q x1 ok hx2 rf2⟩
  refine ⟨_, q.p, s.cs x ok, fun s2 σ2 H2 q2 sat2 e2 => k1 s2 σ2 H2 q2 sat2 (x.trans e2), fun v d s2 σ2 H2 q2 sat2 e2 r2 => k2 v d s2 σ2 H2 q2 sat2 (x.trans e2) r2, fun s2 σ2 H2 q2 sat2 e2 => k3 s2 σ2 H2 q2 sat2 (x.trans e2), fun s2 σ2 H2 q2 sat2 e2 => k4 s2 σ2 H2 q2 sat2 (x.trans e2)⟩
theorem startF_eq {N : List Str} {vs : List V} (h : vs.length < N.length) : NdefX.startF N vs [none] = L2.start N vs := by
  unfold NdefX.startF L2.start
  obtain ⟨m, hm⟩ : ∃ m, N.length - vs.length = m + 1 := ⟨N.length - vs.length - 1, by omega⟩
  rw [hm]
  rfl
theorem body_goA {X : Cx} {c : Code} {H : Hp} {cs : Cs} {vs : List V} {ds : List D} {N : List Str} {E : XK} {Kk : D → Cs → Prop} {KE : Addr → List (Str × D) → Cs → Prop} {Q : VK} (hl : ds.length < N.length) (r : VlL H (ow cs) vs ds) (ok : CsOk H cs)
    (q1 : ∀ v d H' cs', Kk d cs' → Ext (ow cs) H (ow cs') H' → CsOk H' cs' → Vl H' (ow cs') v d → Q v H')
    (q2 : ∀ C fs cs' x vs H', KE C fs cs' → Ext (ow cs) H (ow cs') H' → CsOk H' cs' → Xat H' x vs → VlF H' (ow cs') vs fs → E (.ref C) x H')
    (h : SA X ⟨H, cs, E, KE⟩ c body ⟨startD N ds, cs⟩ { nx := fun s => Kk .non s.cs, rt := fun d s => Kk d s.cs }) : ∃ t, Sup.PSa X c body t ∧ t { nx := fun _ H' => Q .non H', rt := Q } (NdefX.startF N vs [none]) H := by
  rw [startF_eq (by rw [r.len]; exact hl)]
  refine ⟨_, h.p, sat_start r ok (fun C fs cs' x vs' H' a b c d e => q2 C fs cs' x vs' H' a b c d e), fun s' σ' H' q sat e => q1 _ _ _ _ q e sat.ok .non, fun v d s' σ' H' q sat e r => q1 _ _ _ _ q e sat.ok r, fun _ _ _ z => z.elim, fun _ _ _ z => z.elim⟩
end
end Sx
set_option Elab.async false
set_option linter.all false
set_option maxRecDepth 100000
set_option maxHeartbeats 2000000
/-! name = [..], on one line -/
namespace Sx
open PySem PySem.Spec PyProof.Rows L2
section
variable {X : Cx} {B : Bs} {ss : SS} {Q : D → SS → Prop} {k : Kt} {a b c e e2 o elt tg iter : Expr} {es ifs : List Expr} {pos p apos p' : Pos} {n : Nat} {scope : Scope}
theorem s1_lcL (i0_ : Nat) {y : Str} {py spos : Pos} (own : List (Str × Nat)) (jx : Nat) (hc : X.calm = true) (hN : X.N.Nodup) (hy : X.N[i0_]? = some y) (hyl : X.env.scope.names.lookup y = some .local) (ok : BlkOk X.N X.env.scope scope own)
    (h : EW X B iter ss fun d s => ∃ ds, d = .lst ds ∧ ds.length ≤ sizeLine ∧ ∃ Iv : Nat → List D → Cs → Prop, Iv 0 [] s.cs ∧
      (∀ j dj acc cs, ds[j]? = some dj → Iv j acc cs → acc.length ≤ j ∧ LcTurn X B scope elt tg ifs (own.map (·.2)) jx s.sl dj acc cs (Iv (j + 1))) ∧ ∀ acc cs, Iv ds.length acc cs → k.nx ⟨s.sl.set i0_ (some (.lst acc)), cs⟩)
    (hs : ∀ x, foldedSetIterable iter X.env x = pure x := by intro _; rfl) (hsw : swapsWith (.ListComp elt [⟨tg, iter, ifs, 0⟩] scope pos) (some (.Name y py)) spos.line X.env = pure true := by rfl) : S1 X B (.Assign [.Name y py] (.ListComp elt [⟨tg, iter, ifs, 0⟩] scope pos) spos) ss k :=
  ⟨PSimp (ps_setLc hc hN hy hyl hsw (pi_list h.p) ok pg_blk pt_blk pe_blk hs) fun Dd σ H ⟨s, kk, _⟩ => ⟨s, fun v d s1 H1 ⟨ds, q1, hl, Iv, i0, i1, i2⟩ sat1 e1 r1 => by
    subst q1
    cases r1 with
    | @lst a xs _ ea n r =>
      refine ⟨a, rfl, ⟨xs, SqL.of ea⟩, fun l hnew => ?_⟩
      refine lc_list (K := X.K) (a := a) (xs := xs) (fun i H' => ∃ acc cs, Iv i acc cs ∧ LcAt B s1.sl s1.cs H1 (own.map (·.2)) σ jx l acc cs H') ⟨[], s1.cs, i0, lc_start sat1 hnew⟩ (fun i H' _ ⟨acc, cs, _, st⟩ => SqL.of (st.ext.kp _ _ n ntL ea)) (fun i y H' hy ⟨acc, cs, q, st⟩ => ?_) fun H' ⟨acc, cs, q, st⟩ => ?_
      · obtain ⟨dj, hd, rd⟩ := r.back hy
        obtain ⟨hacc, turn⟩ := i1 i dj acc cs hd q
        have hi := (List.getElem?_eq_some_iff.mp hd).1
        exact lc_go (by omega) st (rd.ext st.ext) turn fun acc' cs' H'' nq st' => ⟨acc', cs', nq, st'⟩
      · rw [r.len] at q
        exact lc_end (ss := ss) (Q := fun d s' => k.nx ⟨s'.sl.set i0_ (some d), s'.cs⟩) (QQ := fun x H1 => Dd.nx (σ.set i0_ (some x)) H1) sat1 e1 st (fun v d ss' H' q sat e r => kk _ _ _ q (sat.set r) e) (i2 acc cs q)⟩⟩
theorem s1_lcT (i0_ : Nat) {y : Str} {py spos : Pos} (own : List (Str × Nat)) (jx : Nat) (hc : X.calm = true) (hN : X.N.Nodup) (hy : X.N[i0_]? = some y) (hyl : X.env.scope.names.lookup y = some .local) (ok : BlkOk X.N X.env.scope scope own)
    (h : EW X B iter ss fun d s => ∃ ds, d = .tup ds ∧ ds.length ≤ sizeLine ∧ ∃ Iv : Nat → List D → Cs → Prop, Iv 0 [] s.cs ∧
      (∀ j dj acc cs, ds[j]? = some dj → Iv j acc cs → acc.length ≤ j ∧ LcTurn X B scope elt tg ifs (own.map (·.2)) jx s.sl dj acc cs (Iv (j + 1))) ∧ ∀ acc cs, Iv ds.length acc cs → k.nx ⟨s.sl.set i0_ (some (.lst acc)), cs⟩)
    (hs : ∀ x, foldedSetIterable iter X.env x = pure x := by intro _; rfl) (hsw : swapsWith (.ListComp elt [⟨tg, iter, ifs, 0⟩] scope pos) (some (.Name y py)) spos.line X.env = pure true := by rfl) : S1 X B (.Assign [.Name y py] (.ListComp elt [⟨tg, iter, ifs, 0⟩] scope pos) spos) ss k :=
  ⟨PSimp (ps_setLc hc hN hy hyl hsw (pi_tup h.p) ok pg_blk pt_blk pe_blk hs) fun Dd σ H ⟨s, kk, _⟩ => ⟨s, fun v d s1 H1 ⟨ds, q1, hl, Iv, i0, i1, i2⟩ sat1 e1 r1 => by
    subst q1
    cases r1 with
    | @tup a xs _ ea n r =>
      refine ⟨a, rfl, ⟨xs, SqT.of ea⟩, fun l hnew => ?_⟩
      refine lc_tup (K := X.K) (a := a) (xs := xs) (fun i H' => ∃ acc cs, Iv i acc cs ∧ LcAt B s1.sl s1.cs H1 (own.map (·.2)) σ jx l acc cs H') ⟨[], s1.cs, i0, lc_start sat1 hnew⟩ (fun i H' _ ⟨acc, cs, _, st⟩ => SqT.of (st.ext.kp _ _ n ntT ea)) (fun i y H' hy ⟨acc, cs, q, st⟩ => ?_) fun H' ⟨acc, cs, q, st⟩ => ?_
      · obtain ⟨dj, hd, rd⟩ := r.back hy
        obtain ⟨hacc, turn⟩ := i1 i dj acc cs hd q
        have hi := (List.getElem?_eq_some_iff.mp hd).1
        exact lc_go (by omega) st (rd.ext st.ext) turn fun acc' cs' H'' nq st' => ⟨acc', cs', nq, st'⟩
      · rw [r.len] at q
        exact lc_end (ss := ss) (Q := fun d s' => k.nx ⟨s'.sl.set i0_ (some d), s'.cs⟩) (QQ := fun x H1 => Dd.nx (σ.set i0_ (some x)) H1) sat1 e1 st (fun v d ss' H' q sat e r => kk _ _ _ q (sat.set r) e) (i2 acc cs q)⟩⟩
theorem s1_lcR {rp rpos : Pos} (i0_ : Nat) {y : Str} {py spos : Pos} (own : List (Str × Nat)) (jx : Nat) (hc : X.calm = true) (hN : X.N.Nodup) (hy : X.N[i0_]? = some y) (hyl : X.env.scope.names.lookup y = some .local) (ok : BlkOk X.N X.env.scope scope own) (hm : X.mg "range" = none)
    (h : EW X B a ss fun d s => ∃ n : Nat, d = .int (n : Int) ∧ n ≤ 10000 ∧ ∃ Iv : Nat → List D → Cs → Prop, Iv 0 [] s.cs ∧
      (∀ j acc cs, j < n → Iv j acc cs → acc.length ≤ j ∧ LcTurn X B scope elt tg ifs (own.map (·.2)) jx s.sl (.int (j : Int)) acc cs (Iv (j + 1))) ∧ ∀ acc cs, Iv n acc cs → k.nx ⟨s.sl.set i0_ (some (.lst acc)), cs⟩)
    (hg : Gl X "range" := by rfl) (hse : starEach [a] X.env = [(false, eval a X.env)] := by rfl)
    (hs : ∀ x, foldedSetIterable (.Call (.Name "range" rp) [a] [] rpos) X.env x = pure x := by intro _; rfl) (hsw : swapsWith (.ListComp elt [⟨tg, .Call (.Name "range" rp) [a] [] rpos, ifs, 0⟩] scope pos) (some (.Name y py)) spos.line X.env = pure true := by rfl) : S1 X B (.Assign [.Name y py] (.ListComp elt [⟨tg, .Call (.Name "range" rp) [a] [] rpos, ifs, 0⟩] scope pos) spos) ss k :=
  ⟨PSimp (ps_setLc hc hN hy hyl hsw (pi_range1 hg hm (pa_cons h.p pa_nil hse) hse) ok pg_blk pt_blk pe_blk hs) fun Dd σ H ⟨s, kk, _⟩ => ⟨s, fun v d s1 H1 ⟨n, q1, hl, Iv, i0, i1, i2⟩ sat1 e1 r1 => by
    subst q1
    cases r1
    refine ⟨(n : Int), rfl, by omega, by omega, fun l hnew => ?_⟩
    refine lc_range (lo := 0) (n := n) (fun i H' => ∃ acc cs, Iv i acc cs ∧ LcAt B s1.sl s1.cs H1 (own.map (·.2)) σ jx l acc cs H') ⟨[], s1.cs, i0, lc_start sat1 hnew⟩ (fun i H' hi ⟨acc, cs, q, st⟩ => ?_) fun H' ⟨acc, cs, q, st⟩ => ?_
    · obtain ⟨hacc, turn⟩ := i1 i acc cs hi q
      have z := lc_go (v := .int (i : Int)) (szt (by omega)) st (.int _) turn fun acc' cs' H'' nq st' => (⟨acc', cs', nq, st'⟩ : ∃ acc cs, Iv (i + 1) acc cs ∧ LcAt B s1.sl s1.cs H1 (own.map (·.2)) σ jx l acc cs H'')
      rw [Int.zero_add]
      exact z
    · exact lc_end (ss := ss) (Q := fun d s' => k.nx ⟨s'.sl.set i0_ (some d), s'.cs⟩) (QQ := fun x H1 => Dd.nx (σ.set i0_ (some x)) H1) sat1 e1 st (fun v d ss' H' q sat e r => kk _ _ _ q (sat.set r) e) (i2 acc cs q)⟩⟩
theorem s1_lcR2 {rp rpos : Pos} (i0_ : Nat) {y : Str} {py spos : Pos} (own : List (Str × Nat)) (jx : Nat) (hc : X.calm = true) (hN : X.N.Nodup) (hy : X.N[i0_]? = some y) (hyl : X.env.scope.names.lookup y = some .local) (ok : BlkOk X.N X.env.scope scope own) (hm : X.mg "range" = none)
    (h : AW X B [a, b] ss fun ds s => ∃ (lo : Int) (n : Nat), ds = [.int lo, .int (lo + n)] ∧ -10 ^ 15 ≤ lo ∧ lo ≤ 10 ^ 15 ∧ n ≤ 10000 ∧ ∃ Iv : Nat → List D → Cs → Prop, Iv 0 [] s.cs ∧
      (∀ j acc cs, j < n → Iv j acc cs → acc.length ≤ j ∧ LcTurn X B scope elt tg ifs (own.map (·.2)) jx s.sl (.int (lo + j)) acc cs (Iv (j + 1))) ∧ ∀ acc cs, Iv n acc cs → k.nx ⟨s.sl.set i0_ (some (.lst acc)), cs⟩)
    (hg : Gl X "range" := by rfl) (hse : starEach [a, b] X.env = [(false, eval a X.env), (false, eval b X.env)] := by rfl) (hse2 : starEach [b] X.env = [(false, eval b X.env)] := by rfl)
    (hs : ∀ x, foldedSetIterable (.Call (.Name "range" rp) [a, b] [] rpos) X.env x = pure x := by intro _; rfl) (hsw : swapsWith (.ListComp elt [⟨tg, .Call (.Name "range" rp) [a, b] [] rpos, ifs, 0⟩] scope pos) (some (.Name y py)) spos.line X.env = pure true := by rfl) : S1 X B (.Assign [.Name y py] (.ListComp elt [⟨tg, .Call (.Name "range" rp) [a, b] [] rpos, ifs, 0⟩] scope pos) spos) ss k :=
  ⟨PSimp (ps_setLc hc hN hy hyl hsw (pi_range2 hg hm h.p hse hse2) ok pg_blk pt_blk pe_blk hs) fun Dd σ H ⟨s, kk, _⟩ => ⟨s, fun vs ds s1 H1 ⟨lo, n, q1, l1, l2, hl, Iv, i0, i1, i2⟩ sat1 e1 r1 => by
    subst q1
    obtain ⟨v, u, rfl, r1, r2⟩ := vl2 r1
    cases r1
    cases r2
    have en : (lo + n - lo).toNat = n := by omega
    refine ⟨lo, lo + n, rfl, ⟨by omega, by omega, by omega, by omega⟩, fun l hnew => ?_⟩
    rw [en]
    refine lc_range (lo := lo) (n := n) (fun i H' => ∃ acc cs, Iv i acc cs ∧ LcAt B s1.sl s1.cs H1 (own.map (·.2)) σ jx l acc cs H') ⟨[], s1.cs, i0, lc_start sat1 hnew⟩ (fun i H' hi ⟨acc, cs, q, st⟩ => ?_) fun H' ⟨acc, cs, q, st⟩ => ?_
    · obtain ⟨hacc, turn⟩ := i1 i acc cs hi q
      exact lc_go (v := .int (lo + i)) (szt (by omega)) st (.int _) turn fun acc' cs' H'' nq st' => ⟨acc', cs', nq, st'⟩
    · exact lc_end (ss := ss) (Q := fun d s' => k.nx ⟨s'.sl.set i0_ (some d), s'.cs⟩) (QQ := fun x H1 => Dd.nx (σ.set i0_ (some x)) H1) sat1 e1 st (fun v d ss' H' q sat e r => kk _ _ _ q (sat.set r) e) (i2 acc cs q)⟩⟩
theorem s1_lcZ {rp rpos tpos : Pos} {elts : List Expr} {kk : Nat} (i0_ : Nat) {y : Str} {py spos : Pos} (own : List (Str × Nat)) (jx : Nat) (hc : X.calm = true) (hN : X.N.Nodup) (hy : X.N[i0_]? = some y) (hyl : X.env.scope.names.lookup y = some .local) (ok : BlkOk X.N X.env.scope scope own) (hm : X.mg "zip" = none)
    (h : AW X B [a, b] ss fun ds s => ∃ d1 d2 : List D, ds = [.tup d1, .tup d2] ∧ d1.length ≤ 10000 ∧ ∃ Iv : Nat → List D → Cs → Prop, Iv 0 [] s.cs ∧
      (∀ j x1 x2 acc cs, d1[j]? = some x1 → d2[j]? = some x2 → Iv j acc cs → acc.length ≤ j ∧ LcTurn X B scope elt (.Tuple elts kk tpos) ifs (own.map (·.2)) jx s.sl (.tup [x1, x2]) acc cs (Iv (j + 1))) ∧ ∀ acc cs, Iv (min d1.length d2.length) acc cs → k.nx ⟨s.sl.set i0_ (some (.lst acc)), cs⟩)
    (hg : Gl X "zip" := by rfl) (hse : starEach [a, b] X.env = (false, eval a X.env) :: starEach [b] X.env := by rfl) (hpl : (backTo rpos (starEach [b] X.env)).any (·.1) = false := by rfl)
    (hs : ∀ x, foldedSetIterable (.Call (.Name "zip" rp) [a, b] [] rpos) X.env x = pure x := by intro _; rfl) (hsw : swapsWith (.ListComp elt [⟨.Tuple elts kk tpos, .Call (.Name "zip" rp) [a, b] [] rpos, ifs, 0⟩] scope pos) (some (.Name y py)) spos.line X.env = pure true := by rfl) : S1 X B (.Assign [.Name y py] (.ListComp elt [⟨.Tuple elts kk tpos, .Call (.Name "zip" rp) [a, b] [] rpos, ifs, 0⟩] scope pos) spos) ss k :=
  ⟨PSimp (ps_setLc hc hN hy hyl hsw (RZ.pi_zipA hg hm h.p hse hpl) ok pg_blk pt_blk pe_blk hs) fun Dd σ H ⟨s, kk, _⟩ => ⟨s, fun vs ds s1 H1 ⟨d1, d2, q1, hl, Iv, i0, i1, i2⟩ sat1 e1 r1 => by
    subst q1
    obtain ⟨v, u, rfl, r1, r2⟩ := vl2 r1
    cases r1 with
    | @tup a xs _ ea na ra =>
      cases r2 with
      | @tup b ys _ eb nb rb =>
        refine ⟨a, b, xs, ys, rfl, .inr ⟨SqT.of ea, SqT.of eb, fun l hnew => ?_⟩⟩
        refine lc_it (walk_zT (n := min d1.length d2.length) (by rw [ra.len, rb.len])) (fun i H' => ∃ acc cs, Iv i acc cs ∧ LcAt B s1.sl s1.cs H1 (own.map (·.2)) σ jx l acc cs H') ⟨[], s1.cs, i0, lc_start sat1 hnew⟩ (fun i H' _ ⟨acc, cs, _, st⟩ => ⟨SqT.of (st.ext.kp _ _ na ntT ea), SqT.of (st.ext.kp _ _ nb ntT eb)⟩) (fun i y H' H2 hi ⟨acc, cs, q, st⟩ hy => ?_) fun H' ⟨acc, cs, q, st⟩ => ?_
        · obtain ⟨T, x0, y0, rfl, hT, rfl, hx, hy⟩ := hy
          obtain ⟨x1, hx1, rx⟩ := ra.back hx
          obtain ⟨x2, hx2, ry⟩ := rb.back hy
          obtain ⟨hacc, turn⟩ := i1 i x1 x2 acc cs hx1 hx2 q
          have S := Pre.Same.upd (o := .tup [x0, y0]) hT
          have st2 : LcAt B s1.sl s1.cs H1 (own.map (·.2)) σ jx l acc cs (upd H' T (.tup [x0, y0])) := ⟨st.sat.same S, st.ext.trans (Ext.same S)⟩
          exact lc_go (v := .ref T) (szt (by omega)) st2 (.tup upd_same (st.sat.new hT) (.cons (rx.ext st2.ext) (.cons (ry.ext st2.ext) .nil))) turn fun acc' cs' H'' nq st' => ⟨acc', cs', nq, st'⟩
        · exact lc_end (ss := ss) (Q := fun d s' => k.nx ⟨s'.sl.set i0_ (some d), s'.cs⟩) (QQ := fun x H1 => Dd.nx (σ.set i0_ (some x)) H1) sat1 e1 st (fun v d ss' H' q sat e r => kk _ _ _ q (sat.set r) e) (i2 acc cs q)⟩⟩
end
end Sx
set_option Elab.async false
set_option linter.all false
set_option maxRecDepth 100000
set_option maxHeartbeats 4000000
namespace Sx
open PySem PySem.Spec PyProof.Rows L2
section
variable {X : Cx} {B : Bs} {ss : SS} {C : Addr} {x : Str} {p pos p' : Pos} {k : Kt}
/-- raise C(), C keeping no field -/
theorem s1_raise0 (T : Ers.Bare X.K C) (hg : Gl X x) (hm : X.mg x = some (.ref C)) (hc : X.calm = true) (tk : Takes X (fun cls d _ H => B.E cls d H)) (h : B.Ex C [] ss.cs)
    (hdb : (x == ("__debug__" : Str)) = false := by decide) : S1 X B (.Raise (some (.Call (.Name x p) [] [] pos)) none p') ss k :=
  ⟨PSimp (Ers.ps_raise0 T hg hm hc tk hdb) fun D σ H ⟨s, _⟩ => s.bok C [] ss.cs none [] H h s.ext s.ok rfl .nil⟩
end
end Sx
set_option Elab.async false
set_option linter.all false
set_option maxRecDepth 100000
set_option maxHeartbeats 4000000
namespace K41
open PySem PySem.Spec PyProof.Rows L2 Sx
local macro_rules | `(tactic| walk_at "c") => `(tactic| first
  | refine aw_cons ?_ | refine aw_nil ?_
  | refine ew_int ?_ | refine ew_non ?_ | refine ew_bl ?_ | refine ew_str ?_
  | refine ew_bin ?_ | refine ew_cmp ?_ | refine tw_cmp ?_ | refine tw_not ?_ | refine ew_chain ?_ | refine tw_chain ?_ | refine ew_and ?_ | refine ew_or ?_ | refine ew_one ?_ | refine ew_not ?_ | refine ew_neg ?_ | refine ew_if ?_
  | refine tw_w (ww_and ?_) | refine tw_w (ww_or ?_) | refine ww_and ?_ | refine ww_or ?_ | refine ww_and1 ?_ | refine ww_or1 ?_
  | refine tw_val (e := .Call _ _ _ _) ?_ | refine ew_tup ?_ | refine ew_ix ?_ | refine ew_lst ?_
  | refine sw_cons ?_ | refine s1_ret ?_ | refine s1_if ?_ | refine sw_nil ?_ | refine s1_expr ?_
  | refine od_add ?_ | refine od_sub ?_ | refine od_lt ?_ | refine od_le ?_ | refine od_gt ?_ | refine od_ge ?_
  | refine isB ?_ | refine intD ?_ | refine br_t ?_ | refine br_f ?_
  | refine ⟨szl (Nat.le_of_ble_eq_true rfl), ?_⟩)
local macro_rules | `(tactic| walk_at "n") => `(tactic| first
  | refine ew_name 0 rfl (by first | exact .inl rfl | exact .inr (.inl rfl) | exact .inr (.inr rfl)) rfl ?_
  | refine ew_name 1 rfl (by first | exact .inl rfl | exact .inr (.inl rfl) | exact .inr (.inr rfl)) rfl ?_
  | refine ew_name 2 rfl (by first | exact .inl rfl | exact .inr (.inl rfl) | exact .inr (.inr rfl)) rfl ?_
  | refine ew_name 3 rfl (by first | exact .inl rfl | exact .inr (.inl rfl) | exact .inr (.inr rfl)) rfl ?_
  | refine ew_name 4 rfl (by first | exact .inl rfl | exact .inr (.inl rfl) | exact .inr (.inr rfl)) rfl ?_
  | refine ew_name 5 rfl (by first | exact .inl rfl | exact .inr (.inl rfl) | exact .inr (.inr rfl)) rfl ?_
  | refine ew_name 6 rfl (by first | exact .inl rfl | exact .inr (.inl rfl) | exact .inr (.inr rfl)) rfl ?_
  | refine ew_name 7 rfl (by first | exact .inl rfl | exact .inr (.inl rfl) | exact .inr (.inr rfl)) rfl ?_
  | refine ew_name 8 rfl (by first | exact .inl rfl | exact .inr (.inl rfl) | exact .inr (.inr rfl)) rfl ?_
  | refine ew_name 9 rfl (by first | exact .inl rfl | exact .inr (.inl rfl) | exact .inr (.inr rfl)) rfl ?_
  | refine ew_name 10 rfl (by first | exact .inl rfl | exact .inr (.inl rfl) | exact .inr (.inr rfl)) rfl ?_
  | refine ew_name 11 rfl (by first | exact .inl rfl | exact .inr (.inl rfl) | exact .inr (.inr rfl)) rfl ?_
  | refine ew_name 12 rfl (by first | exact .inl rfl | exact .inr (.inl rfl) | exact .inr (.inr rfl)) rfl ?_)
local macro_rules | `(tactic| walk_at "i") => `(tactic| (refine' cl_isi (.ty _) ?a ?b ?_; (case a => constructor); (case b => with_reducible first | exact kit_int_int | exact kit_int_bool | exact kit_bool_int | exact kit_bool_bool | exact kit_NoneType_int | exact kit_str_int | exact kit_list_int | exact kit_tuple_int | exact kit_dict_int | exact kit_tuple_tuple | exact kit_int_tuple | exact kit_NoneType_tuple | exact kit_bool_tuple | exact kit_str_tuple | exact kit_list_tuple | exact kit_dict_tuple)))
local macro_rules | `(tactic| walk_at "l") => `(tactic| first
  | refine ew_isinstance (Tx.f_isinstance (by assumption)) ?_ | refine ew_len (Tx.f_len (by assumption)) ?_ | refine ew_vint (Tx.f_int (by assumption)) ?_ | refine ew_vbool (Tx.f_bool (by assumption)) ?_ | refine ew_vtuple (Tx.f_tuple (by assumption)) ?_ | refine ew_vstr (Tx.f_str (by assumption)) ?_
  | refine ew_gint (Tx.i_FAR (by assumption)) (by rfl) ?_ | refine ew_gint (Tx.i_FAR_TALLY (by assumption)) (by rfl) ?_ | refine ew_gint (Tx.i_MOST_PATIENCE (by assumption)) (by rfl) ?_ | refine ew_gint (Tx.i_MOST_LIFE (by assumption)) (by rfl) ?_ | refine ew_gint (Tx.i_MOST_PAIRS (by assumption)) (by rfl) ?_ | refine ew_gint (Tx.i_MOST_WIDTH (by assumption)) (by rfl) ?_ | refine ew_gint (Tx.i_MOST_KEEP (by assumption)) (by rfl) ?_
  | refine cl_len ?_ | refine cl_lenT ?_ | refine ix_tpl rfl ?_ | refine od_is (by intro _ h; cases h) ?_)
local macro_rules | `(tactic| walk_at "x") => `(tactic| repeat (first | walk_at "c" | walk_at "n" | walk_at "l" | walk_at "i"))
section
variable {P : Program} {w : World} {K : PySem.W.Frag} {mg : Str → Option Value} {base : Heap}
theorem tk {N : List Str} {qual : Str} {scope : Scope} {f : Addr} {cdv : Value} {A : Around} {outer : List Env} {s : Shared} {H : Hp} {E : XK} : Takes (cxOf (L2.CX P w) P w K mg base N qual scope f cdv A outer s H E) (fun cls d _ H => E cls d H) := takes_of rfl rfl rfl rfl
theorem pc {N : List Str} {qual : Str} {scope : Scope} {f : Addr} {cdv : Value} {A : Around} {outer : List Env} {s : Shared} {H : Hp} {E : XK} : Passes (L2.CX P w) (cxOf (L2.CX P w) P w K mg base N qual scope f cdv A outer s H E) E := passes_call tk fun _ _ _ _ h => h
theorem i_BadNumber (T : Tx K mg) : ∃ fd, FnOk P w K mg base L2.CX0 1 (He.ma K (He.ga K "BadNumber") "__init__") fd ["self", "value"] (Ers.spIni1 (He.ga K "BadNumber") "value") ∧ L2.Binds K fd ["self", "value"] [] := by
  obtain ⟨fd, F⟩ := T.q_BadNumber_init
  exact ⟨fd, Ers.ok_ini1 F ⟨rfl, rfl, rfl, by decide +kernel, rfl, by decide +kernel, by decide +kernel⟩ T.o_BadNumber T.n_BadNumber_value (by decide +kernel) (by decide +kernel) (by decide) (by decide) (fun _ => rfl), F.bindsN fun kV doc pm an cdv ct => Vls.bind2 fun a b => rfl⟩
theorem i_Forgotten (T : Tx K mg) : ∃ fd, FnOk P w K mg base L2.CX0 1 (He.ma K (He.ga K "Forgotten") "__init__") fd ["self", "moment"] (Ers.spIni1 (He.ga K "Forgotten") "moment") ∧ L2.Binds K fd ["self", "moment"] [] := by
  obtain ⟨fd, F⟩ := T.q_Forgotten_init
  exact ⟨fd, Ers.ok_ini1 F ⟨rfl, rfl, rfl, by decide +kernel, rfl, by decide +kernel, by decide +kernel⟩ T.o_Forgotten T.n_Forgotten_moment (by decide +kernel) (by decide +kernel) (by decide) (by decide) (fun _ => rfl), F.bindsN fun kV doc pm an cdv ct => Vls.bind2 fun a b => rfl⟩
theorem i_BadStore (T : Tx K mg) : ∃ fd, FnOk P w K mg base L2.CX0 1 (He.ma K (He.ga K "BadStore") "__init__") fd ["self", "part"] (Ers.spIni1 (He.ga K "BadStore") "part") ∧ L2.Binds K fd ["self", "part"] [] := by
  obtain ⟨fd, F⟩ := T.q_BadStore_init
  exact ⟨fd, Ers.ok_ini1 F ⟨rfl, rfl, rfl, by decide +kernel, rfl, by decide +kernel, by decide +kernel⟩ T.o_BadStore T.n_BadStore_part (by decide +kernel) (by decide +kernel) (by decide) (by decide) (fun _ => rfl), F.bindsN fun kV doc pm an cdv ct => Vls.bind2 fun a b => rfl⟩
theorem i_NotYet (T : Tx K mg) : ∃ fd, FnOk P w K mg base L2.CX0 1 (He.ma K (He.ga K "NotYet") "__init__") fd ["self", "moment"] (Ers.spIni1 (He.ga K "NotYet") "moment") ∧ L2.Binds K fd ["self", "moment"] [] := by
  obtain ⟨fd, F⟩ := T.q_NotYet_init
  exact ⟨fd, Ers.ok_ini1 F ⟨rfl, rfl, rfl, by decide +kernel, rfl, by decide +kernel, by decide +kernel⟩ T.o_NotYet T.n_NotYet_moment (by decide +kernel) (by decide +kernel) (by decide) (by decide) (fun _ => rfl), F.bindsN fun kV doc pm an cdv ct => Vls.bind2 fun a b => rfl⟩
theorem i_Unlike (T : Tx K mg) : ∃ fd, FnOk P w K mg base L2.CX0 1 (He.ma K (He.ga K "Unlike") "__init__") fd ["self", "part"] (Ers.spIni1 (He.ga K "Unlike") "part") ∧ L2.Binds K fd ["self", "part"] [] := by
  obtain ⟨fd, F⟩ := T.q_Unlike_init
  exact ⟨fd, Ers.ok_ini1 F ⟨rfl, rfl, rfl, by decide +kernel, rfl, by decide +kernel, by decide +kernel⟩ T.o_Unlike T.n_Unlike_part (by decide +kernel) (by decide +kernel) (by decide) (by decide) (fun _ => rfl), F.bindsN fun kV doc pm an cdv ct => Vls.bind2 fun a b => rfl⟩
def F_whole : FT := fun ds cs Kk _ => ∃ d, ds = [d] ∧ Pln d ∧ Kk (.bl (isW d)) cs
theorem d_whole (T : Tx K mg) : Dfs.Dfn P w K mg base (L2.CX P w) 1 "is_whole" ["value"] (spF F_whole) := by
  refine dfnF T.q_is_whole T.g_is_whole (N := ["value"]) ⟨rfl, rfl, rfl, by decide +kernel, rfl, by decide +kernel, by decide +kernel⟩ (fun kV doc pm an cdv ct => Vls.bind1 fun a => rfl) (fun ds cs Kk KE h => ?_) (fun cdv A outer s H E ds cs Kk KE hr h => ?_)
  · obtain ⟨_, rfl, _⟩ := h
    rfl
  · obtain ⟨d, rfl, hp, q⟩ := h
    cases d with
    | obj => exact hp.elim
    | exc => exact hp.elim
    | own => exact hp.elim
    | raw => exact hp.elim
    | _ => walk_at "x"; exact q
def F_within : FT := fun ds cs Kk _ => ∃ d lo hi, ds = [d, .int lo, .int hi] ∧ Pln d ∧ Kk (.bl (inR lo hi d)) cs
theorem d_within (T : Tx K mg) : Dfs.Dfn P w K mg base (L2.CX P w) 2 "is_within" ["value", "low", "high"] (spF F_within) := by
  refine dfnF T.q_is_within T.g_is_within (N := ["value", "low", "high"]) ⟨rfl, rfl, rfl, by decide +kernel, rfl, by decide +kernel, by decide +kernel⟩ (fun kV doc pm an cdv ct => Vls.bind3 fun a b c => rfl) (fun ds cs Kk KE h => ?_) (fun cdv A outer s H E ds cs Kk KE hr h => ?_)
  · obtain ⟨_, _, _, rfl, _⟩ := h
    rfl
  · obtain ⟨d, lo, hi, rfl, hp, q⟩ := h
    walk_at "x"
    refine ew_call .same (d_whole T) hr (by rfl) pc ?_
    walk_at "x"
    refine ⟨d, rfl, hp, isB ⟨fun hw => ?_, fun hw => ?_⟩⟩
    · cases d with
      | int i =>
        walk_at "x"
        refine ⟨fun h1 => ?_, fun h1 => ?_⟩
        · walk_at "x"
          have q2 : Kk (.bl (decide (lo ≤ i) && decide (i ≤ hi))) cs := q
          rw [h1] at q2
          exact q2
        · have q2 : Kk (.bl (decide (lo ≤ i) && decide (i ≤ hi))) cs := q
          rw [h1] at q2
          exact q2
      | _ => cases hw
    · have e : inR lo hi d = false := by cases d <;> first | rfl | cases hw
      rw [e] at q
      exact q
def F_check (K : PySem.W.Frag) : FT := fun ds cs Kk KE => ∃ d lo hi, ds = [d, .int lo, .int hi] ∧ Pln d ∧ (inR lo hi d = true → Kk .non cs) ∧ (inR lo hi d = false → KE (He.ga K "BadNumber") [("value", d)] cs)
theorem d_check (T : Tx K mg) : Dfs.Dfn P w K mg base (L2.CX P w) 3 "check_number" ["value", "low", "high"] (spF (F_check K)) := by
  refine dfnF T.q_check_number T.g_check_number (N := ["value", "low", "high"]) ⟨rfl, rfl, rfl, by decide +kernel, rfl, by decide +kernel, by decide +kernel⟩ (fun kV doc pm an cdv ct => Vls.bind3 fun a b c => rfl) (fun ds cs Kk KE h => ?_) (fun cdv A outer s H E ds cs Kk KE hr h => ?_)
  · obtain ⟨_, _, _, rfl, _⟩ := h
    rfl
  · obtain ⟨d, lo, hi, rfl, hp, q1, q2⟩ := h
    obtain ⟨fi, Fi, Bi⟩ := i_BadNumber (P := P) (w := w) (base := base) T
    walk_at "x"
    refine ew_call .same (d_within T) hr (by rfl) pc ?_
    walk_at "x"
    refine ⟨d, lo, hi, rfl, hp, isB ⟨fun hw => ?_, fun hw => ?_⟩⟩
    · walk_at "x"
      refine s1_raise1 T.o_BadNumber T.m_BadNumber_init.at_ T.t_BadNumber Fi (hr.mono (by decide)) Bi (by rfl) T.g_BadNumber rfl tk ?_
      walk_at "x"
      exact q2 (by simpa using hw)
    · walk_at "x"
      exact q1 (by simpa using hw)
end
end K41
set_option Elab.async false
set_option linter.all false
set_option maxRecDepth 100000
set_option maxHeartbeats 4000000
namespace K41
open PySem PySem.Spec PyProof.Rows L2 Sx
local macro_rules | `(tactic| walk_at "c") => `(tactic| first
  | refine aw_cons ?_ | refine aw_nil ?_
  | refine ew_int ?_ | refine ew_non ?_ | refine ew_bl ?_ | refine ew_str ?_
  | refine ew_bin ?_ | refine ew_cmp ?_ | refine tw_cmp ?_ | refine tw_not ?_ | refine ew_chain ?_ | refine tw_chain ?_ | refine ew_and ?_ | refine ew_or ?_ | refine ew_one ?_ | refine ew_not ?_ | refine ew_neg ?_ | refine ew_if ?_
  | refine tw_w (ww_and ?_) | refine tw_w (ww_or ?_) | refine ww_and ?_ | refine ww_or ?_ | refine ww_and1 ?_ | refine ww_or1 ?_
  | refine tw_val (e := .Call _ _ _ _) ?_ | refine ew_tup ?_ | refine ew_ix ?_ | refine ew_lst ?_
  | refine sw_cons ?_ | refine s1_ret ?_ | refine s1_if ?_ | refine sw_nil ?_ | refine s1_expr ?_
  | refine od_add ?_ | refine od_sub ?_ | refine od_lt ?_ | refine od_le ?_ | refine od_gt ?_ | refine od_ge ?_
  | refine isB ?_ | refine intD ?_ | refine br_t ?_ | refine br_f ?_
  | refine ⟨szl (Nat.le_of_ble_eq_true rfl), ?_⟩)
local macro_rules | `(tactic| walk_at "n") => `(tactic| first
  | refine ew_name 0 rfl (by first | exact .inl rfl | exact .inr (.inl rfl) | exact .inr (.inr rfl)) rfl ?_
  | refine ew_name 1 rfl (by first | exact .inl rfl | exact .inr (.inl rfl) | exact .inr (.inr rfl)) rfl ?_
  | refine ew_name 2 rfl (by first | exact .inl rfl | exact .inr (.inl rfl) | exact .inr (.inr rfl)) rfl ?_
  | refine ew_name 3 rfl (by first | exact .inl rfl | exact .inr (.inl rfl) | exact .inr (.inr rfl)) rfl ?_
  | refine ew_name 4 rfl (by first | exact .inl rfl | exact .inr (.inl rfl) | exact .inr (.inr rfl)) rfl ?_
  | refine ew_name 5 rfl (by first | exact .inl rfl | exact .inr (.inl rfl) | exact .inr (.inr rfl)) rfl ?_
  | refine ew_name 6 rfl (by first | exact .inl rfl | exact .inr (.inl rfl) | exact .inr (.inr rfl)) rfl ?_
  | refine ew_name 7 rfl (by first | exact .inl rfl | exact .inr (.inl rfl) | exact .inr (.inr rfl)) rfl ?_
  | refine ew_name 8 rfl (by first | exact .inl rfl | exact .inr (.inl rfl) | exact .inr (.inr rfl)) rfl ?_
  | refine ew_name 9 rfl (by first | exact .inl rfl | exact .inr (.inl rfl) | exact .inr (.inr rfl)) rfl ?_
  | refine ew_name 10 rfl (by first | exact .inl rfl | exact .inr (.inl rfl) | exact .inr (.inr rfl)) rfl ?_
  | refine ew_name 11 rfl (by first | exact .inl rfl | exact .inr (.inl rfl) | exact .inr (.inr rfl)) rfl ?_
  | refine ew_name 12 rfl (by first | exact .inl rfl | exact .inr (.inl rfl) | exact .inr (.inr rfl)) rfl ?_)
local macro_rules | `(tactic| walk_at "i") => `(tactic| (refine' cl_isi (.ty _) ?a ?b ?_; (case a => constructor); (case b => with_reducible first | exact kit_int_int | exact kit_int_bool | exact kit_bool_int | exact kit_bool_bool | exact kit_NoneType_int | exact kit_str_int | exact kit_list_int | exact kit_tuple_int | exact kit_dict_int | exact kit_tuple_tuple | exact kit_int_tuple | exact kit_NoneType_tuple | exact kit_bool_tuple | exact kit_str_tuple | exact kit_list_tuple | exact kit_dict_tuple)))
local macro_rules | `(tactic| walk_at "l") => `(tactic| first
  | refine ew_isinstance (Tx.f_isinstance (by assumption)) ?_ | refine ew_len (Tx.f_len (by assumption)) ?_ | refine ew_vint (Tx.f_int (by assumption)) ?_ | refine ew_vbool (Tx.f_bool (by assumption)) ?_ | refine ew_vtuple (Tx.f_tuple (by assumption)) ?_ | refine ew_vstr (Tx.f_str (by assumption)) ?_
  | refine ew_gint (Tx.i_FAR (by assumption)) (by rfl) ?_ | refine ew_gint (Tx.i_FAR_TALLY (by assumption)) (by rfl) ?_ | refine ew_gint (Tx.i_MOST_PATIENCE (by assumption)) (by rfl) ?_ | refine ew_gint (Tx.i_MOST_LIFE (by assumption)) (by rfl) ?_ | refine ew_gint (Tx.i_MOST_PAIRS (by assumption)) (by rfl) ?_ | refine ew_gint (Tx.i_MOST_WIDTH (by assumption)) (by rfl) ?_ | refine ew_gint (Tx.i_MOST_KEEP (by assumption)) (by rfl) ?_
  | refine cl_len ?_ | refine cl_lenT ?_ | refine ix_tpl rfl ?_ | refine od_is (by intro _ h; cases h) ?_)
local macro_rules | `(tactic| walk_at "x") => `(tactic| repeat (first | walk_at "c" | walk_at "n" | walk_at "l" | walk_at "i"))
abbrev Pr := Int × Int
def pD (p : Pr) : D := .tup [.int p.1, .int p.2]
structure Link (p q : Pr) : Prop where
  w0 : 0 < p.1
  w1 : 2 * p.1 ≤ q.1
  w2 : q.1 ≤ 10 ^ 6
  w3 : q.1 % p.1 = 0
  k1 : p.2 + 1 ≤ q.2
  k2 : q.2 ≤ 10 ^ 9
structure First (q : Pr) : Prop where
  w : q.1 = 1
  k1 : 1 ≤ q.2
  k2 : q.2 ≤ 10 ^ 9
structure Good (l : List Pr) : Prop where
  l1 : 1 ≤ l.length
  l2 : l.length ≤ 6
  hd : ∀ q, l[0]? = some q → First q
  tl : ∀ i p q, l[i]? = some p → l[i + 1]? = some q → Link p q
theorem inR_ok {lo hi x : Int} (h1 : lo ≤ x) (h2 : x ≤ hi) : inR lo hi (.int x) = true := by
  show (decide (lo ≤ x) && decide (x ≤ hi)) = true
  rw [decide_eq_true h1, decide_eq_true h2]
  rfl
section
variable {P : Program} {w : World} {K : PySem.W.Frag} {mg : Str → Option Value} {base : Heap}
def F_fits : FT := fun ds cs Kk _ => ∃ q a, ds = [pD q, a] ∧ ((a = .non ∧ First q) ∨ ∃ p, a = pD p ∧ Link p q) ∧ Kk (.bl true) cs
theorem d_fits (T : Tx K mg) : Dfs.Dfn P w K mg base (L2.CX P w) 3 "fits_behind" ["value", "ahead"] (spF F_fits) := by
  refine dfnF T.q_fits_behind T.g_fits_behind (N := ["value", "ahead"]) ⟨rfl, rfl, rfl, by decide +kernel, rfl, by decide +kernel, by decide +kernel⟩ (fun kV doc pm an cdv ct => Vls.bind2 fun a b => rfl) (fun ds cs Kk KE h => ?_) (fun cdv A outer s H E ds cs Kk KE hr h => ?_)
  · obtain ⟨_, _, rfl, _⟩ := h
    rfl
  · obtain ⟨⟨qw, qk⟩, a, rfl, ha, q⟩ := h
    unfold pD
    rcases ha with ⟨rfl, hf⟩ | ⟨⟨pw, pk⟩, rfl, hl⟩
    · have hw := hf.w
      have h1 := hf.k1
      have h2 := hf.k2
      dsimp only at hw h1 h2
      walk_at "x"
      refine od_ne hr.units (by rfl) (by rfl) ?_
      walk_at "x"
      refine ew_call .same (d_within T) hr (by rfl) pc ?_
      walk_at "x"
      refine ⟨_, _, _, rfl, trivial, ?_⟩
      have e1 : inR 1 1 (.int qw) = true := inR_ok (by omega) (by omega)
      have e2 : inR 1 (10 ^ 9) (.int qk) = true := inR_ok (by omega) (by omega)
      rw [e1]
      walk_at "x"
      refine ew_call .same (d_within T) hr (by rfl) pc ?_
      walk_at "x"
      refine ⟨_, _, _, rfl, trivial, ?_⟩
      rw [e2]
      exact q
    · have w0 := hl.w0
      have w1 := hl.w1
      have w2 := hl.w2
      have w3 := hl.w3
      have h1 := hl.k1
      have h2 := hl.k2
      dsimp only at w0 w1 w2 w3 h1 h2
      unfold pD
      walk_at "x"
      refine od_ne hr.units (by rfl) (by rfl) ?_
      walk_at "x"
      refine ew_call .same (d_within T) hr (by rfl) pc ?_
      walk_at "x"
      refine od_mul (.inl ⟨by decide, by decide⟩) ?_
      walk_at "x"
      refine ⟨_, _, _, rfl, trivial, ?_⟩
      have e1 : inR (2 * pw) (10 ^ 6) (.int qw) = true := inR_ok (by omega) (by omega)
      have e2 : inR (pk + 1) (10 ^ 9) (.int qk) = true := inR_ok (by omega) (by omega)
      rw [e1]
      walk_at "x"
      refine od_mod w0 ?_
      walk_at "x"
      rw [w3]
      refine od_ne hr.units (by rfl) (by rfl) ?_
      walk_at "x"
      refine ew_call .same (d_within T) hr (by rfl) pc ?_
      walk_at "x"
      refine ⟨_, _, _, rfl, trivial, ?_⟩
      rw [e2]
      exact q
end
end K41
set_option Elab.async false
set_option linter.all false
set_option maxRecDepth 100000
set_option maxHeartbeats 4000000
namespace K41
open PySem PySem.Spec PyProof.Rows L2 Sx
local macro_rules | `(tactic| walk_at "c") => `(tactic| first
  | refine aw_cons ?_ | refine aw_nil ?_
  | refine ew_int ?_ | refine ew_non ?_ | refine ew_bl ?_ | refine ew_str ?_
  | refine ew_bin ?_ | refine ew_cmp ?_ | refine tw_cmp ?_ | refine tw_not ?_ | refine ew_chain ?_ | refine tw_chain ?_ | refine ew_and ?_ | refine ew_or ?_ | refine ew_one ?_ | refine ew_not ?_ | refine ew_neg ?_ | refine ew_if ?_
  | refine tw_w (ww_and ?_) | refine tw_w (ww_or ?_) | refine ww_and ?_ | refine ww_or ?_ | refine ww_and1 ?_ | refine ww_or1 ?_
  | refine tw_val (e := .Call _ _ _ _) ?_ | refine ew_tup ?_ | refine ew_ix ?_ | refine ew_lst ?_
  | refine sw_cons ?_ | refine s1_ret ?_ | refine s1_if ?_ | refine sw_nil ?_ | refine s1_expr ?_
  | refine od_add ?_ | refine od_sub ?_ | refine od_lt ?_ | refine od_le ?_ | refine od_gt ?_ | refine od_ge ?_
  | refine isB ?_ | refine intD ?_ | refine br_t ?_ | refine br_f ?_
  | refine ⟨szl (Nat.le_of_ble_eq_true rfl), ?_⟩)
local macro_rules | `(tactic| walk_at "n") => `(tactic| first
  | refine ew_name 0 rfl (by first | exact .inl rfl | exact .inr (.inl rfl) | exact .inr (.inr rfl)) rfl ?_
  | refine ew_name 1 rfl (by first | exact .inl rfl | exact .inr (.inl rfl) | exact .inr (.inr rfl)) rfl ?_
  | refine ew_name 2 rfl (by first | exact .inl rfl | exact .inr (.inl rfl) | exact .inr (.inr rfl)) rfl ?_
  | refine ew_name 3 rfl (by first | exact .inl rfl | exact .inr (.inl rfl) | exact .inr (.inr rfl)) rfl ?_
  | refine ew_name 4 rfl (by first | exact .inl rfl | exact .inr (.inl rfl) | exact .inr (.inr rfl)) rfl ?_
  | refine ew_name 5 rfl (by first | exact .inl rfl | exact .inr (.inl rfl) | exact .inr (.inr rfl)) rfl ?_
  | refine ew_name 6 rfl (by first | exact .inl rfl | exact .inr (.inl rfl) | exact .inr (.inr rfl)) rfl ?_
  | refine ew_name 7 rfl (by first | exact .inl rfl | exact .inr (.inl rfl) | exact .inr (.inr rfl)) rfl ?_
  | refine ew_name 8 rfl (by first | exact .inl rfl | exact .inr (.inl rfl) | exact .inr (.inr rfl)) rfl ?_
  | refine ew_name 9 rfl (by first | exact .inl rfl | exact .inr (.inl rfl) | exact .inr (.inr rfl)) rfl ?_
  | refine ew_name 10 rfl (by first | exact .inl rfl | exact .inr (.inl rfl) | exact .inr (.inr rfl)) rfl ?_
  | refine ew_name 11 rfl (by first | exact .inl rfl | exact .inr (.inl rfl) | exact .inr (.inr rfl)) rfl ?_
  | refine ew_name 12 rfl (by first | exact .inl rfl | exact .inr (.inl rfl) | exact .inr (.inr rfl)) rfl ?_)
local macro_rules | `(tactic| walk_at "i") => `(tactic| (refine' cl_isi (.ty _) ?a ?b ?_; (case a => constructor); (case b => with_reducible first | exact kit_int_int | exact kit_int_bool | exact kit_bool_int | exact kit_bool_bool | exact kit_NoneType_int | exact kit_str_int | exact kit_list_int | exact kit_tuple_int | exact kit_dict_int | exact kit_tuple_tuple | exact kit_int_tuple | exact kit_NoneType_tuple | exact kit_bool_tuple | exact kit_str_tuple | exact kit_list_tuple | exact kit_dict_tuple)))
local macro_rules | `(tactic| walk_at "l") => `(tactic| first
  | refine ew_isinstance (Tx.f_isinstance (by assumption)) ?_ | refine ew_len (Tx.f_len (by assumption)) ?_ | refine ew_vint (Tx.f_int (by assumption)) ?_ | refine ew_vbool (Tx.f_bool (by assumption)) ?_ | refine ew_vtuple (Tx.f_tuple (by assumption)) ?_ | refine ew_vstr (Tx.f_str (by assumption)) ?_
  | refine ew_gint (Tx.i_FAR (by assumption)) (by rfl) ?_ | refine ew_gint (Tx.i_FAR_TALLY (by assumption)) (by rfl) ?_ | refine ew_gint (Tx.i_MOST_PATIENCE (by assumption)) (by rfl) ?_ | refine ew_gint (Tx.i_MOST_LIFE (by assumption)) (by rfl) ?_ | refine ew_gint (Tx.i_MOST_PAIRS (by assumption)) (by rfl) ?_ | refine ew_gint (Tx.i_MOST_WIDTH (by assumption)) (by rfl) ?_ | refine ew_gint (Tx.i_MOST_KEEP (by assumption)) (by rfl) ?_
  | refine cl_len ?_ | refine cl_lenT ?_ | refine ix_tpl rfl ?_ | refine od_is (by intro _ h; cases h) ?_)
local macro_rules | `(tactic| walk_at "x") => `(tactic| repeat (first | walk_at "c" | walk_at "n" | walk_at "l" | walk_at "i"))
abbrev CT (K : PySem.W.Frag) : Addr := He.ga K "Tiers"
def pL (l : List Pr) : List D := l.map pD
/-- the tiers of these pairs -/
def tO (K : PySem.W.Frag) (l : List Pr) : D := .obj (CT K) [("pairs", .tup (pL l))]
theorem pL_len (l : List Pr) : (pL l).length = l.length := List.length_map ..
theorem pL_at {l : List Pr} {i : Nat} {d : D} (h : (pL l)[i]? = some d) : ∃ p, l[i]? = some p ∧ d = pD p := by
  unfold pL at h
  rw [List.getElem?_map] at h
  cases q : l[i]? with
  | none => rw [q] at h; cases h
  | some p => rw [q] at h; cases h; exact ⟨p, rfl, rfl⟩
theorem pL_get {l : List Pr} {i : Nat} {p : Pr} (h : l[i]? = some p) : (pL l)[i]? = some (pD p) := by
  unfold pL
  rw [List.getElem?_map, h]
  rfl
section
variable {P : Program} {w : World} {K : PySem.W.Frag} {mg : Str → Option Value} {base : Heap}
/-- behind the star -/
def F_ini (K : PySem.W.Frag) : FT := fun ds cs Kk _ => ∃ y l cs1, ds = [.own y, .tup (pL l)] ∧ cs = (y, .ins (CT K) []) :: cs1 ∧ Good l ∧ Kk .non ((y, .ins (CT K) [("pairs", .tup (pL l))]) :: cs1)
/-- Tiers(..) -/
def F_tiers (K : PySem.W.Frag) : FT := fun ds cs Kk _ => ∃ y l cs1, ds = .own y :: pL l ∧ cs = (y, .ins (CT K) []) :: cs1 ∧ Good l ∧ Kk .non ((y, .ins (CT K) [("pairs", .tup (pL l))]) :: cs1)
theorem r_tiers (T : Tx K mg) : FnR P w K mg base (L2.CX P w) 4 (He.ma K (CT K) "__init__") (spF (F_tiers K)) := by
  have nd : (["self", "pairs", "at", "pair"] : List Str).Nodup := by decide +kernel
  obtain ⟨fd, F⟩ := T.q_Tiers_init
  obtain ⟨oc, od, dV, kV, doc, pm, an, cdv, ct, osl, rfl, lk, hcd, hD, _⟩ := F.ex
  obtain ⟨_, rfl⟩ | ⟨z, _⟩ := hD
  case inr => exact absurd rfl z
  have R := StX.fn_star (P := P) (w := w) (mg := mg) (base := base) (CX := L2.CX P w) (k := 3) (ps := ["self"]) (pv := "pairs") (N := ["self", "pairs", "at", "pair"]) (sp := spF (F_ini K)) lk hcd
    ⟨rfl, rfl, rfl, by decide +kernel, rfl, by decide +kernel, by decide +kernel⟩ StX.cxUp (StX.bind_star1 (B := fun vs => bindArgs (PySem.W.fnOf "__init__" "Tiers.__init__" (defArgs s_Tiers_init) (defBody s_Tiers_init) (defScope s_Tiers_init) .none kV doc pm an cdv ct) ⟨vs, []⟩) (fun a => rfl) (fun a r rs => rfl)) (fun A outer s H vs Q E hr h => ?_)
  · refine R.imp fun vs H Q E h => sp_star (n := 1) (fun ds cs Kk KE f => ?_) h
    obtain ⟨y, l, cs1, rfl, rfl, g, q⟩ := f
    exact ⟨[.own y], pL l, rfl, rfl, by rw [pL_len]; have := g.l2; omega, y, l, cs1, rfl, rfl, g, q⟩
  · obtain ⟨ds, cs, Kk, KE, r, ok, f, q1, q2⟩ := h
    refine body_go r ok q1 q2 ?_
    obtain ⟨y, l, cs1, rfl, rfl, g, q⟩ := f
    have l1 := g.l1
    have l2 := g.l2
    walk_at "x"
    refine s1_forE [2, 3] (passes_of rfl) rfl T.f_enumerate ?_
    walk_at "x"
    refine ⟨pL l, rfl, fun i s => ∃ x2 x3, s = ⟨[some (.own y), some (.tup (pL l)), x2, x3], (y, .ins (CT K) []) :: cs1⟩, ⟨_, _, rfl⟩, fun i d s' hd hs => ?_, fun s' hs => ?_⟩
    · obtain ⟨x2, x3, rfl⟩ := hs
      obtain ⟨p, hp, rfl⟩ := pL_at hd
      refine tg_tup rfl (tgs_cons (tg_name 2 nd rfl (.inl rfl) ?_))
      refine tgs_cons (tg_name 3 nd rfl (.inl rfl) (tgs_nil ?_))
      walk_at "x"
      refine ew_call .same (d_fits T) hr (by rfl) pc ?_
      walk_at "x"
      refine ⟨fun hi => ?_, fun hi => ?_⟩
      · have hi := of_decide_eq_true hi
        obtain ⟨j, rfl⟩ : ∃ j, i = j + 1 := ⟨i - 1, by omega⟩
        have hj : j < l.length := by
          have := (List.getElem?_eq_some_iff.mp hp).1
          omega
        have hp0 : l[j]? = some l[j] := List.getElem?_eq_getElem hj
        walk_at "x"
        refine ix_tpl (d := pD l[j]) ?_ ?_
        · rw [show ((j + 1 : Nat) : Int) - 1 = (j : Nat) by omega]
          exact atI_nat (pL_get hp0)
        walk_at "x"
        refine ⟨p, _, rfl, .inr ⟨l[j], rfl, g.tl j _ _ hp0 hp⟩, ?_⟩
        walk_at "x"
        exact ⟨_, _, rfl⟩
      · have hi := of_decide_eq_false hi
        obtain rfl : i = 0 := by omega
        walk_at "x"
        refine ⟨p, _, rfl, .inl ⟨rfl, g.hd p hp⟩, ?_⟩
        walk_at "x"
        exact ⟨_, _, rfl⟩
    · obtain ⟨x2, x3, rfl⟩ := hs
      walk_at "x"
      refine tw_truth ?_
      walk_at "x"
      have hne : (!(pL l).isEmpty) = true := by
        cases l with
        | nil => exact absurd l1 (by decide)
        | cons a r => rfl
      show Br (!(!(pL l).isEmpty)) _ _
      rw [hne]
      walk_at "x"
      have hle : decide ((6 : Int) < (pL l).length) = false := decide_eq_false (by rw [pL_len]; omega)
      rw [hle]
      walk_at "x"
      refine s1_fld T.c_Tiers T.n_Tiers_pairs ?_
      walk_at "x"
      exact ⟨y, 0, _, rfl, rfl, by decide, by walk_at "x"; exact q⟩
end
end K41
set_option Elab.async false
set_option linter.all false
set_option maxRecDepth 100000
set_option maxHeartbeats 4000000
namespace K41
open PySem PySem.Spec PyProof.Rows L2 Sx
local macro_rules | `(tactic| walk_at "c") => `(tactic| first
  | refine aw_cons ?_ | refine aw_nil ?_
  | refine ew_int ?_ | refine ew_non ?_ | refine ew_bl ?_ | refine ew_str ?_
  | refine ew_bin ?_ | refine ew_cmp ?_ | refine tw_cmp ?_ | refine tw_not ?_ | refine ew_chain ?_ | refine tw_chain ?_ | refine ew_and ?_ | refine ew_or ?_ | refine ew_one ?_ | refine ew_not ?_ | refine ew_neg ?_ | refine ew_if ?_
  | refine tw_w (ww_and ?_) | refine tw_w (ww_or ?_) | refine ww_and ?_ | refine ww_or ?_ | refine ww_and1 ?_ | refine ww_or1 ?_
  | refine tw_val (e := .Call _ _ _ _) ?_ | refine ew_tup ?_ | refine ew_ix ?_ | refine ew_lst ?_
  | refine sw_cons ?_ | refine s1_ret ?_ | refine s1_if ?_ | refine sw_nil ?_ | refine s1_expr ?_
  | refine od_add ?_ | refine od_sub ?_ | refine od_lt ?_ | refine od_le ?_ | refine od_gt ?_ | refine od_ge ?_
  | refine isB ?_ | refine intD ?_ | refine br_t ?_ | refine br_f ?_
  | refine ⟨szl (Nat.le_of_ble_eq_true rfl), ?_⟩)
local macro_rules | `(tactic| walk_at "n") => `(tactic| first
  | refine ew_name 0 rfl (by first | exact .inl rfl | exact .inr (.inl rfl) | exact .inr (.inr rfl)) rfl ?_
  | refine ew_name 1 rfl (by first | exact .inl rfl | exact .inr (.inl rfl) | exact .inr (.inr rfl)) rfl ?_
  | refine ew_name 2 rfl (by first | exact .inl rfl | exact .inr (.inl rfl) | exact .inr (.inr rfl)) rfl ?_
  | refine ew_name 3 rfl (by first | exact .inl rfl | exact .inr (.inl rfl) | exact .inr (.inr rfl)) rfl ?_
  | refine ew_name 4 rfl (by first | exact .inl rfl | exact .inr (.inl rfl) | exact .inr (.inr rfl)) rfl ?_
  | refine ew_name 5 rfl (by first | exact .inl rfl | exact .inr (.inl rfl) | exact .inr (.inr rfl)) rfl ?_
  | refine ew_name 6 rfl (by first | exact .inl rfl | exact .inr (.inl rfl) | exact .inr (.inr rfl)) rfl ?_
  | refine ew_name 7 rfl (by first | exact .inl rfl | exact .inr (.inl rfl) | exact .inr (.inr rfl)) rfl ?_
  | refine ew_name 8 rfl (by first | exact .inl rfl | exact .inr (.inl rfl) | exact .inr (.inr rfl)) rfl ?_
  | refine ew_name 9 rfl (by first | exact .inl rfl | exact .inr (.inl rfl) | exact .inr (.inr rfl)) rfl ?_
  | refine ew_name 10 rfl (by first | exact .inl rfl | exact .inr (.inl rfl) | exact .inr (.inr rfl)) rfl ?_
  | refine ew_name 11 rfl (by first | exact .inl rfl | exact .inr (.inl rfl) | exact .inr (.inr rfl)) rfl ?_
  | refine ew_name 12 rfl (by first | exact .inl rfl | exact .inr (.inl rfl) | exact .inr (.inr rfl)) rfl ?_)
local macro_rules | `(tactic| walk_at "i") => `(tactic| (refine' cl_isi (.ty _) ?a ?b ?_; (case a => constructor); (case b => with_reducible first | exact kit_int_int | exact kit_int_bool | exact kit_bool_int | exact kit_bool_bool | exact kit_NoneType_int | exact kit_str_int | exact kit_list_int | exact kit_tuple_int | exact kit_dict_int | exact kit_tuple_tuple | exact kit_int_tuple | exact kit_NoneType_tuple | exact kit_bool_tuple | exact kit_str_tuple | exact kit_list_tuple | exact kit_dict_tuple)))
local macro_rules | `(tactic| walk_at "l") => `(tactic| first
  | refine ew_isinstance (Tx.f_isinstance (by assumption)) ?_ | refine ew_len (Tx.f_len (by assumption)) ?_ | refine ew_vint (Tx.f_int (by assumption)) ?_ | refine ew_vbool (Tx.f_bool (by assumption)) ?_ | refine ew_vtuple (Tx.f_tuple (by assumption)) ?_ | refine ew_vstr (Tx.f_str (by assumption)) ?_
  | refine ew_gint (Tx.i_FAR (by assumption)) (by rfl) ?_ | refine ew_gint (Tx.i_FAR_TALLY (by assumption)) (by rfl) ?_ | refine ew_gint (Tx.i_MOST_PATIENCE (by assumption)) (by rfl) ?_ | refine ew_gint (Tx.i_MOST_LIFE (by assumption)) (by rfl) ?_ | refine ew_gint (Tx.i_MOST_PAIRS (by assumption)) (by rfl) ?_ | refine ew_gint (Tx.i_MOST_WIDTH (by assumption)) (by rfl) ?_ | refine ew_gint (Tx.i_MOST_KEEP (by assumption)) (by rfl) ?_
  | refine cl_len ?_ | refine cl_lenT ?_ | refine ix_tpl rfl ?_ | refine od_is (by intro _ h; cases h) ?_)
local macro_rules | `(tactic| walk_at "x") => `(tactic| repeat (first | walk_at "c" | walk_at "n" | walk_at "l" | walk_at "i"))
/-- the width at an age -/
def wOf (l : List Pr) (age : Int) : List Int := (l.filter fun p => decide (age < p.2)).map (·.1)
def lastK (l : List Pr) : Int := (l.getLast?).elim 0 (·.2)
theorem lastK_app (l0 : List Pr) (z : Pr) : lastK (l0 ++ [z]) = z.2 := by
  unfold lastK
  rw [List.getLast?_concat]
  rfl
theorem Good.last {l : List Pr} (g : Good l) : ∃ l0 z, l = l0 ++ [z] := by
  have h := g.l1
  have hn : l ≠ [] := fun z => by rw [z] at h; cases h
  exact ⟨l.dropLast, l.getLast hn, (List.dropLast_concat_getLast hn).symm⟩
theorem Good.pos {l : List Pr} (g : Good l) : ∀ (i : Nat) p, l[i]? = some p → 0 < p.1
  | 0, p, h => by rw [(g.hd p h).w]; decide
  | i + 1, p, h => by
    have hi : i < l.length := by
      have := (List.getElem?_eq_some_iff.mp h).1
      omega
    have L := g.tl i _ p (List.getElem?_eq_getElem hi) h
    have := L.w0
    have := L.w1
    omega
theorem wOf_some {l : List Pr} (g : Good l) {age : Int} (h : age < lastK l) : ∃ w ws, wOf l age = w :: ws ∧ 0 < w := by
  obtain ⟨l0, z, e⟩ := g.last
  rw [e, lastK_app] at h
  cases q : wOf l age with
  | nil =>
    unfold wOf at q
    rw [List.map_eq_nil_iff, List.filter_eq_nil_iff] at q
    exact absurd (decide_eq_true h) (q z (by rw [e]; simp))
  | cons w ws =>
    refine ⟨w, ws, rfl, ?_⟩
    have m : w ∈ wOf l age := by rw [q]; exact List.mem_cons_self
    unfold wOf at m
    obtain ⟨p, hp, rfl⟩ := List.mem_map.mp m
    obtain ⟨i, hi⟩ := List.getElem?_of_mem (List.mem_filter.mp hp).1
    exact g.pos i p hi
section
variable {P : Program} {w : World} {K : PySem.W.Frag} {mg : Str → Option Value} {base : Heap}
theorem f_getOld (T : Tx K mg) : ∃ fd, FunD K "oldest" "Tiers.oldest" (defArgs s_Tiers_oldest) (defBody s_Tiers_oldest) (defScope s_Tiers_oldest) [] [] (Prp.gp K (CT K) "oldest") fd :=
  Prp.funP T.v_Tiers_oldest T.pr_Tiers_oldest.2.1 T.pr_Tiers_oldest.2.2
def F_old (K : PySem.W.Frag) : FT := fun ds cs Kk _ => ∃ l, ds = [tO K l] ∧ Good l ∧ Kk (.int (lastK l - 1)) cs
theorem g_oldest (T : Tx K mg) : ∃ fd, FnOk P w K mg base (L2.CX P w) 1 (Prp.gp K (CT K) "oldest") fd ["self"] (spF (F_old K)) ∧ L2.Binds K fd ["self"] [] := by
  obtain ⟨fd, F⟩ := f_getOld T
  refine ⟨fd, okF F (N := ["self"]) ⟨rfl, rfl, rfl, by decide +kernel, rfl, by decide +kernel, by decide +kernel⟩ (fun ds cs Kk KE h => ?_) (fun cdv A outer s H E ds cs Kk KE hr h => ?_), F.bindsN fun kV doc pm an cdv ct => Vls.bind1 fun a => rfl⟩
  · obtain ⟨_, rfl, _⟩ := h
    rfl
  · obtain ⟨l, rfl, g, q⟩ := h
    obtain ⟨l0, z, rfl⟩ := g.last
    rw [lastK_app] at q
    walk_at "x"
    refine ew_fld T.c_Tiers T.n_Tiers_pairs ?_
    walk_at "x"
    refine ⟨_, .obj rfl, ?_⟩
    walk_at "x"
    refine ix_tpl (d := pD z) ?_ ?_
    · show atI (pL (l0 ++ [z])) (-1) = _
      unfold pL
      rw [List.map_append]
      exact atI_last _ _
    walk_at "x"
    exact q
def F_wof (K : PySem.W.Frag) : FT := fun ds cs Kk _ => ∃ l age w ws, ds = [tO K l, .int age] ∧ Good l ∧ wOf l age = w :: ws ∧ Kk (.int w) cs
theorem m_wof (T : Tx K mg) : Dfs.Mfn P w K mg base (L2.CX P w) 1 (CT K) "width_of" ["self", "age"] (spF (F_wof K)) := by
  have nd : (["self", "age", "width", "keep"] : List Str).Nodup := by decide +kernel
  refine mfnF T.q_Tiers_width_of T.c_Tiers T.m_Tiers_width_of (N := ["self", "age", "width", "keep"]) ⟨rfl, rfl, rfl, by decide +kernel, rfl, by decide +kernel, by decide +kernel⟩ (fun kV doc pm an cdv ct => Vls.bind2 fun a b => rfl) (fun ds cs Kk KE h => ?_) (fun cdv A outer s H E ds cs Kk KE hr h => ?_)
  · obtain ⟨_, _, _, _, rfl, _⟩ := h
    rfl
  · obtain ⟨l, age, wi, ws, rfl, g, hw, q⟩ := h
    have l2 := g.l2
    walk_at "x"
    refine ew_lcT [("width", 2), ("keep", 3)] 0 rfl nd (Vls.blk_by (N := ["self", "age", "width", "keep"]) (sc := defScope s_Tiers_width_of) (by decide +kernel)) ?_
    refine ew_fld T.c_Tiers T.n_Tiers_pairs ?_
    walk_at "x"
    refine ⟨_, .obj rfl, ?_⟩
    refine ⟨pL l, rfl, szl (by rw [pL_len]; omega), fun i acc cs' => cs' = cs ∧ acc = (wOf (l.take i) age).map D.int, ⟨rfl, rfl⟩, fun i d acc cs' hd hI => ?_, fun acc cs' hI => ?_⟩
    · obtain ⟨rfl, rfl⟩ := hI
      obtain ⟨p, hp, rfl⟩ := pL_at hd
      have next : wOf (l.take (i + 1)) age = wOf (l.take i) age ++ (if age < p.2 then [p.1] else []) := by
        unfold wOf
        rw [List.take_add_one, hp, List.filter_append, List.map_append]
        congr 1
        by_cases z : age < p.2
        · rw [if_pos z]; simp [z]
        · rw [if_neg z]; simp [z]
      refine ⟨?_, fun lx _ _ _ _ _ => ?_⟩
      · rw [List.length_map]
        unfold wOf
        rw [List.length_map]
        exact Nat.le_trans (List.length_filter_le _ _) (by rw [List.length_take]; omega)
      refine tg_tup rfl (tgs_cons (tg_name 2 nd rfl (.inl rfl) (tgs_cons (tg_name 3 nd rfl (.inl rfl) (tgs_nil ?_)))))
      intro _ _ _ _ _
      refine ts_one ?_
      walk_at "x"
      refine ⟨fun h => ?_, fun h => ?_⟩
      · intro _ _ _ _ _
        walk_at "x"
        rw [if_pos (of_decide_eq_true h)] at next
        exact ⟨cs', rfl, rfl, by rw [next, List.map_append]; rfl⟩
      · rw [if_neg (of_decide_eq_false h), List.append_nil] at next
        exact ⟨cs', rfl, rfl, by rw [next]⟩
    · obtain ⟨rfl, rfl⟩ := hI
      rw [pL_len, List.take_length, hw]
      walk_at "x"
      exact ix_lst (atI_nat (j := 0) rfl) q
end
end K41
set_option Elab.async false
set_option linter.all false
set_option maxRecDepth 100000
set_option maxHeartbeats 2000000
/-! the least and the greatest of a row of ints, a list or a tuple -/
namespace Mint
open PySem PySem.Spec PyProof.Rows L2
theorem reads_ints {h : Heap} : ∀ {us : List Value} {ns : List Int}, Vals (ns.map V.int) us → ∃ as, ReadsAll h us (ns.map PyData.int) as
  | [], [], _ => ⟨_, .nil⟩
  | u :: us, n :: ns, r => by
    cases r with
    | cons a b =>
      obtain ⟨t, rfl⟩ := a
      obtain ⟨as, q⟩ := reads_ints b
      exact ⟨_, .cons (.int n t) q⟩
  | [], _ :: _, r => by cases r
  | _ :: _, [], r => by cases r
section
variable {prog : Program} {w : World} {A : Around} {E : Value → Shared → Prop} {s : Shared} {l : Addr} {its : List Value} {n : Int} {ns : List Int} {Q : Value → Shared → Prop}
theorem room_ints (n : Int) (ns : List Int) (hu : A.units + 64 < cLine) : A.units + 1 + PyData.depthAll (.int n :: ns.map PyData.int) < cLine := by
  refine PySem.W.room_all (k := 0) (PySem.W.depthAll_map (α := Int) (n :: ns)) ?_
  show A.units + 1 + 0 < cLine
  omega
theorem minT (hh : A.handled = none) (hu : A.units + 64 < cLine) (hl : s.heap.IsTuple l its.toArray) (r : Vals ((n :: ns).map V.int) its)
    (h : ∀ h' tk t', (∀ b o, s.heap.get? b = some o → h'.get? b = some o) → Q (.int (ns.foldl min n) t') { s with heap := h', toks := tk }) : wpAny (model prog w) A (call (.builtin "min") [.ref l]) Q E s := by
  obtain ⟨as, q⟩ := reads_ints (h := s.heap) r
  refine PySem.W.min_tuple_data hh hl q (PySem.W.alikeAll_datum (α := Int) (n :: ns)) (room_ints n ns hu) fun i v h' tk bs _ rd k => ?_
  rw [PySem.W.minD_ints] at rd
  cases rd with
  | int _ t => exact h h' tk t k
end
section
variable {X : Cx}
/-- min(xs), a list of ints or a tuple of them -/
def rMinA (K : PySem.W.Frag) : List V → Hp → VK → Prop := fun vs H Q => ∃ (a : Addr) (n : Int) (ns : List Int), vs = [V.ref a] ∧ (SqL K H a ((n :: ns).map V.int) ∨ SqT K H a ((n :: ns).map V.int)) ∧ Q (.int (ns.foldl min n)) H
theorem min_one {m n : Int} {ns : List Int} (h : m ∈ n :: ns) (b : ∀ y, y ∈ n :: ns → m ≤ y) : m = ns.foldl min n := by
  have lo : ∀ (ns : List Int) (n : Int), ns.foldl min n ∈ n :: ns ∧ ∀ y ∈ n :: ns, ns.foldl min n ≤ y := fun ns => by
    induction ns with
    | nil => exact fun n => ⟨List.mem_cons_self, fun y hy => by rw [List.mem_singleton.mp hy]; exact Int.le_refl _⟩
    | cons k r ih =>
      intro n
      obtain ⟨a, c⟩ := ih (min n k)
      rw [List.foldl_cons]
      have c0 := c _ List.mem_cons_self
      refine ⟨?_, fun y hy => ?_⟩
      · rcases List.mem_cons.mp a with e | e
        · rw [e]
          by_cases hk : n ≤ k
          · rw [Int.min_eq_left hk]; exact List.mem_cons_self
          · rw [Int.min_eq_right (by omega)]; exact List.mem_cons_of_mem _ List.mem_cons_self
        · exact List.mem_cons_of_mem _ (List.mem_cons_of_mem _ e)
      · rcases List.mem_cons.mp hy with rfl | hy
        · exact Int.le_trans c0 (Int.min_le_left _ _)
        · rcases List.mem_cons.mp hy with rfl | hy
          · exact Int.le_trans c0 (Int.min_le_right _ _)
          · exact c y (List.mem_cons_of_mem _ hy)
  obtain ⟨a, c⟩ := lo ns n
  exact Int.le_antisymm (b _ a) (c _ h)
theorem cr_minA {k : Nat} (hc : X.calm = true) (hr : Room k X.A) : CallR X (.builtin "min") (rMinA X.K) := by
  intro pins s σ H vs us Q I r h
  obtain ⟨a, n, ns, rfl, hs, q⟩ := h
  rw [Vals.ref1 r]
  rcases hs with hs | hs
  · have c := cr_min hc pins s σ H [.ref a] us Q I r ⟨a, n :: ns, rfl, hs, Nat.succ_pos _, fun m h1 h2 => by rw [min_one h1 h2]; exact q⟩
    rw [Vals.ref1 r] at c
    exact c
  · obtain ⟨its, rv, hl, _⟩ := I.tuple hs
    exact minT (I.ok.hd hc) hr.units (show s.heap.IsTuple a its.toArray from hl) rv fun h' tk t' hk => ⟨.int _, H, I.kept hk, ⟨_, rfl⟩, q⟩
end
end Mint
set_option Elab.async false
set_option linter.all false
set_option maxRecDepth 100000
set_option maxHeartbeats 4000000
namespace Sx
open PySem PySem.Spec PyProof.Rows L2
theorem vl_int {H : Hp} {M : Addr → Prop} : ∀ {vs : List V} {ns : List Int}, VlL H M vs (ns.map D.int) → vs = ns.map V.int
  | [], [], _ => rfl
  | v :: vs, n :: ns, r => by
    cases r with
    | cons a b =>
      cases a
      rw [vl_int b]
      rfl
  | [], _ :: _, r => by cases r
  | _ :: _, [], r => by cases r
theorem max_mem : ∀ (ns : List Int) (n : Int), ns.foldl max n ∈ n :: ns ∧ ∀ y ∈ n :: ns, y ≤ ns.foldl max n
  | [], n => ⟨List.mem_cons_self, fun y hy => by rw [List.mem_singleton.mp hy]; exact Int.le_refl _⟩
  | k :: r, n => by
    obtain ⟨a, c⟩ := max_mem r (max n k)
    rw [List.foldl_cons]
    have c0 := c _ List.mem_cons_self
    refine ⟨?_, fun y hy => ?_⟩
    · rcases List.mem_cons.mp a with e | e
      · rw [e]
        by_cases hk : n ≤ k
        · rw [Int.max_eq_right hk]; exact List.mem_cons_of_mem _ List.mem_cons_self
        · rw [Int.max_eq_left (by omega)]; exact List.mem_cons_self
      · exact List.mem_cons_of_mem _ (List.mem_cons_of_mem _ e)
    · rcases List.mem_cons.mp hy with rfl | hy
      · exact Int.le_trans (Int.le_max_left _ _) c0
      · rcases List.mem_cons.mp hy with rfl | hy
        · exact Int.le_trans (Int.le_max_right _ _) c0
        · exact c y (List.mem_cons_of_mem _ hy)
section
variable {X : Cx} {B : Bs} {ss : SS} {Q : D → SS → Prop} {n : Int} {ns : List Int} {k : Nat}
/-- max(xs), xs data: a list of ints -/
theorem cl_maxL (hc : X.calm = true) (q : Q (.int (ns.foldl max n)) ss) : ClD X B (.builtin "max") [.lst ((n :: ns).map D.int)] ss Q := cl_c q fun H M vs r => by
  obtain ⟨v, rfl, r1⟩ := vl1 r
  cases r1 with
  | lst e nn r =>
    have := vl_int r
    subst this
    obtain ⟨a, c⟩ := max_mem ns n
    exact ⟨_, _, cr_max hc, .int _, fun QQ q => ⟨_, n :: ns, rfl, SqL.of e, Nat.succ_pos _, fun m h1 h2 => by rw [Int.le_antisymm (c _ h1) (h2 _ a)]; exact q⟩⟩
/-- min(xs), xs data: a list or a tuple of ints -/
theorem cl_minL (hc : X.calm = true) (hr : Room k X.A) (q : Q (.int (ns.foldl min n)) ss) : ClD X B (.builtin "min") [.lst ((n :: ns).map D.int)] ss Q := cl_c q fun H M vs r => by
  obtain ⟨v, rfl, r1⟩ := vl1 r
  cases r1 with
  | lst e nn r =>
    have := vl_int r
    subst this
    exact ⟨_, _, Mint.cr_minA hc hr, .int _, fun QQ q => ⟨_, n, ns, rfl, .inl (SqL.of e), q⟩⟩
theorem cl_minT (hc : X.calm = true) (hr : Room k X.A) (q : Q (.int (ns.foldl min n)) ss) : ClD X B (.builtin "min") [.tup ((n :: ns).map D.int)] ss Q := cl_c q fun H M vs r => by
  obtain ⟨v, rfl, r1⟩ := vl1 r
  cases r1 with
  | tup e nn r =>
    have := vl_int r
    subst this
    exact ⟨_, _, Mint.cr_minA hc hr, .int _, fun QQ q => ⟨_, n, ns, rfl, .inr (SqT.of e), q⟩⟩
theorem cl_max2 {i j : Int} (hc : X.calm = true) (q : Q (.int (if j > i then j else i)) ss) : ClD X B (.builtin "max") [.int i, .int j] ss Q := cl_c q fun H M vs r => by
  obtain ⟨v1, v2, rfl, r1, r2⟩ := vl2 r
  cases r1
  cases r2
  exact ⟨_, _, call_max2 hc, .int _, fun QQ q => ⟨i, j, rfl, q⟩⟩
end
end Sx
set_option Elab.async false
set_option linter.all false
set_option maxRecDepth 100000
set_option maxHeartbeats 2000000
/-! own __getitem__, own __contains__ -/
namespace Owp
open PySem PySem.Spec PyProof.Rows L2 Pre
section
variable {X : Cx} {CX : CXT} {n : Nat} {f C : Addr} {fd : FuncData} {sp : Sp} {E : XK} {p1 : Str}
/-- a method that K tells whole -/
structure Asked (K : PySem.W.Frag) (C : Addr) (m : Str) (f : Addr) : Prop where
  m : Meth K C m f
  fn : PySem.W.fnIn K f = true
def rOwn2 (C : Addr) (sp : Sp) (E : XK) : R2 := fun x y H Q => ∃ a dx fs, x = .ref a ∧ H a = some (.ins C dx fs) ∧ sp [x, y] H Q E
theorem pe_itemO {a b : Expr} {ta tb : TE} {pos : Pos} (q : Asked X.K C "__getitem__" f) (F : FnOk X.prog X.w X.K X.mg X.base CX n f fd ["self", p1] sp) (hb : Binds X.K fd ["self", p1] []) (hr : Room (n + 1) X.A) (hx : Passes CX X E)
    (pa : PE X a ta) (pb : PE X b tb) (hs : ∀ v u, subscripted b true v u = runValue (.builtin "lifetime.subscript" ⟨[v, u], []⟩) := by intro _ _; rfl) : PE X (.Subscript a b pos) (tOp (rOwn2 C sp E) ta tb) := ⟨fun pins s σ H Q I h => by
  refine Subscript_ (binT pa pb I h fun v u s2 x y H2 I2 rx ry h2 => ?_)
  obtain ⟨z, dx, fs, rfl, ez, h3⟩ := h2
  cases (show v = Value.ref z from rx)
  obtain ⟨mA, J, _⟩ := ins_get I2.hok ez
  obtain ⟨od, J2, _⟩ := J.look
  obtain ⟨fr, Fr⟩ := I2.fr
  exact PySem.W.sub_K Fr I2.ok.mod.kin J2 q.m.at_ q.fn q.m.fn (ask2 F hb hr.in1 I2.env0.in1 hx I2 (show Vals [V.ref z, y] [Value.ref z, u] from .cons rfl (.cons ry .nil)) h3) (hs _ _)⟩
def rHas (C : Addr) (sp : Sp) (E : XK) (g : Bool → Bool) : R2 := fun x y H Q => ∃ a dx fs, y = .ref a ∧ H a = some (.ins C dx fs) ∧ sp [y, x] H (fun v H' => ∃ b, v = .bl b ∧ Q (.bl (g b)) H') E
theorem op_ownIn (q : Asked X.K C "__contains__" f) (F : FnOk X.prog X.w X.K X.mg X.base CX n f fd ["self", p1] sp) (hb : Binds X.K fd ["self", p1] []) (hr : Room n X.A) (hx : Passes CX X E) : OpR X (compareOp .In) (rHas C sp E id) := by
  intro pins s σ H x y v u Q I rx ry h
  obtain ⟨z, dx, fs, rfl, ez, h3⟩ := h
  cases (show u = Value.ref z from ry)
  obtain ⟨mA, J, _⟩ := ins_get I.hok ez
  obtain ⟨od, J2, _⟩ := J.look
  obtain ⟨fr, Fr⟩ := I.fr
  refine PySem.W.in_K Fr I.ok.mod.kin J2 q.m.at_ q.m.fn ?_
  refine wpAny_mono (ask2 F hb hr I.env0 hx I (show Vals [V.ref z, x] [Value.ref z, v] from .cons rfl (.cons rx .nil)) h3) ?_ fun _ _ z => z
  rintro r s' ⟨r1, H2, I2, rr, b, rfl, q2⟩
  cases (show r = Value.bool b from rr)
  exact wpAny_truthy_bool ⟨.bl b, H2, I2, rfl, q2⟩
theorem op_ownNotIn (q : Asked X.K C "__contains__" f) (F : FnOk X.prog X.w X.K X.mg X.base CX n f fd ["self", p1] sp) (hb : Binds X.K fd ["self", p1] []) (hr : Room n X.A) (hx : Passes CX X E) : OpR X (compareOp .NotIn) (rHas C sp E not) := by
  intro pins s σ H x y v u Q I rx ry h
  obtain ⟨z, dx, fs, rfl, ez, h3⟩ := h
  cases (show u = Value.ref z from ry)
  obtain ⟨mA, J, _⟩ := ins_get I.hok ez
  obtain ⟨od, J2, _⟩ := J.look
  obtain ⟨fr, Fr⟩ := I.fr
  refine PySem.W.notIn_K Fr I.ok.mod.kin J2 q.m.at_ q.m.fn ?_
  refine wpAny_mono (ask2 F hb hr I.env0 hx I (show Vals [V.ref z, x] [Value.ref z, v] from .cons rfl (.cons rx .nil)) h3) ?_ fun _ _ z => z
  rintro r s' ⟨r1, H2, I2, rr, b, rfl, q2⟩
  cases (show r = Value.bool b from rr)
  exact wpAny_truthy_bool ⟨.bl (!b), H2, I2, rfl, q2⟩
end
end Owp
set_option Elab.async false
set_option linter.all false
set_option maxRecDepth 100000
set_option maxHeartbeats 4000000
namespace Sx
open PySem PySem.Spec PyProof.Rows L2
section
variable {X : Cx} {B : Bs} {ss : SS} {CX : CXT} {C f : Addr} {p1 : Str} {n : Nat} {F : FT} {Q : D → SS → Prop} {fd : FuncData} {a b : Expr} {pos : Pos}
/-- x[k], x of an own class -/
theorem ew_ixO {E' : XK} {KE' : Addr → List (Str × D) → Cs → Prop} (xs : Exs B E' KE') (q : Owp.Asked X.K C "__getitem__" f) (G : FnOk X.prog X.w X.K X.mg X.base CX n f fd ["self", p1] (spF F)) (hb : L2.Binds X.K fd ["self", p1] []) (hr : Room (n + 1) X.A) (hx : Passes CX X E')
    (h : EW X B a ss fun d1 s1 => EW X B b s1 fun d2 s2 => InsD C d1 s2.cs ∧ F [d1, d2] s2.cs (fun d cs => Q d ⟨s2.sl, cs⟩) KE') (hs : ∀ v u, subscripted b true v u = runValue (.builtin "lifetime.subscript" ⟨[v, u], []⟩) := by intro _ _; rfl) : EW X B (.Subscript a b pos) ss Q :=
  ⟨PEimp (Owp.pe_itemO q G hb hr hx h.p pe_any hs) fun σ H QQ ⟨s, k⟩ => ⟨s, fun v1 d1 s1 H1 q1 sat1 e1 r1 => ⟨_, q1.p, sat1, fun v2 d2 s2 H2 ⟨i, q2⟩ sat2 e2 r2 => by
    obtain ⟨z, dx, fs, rfl, ea⟩ := i.at_ sat2.ok (r1.ext e2)
    exact ⟨z, dx, fs, rfl, ea, sp_go xs sat2 (e1.trans e2) (.cons (r1.ext e2) (.cons r2 .nil)) k q2⟩⟩⟩⟩
/-- k in x, x of an own class -/
theorem od_inO {E' : XK} {KE' : Addr → List (Str × D) → Cs → Prop} (xs : Exs B E' KE') {d1 d2 : D} (q : Owp.Asked X.K C "__contains__" f) (G : FnOk X.prog X.w X.K X.mg X.base CX n f fd ["self", p1] (spF F)) (hb : L2.Binds X.K fd ["self", p1] []) (hr : Room n X.A) (hx : Passes CX X E')
    (i : InsD C d2 ss.cs) (h : F [d2, d1] ss.cs (fun d cs => IsB d fun c => Q (.bl c) ⟨ss.sl, cs⟩) KE') : OpD X B (compareOp .In) d1 d2 ss Q := fun v1 v2 σ H QQ s r1 r2 k => by
  obtain ⟨z, dx, fs, rfl, ea⟩ := i.at_ s.ok r2
  refine ⟨_, Owp.op_ownIn q G hb hr hx, z, dx, fs, rfl, ea, [d2, d1], ss.cs, _, _, .cons r2 (.cons r1 .nil), s.ok, h, fun v d H' cs' q e ok rv => ?_, fun C fs cs' x vs H' q e ok hx rf => xs.go s q e ok hx rf⟩
  obtain ⟨c, rfl, q⟩ := q
  cases rv
  exact ⟨c, rfl, k _ _ _ H' q (s.cs e ok) e (.bl _)⟩
theorem od_ninO {E' : XK} {KE' : Addr → List (Str × D) → Cs → Prop} (xs : Exs B E' KE') {d1 d2 : D} (q : Owp.Asked X.K C "__contains__" f) (G : FnOk X.prog X.w X.K X.mg X.base CX n f fd ["self", p1] (spF F)) (hb : L2.Binds X.K fd ["self", p1] []) (hr : Room n X.A) (hx : Passes CX X E')
    (i : InsD C d2 ss.cs) (h : F [d2, d1] ss.cs (fun d cs => IsB d fun c => Q (.bl (!c)) ⟨ss.sl, cs⟩) KE') : OpD X B (compareOp .NotIn) d1 d2 ss Q := fun v1 v2 σ H QQ s r1 r2 k => by
  obtain ⟨z, dx, fs, rfl, ea⟩ := i.at_ s.ok r2
  refine ⟨_, Owp.op_ownNotIn q G hb hr hx, z, dx, fs, rfl, ea, [d2, d1], ss.cs, _, _, .cons r2 (.cons r1 .nil), s.ok, h, fun v d H' cs' q e ok rv => ?_, fun C fs cs' x vs H' q e ok hx rf => xs.go s q e ok hx rf⟩
  obtain ⟨c, rfl, q⟩ := q
  cases rv
  exact ⟨c, rfl, k _ _ _ H' q (s.cs e ok) e (.bl _)⟩
end
end Sx
set_option Elab.async false
set_option linter.all false
set_option maxRecDepth 100000
set_option maxHeartbeats 4000000
namespace Sx
open PySem PySem.Spec PyProof.Rows L2
section
variable {X : Cx} {B : Bs} {ss : SS} {Q : D → SS → Prop} {a : Expr} {pos : Pos}
/-- a slice of a tuple -/
theorem ew_slT {lo hi : Option Expr} {p2 : Pos} (h : EW X B a ss fun d s => PartW X B lo s fun i s => PartW X B hi s fun j s => ∃ ds, d = .tup ds ∧ Q (.tup (cutD ds i j)) s) : EW X B (.Subscript a (.Slice lo hi none p2) pos) ss Q :=
  ⟨PEimp (pe_slice sl_tupA h.p po_any po_any) fun σ H QQ ⟨s, k⟩ => ⟨s, fun v d s1 H1 q1 sat1 e1 r1 => ⟨_, PartW.po q1, sat1, fun i s2 H2 q2 sat2 e2 => ⟨_, PartW.po q2, sat2, fun j s3 H3 ⟨ds, q3, q4⟩ sat3 e3 => by
    subst q3
    have r3 := r1.ext (e2.trans e3)
    have e4 := (e1.trans e2).trans e3
    cases r3 with
    | @tup _ xs _ e n r =>
      refine ⟨_, _, rfl, SqT.of e, fun w => ?_, fun _ p hp => ?_⟩
      · have z : cutD ds i j = ds := by
          unfold cutD
          rw [← r.len, w.1, w.2, List.drop_zero, Nat.sub_zero, r.len, List.take_length]
        rw [z] at q4
        exact k _ (.tup ds) s3 _ q4 sat3 e4 (.tup e n r)
      · have S := Pre.Same.upd (o := .tup (cutV xs i j)) hp
        exact k _ (.tup (cutD ds i j)) s3 _ q4 (sat3.same S) (e4.trans (Ext.same S)) (.tup upd_same (sat3.new hp) ((r.cut i j).ext (Ext.same S)))⟩⟩⟩⟩
/-- one place, or none at the beginning -/
theorem cut_one {ds : List D} {k : Nat} {d : D} (h : ds[k]? = some d) : cutD ds (some (k : Int)) (some ((k + 1 : Nat) : Int)) = [d] := by
  have hk := (List.getElem?_eq_some_iff.mp h).1
  have e1 : HT.sIx ds.length 0 (some (k : Int)) = min k ds.length := HT.sIx_nat _ _ k
  have e2 : HT.sIx ds.length ds.length (some ((k + 1 : Nat) : Int)) = min (k + 1) ds.length := HT.sIx_nat _ _ (k + 1)
  unfold cutD
  rw [e1, e2, Nat.min_eq_left (by omega), Nat.min_eq_left (by omega), show k + 1 - k = 1 by omega, List.drop_eq_getElem_cons hk]
  rw [List.getElem?_eq_getElem hk] at h
  cases h
  rfl
theorem cut_zero {ds : List D} (i : Option Int) : cutD ds i (some 0) = [] := by
  have e2 : HT.sIx ds.length ds.length (some (0 : Int)) = 0 := by
    have := HT.sIx_nat ds.length ds.length 0
    rw [Nat.zero_min] at this
    exact this
  unfold cutD
  rw [e2, Nat.zero_sub, List.take_zero]
end
end Sx
set_option Elab.async false
set_option linter.all false
set_option maxRecDepth 100000
set_option maxHeartbeats 4000000
namespace Sx
open PySem PySem.Spec PyProof.Rows L2
section
variable {X : Cx} {B : Bs} {ss : SS} {k : Kt} {pos : Pos}
/-- return -/
theorem s1_retN (h : k.rt .non ss) : S1 X B (.Return none pos) ss k := ⟨PSimp ps_retN fun D σ H ⟨s, _, h2, _⟩ => h2 .non .non ss σ H h s Ext.refl .non⟩
end
end Sx
set_option Elab.async false
set_option linter.all false
set_option maxRecDepth 100000
set_option maxHeartbeats 4000000
namespace Sx
open PySem PySem.Spec PyProof.Rows L2
theorem ow_perm {cs cs' : Cs} (h : cs'.Perm cs) : ow cs' = ow cs := by
  funext a
  exact propext (h.map Prod.fst).mem_iff
theorem CsOk.perm {H : Hp} {cs cs' : Cs} (h : cs'.Perm cs) (ok : CsOk H cs) : CsOk H cs' := by
  refine ⟨fun a c hm => ?_, ((h.map Prod.fst).nodup_iff).mpr ok.nd⟩
  rw [ow_perm h]
  exact ok.ok a c (h.mem_iff.mp hm)
section
variable {X : Cx} {B : Bs} {ss : SS} {k : Kt} {sts : List Stmt}
/-- the cells in another order -/
theorem sw_perm (cs' : Cs) (h : cs'.Perm ss.cs) (w : SW X B sts ⟨ss.sl, cs'⟩ k) : SW X B sts ss k := by
  have e0 : ow cs' = ow ss.cs := ow_perm h
  refine sw_re (s2 := ⟨ss.sl, cs'⟩) (fun σ H s => ⟨⟨s.len, fun i d e => ?_, CsOk.perm h s.ok, ?_, s.bok⟩, fun a hm => ?_⟩) w
  · obtain ⟨v, e1, r⟩ := s.sl i d e
    refine ⟨v, e1, ?_⟩
    show Vl H (ow cs') v d
    rw [e0]
    exact r
  · show Ext (ow B.cs) B.H (ow cs') H
    rw [e0]
    exact s.ext
  · have hm : ow cs' a := hm
    rw [e0] at hm
    exact hm
/-- f() -/
theorem ew_call0 {E' : XK} {KE' : Addr → List (Str × D) → Cs → Prop} {CX : CXT} {n : Nat} {x : Str} {ps : List Str} {F : FT} {p pos : Pos} {Q : D → SS → Prop} (xs : Exs B E' KE') (Dd : Dfs.Dfn X.prog X.w X.K X.mg X.base CX n x ps (spF F)) (hr : Room n X.A) (hg : Gl X x) (hx : Passes CX X E')
    (h : F [] ss.cs (fun d cs => Q d ⟨ss.sl, cs⟩) KE') (hdb : (x == ("__debug__" : Str)) = false := by decide) : EW X B (.Call (.Name x p) [] [] pos) ss Q := by
  obtain ⟨fd, G, b⟩ := Dd.ok
  exact ⟨PEimp (pe_call0 G hr hg Dd.at_ Dd.kp b .nil hx hdb) fun σ H QQ ⟨s, k⟩ => sp_go xs s Ext.refl .nil k h⟩
end
end Sx
set_option Elab.async false
set_option linter.all false
set_option maxRecDepth 100000
set_option maxHeartbeats 4000000
namespace Sx
open PySem PySem.Spec PyProof.Rows L2
section
variable {X : Cx} {B : Bs} {ss : SS} {Q : D → SS → Prop} {T : Bool → SS → Prop} {L : List D → SS → Prop} {k : Kt} {a b c e o elt tg iter : Expr} {es ifs : List Expr} {pos p apos p' : Pos} {CX : CXT} {n : Nat} {x m f : Str} {C : Addr} {ps : List Str} {F : FT} {scope : Scope}

variable {f2 : Str} {C2 : Addr}
/-! [.. for .. in x], x a changing instance whose __iter__ walks a tuple that stands in a field's field -/
def spItT2 (C : Addr) (f : Str) (C2 : Addr) (f2 : Str) : Nat → Sp := fun N vs H Q _ => ∃ a dx fs b dx2 fs2 t xs, vs = [.ref a] ∧ H a = some (.ins C dx fs) ∧ fs.lookup f = some (.ref b) ∧ H b = some (.ins C2 dx2 fs2) ∧ fs2.lookup f2 = some (.ref t) ∧ H t = some (.tup xs) ∧ ∀ it, H it = none → N ≤ it → Q (.ref it) (upd H it (Owp.TIt it t))
theorem ew_lcI2 (own : List (Str × Nat)) (jx : Nat) {g : Addr} {fd : FuncData} (hc : X.calm = true) (hx0 : X.ex = []) (hN : X.N.Nodup) (ok : BlkOk X.N X.env.scope scope own)
    (m : Meth X.K C "__iter__" g) (G : Owp.FnN X.prog X.w X.K X.mg X.base CX n g fd ["self"] (spItT2 C f C2 f2)) (hb : L2.Binds X.K fd ["self"] []) (hr : Room n X.A) {E' : XK} (hx : Passes CX X E')
    (h : EW X B iter ss fun d s => ∃ (a : Addr) (j : Nat) (fs : List (Str × D)) (fs2 : List (Str × D)) (ds : List D), d = .own a ∧ s.cs[j]? = some (a, Cell.ins C fs) ∧ fs.lookup f = some (.obj C2 fs2) ∧ fs2.lookup f2 = some (.tup ds) ∧ ds.length ≤ sizeLine ∧ ∃ Iv : Nat → List D → Cs → Prop, Iv 0 [] s.cs ∧
      (∀ j dj acc cs, ds[j]? = some dj → Iv j acc cs → acc.length ≤ j ∧ LcTurn X B scope elt tg ifs (own.map (·.2)) jx s.sl dj acc cs (Iv (j + 1))) ∧ ∀ acc cs, Iv ds.length acc cs → Q (.lst acc) ⟨s.sl, cs⟩)
    (hs : ∀ x, foldedSetIterable iter X.env x = pure x := by intro _; rfl) : EW X B (.ListComp elt [⟨tg, iter, ifs, 0⟩] scope pos) ss Q :=
  ⟨PEimp (pe_lc hc hN (Owp.pi_ownT hx0 m G hb hr hx h.p) ok pg_blk pt_blk pe_blk hs) fun σ H QQ ⟨s, k⟩ => ⟨s, fun v d s1 H1 ⟨a0, j0, fs, fs2, ds, q1, hj0, hl0, hl1, hl, Iv, i0, i1, i2⟩ sat1 e1 r1 => by
    subst q1
    cases r1
    obtain ⟨dx, vs, eo, ro⟩ := sat1.ok.ok _ _ (List.mem_of_getElem? hj0)
    obtain ⟨u0, hu0, ru0⟩ := ro.lookup hl0
    cases ru0 with
    | @obj b0 _ dx2 vs2 _ eo2 no2 ro2 =>
      obtain ⟨u, hu, ru⟩ := ro2.lookup hl1
      cases ru with
      | @tup a xs _ ea n r =>
        refine ⟨a0, dx, vs, rfl, eo, a0, dx, vs, b0, dx2, vs2, a, xs, rfl, eo, hu0, eo2, hu, ea, fun it hit hN => ⟨it, a, rfl, upd_same, hN, ?_, ?_⟩⟩
        · rw [del_upd hit]
          exact ⟨xs, SqT.of ea⟩
        · rw [del_upd hit]
          intro l hnew
          refine lc_tup (K := X.K) (a := a) (xs := xs) (fun i H' => ∃ acc cs, Iv i acc cs ∧ LcAt B s1.sl s1.cs H1 (own.map (·.2)) σ jx l acc cs H') ⟨[], s1.cs, i0, lc_start sat1 hnew⟩ (fun i H' _ ⟨acc, cs, _, st⟩ => SqT.of (st.ext.kp _ _ n ntT ea)) (fun i y H' hy ⟨acc, cs, q, st⟩ => ?_) fun H' ⟨acc, cs, q, st⟩ => ?_
          · obtain ⟨dj, hd, rd⟩ := r.back hy
            obtain ⟨hacc, turn⟩ := i1 i dj acc cs hd q
            have hi := (List.getElem?_eq_some_iff.mp hd).1
            exact lc_go (by omega) st (rd.ext st.ext) turn fun acc' cs' H'' nq st' => ⟨acc', cs', nq, st'⟩
          · rw [r.len] at q
            exact lc_end (ss := ss) sat1 e1 st k (i2 acc cs q)⟩⟩
end
end Sx
set_option Elab.async false
set_option linter.all false
set_option maxRecDepth 100000
set_option maxHeartbeats 4000000
/-! list(zip(a, b)), a and b lists. -/
namespace Zpl
open PySem PySem.Spec PyProof.Rows L2
theorem zip_no_len : typeLookup (.type "zip") "__len__" = pure none := by rw [typeLookup_type, builtinLookup_eq_fast]; kernel_rfl
theorem zip_no_hint : typeLookup (.type "zip") "__length_hint__" = pure none := by rw [typeLookup_type, builtinLookup_eq_fast]; kernel_rfl
/-- a zip of two lists, made ahead of the list at S, before its item i -/
structure Zs (xs ys : Array Value) (z TI TO i1 i2 l1 l2 S i : Nat) (h : Heap) : Prop where
  ap : ZipApart z TI TO i1 i2 l1 l2
  low : ∀ c ∈ [z, TI, TO, i1, i2, l1, l2], c < S
  ins : IsPair h TI (.ref i1) (.ref i2)
  it1 : h.IsListIter i1 l1 i
  it2 : h.IsListIter i2 l2 i
  li1 : h.IsList l1 xs
  li2 : h.IsList l2 ys
  out : (IsZip h z TI TO .none ∧ ∃ a b, IsPair h TO a b) ∨ ∃ T f o, IsZipHeld h z TI TO T f ∧ h.get? T = some o ∧ S < T
section
variable {xs ys : Array Value} {z TI TO i1 i2 l1 l2 S i : Nat} {h h' : Heap}
theorem Zs.lt (x : Zs xs ys z TI TO i1 i2 l1 l2 S i h) : z < S ∧ TI < S ∧ TO < S ∧ i1 < S ∧ i2 < S ∧ l1 < S ∧ l2 < S := by
  have l := x.low
  exact ⟨l z (by simp), l TI (by simp), l TO (by simp), l i1 (by simp), l i2 (by simp), l l1 (by simp), l l2 (by simp)⟩
theorem Zs.stay (x : Zs xs ys z TI TO i1 i2 l1 l2 S i h) (k : ∀ b o, b ≠ S → h.get? b = some o → h'.get? b = some o) : Zs xs ys z TI TO i1 i2 l1 l2 S i h' := by
  obtain ⟨a1, a2, a3, a4, a5, a6, a7⟩ := x.lt
  have up : ∀ b o, b < S → h.get? b = some o → h'.get? b = some o := fun b o hb => k b o (Nat.ne_of_lt hb)
  refine ⟨x.ap, x.low, up _ _ a2 x.ins, x.it1.at fun o => up _ o a4, x.it2.at fun o => up _ o a5, x.li1.at fun o => up _ o a6, x.li2.at fun o => up _ o a7, ?_⟩
  rcases x.out with ⟨q, a, b, p⟩ | ⟨T, f, o, q, p, r⟩
  · exact .inl ⟨up _ _ a1 q, a, b, up _ _ a3 p⟩
  · exact .inr ⟨T, f, o, up _ _ a1 q, k _ _ (Nat.ne_of_gt r) p, r⟩
end
section
variable {prog : Program} {w : World} {A : Around} {E : Value → Shared → Prop} {s : Shared} {xs ys : Array Value} {z TI TO i1 i2 l1 l2 S i : Nat}
theorem z_next {x y : Value} {Q : Option Value → Shared → Prop} (st : Zs xs ys z TI TO i1 i2 l1 l2 S i s.heap) (hS : S < s.heap.objs.size) (hx : xs[i]? = some x) (hy : ys[i]? = some y)
    (hQ : ∀ h', Zs xs ys z TI TO i1 i2 l1 l2 S (i + 1) h' → h'.get? s.heap.objs.size = some { cls := .type "tuple", data := .seq #[x, y] } → h'.objs.size = s.heap.objs.size + 1 →
      (∀ c o, c ≠ z → c ≠ TO → c ≠ i1 → c ≠ i2 → s.heap.get? c = some o → h'.get? c = some o) → Q (some (.ref s.heap.objs.size)) { s with heap := h' }) :
    wpAny (model prog w) A (pyNext (.ref z)) Q E s := by
  have D := st.ap
  rcases st.out with ⟨q, a, b, p⟩ | ⟨T, f, o, q, p, r⟩
  · refine wpAny_pyNext_zip_item D q st.ins p st.it1 st.it2 st.li1 st.li2 hx hy fun h' b1 b2 b3 b4 b5 b6 hk => ?_
    refine hQ h' ⟨D, st.low, hk _ _ D.TIz D.TITO D.TIi1 D.TIi2 st.ins, b3, b4, ?_, ?_, .inr ⟨_, false, _, b1, b5, hS⟩⟩ b5 b6 hk
    · exact st.li1.at fun u e => hk _ u D.l1z D.l1TO D.l1i1 D.l1i2 e
    · exact st.li2.at fun u e => hk _ u D.l2z D.l2TO D.l2i1 D.l2i2 e
  · obtain ⟨c1, c2, c3, c4, c5, _, _⟩ := st.lt
    refine wpAny_pyNext_zip_item_held D q p st.ins st.it1 st.it2 st.li1 st.li2 hx hy fun h' b1 b3 b4 b5 b6 hk => ?_
    refine hQ h' ⟨D, st.low, hk _ _ D.TIz D.TIi1 D.TIi2 st.ins, b3, b4, ?_, ?_, .inr ⟨T, true, o, b1, hk _ _ ?_ ?_ ?_ p, r⟩⟩ b5 b6 fun c u n1 _ n3 n4 e => hk c u n1 n3 n4 e
    · exact st.li1.at fun u e => hk _ u D.l1z D.l1i1 D.l1i2 e
    · exact st.li2.at fun u e => hk _ u D.l2z D.l2i1 D.l2i2 e
    · exact Nat.ne_of_gt (Nat.lt_trans c1 r)
    · exact Nat.ne_of_gt (Nat.lt_trans c4 r)
    · exact Nat.ne_of_gt (Nat.lt_trans c5 r)
theorem z_stop {Q : Option Value → Shared → Prop} (hh : A.handled = none) (st : Zs xs ys z TI TO i1 i2 l1 l2 S i s.heap) (hi : xs.size ≤ i ∨ ys.size ≤ i)
    (hQ : ∀ h', (∀ c o, c ≠ z → c ≠ TO → c ≠ i1 → c ≠ i2 → s.heap.get? c = some o → h'.get? c = some o) → Q none { s with heap := h' }) : wpAny (model prog w) A (pyNext (.ref z)) Q E s := by
  have hend : xs[i]? = none ∨ ys[i]? = none := hi.imp (fun q => Array.getElem?_eq_none q) fun q => Array.getElem?_eq_none q
  rcases st.out with ⟨q, a, b, p⟩ | ⟨T, f, o, q, p, r⟩
  · exact wpAny_pyNext_zip_end hh st.ap q st.ins p st.it1 st.it2 st.li1 st.li2 hend hQ
  · exact wpAny_pyNext_zip_end_held hh st.ap q p st.ins st.it1 st.it2 st.li1 st.li2 hend fun h' hk => hQ h' fun c u n1 _ n3 n4 e => hk c u n1 n3 n4 e
end
/-- the tuples made so far, each above the list -/
structure Zt (xs ys : Array Value) (S : Addr) (h : Heap) (ts : List Addr) : Prop where
  up : ts.Pairwise (· < ·)
  hi : ∀ t ∈ ts, S < t
  tp : ∀ (j : Nat) (t : Addr), ts[j]? = some t → ∃ x y, xs[j]? = some x ∧ ys[j]? = some y ∧ h.get? t = some { cls := .type "tuple", data := .seq #[x, y] }
section
variable {prog : Program} {w : World} {A : Around} {s : Shared} {R : Result → Shared → Prop} {xs ys : Array Value} {z TI TO i1 i2 l1 l2 S n : Nat}
theorem z_loop (hh : A.handled = none) (hn : n = min xs.size ys.size) (hz : n ≤ sizeLine) (res : Value) {h₁ : Heap}
    (hR : ∀ h' tk acc c ts, (∀ b o, b ≠ S → b ≠ z → b ≠ TO → b ≠ i1 → b ≠ i2 → h₁.get? b = some o → h'.get? b = some o) → h'.get? S = some { cls := .type "list", dict := none, data := .seq acc c, slots := #[] } →
      ts.length = n → Zt xs ys S h' ts → acc.toList = ts.map Value.ref → R (.ok (.ret res)) { s with heap := h', toks := tk }) :
    ∀ (k i : Nat) (h : Heap) (tk c : Nat) (acc : Array Value) (ts : List Addr), i + k = n → Zs xs ys z TI TO i1 i2 l1 l2 S i h → (∀ b o, b ≠ S → b ≠ z → b ≠ TO → b ≠ i1 → b ≠ i2 → h₁.get? b = some o → h.get? b = some o) →
      h.get? S = some { cls := .type "list", dict := none, data := .seq acc c, slots := #[] } → acc.toList = ts.map Value.ref → ts.length = i → Zt xs ys S h ts →
      codeAny (model prog w) A (.builtin "list.extend.loop" ⟨[.ref S, .ref z, res], []⟩) R { s with heap := h, toks := tk } := by
  intro k
  induction k with
  | zero =>
    intro i h tk c acc ts hk st kp hS ea el zt
    obtain ⟨c1, c2, c3, c4, c5, _, _⟩ := st.lt
    refine codeAny_builtin PySem.F.entry_extend_loop ?_
    rw [Around.under_plainId PySem.F.plain_extend_loop _]
    show wpAny _ A.in1 (pyNext (.ref z) >>= _) _ _ _
    refine wpAny_bind (z_stop (s := { s with heap := h, toks := tk }) (A := A.in1) hh st (by omega) fun h' he => ?_)
    refine wpAny_pure (hR h' tk acc c ts (fun b o m0 m1 m2 m3 m4 e => he b o m1 m2 m3 m4 (kp b o m0 m1 m2 m3 m4 e)) (he S _ ?_ ?_ ?_ ?_ hS) (by omega) ⟨zt.up, zt.hi, fun j t ht => ?_⟩ ea)
    · omega
    · omega
    · omega
    · omega
    · obtain ⟨x, y, e1, e2, e3⟩ := zt.tp j t ht
      have lt := zt.hi t (List.mem_of_getElem? ht)
      exact ⟨x, y, e1, e2, he t _ (Nat.ne_of_gt (Nat.lt_trans c1 lt)) (Nat.ne_of_gt (Nat.lt_trans c3 lt)) (Nat.ne_of_gt (Nat.lt_trans c4 lt)) (Nat.ne_of_gt (Nat.lt_trans c5 lt)) e3⟩
  | succ k ih =>
    intro i h tk c acc ts hk st kp hS ea el zt
    obtain ⟨c1, c2, c3, c4, c5, _, _⟩ := st.lt
    have hix : i < xs.size := by omega
    have hiy : i < ys.size := by omega
    have hSz : S < h.objs.size := Heap.lt_size hS
    have asz : acc.size = i := by rw [← Array.length_toList, ea, List.length_map, el]
    refine codeAny_builtin PySem.F.entry_extend_loop ?_
    rw [Around.under_plainId PySem.F.plain_extend_loop _]
    show wpAny _ A.in1 (pyNext (.ref z) >>= _) _ _ _
    refine wpAny_bind (z_next (s := { s with heap := h, toks := tk }) st hSz (Array.getElem?_eq_getElem hix) (Array.getElem?_eq_getElem hiy) fun h' st' ht hsz he => ?_)
    dsimp only at ht hsz he ⊢
    have hS' := he S _ (by omega) (by omega) (by omega) (by omega) hS
    have oth : ∀ b o, b ≠ S → h'.get? b = some o → (h'.update S (Obj.mapSeq (·.push (Value.ref h.objs.size)))).get? b = some o := fun b o hb e => (Heap.get?_update_other _ _ (Ne.symm hb)).trans e
    show wpAny _ A.in1 (updateSeq S (·.push (Value.ref h.objs.size)) >>= _) _ _ _
    refine wpAny_bind ?_
    refine wpAny_updateSeq hS' rfl (wpAny_pure ⟨plainId_quiet PySem.F.plain_extend_loop _, ih (i + 1) _ tk _ (acc.push (Value.ref h.objs.size)) (ts ++ [h.objs.size]) (by omega) (st'.stay oth)
      (fun b o m0 m1 m2 m3 m4 e => oth b o m0 (he b o m1 m2 m3 m4 (kp b o m0 m1 m2 m3 m4 e))) (Heap.get?_update_self _ hS' rfl) (by rw [Array.toList_push, ea, List.map_append]; rfl) (by rw [List.length_append, el]; rfl) ⟨?_, ?_, ?_⟩⟩) (by rw [asz]; omega)
    · refine List.pairwise_append.mpr ⟨zt.up, List.pairwise_singleton _ _, fun a ha b hb => ?_⟩
      rw [List.mem_singleton.mp hb]
      obtain ⟨j, hj⟩ := List.mem_iff_getElem?.mp ha
      obtain ⟨_, _, _, _, e⟩ := zt.tp j a hj
      exact Heap.lt_size e
    · intro t ht
      rcases List.mem_append.mp ht with ht | ht
      · exact zt.hi t ht
      · rw [List.mem_singleton.mp ht]
        exact hSz
    · intro j t hj
      by_cases h1 : j < ts.length
      · rw [List.getElem?_append_left h1] at hj
        obtain ⟨x, y, e1, e2, e3⟩ := zt.tp j t hj
        have lt := zt.hi t (List.mem_of_getElem? hj)
        exact ⟨x, y, e1, e2, oth t _ (Nat.ne_of_gt lt) (he t _ (Nat.ne_of_gt (Nat.lt_trans c1 lt)) (Nat.ne_of_gt (Nat.lt_trans c3 lt)) (Nat.ne_of_gt (Nat.lt_trans c4 lt)) (Nat.ne_of_gt (Nat.lt_trans c5 lt)) e3)⟩
      · rw [List.getElem?_append_right (by omega)] at hj
        have hj0 : j - ts.length = 0 := by
          have := (List.getElem?_eq_some_iff.mp hj).1
          simp only [List.length_singleton] at this
          omega
        rw [hj0] at hj
        cases hj
        have ej : j = i := by omega
        subst ej
        exact ⟨_, _, Array.getElem?_eq_getElem hix, Array.getElem?_eq_getElem hiy, oth _ _ (Nat.ne_of_gt hSz) ht⟩
theorem z_fill (hh : A.handled = none) (hn : n = min xs.size ys.size) (hz : n ≤ sizeLine) (res : Value) (c₀ : Nat) (st : Zs xs ys z TI TO i1 i2 l1 l2 S 0 s.heap) (hS : s.heap.get? S = some { cls := .type "list", data := .seq #[] c₀ })
    (hR : ∀ h' tk acc c ts, (∀ b o, b ≠ S → b ≠ z → b ≠ TO → b ≠ i1 → b ≠ i2 → s.heap.get? b = some o → h'.get? b = some o) → h'.get? S = some { cls := .type "list", dict := none, data := .seq acc c, slots := #[] } →
      ts.length = n → Zt xs ys S h' ts → acc.toList = ts.map Value.ref → R (.ok (.ret res)) { s with heap := h', toks := tk }) :
    wpAny (model prog w) A.in1 (Builtin.List.listExtendWith (.ref S) (.ref z) res)
      (fun fin s' => match fin with | .done f => R (.ok f) s' | .again c' => c'.quiet = true ∧ codeAny (model prog w) A c' R s') (fun e s' => R (.error e) s') s := by
  obtain ⟨c1, c2, c3, c4, c5, c6, c7⟩ := st.lt
  obtain ⟨f0, f1, hzz⟩ : ∃ f0 f1, s.heap.get? z = some { cls := .type "zip", dict := none, data := .fields #[f0, f1, .bool false, .ref TI, .ref TO], slots := #[] } := by
    rcases st.out with ⟨q, _⟩ | ⟨T, f, o, q, _⟩
    · exact ⟨_, _, q⟩
    · exact ⟨_, _, q⟩
  have hT : s.TypeIs (.ref z) "zip" := ⟨_, hzz, rfl⟩
  unfold Builtin.List.listExtendWith
  refine wpAny_bind (wpAny_typeOf (T := "zip") hT ?_)
  have n1 : Builtin.List.listSameRef (.ref S) (.ref z) = false := by
    show (S == z) = false
    exact beq_eq_false_iff_ne.mpr (Nat.ne_of_gt c1)
  have n2 : (Value.type "zip" == Value.type "list") = false := by decide
  have n3 : (Value.type "zip" == Value.type "tuple") = false := by decide
  simp only [n1, n2, n3, Bool.or_false, Bool.false_eq_true, if_false]
  refine wpAny_bind (wpAny_pyIter_slot hT F.slot_zip_iter (wpAny_call_entry F.slot_zip_iter hT F.entry_zip_iter ?_ (F.args_zip_iter_1 _)))
  refine wpAny_pure ⟨_, rfl, "zip", _, hT, F.slot_zip_next.lookup, ?_⟩
  refine wpAny_bind (wpAny_holding ?_)
  unfold Builtin.List.listLengthHint
  refine wpAny_bind (wpAny_specialOf hT zip_no_len ?_)
  show wpAny _ A.in1 (specialOf (Value.ref z) (Str.ofString "__length_hint__") >>= _) _ _ _
  refine wpAny_bind (wpAny_specialOf hT zip_no_hint ?_)
  refine wpAny_pure ?_
  show wpAny _ A.in1 (rule "list.extend.makes-room" >>= fun _ => Builtin.List.listTouch (.ref S) >>= fun _ => again (.builtin "list.extend.loop" ⟨[.ref S, .ref z, res], []⟩)) _ _ _
  refine wpAny_bind (wpAny_rule ?_)
  refine wpAny_bind ?_
  show wpAny _ A.in1 (updateSeq S (·.push .none) >>= fun _ => updateSeq S (·.pop)) _ _ _
  refine wpAny_bind (wpAny_updateSeq hS rfl ?_)
  have hS₂ := Heap.get?_update_self (Obj.mapSeq (·.push Value.none)) hS rfl
  refine wpAny_updateSeq (hz := by seq_fits) hS₂ rfl ?_
  have hS₃ := Heap.get?_update_self (Obj.mapSeq (·.pop)) hS₂ rfl
  have oth : ∀ b o, b ≠ S → s.heap.get? b = some o → ((s.heap.update S (Obj.mapSeq (·.push Value.none))).update S (Obj.mapSeq (·.pop))).get? b = some o :=
    fun b o hb e => (Heap.get?_update_other _ _ (Ne.symm hb)).trans ((Heap.get?_update_other _ _ (Ne.symm hb)).trans e)
  refine wpAny_pure ⟨plainId_quiet PySem.F.plain_extend_loop _, z_loop (s := s) (h₁ := s.heap) hh hn hz res hR n 0 _ _ _ _ [] (by omega) (st.stay oth) (fun b o m0 _ _ _ _ e => oth b o m0 e) hS₃ rfl rfl ⟨List.Pairwise.nil, (fun _ ha => nomatch ha), (fun j a hj => by simp at hj)⟩⟩
theorem z_init (hh : A.handled = none) (hn : n = min xs.size ys.size) (hz : n ≤ sizeLine) (st : Zs xs ys z TI TO i1 i2 l1 l2 S 0 s.heap) (hS : s.heap.get? S = some { cls := .type "list", data := .seq #[] })
    (hR : ∀ h' tk acc c ts, (∀ b o, b ≠ S → b ≠ z → b ≠ TO → b ≠ i1 → b ≠ i2 → s.heap.get? b = some o → h'.get? b = some o) → h'.get? S = some { cls := .type "list", dict := none, data := .seq acc c, slots := #[] } →
      ts.length = n → Zt xs ys S h' ts → acc.toList = ts.map Value.ref → R (.ok (.ret .none)) { s with heap := h', toks := tk }) :
    wpAny (model prog w) A.in1 (Builtin.«list.__init__» ⟨[.ref S, .ref z], []⟩)
      (fun fin s' => match fin with | .done f => R (.ok f) s' | .again c' => c'.quiet = true ∧ codeAny (model prog w) A c' R s') (fun e s' => R (.error e) s') s := by
  show wpAny _ _ (Builtin.List.listItems (.ref S) >>= fun old => Builtin.List.listUpdate (.ref S) (fun _ => #[]) >>= fun _ => letGo old.toList.reverse >>= fun _ => Builtin.List.listExtendWith (.ref S) (.ref z) .none) _ _ s
  refine wpAny_bind ?_
  unfold Builtin.List.listItems
  refine wpAny_bind (wpAny_seqItems hS rfl (wpAny_pure ?_))
  show wpAny _ _ (updateSeq S (fun _ => #[]) >>= fun _ => letGo (#[] : Array Value).toList.reverse >>= fun _ => Builtin.List.listExtendWith (.ref S) (.ref z) .none) _ _ s
  refine wpAny_bind (wpAny_updateSeq hS rfl ?_)
  have hS₂ := Heap.get?_update_self (Obj.mapSeq (fun _ => (#[] : Array Value))) hS rfl
  have oth : ∀ b o, b ≠ S → s.heap.get? b = some o → (s.heap.update S (Obj.mapSeq (fun _ => (#[] : Array Value)))).get? b = some o := fun b o hb e => (Heap.get?_update_other _ _ (Ne.symm hb)).trans e
  refine wpAny_bind (wpAny_letGo ?_)
  exact z_fill hh hn hz .none _ (st.stay oth) hS₂ fun h' tk acc c ts hk hS' hl zt ea => hR h' tk acc c ts (fun b o m0 m1 m2 m3 m4 e => hk b o m0 m1 m2 m3 m4 (oth b o m0 e)) hS' hl zt ea
theorem z_list {Q : Value → Shared → Prop} {E : Value → Shared → Prop} (hh : A.handled = none) (hn : n = min xs.size ys.size) (hz : n ≤ sizeLine) (st : Zs xs ys z TI TO i1 i2 l1 l2 s.heap.objs.size 0 s.heap)
    (hQ : ∀ h' tk acc c ts, (∀ b o, b ≠ z → b ≠ TO → b ≠ i1 → b ≠ i2 → s.heap.get? b = some o → h'.get? b = some o) → h'.get? s.heap.objs.size = some { cls := .type "list", dict := none, data := .seq acc c, slots := #[] } →
      ts.length = n → Zt xs ys s.heap.objs.size h' ts → acc.toList = ts.map Value.ref → Q (.ref s.heap.objs.size) { s with heap := h', toks := tk }) :
    wpAny (model prog w) A (call (.type "list") [.ref z]) Q E s := by
  refine callType_codes (Q₁ := fun obj s₁ => obj = .ref s.heap.objs.size ∧ s₁ = { s with heap := s.heap.push { cls := .type "list", data := .seq #[] } }) PySem.F.called_list (PySem.F.typeCall_list_1 _) PySem.F.entry_list_init
    (code_list_new _ ⟨rfl, rfl⟩) fun obj s₁ e₁ => ?_
  obtain ⟨rfl, rfl⟩ := e₁
  have hS : (s.heap.push { cls := .type "list", data := .seq #[] }).get? s.heap.objs.size = some { cls := .type "list", data := .seq #[] } := Heap.get?_push_size _ rfl
  refine ⟨⟨_, hS, rfl⟩, PySem.F.args_list_init_2 _ _, z_init (A := A.in1) hh hn hz (st.stay fun b o _ e => Heap.get?_push_of_some _ e) hS fun h' tk acc c ts hk hS' hl zt ea => ?_⟩
  exact ⟨rfl, hQ h' tk acc c ts (fun b o m1 m2 m3 m4 e => hk b o (Nat.ne_of_lt (Heap.lt_size e)) m1 m2 m3 m4 (Heap.get?_push_of_some _ e)) hS' hl zt ea⟩
end
/-- the tuples of a zip, tracked -/
def putP : Hp → List Addr → List (V × V) → Hp
  | H, [], _ => H
  | H, _ :: _, [] => H
  | H, t :: ts, p :: ps => putP (upd H t (.tup [p.1, p.2])) ts ps
theorem putP_out {b : Addr} : ∀ {ts : List Addr} {ps : List (V × V)} {H : Hp}, b ∉ ts → putP H ts ps b = H b
  | [], _, _, _ => by simp only [putP]
  | _ :: _, [], _, _ => by simp only [putP]
  | t :: ts, p :: ps, H, hb => by
    simp only [putP]
    rw [putP_out (fun m => hb (List.mem_cons_of_mem _ m)), upd_ne fun e => hb (by rw [e]; exact List.mem_cons_self)]
theorem putP_get : ∀ {ts : List Addr} {ps : List (V × V)} {H : Hp}, ts.Nodup → ∀ {j : Nat} {t : Addr} {p : V × V}, ts[j]? = some t → ps[j]? = some p → putP H ts ps t = some (.tup [p.1, p.2])
  | [], _, _, _, _, _, _, h, _ => by simp at h
  | _ :: _, [], _, _, _, _, _, _, h => by simp at h
  | u :: ts, q :: ps, H, nd, 0, t, p, h1, h2 => by
    simp only [List.getElem?_cons_zero, Option.some.injEq] at h1 h2
    subst h1
    subst h2
    simp only [putP]
    rw [putP_out (List.nodup_cons.mp nd).1, upd_same]
  | u :: ts, q :: ps, H, nd, j + 1, t, p, h1, h2 => by
    simp only [putP]
    exact putP_get (List.nodup_cons.mp nd).2 (by simpa using h1) (by simpa using h2)
theorem vrefs : ∀ ts : List Addr, Vals (ts.map V.ref) (ts.map Value.ref)
  | [] => .nil
  | _ :: ts => .cons rfl (vrefs ts)
def tListZip (K : PySem.W.Frag) (ta : TA) : TE := fun σ H Q => ta σ H fun vs H1 => ∃ (a b : Addr) (xs ys : List V), vs = [.ref a, .ref b] ∧ SqL K H1 a xs ∧ SqL K H1 b ys ∧
  ∀ (H' : Hp) (p : Addr) (ts : List Addr), (∀ b o, H1 b = some o → H' b = some o) → H1 p = none → (∀ t ∈ ts, H1 t = none) → p ∉ ts → H' p = some (.lst (ts.map V.ref)) → ts.length = min xs.length ys.length →
    (∀ (j : Nat) (t : Addr) (x y : V), ts[j]? = some t → xs[j]? = some x → ys[j]? = some y → H' t = some (.tup [x, y])) → Q (.ref p) H'
theorem vget {xs : List V} {us : List Value} (r : Vals xs us) {j : Nat} {u : Value} (h : us[j]? = some u) : ∃ x, xs[j]? = some x ∧ RelV x u := by
  have hj := (List.getElem?_eq_some_iff.mp h).1
  rw [← r.length] at hj
  obtain ⟨u', e, q⟩ := r.get (List.getElem?_eq_getElem hj)
  rw [h] at e
  cases e
  exact ⟨_, List.getElem?_eq_getElem hj, q⟩
section
variable {X : Cx} {e e2 : Expr} {ta : TA} {p p2 q pos : Pos}
theorem pe_listZip (hc : X.calm = true) (ha : PA X [e, e2] ta) (hg : Gl X "list") (hm : X.mg "list" = none) (hv : bootBuiltins "list" = some (.type "list")) (hg2 : Gl X "zip") (hm2 : X.mg "zip" = none)
    (hs1 : starEach [.Call (.Name "zip" p2) [e, e2] [] q] X.env = (false, eval (.Call (.Name "zip" p2) [e, e2] [] q) X.env) :: starEach [] X.env := by rfl)
    (hs : starEach [e, e2] X.env = (false, eval e X.env) :: starEach [e2] X.env := by rfl) (hpl : (backTo q (starEach [e2] X.env)).any (·.1) = false := by rfl) :
    PE X (.Call (.Name "list" p) [.Call (.Name "zip" p2) [e, e2] [] q] [] pos) (tListZip X.K ta) := by
  refine ⟨fun pins s σ H Q I h => ?_⟩
  refine Call_ (ld_blt I hg hm hv ?_)
  refine PyProof.Rows.callWith_type1 (PyProof.Rows.args_cons ?_ hs1) hs1 rfl
  refine Call_ (ld_blt I hg2 hm2 PyProof.Rows.boot_zip (PyProof.Rows.callWith_type1 (thn (ha.run q pins s σ H _ I h) fun us s1 ⟨vs, H1, I1, r1, q1⟩ => ?_) hs hpl))
  obtain ⟨a, b, xs, ys, rfl, hqx, hqy, q1⟩ := q1
  obtain ⟨u1, u2, rfl, ra, rb⟩ : ∃ u1 u2, us = [u1, u2] ∧ RelV (.ref a) u1 ∧ RelV (.ref b) u2 := by
    cases r1 with
    | cons r rr =>
      cases rr with
      | cons r' rr =>
        cases rr
        exact ⟨_, _, rfl, r, r'⟩
  obtain rfl : u1 = Value.ref a := ra
  obtain rfl : u2 = Value.ref b := rb
  obtain ⟨its, rv, pl1, sz1⟩ := I1.list hqx
  obtain ⟨its2, rv2, pl2, sz2⟩ := I1.list hqy
  refine call_zip_2 pl1.isList pl2.isList fun h' hz hTI hTO h1 h2 hsz hk => ?_
  have I2 : Inv X pins σ H1 { s1 with heap := h' } := I1.kept (t' := s1.toks) hk
  have l1 : xs.length = its.length := rv.length
  have l2 : ys.length = its2.length := rv2.length
  refine PyProof.Rows.args_nil ?_
  have st : Zs its.toArray its2.toArray (s1.heap.objs.size + 4) (s1.heap.objs.size + 2) (s1.heap.objs.size + 3) s1.heap.objs.size (s1.heap.objs.size + 1) a b h'.objs.size 0 h' := by
    have g1 := pl1.lt
    have g2 := pl2.lt
    refine ⟨PySem.W.ktu_apart s1.heap.objs.size a b g1 g2, fun c hc => ?_, hTI, h1, h2, pl1.isList.at fun o e => hk _ o e, pl2.isList.at fun o e => hk _ o e, .inl ⟨hz, _, _, hTO⟩⟩
    simp only [List.mem_cons, List.not_mem_nil, or_false] at hc
    rcases hc with rfl | rfl | rfl | rfl | rfl | rfl | rfl
    all_goals (rw [hsz]; first | omega | exact Nat.lt_of_lt_of_le g1 (Nat.le_add_right _ _) | exact Nat.lt_of_lt_of_le g2 (Nat.le_add_right _ _))
  refine z_list (s := { s1 with heap := h' }) (n := min its.length its2.length) (I2.ok.hd hc) (by rw [List.size_toArray, List.size_toArray]) (by omega) st fun h2' tk acc c ts hk2 hS hl zt ea => ?_
  dsimp only at hk2 hS zt
  have nd : ts.Nodup := List.Pairwise.imp (fun {a b} (h : a < b) => Nat.ne_of_lt h) zt.up
  have hge : ∀ c, H1 c ≠ none → c < s1.heap.objs.size := fun c hc => by
    rcases Nat.lt_or_ge c s1.heap.objs.size with h | h
    · exact h
    · exact absurd (I1.hok.fresh h) hc
  have newS : H1 h'.objs.size = none := I2.hok.fresh (Nat.le_refl _)
  have newT : ∀ t ∈ ts, H1 t = none := fun t ht => I2.hok.fresh (Nat.le_of_lt (zt.hi t ht))
  have nS : h'.objs.size ∉ ts := fun m => Nat.lt_irrefl _ (zt.hi _ m)
  have hkeep : ∀ b o, s1.heap.get? b = some o → h2'.get? b = some o := fun b o e => by
    have g := Heap.lt_size e
    exact hk2 b o (Nat.ne_of_lt (Nat.lt_of_lt_of_le g (Nat.le_add_right _ _))) (Nat.ne_of_lt (Nat.lt_of_lt_of_le g (Nat.le_add_right _ _))) (Nat.ne_of_lt g) (Nat.ne_of_lt (Nat.lt_of_lt_of_le g (Nat.le_add_right _ _))) (hk b o e)
  have eS : putP (upd H1 h'.objs.size (.lst (ts.map V.ref))) ts (xs.zip ys) h'.objs.size = some (.lst (ts.map V.ref)) := by rw [putP_out nS, upd_same]
  have off : ∀ b, b ∉ ts → b ≠ h'.objs.size → putP (upd H1 h'.objs.size (.lst (ts.map V.ref))) ts (xs.zip ys) b = H1 b := fun b g1 g2 => by rw [putP_out g1, upd_ne g2]
  have kp : ∀ b u, H1 b = some u → putP (upd H1 h'.objs.size (.lst (ts.map V.ref))) ts (xs.zip ys) b = some u := fun b u e => by
    rw [off b (fun m => by rw [newT b m] at e; cases e) (fun m => by rw [m, newS] at e; cases e)]
    exact e
  have low : ∀ b o, s1.heap.get? b = some o → b ∉ ts ∧ b ≠ h'.objs.size := fun b o e => by
    have g := Heap.lt_size e
    have g2 : b < h'.objs.size := by
      rw [hsz]
      exact Nat.lt_of_lt_of_le g (Nat.le_add_right _ _)
    exact ⟨fun m => absurd (zt.hi b m) (Nat.not_lt.mpr (Nat.le_of_lt g2)), Nat.ne_of_lt g2⟩
  have tget : ∀ (j : Nat) (t : Addr), ts[j]? = some t → ∃ (x y : V) (u v : Value), xs[j]? = some x ∧ ys[j]? = some y ∧ RelV x u ∧ RelV y v ∧ h2'.get? t = some { cls := .type "tuple", data := .seq #[u, v] } := fun j t ht => by
    obtain ⟨u, v, e1, e2, e3⟩ := zt.tp j t ht
    obtain ⟨x, f1, f2⟩ := vget rv (show its[j]? = some u by simpa using e1)
    obtain ⟨y, g1, g2⟩ := vget rv2 (show its2[j]? = some v by simpa using e2)
    exact ⟨x, y, u, v, f1, g1, f2, g2, e3⟩
  have atT : ∀ (j : Nat) (t : Addr) (x y : V), ts[j]? = some t → xs[j]? = some x → ys[j]? = some y → putP (upd H1 h'.objs.size (.lst (ts.map V.ref))) ts (xs.zip ys) t = some (.tup [x, y]) := fun j t x y g1 g2 g3 =>
    putP_get (p := (x, y)) nd g1 (List.getElem?_zip_eq_some.mpr ⟨g2, g3⟩)
  refine ⟨.ref _, putP (upd H1 h'.objs.size (.lst (ts.map V.ref))) ts (xs.zip ys), ?_, rfl, q1 _ _ ts kp newS newT nS eS (by omega) atT⟩
  refine I1.call' (ch := []) rfl ⟨fun b o g _ _ _ => hkeep b o g, fun b o g _ _ _ => ⟨o.slots, hkeep b o g⟩, fun b o g m _ => ?_, fun b o g _ => ⟨o, hkeep b o g⟩, fun b zs g => kp b _ g, fun b o u g => kp b _ g, fun b ps g => ⟨#[], by rw [kp b _ g]; simp⟩⟩ (fun b u g => ?_) I1.bare fun b m => by simp at m
  · obtain ⟨z1, z2⟩ := low b o g
    rw [off b z1 z2]
    exact m
  · by_cases hb : b ∈ ts
    · obtain ⟨j, hj⟩ := List.mem_iff_getElem?.mp hb
      obtain ⟨x, y, u', v', f1, f2, f3, f4, f5⟩ := tget j b hj
      rw [atT j b x y hj f1 f2] at g
      cases g
      exact ⟨by show 2 ≤ sizeLine; decide, [u', v'], .cons f3 (.cons f4 .nil), ⟨_, f5, rfl, _, rfl⟩⟩
    · by_cases hb2 : b = h'.objs.size
      · rw [hb2] at g ⊢
        rw [eS] at g
        cases g
        refine ⟨by rw [List.length_map]; omega, acc.toList, c, by rw [ea]; exact vrefs ts, ?_⟩
        rw [Array.toArray_toList]
        exact hS
      · rw [off b hb hb2] at g
        exact (I1.hok b u g).stay (fun d v _ y => hkeep d v y) (fun d y => kp d _ y) fun d zs y => kp d _ y
end
end Zpl
set_option Elab.async false
set_option linter.all false
set_option maxRecDepth 100000
set_option maxHeartbeats 4000000
namespace Sx
open PySem PySem.Spec PyProof.Rows L2
/-- what zip makes of two rows -/
def pairD : List D → List D → List D
  | x :: xs, y :: ys => .tup [x, y] :: pairD xs ys
  | _, _ => []
theorem pairD_len : ∀ xs ys : List D, (pairD xs ys).length = min xs.length ys.length
  | [], [] => rfl
  | [], _ :: _ => by simp [pairD]
  | _ :: _, [] => by simp [pairD]
  | x :: xs, y :: ys => by
    show (pairD xs ys).length + 1 = min (xs.length + 1) (ys.length + 1)
    rw [pairD_len xs ys]
    omega
theorem pairD_at : ∀ {xs ys : List D} {j : Nat} {d : D}, (pairD xs ys)[j]? = some d → ∃ x y, xs[j]? = some x ∧ ys[j]? = some y ∧ d = .tup [x, y]
  | [], [], _, _, h => by simp [pairD] at h
  | [], _ :: _, _, _, h => by simp [pairD] at h
  | _ :: _, [], _, _, h => by simp [pairD] at h
  | x :: xs, y :: ys, 0, d, h => by
    cases h
    exact ⟨x, y, rfl, rfl, rfl⟩
  | x :: xs, y :: ys, j + 1, d, h => pairD_at (xs := xs) (ys := ys) (j := j) h
theorem vlL_by {H : Hp} {M : Addr → Prop} : ∀ {vs : List V} {ds : List D}, vs.length = ds.length → (∀ (j : Nat) (v : V) (d : D), vs[j]? = some v → ds[j]? = some d → Vl H M v d) → VlL H M vs ds
  | [], [], _, _ => .nil
  | [], _ :: _, h, _ => by simp at h
  | _ :: _, [], h, _ => by simp at h
  | v :: vs, d :: ds, h, f => .cons (f 0 v d rfl rfl) (vlL_by (by simpa using h) fun j v' d' h1 h2 => f (j + 1) v' d' (by simpa using h1) (by simpa using h2))
section
variable {X : Cx} {B : Bs} {ss : SS} {Q : D → SS → Prop} {a b : Expr} {pos p p2 q : Pos}
/-- list(zip(a, b)), a and b lists -/
theorem ew_listZip (hc : X.calm = true) (hm : X.mg "list" = none) (hm2 : X.mg "zip" = none) (h : AW X B [a, b] ss fun ds s => ∃ d1 d2 : List D, ds = [.lst d1, .lst d2] ∧ Q (.lst (pairD d1 d2)) s)
    (hg : Gl X "list" := by rfl) (hg2 : Gl X "zip" := by rfl)
    (hs1 : starEach [.Call (.Name "zip" p2) [a, b] [] q] X.env = (false, eval (.Call (.Name "zip" p2) [a, b] [] q) X.env) :: starEach [] X.env := by rfl)
    (hs : starEach [a, b] X.env = (false, eval a X.env) :: starEach [b] X.env := by rfl) (hpl : (backTo q (starEach [b] X.env)).any (·.1) = false := by rfl) :
    EW X B (.Call (.Name "list" p) [.Call (.Name "zip" p2) [a, b] [] q] [] pos) ss Q :=
  ⟨PEimp (Zpl.pe_listZip hc h.p hg hm (by kernel_rfl) hg2 hm2 hs1 hs hpl) fun σ H QQ ⟨s, k⟩ => ⟨s, fun vs ds s1 H1 ⟨d1, d2, q1, q2⟩ sat1 e1 r1 => by
    subst q1
    obtain ⟨v, u, rfl, r1, r2⟩ := vl2 r1
    cases r1 with
    | @lst a xs _ ea na ra =>
      cases r2 with
      | @lst b ys _ eb nb rb =>
        refine ⟨a, b, xs, ys, rfl, SqL.of ea, SqL.of eb, fun H' p ts kp np nt npt hp hl ht => ?_⟩
        have S : Same H1 H' := kp
        refine k _ _ _ H' q2 (sat1.same S) (e1.trans (Ext.same S)) (.lst hp (sat1.new np) (vlL_by ?_ fun j v d h1 h2 => ?_))
        · rw [List.length_map, hl, pairD_len, ra.len, rb.len]
        · rw [List.getElem?_map] at h1
          obtain ⟨t, h5, rfl⟩ := Option.map_eq_some_iff.mp h1
          obtain ⟨x, y, g1, g2, rfl⟩ := pairD_at h2
          obtain ⟨vx, f1, f2⟩ := ra.at_ g1
          obtain ⟨vy, f3, f4⟩ := rb.at_ g2
          exact .tup (ht j t vx vy h5 f1 f3) (sat1.new (nt t (List.mem_of_getElem? h5))) (.cons (f2.ext (Ext.same S)) (.cons (f4.ext (Ext.same S)) .nil))⟩⟩
end
end Sx
set_option Elab.async false
set_option linter.all false
set_option maxRecDepth 100000
set_option maxHeartbeats 4000000
namespace Sx
open PySem PySem.Spec PyProof.Rows L2
section
variable {X : Cx} {B : Bs} {e : Expr} {ss : SS} {k : Kt}
theorem EW.mono {Q Q' : D → SS → Prop} (h : EW X B e ss Q) (q : ∀ d s, Q d s → Q' d s) : EW X B e ss Q' := ⟨PEimp h.p fun σ H QQ ⟨s, k⟩ => ⟨s, fun v d s1 H1 q1 => k v d s1 H1 (q d s1 q1)⟩⟩
theorem TW.mono {Q Q' : Bool → SS → Prop} (h : TW X B e ss Q) (q : ∀ b s, Q b s → Q' b s) : TW X B e ss Q' := ⟨PTimp h.p fun σ H QQ ⟨s, k⟩ => ⟨s, fun b s1 H1 q1 => k b s1 H1 (q b s1 q1)⟩⟩
theorem TsW.mono {es : List Expr} {Q Q' : Bool → SS → Prop} (h : TsW X B es ss Q) (q : ∀ b s, Q b s → Q' b s) : TsW X B es ss Q' := ⟨⟨fun pins s σ H QQ I ⟨sat, k⟩ => h.p.run pins s σ H QQ I ⟨sat, fun b s1 H1 q1 => k b s1 H1 (q b s1 q1)⟩⟩⟩
theorem TgW.mono {d : D} {vs : List Nat} {R R' : SS → Prop} (h : TgW X B e d vs ss R) (q : ∀ s, R s → R' s) : TgW X B e d vs ss R' := ⟨PGimp h.p fun u σ H QQ ⟨s, r, k⟩ => ⟨s, r, fun s1 σ1 q1 => k s1 σ1 (q s1 q1)⟩⟩
end
/-- a turn that makes r (where the test tells so) and changes nothing -/
def MapT (X : Cx) (B : Bs) (scope : Scope) (elt tg : Expr) (ifs : List Expr) (vs : List Nat) (jx : Nat) (sl : List (Option D)) (cs : Cs) (dj : D) (b : Bool) (r : D) : Prop :=
  ∀ l acc, Blk X scope fun X' => TgW X' B tg dj vs ⟨wipeD sl vs, insAt jx cs (l, Cell.lst acc)⟩ fun s2 => Blk X scope fun X' => TsW X' B ifs s2 fun b' s3 => b' = b ∧ s3.cs = insAt jx cs (l, Cell.lst acc) ∧
    (b = true → Blk X scope fun X' => EW X' B elt s3 fun r' s4 => r' = r ∧ s4.cs = insAt jx cs (l, Cell.lst acc))
theorem MapT.turn {X : Cx} {B : Bs} {scope : Scope} {elt tg : Expr} {ifs : List Expr} {vs : List Nat} {jx : Nat} {sl : List (Option D)} {cs : Cs} {dj r : D} {b : Bool} {acc : List D} {Nx : List D → Cs → Prop} (h : MapT X B scope elt tg ifs vs jx sl cs dj b r) (q : Nx (acc ++ if b then [r] else []) cs) :
    LcTurn X B scope elt tg ifs vs jx sl dj acc cs Nx := fun l => by
  intro s H D cl fp
  refine (h l acc s H D cl fp).mono fun s2 h2 => ?_
  intro s' H' D' cl' fp'
  refine (h2 s' H' D' cl' fp').mono fun b' s3 ⟨e1, e2, h3⟩ => ?_
  subst e1
  cases b' with
  | true =>
    refine br_t ?_
    intro s4 H4 D4 cl4 fp4
    refine (h3 rfl s4 H4 D4 cl4 fp4).mono fun r' s5 ⟨e3, e4⟩ => ?_
    subst e3
    exact ⟨cs, e4, q⟩
  | false =>
    rw [show acc ++ (if false = true then [r] else []) = acc from List.append_nil acc] at q
    exact br_f ⟨cs, e2, q⟩
def selM {α : Type} (xs : List α) (p : α → Bool) (f : α → D) : List D := (xs.filter p).map f
theorem selM_next {α : Type} {xs : List α} {p : α → Bool} {f : α → D} {i : Nat} {x : α} (h : xs[i]? = some x) : selM (xs.take (i + 1)) p f = selM (xs.take i) p f ++ if p x then [f x] else [] := by
  unfold selM
  rw [List.take_add_one, h, List.filter_append, List.map_append]
  congr 1
  cases e : p x with
  | true => simp [e]
  | false => simp [e]
theorem selM_len {α : Type} (xs : List α) (p : α → Bool) (f : α → D) : (selM xs p f).length ≤ xs.length := by
  unfold selM
  rw [List.length_map]
  exact List.length_filter_le _ _
theorem selM_all {α : Type} (xs : List α) (f : α → D) : selM xs (fun _ => true) f = xs.map f := by
  unfold selM
  rw [List.filter_eq_self.mpr fun _ _ => rfl]
section
variable {X : Cx} {B : Bs} {ss : SS} {Q : D → SS → Prop} {elt tg iter : Expr} {ifs : List Expr} {pos : Pos} {scope : Scope}
/-- [elt for tg in iter if ..] of things that change nothing; iter a list or a tuple of ys, told by em -/
theorem ew_selL {α : Type} (em f : α → D) (p : α → Bool) (own : List (Str × Nat)) (jx : Nat) (hc : X.calm = true) (hN : X.N.Nodup) (ok : BlkOk X.N X.env.scope scope own)
    (h : EW X B iter ss fun d s => ∃ ys : List α, d = .lst (ys.map em) ∧ ys.length ≤ sizeLine ∧ (∀ (i : Nat) (y : α), ys[i]? = some y → MapT X B scope elt tg ifs (own.map (·.2)) jx s.sl s.cs (em y) (p y) (f y)) ∧ Q (.lst (selM ys p f)) s)
    (hs : ∀ x, foldedSetIterable iter X.env x = pure x := by intro _; rfl) : EW X B (.ListComp elt [⟨tg, iter, ifs, 0⟩] scope pos) ss Q :=
  ew_lcL own jx hc hN ok (h.mono fun d s ⟨ys, e, hl, t, q⟩ => ⟨ys.map em, e, by rw [List.length_map]; exact hl, fun i acc cs => cs = s.cs ∧ acc = selM (ys.take i) p f, ⟨rfl, rfl⟩, fun i dj acc cs hd hI => by
    obtain ⟨rfl, rfl⟩ := hI
    rw [List.getElem?_map] at hd
    obtain ⟨y, hy, rfl⟩ := Option.map_eq_some_iff.mp hd
    exact ⟨Nat.le_trans (selM_len _ _ _) (by rw [List.length_take]; omega), (t i y hy).turn ⟨rfl, (selM_next hy).symm⟩⟩, fun acc cs hI => by
    obtain ⟨rfl, rfl⟩ := hI
    rw [List.length_map, List.take_length]
    exact q⟩) hs
theorem ew_selT {α : Type} (em f : α → D) (p : α → Bool) (own : List (Str × Nat)) (jx : Nat) (hc : X.calm = true) (hN : X.N.Nodup) (ok : BlkOk X.N X.env.scope scope own)
    (h : EW X B iter ss fun d s => ∃ ys : List α, d = .tup (ys.map em) ∧ ys.length ≤ sizeLine ∧ (∀ (i : Nat) (y : α), ys[i]? = some y → MapT X B scope elt tg ifs (own.map (·.2)) jx s.sl s.cs (em y) (p y) (f y)) ∧ Q (.lst (selM ys p f)) s)
    (hs : ∀ x, foldedSetIterable iter X.env x = pure x := by intro _; rfl) : EW X B (.ListComp elt [⟨tg, iter, ifs, 0⟩] scope pos) ss Q :=
  ew_lcT own jx hc hN ok (h.mono fun d s ⟨ys, e, hl, t, q⟩ => ⟨ys.map em, e, by rw [List.length_map]; exact hl, fun i acc cs => cs = s.cs ∧ acc = selM (ys.take i) p f, ⟨rfl, rfl⟩, fun i dj acc cs hd hI => by
    obtain ⟨rfl, rfl⟩ := hI
    rw [List.getElem?_map] at hd
    obtain ⟨y, hy, rfl⟩ := Option.map_eq_some_iff.mp hd
    exact ⟨Nat.le_trans (selM_len _ _ _) (by rw [List.length_take]; omega), (t i y hy).turn ⟨rfl, (selM_next hy).symm⟩⟩, fun acc cs hI => by
    obtain ⟨rfl, rfl⟩ := hI
    rw [List.length_map, List.take_length]
    exact q⟩) hs
/-- the same over a changing instance whose __iter__ walks a tuple that stands in a field's field -/
theorem ew_selI2 {α : Type} {f1 f2 : Str} {C C2 : Addr} {CX : CXT} {n : Nat} (em f : α → D) (p : α → Bool) (own : List (Str × Nat)) (jx : Nat) {g : Addr} {fd : FuncData} (hc : X.calm = true) (hx0 : X.ex = []) (hN : X.N.Nodup) (ok : BlkOk X.N X.env.scope scope own)
    (m : Meth X.K C "__iter__" g) (G : Owp.FnN X.prog X.w X.K X.mg X.base CX n g fd ["self"] (spItT2 C f1 C2 f2)) (hb : L2.Binds X.K fd ["self"] []) (hr : Room n X.A) {E' : XK} (hx : Passes CX X E')
    (h : EW X B iter ss fun d s => ∃ (a : Addr) (j : Nat) (fs : List (Str × D)) (fs2 : List (Str × D)) (ys : List α), d = .own a ∧ s.cs[j]? = some (a, Cell.ins C fs) ∧ fs.lookup f1 = some (.obj C2 fs2) ∧ fs2.lookup f2 = some (.tup (ys.map em)) ∧ ys.length ≤ sizeLine ∧
      (∀ (i : Nat) (y : α), ys[i]? = some y → MapT X B scope elt tg ifs (own.map (·.2)) jx s.sl s.cs (em y) (p y) (f y)) ∧ Q (.lst (selM ys p f)) s)
    (hs : ∀ x, foldedSetIterable iter X.env x = pure x := by intro _; rfl) : EW X B (.ListComp elt [⟨tg, iter, ifs, 0⟩] scope pos) ss Q :=
  ew_lcI2 own jx hc hx0 hN ok m G hb hr hx (h.mono fun d s ⟨a, j, fs, fs2, ys, e, hj, l1, l2, hl, t, q⟩ => ⟨a, j, fs, fs2, ys.map em, e, hj, l1, l2, by rw [List.length_map]; exact hl, fun i acc cs => cs = s.cs ∧ acc = selM (ys.take i) p f, ⟨rfl, rfl⟩, fun i dj acc cs hd hI => by
    obtain ⟨rfl, rfl⟩ := hI
    rw [List.getElem?_map] at hd
    obtain ⟨y, hy, rfl⟩ := Option.map_eq_some_iff.mp hd
    exact ⟨Nat.le_trans (selM_len _ _ _) (by rw [List.length_take]; omega), (t i y hy).turn ⟨rfl, (selM_next hy).symm⟩⟩, fun acc cs hI => by
    obtain ⟨rfl, rfl⟩ := hI
    rw [List.length_map, List.take_length]
    exact q⟩) hs
/-- name = [..] on one line, of things that change nothing -/
theorem s1_selL {α : Type} {k : Kt} (i0_ : Nat) {y : Str} {py spos : Pos} (em f : α → D) (p : α → Bool) (own : List (Str × Nat)) (jx : Nat) (hc : X.calm = true) (hN : X.N.Nodup) (hy : X.N[i0_]? = some y) (hyl : X.env.scope.names.lookup y = some .local) (ok : BlkOk X.N X.env.scope scope own)
    (h : EW X B iter ss fun d s => ∃ ys : List α, d = .lst (ys.map em) ∧ ys.length ≤ sizeLine ∧ (∀ (i : Nat) (y : α), ys[i]? = some y → MapT X B scope elt tg ifs (own.map (·.2)) jx s.sl s.cs (em y) (p y) (f y)) ∧ k.nx ⟨s.sl.set i0_ (some (.lst (selM ys p f))), s.cs⟩)
    (hs : ∀ x, foldedSetIterable iter X.env x = pure x := by intro _; rfl) (hsw : swapsWith (.ListComp elt [⟨tg, iter, ifs, 0⟩] scope pos) (some (.Name y py)) spos.line X.env = pure true := by rfl) : S1 X B (.Assign [.Name y py] (.ListComp elt [⟨tg, iter, ifs, 0⟩] scope pos) spos) ss k :=
  s1_lcL i0_ own jx hc hN hy hyl ok (h.mono fun d s ⟨ys, e, hl, t, q⟩ => ⟨ys.map em, e, by rw [List.length_map]; exact hl, fun i acc cs => cs = s.cs ∧ acc = selM (ys.take i) p f, ⟨rfl, rfl⟩, fun i dj acc cs hd hI => by
    obtain ⟨rfl, rfl⟩ := hI
    rw [List.getElem?_map] at hd
    obtain ⟨y, hy, rfl⟩ := Option.map_eq_some_iff.mp hd
    exact ⟨Nat.le_trans (selM_len _ _ _) (by rw [List.length_take]; omega), (t i y hy).turn ⟨rfl, (selM_next hy).symm⟩⟩, fun acc cs hI => by
    obtain ⟨rfl, rfl⟩ := hI
    rw [List.length_map, List.take_length]
    exact q⟩) hs hsw
theorem s1_selT {α : Type} {k : Kt} (i0_ : Nat) {y : Str} {py spos : Pos} (em f : α → D) (p : α → Bool) (own : List (Str × Nat)) (jx : Nat) (hc : X.calm = true) (hN : X.N.Nodup) (hy : X.N[i0_]? = some y) (hyl : X.env.scope.names.lookup y = some .local) (ok : BlkOk X.N X.env.scope scope own)
    (h : EW X B iter ss fun d s => ∃ ys : List α, d = .tup (ys.map em) ∧ ys.length ≤ sizeLine ∧ (∀ (i : Nat) (y : α), ys[i]? = some y → MapT X B scope elt tg ifs (own.map (·.2)) jx s.sl s.cs (em y) (p y) (f y)) ∧ k.nx ⟨s.sl.set i0_ (some (.lst (selM ys p f))), s.cs⟩)
    (hs : ∀ x, foldedSetIterable iter X.env x = pure x := by intro _; rfl) (hsw : swapsWith (.ListComp elt [⟨tg, iter, ifs, 0⟩] scope pos) (some (.Name y py)) spos.line X.env = pure true := by rfl) : S1 X B (.Assign [.Name y py] (.ListComp elt [⟨tg, iter, ifs, 0⟩] scope pos) spos) ss k :=
  s1_lcT i0_ own jx hc hN hy hyl ok (h.mono fun d s ⟨ys, e, hl, t, q⟩ => ⟨ys.map em, e, by rw [List.length_map]; exact hl, fun i acc cs => cs = s.cs ∧ acc = selM (ys.take i) p f, ⟨rfl, rfl⟩, fun i dj acc cs hd hI => by
    obtain ⟨rfl, rfl⟩ := hI
    rw [List.getElem?_map] at hd
    obtain ⟨y, hy, rfl⟩ := Option.map_eq_some_iff.mp hd
    exact ⟨Nat.le_trans (selM_len _ _ _) (by rw [List.length_take]; omega), (t i y hy).turn ⟨rfl, (selM_next hy).symm⟩⟩, fun acc cs hI => by
    obtain ⟨rfl, rfl⟩ := hI
    rw [List.length_map, List.take_length]
    exact q⟩) hs hsw
/-- name = [.. for .. in x] on one line, x a changing instance -/
theorem s1_lcI2 {k : Kt} {f1 f2 : Str} {C C2 : Addr} {CX : CXT} {n : Nat} (i0_ : Nat) {y : Str} {py spos : Pos} (own : List (Str × Nat)) (jx : Nat) {g : Addr} {fd : FuncData} (hc : X.calm = true) (hx0 : X.ex = []) (hN : X.N.Nodup) (hy : X.N[i0_]? = some y) (hyl : X.env.scope.names.lookup y = some .local) (ok : BlkOk X.N X.env.scope scope own)
    (m : Meth X.K C "__iter__" g) (G : Owp.FnN X.prog X.w X.K X.mg X.base CX n g fd ["self"] (spItT2 C f1 C2 f2)) (hb : L2.Binds X.K fd ["self"] []) (hr : Room n X.A) {E' : XK} (hx : Passes CX X E')
    (h : EW X B iter ss fun d s => ∃ (a : Addr) (j : Nat) (fs : List (Str × D)) (fs2 : List (Str × D)) (ds : List D), d = .own a ∧ s.cs[j]? = some (a, Cell.ins C fs) ∧ fs.lookup f1 = some (.obj C2 fs2) ∧ fs2.lookup f2 = some (.tup ds) ∧ ds.length ≤ sizeLine ∧ ∃ Iv : Nat → List D → Cs → Prop, Iv 0 [] s.cs ∧
      (∀ j dj acc cs, ds[j]? = some dj → Iv j acc cs → acc.length ≤ j ∧ LcTurn X B scope elt tg ifs (own.map (·.2)) jx s.sl dj acc cs (Iv (j + 1))) ∧ ∀ acc cs, Iv ds.length acc cs → k.nx ⟨s.sl.set i0_ (some (.lst acc)), cs⟩)
    (hs : ∀ x, foldedSetIterable iter X.env x = pure x := by intro _; rfl) (hsw : swapsWith (.ListComp elt [⟨tg, iter, ifs, 0⟩] scope pos) (some (.Name y py)) spos.line X.env = pure true := by rfl) : S1 X B (.Assign [.Name y py] (.ListComp elt [⟨tg, iter, ifs, 0⟩] scope pos) spos) ss k :=
  ⟨PSimp (ps_setLc hc hN hy hyl hsw (Owp.pi_ownT hx0 m G hb hr hx h.p) ok pg_blk pt_blk pe_blk hs) fun Dd σ H ⟨s, kk, _⟩ => ⟨s, fun v d s1 H1 ⟨a0, j0, fs, fs2, ds, q1, hj0, hl0, hl1, hl, Iv, i0, i1, i2⟩ sat1 e1 r1 => by
    subst q1
    cases r1
    obtain ⟨dx, vs, eo, ro⟩ := sat1.ok.ok _ _ (List.mem_of_getElem? hj0)
    obtain ⟨u0, hu0, ru0⟩ := ro.lookup hl0
    cases ru0 with
    | @obj b0 _ dx2 vs2 _ eo2 no2 ro2 =>
      obtain ⟨u, hu, ru⟩ := ro2.lookup hl1
      cases ru with
      | @tup a xs _ ea n r =>
        refine ⟨a0, dx, vs, rfl, eo, a0, dx, vs, b0, dx2, vs2, a, xs, rfl, eo, hu0, eo2, hu, ea, fun it hit hN => ⟨it, a, rfl, upd_same, hN, ?_, ?_⟩⟩
        · rw [del_upd hit]
          exact ⟨xs, SqT.of ea⟩
        · rw [del_upd hit]
          intro l hnew
          refine lc_tup (K := X.K) (a := a) (xs := xs) (fun i H' => ∃ acc cs, Iv i acc cs ∧ LcAt B s1.sl s1.cs H1 (own.map (·.2)) σ jx l acc cs H') ⟨[], s1.cs, i0, lc_start sat1 hnew⟩ (fun i H' _ ⟨acc, cs, _, st⟩ => SqT.of (st.ext.kp _ _ n ntT ea)) (fun i y H' hy ⟨acc, cs, q, st⟩ => ?_) fun H' ⟨acc, cs, q, st⟩ => ?_
          · obtain ⟨dj, hd, rd⟩ := r.back hy
            obtain ⟨hacc, turn⟩ := i1 i dj acc cs hd q
            have hi := (List.getElem?_eq_some_iff.mp hd).1
            exact lc_go (by omega) st (rd.ext st.ext) turn fun acc' cs' H'' nq st' => ⟨acc', cs', nq, st'⟩
          · rw [r.len] at q
            exact lc_end (ss := ss) (Q := fun d s' => k.nx ⟨s'.sl.set i0_ (some d), s'.cs⟩) (QQ := fun x H1 => Dd.nx (σ.set i0_ (some x)) H1) sat1 e1 st (fun v d ss' H' q sat e r => kk _ _ _ q (sat.set r) e) (i2 acc cs q)⟩⟩
theorem s1_selI2 {α : Type} {k : Kt} {f1 f2 : Str} {C C2 : Addr} {CX : CXT} {n : Nat} (i0_ : Nat) {y : Str} {py spos : Pos} (em f : α → D) (p : α → Bool) (own : List (Str × Nat)) (jx : Nat) {g : Addr} {fd : FuncData} (hc : X.calm = true) (hx0 : X.ex = []) (hN : X.N.Nodup) (hy : X.N[i0_]? = some y) (hyl : X.env.scope.names.lookup y = some .local) (ok : BlkOk X.N X.env.scope scope own)
    (m : Meth X.K C "__iter__" g) (G : Owp.FnN X.prog X.w X.K X.mg X.base CX n g fd ["self"] (spItT2 C f1 C2 f2)) (hb : L2.Binds X.K fd ["self"] []) (hr : Room n X.A) {E' : XK} (hx : Passes CX X E')
    (h : EW X B iter ss fun d s => ∃ (a : Addr) (j : Nat) (fs : List (Str × D)) (fs2 : List (Str × D)) (ys : List α), d = .own a ∧ s.cs[j]? = some (a, Cell.ins C fs) ∧ fs.lookup f1 = some (.obj C2 fs2) ∧ fs2.lookup f2 = some (.tup (ys.map em)) ∧ ys.length ≤ sizeLine ∧
      (∀ (i : Nat) (y : α), ys[i]? = some y → MapT X B scope elt tg ifs (own.map (·.2)) jx s.sl s.cs (em y) (p y) (f y)) ∧ k.nx ⟨s.sl.set i0_ (some (.lst (selM ys p f))), s.cs⟩)
    (hs : ∀ x, foldedSetIterable iter X.env x = pure x := by intro _; rfl) (hsw : swapsWith (.ListComp elt [⟨tg, iter, ifs, 0⟩] scope pos) (some (.Name y py)) spos.line X.env = pure true := by rfl) : S1 X B (.Assign [.Name y py] (.ListComp elt [⟨tg, iter, ifs, 0⟩] scope pos) spos) ss k :=
  s1_lcI2 i0_ own jx hc hx0 hN hy hyl ok m G hb hr hx (h.mono fun d s ⟨a, j, fs, fs2, ys, e, hj, l1, l2, hl, t, q⟩ => ⟨a, j, fs, fs2, ys.map em, e, hj, l1, l2, by rw [List.length_map]; exact hl, fun i acc cs => cs = s.cs ∧ acc = selM (ys.take i) p f, ⟨rfl, rfl⟩, fun i dj acc cs hd hI => by
    obtain ⟨rfl, rfl⟩ := hI
    rw [List.getElem?_map] at hd
    obtain ⟨y, hy, rfl⟩ := Option.map_eq_some_iff.mp hd
    exact ⟨Nat.le_trans (selM_len _ _ _) (by rw [List.length_take]; omega), (t i y hy).turn ⟨rfl, (selM_next hy).symm⟩⟩, fun acc cs hI => by
    obtain ⟨rfl, rfl⟩ := hI
    rw [List.length_map, List.take_length]
    exact q⟩) hs hsw
end
end Sx
set_option Elab.async false
set_option linter.all false
set_option maxRecDepth 100000
set_option maxHeartbeats 4000000
namespace Sx
open PySem PySem.Spec PyProof.Rows L2
theorem paired_app {α β : Type} {R : α → β → Prop} : ∀ {xs xs' : List α} {ys ys' : List β}, Paired R xs ys → Paired R xs' ys' → Paired R (xs ++ xs') (ys ++ ys')
  | _, _, _, _, .nil, q => q
  | _, _, _, _, .cons h t, q => .cons h (paired_app t q)
theorem paired_rev {α β : Type} {R : α → β → Prop} : ∀ {xs : List α} {ys : List β}, Paired R xs ys → Paired R xs.reverse ys.reverse
  | _, _, .nil => .nil
  | _, _, .cons h t => by
    rw [List.reverse_cons, List.reverse_cons]
    exact paired_app (paired_rev t) (.cons h .nil)
theorem vlL_rev {H : Hp} {M : Addr → Prop} : ∀ {vs : List V} {ds : List D}, VlL H M vs ds → VlL H M vs.reverse ds.reverse
  | _, _, .nil => .nil
  | _, _, .cons h t => by
    rw [List.reverse_cons, List.reverse_cons]
    exact (vlL_rev t).app (.cons h .nil)
section
variable {X : Cx} {B : Bs} {ss : SS} {Q : D → SS → Prop} {pos p : Pos} {CX : CXT} {n : Nat} {x : Str} {C : Addr} {ps ks : List Str} {F : FT} {kws : List Keyword}
/-- C(k = v, ..), the keywords in the order of the parameters turned round -/
theorem ew_makeK0 {E' : XK} {KE' : Addr → List (Str × D) → Cs → Prop} {f : Addr} (xs : Exs B E' KE') {fd : FuncData} {gg : List Value → List Value → List Value} (M : Mk X.K C f) (G : FnOk X.prog X.w X.K X.mg X.base CX n f fd ps (spF F)) (hr : Room (n + 1) X.A) (hg : Gl X x) (hm : X.mg x = some (.ref C))
    (hb : KBn X.K fd ps 1 ks gg (fun vs zs => vs ++ zs.reverse)) (hx : Passes CX X E')
    (h : KW X B kws ss fun ds s => ds.length = ks.length ∧ ∀ x, F (.own x :: ds.reverse) ((x, .ins C []) :: s.cs) (fun d cs => d = .non ∧ ∃ fs cs1, cs = (x, .ins C fs) :: cs1 ∧ Q (.obj C fs) ⟨s.sl, cs1⟩) (fun Ce fs cs => ∃ c cs1, cs = (x, c) :: cs1 ∧ KE' Ce fs cs1))
    (hall : (backToKw pos (keywordEach kws X.env)).all (·.1.isSome) = true := by rfl) (hks : (backToKw pos (keywordEach kws X.env)).filterMap (·.1) = ks := by rfl) (hdb : (x == ("__debug__" : Str)) = false := by decide)
    (hpl : ((backTo pos (starEach [] X.env)).any (·.1) || (backToKw pos (keywordEach kws X.env)).any (·.1.isNone)) = false := by rfl) : EW X B (.Call (.Name x p) [] kws pos) ss Q :=
  ⟨PEimp (pe_makeK0 M G hr hg hm hb hx h.p hall hks hdb hpl) fun σ H QQ ⟨s, k⟩ => ⟨s, fun vs ds s1 H1 ⟨q0, q1⟩ sat1 e1 r1 => ⟨rfl, by rw [r1.len]; exact q0, fun y dy ny nd ne => by
    show spF F (.ref y :: vs.reverse) _ _ E'
    obtain ⟨ok2, e2⟩ := made_ok (C := C) sat1.ok ny nd ne
    refine ⟨_, _, _, _, .cons (.own y) (vlL_rev (r1.ext e2)), ok2, q1 y, fun v d H' cs' q e ok rv => ?_, fun C fs cs' z vs H' q e ok hz rf => ?_⟩
    · obtain ⟨rfl, fs, cs1, rfl, q⟩ := q
      cases rv
      obtain ⟨ok3, e3, n3, c3⟩ := drop_ok ok
      obtain ⟨dz, vz, h1, h2⟩ := c3
      exact ⟨rfl, k _ _ ⟨s1.sl, cs1⟩ H' q (sat1.cs ((e2.trans e).trans e3) ok3) (e1.trans ((e2.trans e).trans e3)) (.obj h1 n3 h2)⟩
    · obtain ⟨c, cs1, rfl, q⟩ := q
      obtain ⟨ok3, e3, n3, c3⟩ := drop_ok ok
      exact xs.go sat1 q ((e2.trans e).trans e3) ok3 hz (rf.ext e3)⟩⟩⟩
/-- C(..), the parameters left out by their defaults; the instance stays as it is made -/
theorem ew_makeD {E' : XK} {KE' : Addr → List (Str × D) → Cs → Prop} {f : Addr} {us : List Value} {dvs : List V} {dds : List D} {e : Expr} {es : List Expr} (xs : Exs B E' KE') {fd : FuncData} (M : Mk X.K C f) (G : FnOk X.prog X.w X.K X.mg X.base CX n f fd ps (spF F)) (hr : Room (n + 1) X.A) (hg : Gl X x) (hm : X.mg x = some (.ref C)) (hb : L2.Binds X.K fd ps us) (hd : Vals dvs us) (hv : ∀ H M, VlL H M dvs dds) (hx : Passes CX X E')
    (h : AW X B (e :: es) ss fun ds s => ∀ x, F (.own x :: (ds ++ dds)) ((x, .ins C []) :: s.cs) (fun d cs => d = .non ∧ ∃ fs cs1, cs = (x, .ins C fs) :: cs1 ∧ Q (.obj C fs) ⟨s.sl, cs1⟩) (fun Ce fs cs => ∃ c cs1, cs = (x, c) :: cs1 ∧ KE' Ce fs cs1))
    (hdb : (x == ("__debug__" : Str)) = false := by decide) (he : starEach (e :: es) X.env = (false, eval e X.env) :: starEach es X.env := by rfl) (hpl : (backTo pos (starEach es X.env)).any (·.1) = false := by rfl) : EW X B (.Call (.Name x p) (e :: es) [] pos) ss Q :=
  ⟨PEimp (pe_make M G hr hg hm hb hd hx h.p hdb he hpl) fun σ H QQ ⟨s, k⟩ => ⟨s, fun vs ds s1 H1 q1 sat1 e1 r1 y dy ny nd ne => by
    show spF F (.ref y :: (vs ++ dvs)) _ _ E'
    obtain ⟨ok2, e2⟩ := made_ok (C := C) sat1.ok ny nd ne
    refine ⟨_, _, _, _, .cons (.own y) ((r1.ext e2).app (hv _ _)), ok2, q1 y, fun v d H' cs' q e ok rv => ?_, fun C fs cs' z vs H' q e ok hz rf => ?_⟩
    · obtain ⟨rfl, fs, cs1, rfl, q⟩ := q
      cases rv
      obtain ⟨ok3, e3, n3, c3⟩ := drop_ok ok
      obtain ⟨dz, vz, h1, h2⟩ := c3
      exact ⟨rfl, k _ _ ⟨s1.sl, cs1⟩ H' q (sat1.cs ((e2.trans e).trans e3) ok3) (e1.trans ((e2.trans e).trans e3)) (.obj h1 n3 h2)⟩
    · obtain ⟨c, cs1, rfl, q⟩ := q
      obtain ⟨ok3, e3, n3, c3⟩ := drop_ok ok
      exact xs.go sat1 q ((e2.trans e).trans e3) ok3 hz (rf.ext e3)⟩⟩
theorem od_eqB {b : Bool} (hu : X.A.units + 64 < cLine) {d1 d2 : D} (h1 : d1.ok = true) (h2 : d2.ok = true) (e : D.eqv d1 d2 = b) (q : Q (.bl b) ss) : OpD X B (compareOp .Eq) d1 d2 ss Q := od_eq hu h1 h2 (by rw [e]; exact q)
theorem od_neB {b : Bool} (hu : X.A.units + 64 < cLine) {d1 d2 : D} (h1 : d1.ok = true) (h2 : d2.ok = true) (e : D.eqv d1 d2 = b) (q : Q (.bl (!b)) ss) : OpD X B (compareOp .NotEq) d1 d2 ss Q := od_ne hu h1 h2 (by rw [e]; exact q)
end
end Sx
set_option Elab.async false
set_option linter.all false
set_option maxRecDepth 100000
set_option maxHeartbeats 4000000
namespace K41
open PySem PySem.Spec PyProof.Rows L2 Sx
local macro_rules | `(tactic| walk_at "c") => `(tactic| first
  | refine aw_cons ?_ | refine aw_nil ?_
  | refine ew_int ?_ | refine ew_non ?_ | refine ew_bl ?_ | refine ew_str ?_
  | refine ew_bin ?_ | refine ew_cmp ?_ | refine tw_cmp ?_ | refine tw_not ?_ | refine ew_chain ?_ | refine tw_chain ?_ | refine ew_and ?_ | refine ew_or ?_ | refine ew_one ?_ | refine ew_not ?_ | refine ew_neg ?_ | refine ew_if ?_
  | refine tw_w (ww_and ?_) | refine tw_w (ww_or ?_) | refine ww_and ?_ | refine ww_or ?_ | refine ww_and1 ?_ | refine ww_or1 ?_
  | refine tw_val (e := .Call _ _ _ _) ?_ | refine ew_tup ?_ | refine ew_ix ?_ | refine ew_lst ?_
  | refine sw_cons ?_ | refine s1_ret ?_ | refine s1_if ?_ | refine sw_nil ?_ | refine s1_expr ?_
  | refine od_add ?_ | refine od_sub ?_ | refine od_lt ?_ | refine od_le ?_ | refine od_gt ?_ | refine od_ge ?_
  | refine isB ?_ | refine intD ?_ | refine br_t ?_ | refine br_f ?_
  | refine ⟨szl (Nat.le_of_ble_eq_true rfl), ?_⟩)
local macro_rules | `(tactic| walk_at "n") => `(tactic| first
  | refine ew_name 0 rfl (by first | exact .inl rfl | exact .inr (.inl rfl) | exact .inr (.inr rfl)) rfl ?_
  | refine ew_name 1 rfl (by first | exact .inl rfl | exact .inr (.inl rfl) | exact .inr (.inr rfl)) rfl ?_
  | refine ew_name 2 rfl (by first | exact .inl rfl | exact .inr (.inl rfl) | exact .inr (.inr rfl)) rfl ?_
  | refine ew_name 3 rfl (by first | exact .inl rfl | exact .inr (.inl rfl) | exact .inr (.inr rfl)) rfl ?_
  | refine ew_name 4 rfl (by first | exact .inl rfl | exact .inr (.inl rfl) | exact .inr (.inr rfl)) rfl ?_
  | refine ew_name 5 rfl (by first | exact .inl rfl | exact .inr (.inl rfl) | exact .inr (.inr rfl)) rfl ?_
  | refine ew_name 6 rfl (by first | exact .inl rfl | exact .inr (.inl rfl) | exact .inr (.inr rfl)) rfl ?_
  | refine ew_name 7 rfl (by first | exact .inl rfl | exact .inr (.inl rfl) | exact .inr (.inr rfl)) rfl ?_
  | refine ew_name 8 rfl (by first | exact .inl rfl | exact .inr (.inl rfl) | exact .inr (.inr rfl)) rfl ?_
  | refine ew_name 9 rfl (by first | exact .inl rfl | exact .inr (.inl rfl) | exact .inr (.inr rfl)) rfl ?_
  | refine ew_name 10 rfl (by first | exact .inl rfl | exact .inr (.inl rfl) | exact .inr (.inr rfl)) rfl ?_
  | refine ew_name 11 rfl (by first | exact .inl rfl | exact .inr (.inl rfl) | exact .inr (.inr rfl)) rfl ?_
  | refine ew_name 12 rfl (by first | exact .inl rfl | exact .inr (.inl rfl) | exact .inr (.inr rfl)) rfl ?_)
local macro_rules | `(tactic| walk_at "i") => `(tactic| (refine' cl_isi (.ty _) ?a ?b ?_; (case a => constructor); (case b => with_reducible first | exact kit_int_int | exact kit_int_bool | exact kit_bool_int | exact kit_bool_bool | exact kit_NoneType_int | exact kit_str_int | exact kit_list_int | exact kit_tuple_int | exact kit_dict_int | exact kit_tuple_tuple | exact kit_int_tuple | exact kit_NoneType_tuple | exact kit_bool_tuple | exact kit_str_tuple | exact kit_list_tuple | exact kit_dict_tuple)))
local macro_rules | `(tactic| walk_at "l") => `(tactic| first
  | refine ew_isinstance (Tx.f_isinstance (by assumption)) ?_ | refine ew_len (Tx.f_len (by assumption)) ?_ | refine ew_vint (Tx.f_int (by assumption)) ?_ | refine ew_vbool (Tx.f_bool (by assumption)) ?_ | refine ew_vtuple (Tx.f_tuple (by assumption)) ?_ | refine ew_vstr (Tx.f_str (by assumption)) ?_
  | refine ew_gint (Tx.i_FAR (by assumption)) (by rfl) ?_ | refine ew_gint (Tx.i_FAR_TALLY (by assumption)) (by rfl) ?_ | refine ew_gint (Tx.i_MOST_PATIENCE (by assumption)) (by rfl) ?_ | refine ew_gint (Tx.i_MOST_LIFE (by assumption)) (by rfl) ?_ | refine ew_gint (Tx.i_MOST_PAIRS (by assumption)) (by rfl) ?_ | refine ew_gint (Tx.i_MOST_WIDTH (by assumption)) (by rfl) ?_ | refine ew_gint (Tx.i_MOST_KEEP (by assumption)) (by rfl) ?_
  | refine cl_len ?_ | refine cl_lenT ?_ | refine ix_tpl rfl ?_ | refine od_is (by intro _ h; cases h) ?_)
local macro_rules | `(tactic| walk_at "x") => `(tactic| repeat (first | walk_at "c" | walk_at "n" | walk_at "l" | walk_at "i"))
abbrev CLk (K : PySem.W.Frag) : Addr := He.ga K "Look"
abbrev CSt (K : PySem.W.Frag) : Addr := He.ga K "State"
abbrev CSo (K : PySem.W.Frag) : Addr := He.ga K "Store"
/-- a look: its moment, tally and life -/
structure Lk where
  m : Int
  t : Int
  l : Int
def lkF (x : Lk) : List (Str × D) := [("moment", .int x.m), ("tally", .int x.t), ("life", .int x.l)]
def lkD (K : PySem.W.Frag) (x : Lk) : D := .obj (CLk K) (lkF x)
def lks (K : PySem.W.Frag) (xs : List Lk) : List D := xs.map (lkD K)
theorem lks_len {K : PySem.W.Frag} (xs : List Lk) : (lks K xs).length = xs.length := List.length_map ..
theorem lks_get {K : PySem.W.Frag} {xs : List Lk} {i : Nat} {x : Lk} (h : xs[i]? = some x) : (lks K xs)[i]? = some (lkD K x) := by
  unfold lks
  rw [List.getElem?_map, h]
  rfl
theorem lks_at {K : PySem.W.Frag} {xs : List Lk} {i : Nat} {d : D} (h : (lks K xs)[i]? = some d) : ∃ x, xs[i]? = some x ∧ d = lkD K x := by
  unfold lks at h
  rw [List.getElem?_map] at h
  cases q : xs[i]? with
  | none => rw [q] at h; cases h
  | some p => rw [q] at h; cases h; exact ⟨p, rfl, rfl⟩
/-- what a store keeps besides its tiers and its patience -/
structure Sta where
  now : Int
  lk : List Lk
  un : List Int
  u : Int
def intsD (xs : List Int) : List D := xs.map D.int
theorem intsD_len (xs : List Int) : (intsD xs).length = xs.length := List.length_map ..
def staF (K : PySem.W.Frag) (s : Sta) : List (Str × D) := [("moment", .int s.now), ("looks", .tup (lks K s.lk)), ("untils", .tup (intsD s.un)), ("until", .int s.u)]
def staD (K : PySem.W.Frag) (s : Sta) : D := .obj (CSt K) (staF K s)
/-- the fields of a store -/
def soF (K : PySem.W.Frag) (l : List Pr) (p : Int) (s : Sta) : List (Str × D) := [("tiers", tO K l), ("patience", .int p), ("_state", staD K s)]
/-- moments in order -/
def Srt (xs : List Lk) : Prop := ∀ (i j : Nat) (x y : Lk), i < j → xs[i]? = some x → xs[j]? = some y → x.m < y.m
/-- how many are not behind a moment -/
def cnt : List Lk → Int → Nat
  | [], _ => 0
  | x :: xs, m => if x.m ≤ m then cnt xs m + 1 else 0
theorem cnt_le : ∀ (xs : List Lk) (m : Int), cnt xs m ≤ xs.length
  | [], _ => Nat.le_refl _
  | x :: xs, m => by
    unfold cnt
    split
    · have := cnt_le xs m
      simp
      exact this
    · exact Nat.zero_le _
theorem Srt.tail {x : Lk} {xs : List Lk} (h : Srt (x :: xs)) : Srt xs := fun i j a b hij ha hb => h (i + 1) (j + 1) a b (by omega) ha hb
theorem cnt_iff : ∀ {xs : List Lk} {m : Int} {i : Nat} {x : Lk}, Srt xs → xs[i]? = some x → (x.m ≤ m ↔ i < cnt xs m)
  | [], _, _, _, _, h => by cases h
  | y :: xs, m, 0, x, s, h => by
    cases h
    unfold cnt
    split
    · rename_i h
      exact ⟨fun _ => by omega, fun _ => h⟩
    · rename_i h
      exact ⟨fun z => absurd z h, fun z => by omega⟩
  | y :: xs, m, i + 1, x, s, h => by
    have ih := cnt_iff (m := m) s.tail (i := i) (x := x) h
    have o := s 0 (i + 1) y x (by omega) rfl h
    unfold cnt
    split
    · rw [ih]
      omega
    · rename_i hy
      exact ⟨fun z => absurd (Int.le_trans (Int.le_of_lt o) z) hy, fun z => by omega⟩
section
variable {P : Program} {w : World} {K : PySem.W.Frag} {mg : Str → Option Value} {base : Heap}
/-- Look(..) -/
def F_look (K : PySem.W.Frag) : FT := fun ds cs Kk _ => ∃ y a b c cs1, ds = [.own y, a, b, c] ∧ cs = (y, Cell.ins (CLk K) []) :: cs1 ∧ Kk .non ((y, Cell.ins (CLk K) [("moment", a), ("tally", b), ("life", c)]) :: cs1)
theorem f_look (T : Tx K mg) : ∃ fd us, FnOk P w K mg base (L2.CX P w) 1 (He.ma K (CLk K) "__init__") fd ["self", "moment", "tally", "life"] (spF (F_look K)) ∧ L2.Binds K fd ["self", "moment", "tally", "life"] [] ∧ L2.Binds K fd ["self", "moment", "tally", "life"] us ∧ Vals [V.int 0] us ∧ ∃ its : List Value, KBn K fd ["self", "moment", "tally", "life"] 1 ["life", "tally", "moment"] (fun us ws => us ++ ws.reverse) (fun vs zs => vs ++ zs.reverse) := by
  obtain ⟨fd, F⟩ := T.q_Look_init
  obtain ⟨u0, hd0, hb0⟩ := F.binds1 (ps := ["self", "moment", "tally", "life"]) 4 1 (by simp) rfl (fun T kV doc pm an cdv ct us its h1 h2 => by
    match us, its, h1, h2 with
    | [a, b, c, e], [d], _, _ => exact ⟨_, rfl, rfl⟩)
  cases hd0
  obtain ⟨us, hd, hb⟩ := F.binds1 (ps := ["self", "moment", "tally", "life"]) 3 0 (by simp) rfl (fun T kV doc pm an cdv ct us its h1 h2 => by
    match us, its, h1, h2 with
    | [a, b, c], [d], _, _ => exact ⟨_, rfl, rfl⟩)
  obtain ⟨its, kb⟩ := F.kbindsD (ps := ["self", "moment", "tally", "life"]) 1 ["life", "tally", "moment"] (fun us _ ws => us ++ ws.reverse) (by simp) (fun r1 _ r3 => paired_app r1 (paired_rev r3)) (fun T kV doc pm an cdv ct us its ws h1 h2 h3 => by
    match us, its, ws, h1, h2, h3 with
    | [a], [d], [b, c, e], _, _, _ => exact ⟨_, rfl, rfl⟩)
  refine ⟨fd, us, okF F (N := ["self", "moment", "tally", "life"]) ⟨rfl, rfl, rfl, by decide +kernel, rfl, by decide +kernel, by decide +kernel⟩ (fun ds cs Kk KE h => ?_) (fun cdv A outer s H E ds cs Kk KE hr h => ?_), hb0, hb, hd, its, kb⟩
  · obtain ⟨_, _, _, _, _, rfl, _⟩ := h
    rfl
  · obtain ⟨y, a, b, c, cs1, rfl, rfl, q⟩ := h
    walk_at "c"
    refine s1_fld T.c_Look T.n_Look_moment ?_
    walk_at "n"
    walk_at "n"
    refine ⟨y, 0, _, rfl, rfl, by decide, ?_⟩
    refine sw_cons ?_
    refine s1_fld T.c_Look T.n_Look_tally ?_
    walk_at "n"
    walk_at "n"
    refine ⟨y, 0, _, rfl, rfl, by show 1 < 1000; decide, ?_⟩
    refine sw_cons ?_
    refine s1_fld T.c_Look T.n_Look_life ?_
    walk_at "n"
    walk_at "n"
    refine ⟨y, 0, _, rfl, rfl, by show 2 < 1000; decide, ?_⟩
    refine sw_nil ?_
    exact q
/-- State(..) -/
def F_state (K : PySem.W.Frag) : FT := fun ds cs Kk _ => ∃ y a b c d cs1, ds = [.own y, a, b, c, d] ∧ cs = (y, Cell.ins (CSt K) []) :: cs1 ∧ Kk .non ((y, Cell.ins (CSt K) [("moment", a), ("looks", b), ("untils", c), ("until", d)]) :: cs1)
theorem g_state (T : Tx K mg) : ∃ fd, FnOk P w K mg base (L2.CX P w) 1 (He.ma K (CSt K) "__init__") fd ["self", "moment", "looks", "untils", "until"] (spF (F_state K)) ∧ L2.Binds K fd ["self", "moment", "looks", "untils", "until"] [] := by
  obtain ⟨fd, F⟩ := T.q_State_init
  refine ⟨fd, okF F (N := ["self", "moment", "looks", "untils", "until"]) ⟨rfl, rfl, rfl, by decide +kernel, rfl, by decide +kernel, by decide +kernel⟩ (fun ds cs Kk KE h => ?_) (fun cdv A outer s H E ds cs Kk KE hr h => ?_), F.bindsN fun kV doc pm an cdv ct us h => by
    match us, h with
    | [a, b, c, d, e], _ => rfl⟩
  · obtain ⟨_, _, _, _, _, _, rfl, _⟩ := h
    rfl
  · obtain ⟨y, a, b, c, d, cs1, rfl, rfl, q⟩ := h
    walk_at "c"
    refine s1_fld T.c_State T.n_State_moment ?_
    walk_at "n"
    walk_at "n"
    refine ⟨y, 0, _, rfl, rfl, by decide, ?_⟩
    refine sw_cons ?_
    refine s1_fld T.c_State T.n_State_looks ?_
    walk_at "n"
    walk_at "n"
    refine ⟨y, 0, _, rfl, rfl, by show 1 < 1000; decide, ?_⟩
    refine sw_cons ?_
    refine s1_fld T.c_State T.n_State_untils ?_
    walk_at "n"
    walk_at "n"
    refine ⟨y, 0, _, rfl, rfl, by show 2 < 1000; decide, ?_⟩
    refine sw_cons ?_
    refine s1_fld T.c_State T.n_State_until ?_
    walk_at "n"
    walk_at "n"
    refine ⟨y, 0, _, rfl, rfl, by show 3 < 1000; decide, ?_⟩
    refine sw_nil ?_
    exact q
def F_told (K : PySem.W.Frag) : FT := fun ds cs Kk _ => ∃ a b c, ds = [.obj (CLk K) [("moment", a), ("tally", b), ("life", c)]] ∧ Kk (.tup [a, b, c]) cs
theorem d_told (T : Tx K mg) : Dfs.Dfn P w K mg base (L2.CX P w) 1 "told_of" ["look"] (spF (F_told K)) := by
  refine dfnF T.q_told_of T.g_told_of (N := ["look"]) ⟨rfl, rfl, rfl, by decide +kernel, rfl, by decide +kernel, by decide +kernel⟩ (fun kV doc pm an cdv ct => Vls.bind1 fun a => rfl) (fun ds cs Kk KE h => ?_) (fun cdv A outer s H E ds cs Kk KE hr h => ?_)
  · obtain ⟨_, _, _, rfl, _⟩ := h
    rfl
  · obtain ⟨a, b, c, rfl, q⟩ := h
    walk_at "c"
    walk_at "c"
    refine ew_tup (aw_cons (ew_fld T.c_Look T.n_Look_moment ?_))
    walk_at "n"
    refine ⟨_, .obj rfl, aw_cons (ew_fld T.c_Look T.n_Look_tally ?_)⟩
    walk_at "n"
    refine ⟨_, .obj rfl, aw_cons (ew_fld T.c_Look T.n_Look_life ?_)⟩
    walk_at "n"
    refine ⟨_, .obj rfl, aw_nil ⟨szl (Nat.le_of_ble_eq_true rfl), ?_⟩⟩
    exact q
/-- how many looks are not behind a moment -/
def F_many (K : PySem.W.Frag) : FT := fun ds cs Kk _ => ∃ xs m, ds = [.tup (lks K xs), .int m] ∧ Srt xs ∧ Kk (.int (cnt xs m)) cs
theorem d_many (T : Tx K mg) : Dfs.Dfn P w K mg base (L2.CX P w) 1 "many_up_to" ["looks", "moment"] (spF (F_many K)) := by
  have nd : (["looks", "moment", "low", "high", "middle"] : List Str).Nodup := by decide +kernel
  refine dfnF T.q_many_up_to T.g_many_up_to (N := ["looks", "moment", "low", "high", "middle"]) ⟨rfl, rfl, rfl, by decide +kernel, rfl, by decide +kernel, by decide +kernel⟩ (fun kV doc pm an cdv ct => Vls.bind2 fun a b => rfl) (fun ds cs Kk KE h => ?_) (fun cdv A outer s H E ds cs Kk KE hr h => ?_)
  · obtain ⟨_, _, rfl, _⟩ := h
    rfl
  · obtain ⟨xs, m, rfl, st, q⟩ := h
    have cl := cnt_le xs m
    refine sw_cons (s1_par 2 3 rfl nd rfl rfl (by decide) rfl rfl (aw_cons (ew_int (aw_cons (ew_len T.f_len (aw_cons ?_))))))
    walk_at "n"
    refine aw_nil (cl_lenT (aw_nil ⟨_, _, rfl, ?_⟩))
    rw [lks_len]
    refine sw_cons (s1_while (passes_of rfl) ⟨fun n s => ∃ (lo hi : Nat) (x4 : Option D), s = ⟨[some (.tup (lks K xs)), some (.int m), some (.int lo), some (.int hi), x4], cs⟩ ∧ lo ≤ cnt xs m ∧ cnt xs m ≤ hi ∧ hi ≤ xs.length ∧ hi - lo = n, ⟨xs.length, 0, xs.length, none, rfl, Nat.zero_le _, cl, Nat.le_refl _, rfl⟩, ?_⟩)
    rintro n s ⟨lo, hi, x4, rfl, h1, h2, h3, h4⟩
    refine tw_cmp ?_
    walk_at "n"
    walk_at "n"
    refine od_lt (isB ⟨fun hl => ?_, fun hl => ?_⟩)
    · have hl := of_decide_eq_true hl
      refine sw_cons (s1_set 4 nd rfl (.inl rfl) (ew_bin (ew_bin ?_)))
      walk_at "n"
      walk_at "n"
      refine od_add (ew_int (od_div ?_ ?_))
      · exact ⟨by decide, by decide⟩
      have em : ((lo : Int) + (hi : Int)) / 2 = (((lo + hi) / 2 : Nat) : Int) := by omega
      rw [em]
      generalize hm : (lo + hi) / 2 = mid
      have hx : mid < xs.length := by omega
      have hx0 : xs[mid]? = some xs[mid] := List.getElem?_eq_getElem hx
      have iff := cnt_iff (m := m) st hx0
      refine sw_cons (s1_if (tw_cmp (ew_fld T.c_Look T.n_Look_moment (ew_ix ?_))))
      walk_at "n"
      walk_at "n"
      refine ix_tpl (d := lkD K xs[mid]) (atI_nat (lks_get hx0)) ⟨_, .obj rfl, ?_⟩
      walk_at "n"
      refine od_le (isB ⟨fun hk => ?_, fun hk => ?_⟩)
      · have hk := iff.mp (of_decide_eq_true hk)
        refine sw_cons (s1_set 2 nd rfl (.inl rfl) (ew_bin ?_))
        walk_at "n"
        refine ew_int (od_add (sw_nil (sw_nil ⟨hi - (mid + 1), by omega, mid + 1, hi, some (.int (mid : Nat)), rfl, by omega, by omega, by omega, rfl⟩)))
      · have hk : ¬ mid < cnt xs m := fun z => absurd (iff.mpr z) (of_decide_eq_false hk)
        refine sw_cons (s1_set 3 nd rfl (.inl rfl) ?_)
        walk_at "n"
        refine sw_nil (sw_nil ⟨mid - lo, by omega, lo, mid, _, rfl, by omega, by omega, by omega, rfl⟩)
    · have hl := of_decide_eq_false hl
      have e : lo = cnt xs m := by omega
      refine sw_cons (s1_ret ?_)
      walk_at "n"
      rw [e]
      exact q
end
end K41
set_option Elab.async false
set_option linter.all false
set_option maxRecDepth 100000
set_option maxHeartbeats 4000000
namespace K41
open PySem PySem.Spec PyProof.Rows L2 Sx
local macro_rules | `(tactic| walk_at "c") => `(tactic| first
  | refine aw_cons ?_ | refine aw_nil ?_
  | refine ew_int ?_ | refine ew_non ?_ | refine ew_bl ?_ | refine ew_str ?_
  | refine ew_bin ?_ | refine ew_cmp ?_ | refine tw_cmp ?_ | refine tw_not ?_ | refine ew_chain ?_ | refine tw_chain ?_ | refine ew_and ?_ | refine ew_or ?_ | refine ew_one ?_ | refine ew_not ?_ | refine ew_neg ?_ | refine ew_if ?_
  | refine tw_w (ww_and ?_) | refine tw_w (ww_or ?_) | refine ww_and ?_ | refine ww_or ?_ | refine ww_and1 ?_ | refine ww_or1 ?_
  | refine tw_val (e := .Call _ _ _ _) ?_ | refine ew_tup ?_ | refine ew_ix ?_ | refine ew_lst ?_
  | refine sw_cons ?_ | refine s1_ret ?_ | refine s1_if ?_ | refine sw_nil ?_ | refine s1_expr ?_
  | refine od_add ?_ | refine od_sub ?_ | refine od_lt ?_ | refine od_le ?_ | refine od_gt ?_ | refine od_ge ?_
  | refine isB ?_ | refine intD ?_ | refine br_t ?_ | refine br_f ?_
  | refine ⟨szl (Nat.le_of_ble_eq_true rfl), ?_⟩)
local macro_rules | `(tactic| walk_at "n") => `(tactic| first
  | refine ew_name 0 rfl (by first | exact .inl rfl | exact .inr (.inl rfl) | exact .inr (.inr rfl)) rfl ?_
  | refine ew_name 1 rfl (by first | exact .inl rfl | exact .inr (.inl rfl) | exact .inr (.inr rfl)) rfl ?_
  | refine ew_name 2 rfl (by first | exact .inl rfl | exact .inr (.inl rfl) | exact .inr (.inr rfl)) rfl ?_
  | refine ew_name 3 rfl (by first | exact .inl rfl | exact .inr (.inl rfl) | exact .inr (.inr rfl)) rfl ?_
  | refine ew_name 4 rfl (by first | exact .inl rfl | exact .inr (.inl rfl) | exact .inr (.inr rfl)) rfl ?_
  | refine ew_name 5 rfl (by first | exact .inl rfl | exact .inr (.inl rfl) | exact .inr (.inr rfl)) rfl ?_
  | refine ew_name 6 rfl (by first | exact .inl rfl | exact .inr (.inl rfl) | exact .inr (.inr rfl)) rfl ?_
  | refine ew_name 7 rfl (by first | exact .inl rfl | exact .inr (.inl rfl) | exact .inr (.inr rfl)) rfl ?_
  | refine ew_name 8 rfl (by first | exact .inl rfl | exact .inr (.inl rfl) | exact .inr (.inr rfl)) rfl ?_
  | refine ew_name 9 rfl (by first | exact .inl rfl | exact .inr (.inl rfl) | exact .inr (.inr rfl)) rfl ?_
  | refine ew_name 10 rfl (by first | exact .inl rfl | exact .inr (.inl rfl) | exact .inr (.inr rfl)) rfl ?_
  | refine ew_name 11 rfl (by first | exact .inl rfl | exact .inr (.inl rfl) | exact .inr (.inr rfl)) rfl ?_
  | refine ew_name 12 rfl (by first | exact .inl rfl | exact .inr (.inl rfl) | exact .inr (.inr rfl)) rfl ?_)
local macro_rules | `(tactic| walk_at "i") => `(tactic| (refine' cl_isi (.ty _) ?a ?b ?_; (case a => constructor); (case b => with_reducible first | exact kit_int_int | exact kit_int_bool | exact kit_bool_int | exact kit_bool_bool | exact kit_NoneType_int | exact kit_str_int | exact kit_list_int | exact kit_tuple_int | exact kit_dict_int | exact kit_tuple_tuple | exact kit_int_tuple | exact kit_NoneType_tuple | exact kit_bool_tuple | exact kit_str_tuple | exact kit_list_tuple | exact kit_dict_tuple)))
local macro_rules | `(tactic| walk_at "l") => `(tactic| first
  | refine ew_isinstance (Tx.f_isinstance (by assumption)) ?_ | refine ew_len (Tx.f_len (by assumption)) ?_ | refine ew_vint (Tx.f_int (by assumption)) ?_ | refine ew_vbool (Tx.f_bool (by assumption)) ?_ | refine ew_vtuple (Tx.f_tuple (by assumption)) ?_ | refine ew_vstr (Tx.f_str (by assumption)) ?_
  | refine ew_gint (Tx.i_FAR (by assumption)) (by rfl) ?_ | refine ew_gint (Tx.i_FAR_TALLY (by assumption)) (by rfl) ?_ | refine ew_gint (Tx.i_MOST_PATIENCE (by assumption)) (by rfl) ?_ | refine ew_gint (Tx.i_MOST_LIFE (by assumption)) (by rfl) ?_ | refine ew_gint (Tx.i_MOST_PAIRS (by assumption)) (by rfl) ?_ | refine ew_gint (Tx.i_MOST_WIDTH (by assumption)) (by rfl) ?_ | refine ew_gint (Tx.i_MOST_KEEP (by assumption)) (by rfl) ?_
  | refine cl_len ?_ | refine cl_lenT ?_ | refine ix_tpl rfl ?_ | refine od_is (by intro _ h; cases h) ?_)
local macro_rules | `(tactic| walk_at "x") => `(tactic| repeat (first | walk_at "c" | walk_at "n" | walk_at "l" | walk_at "i"))
/-- the last moment of a tier's width that is not behind a moment -/
def lastA (a w : Int) : Int := a - 1 - (a - 1) % w
/-- how long a look at m is kept, the next one being at a -/
def kusT (l : List Pr) (p m a : Int) : List Int := (l.filter fun q => decide (p < q.2) && decide (m ≤ lastA a q.1)).map fun q => lastA a q.1 + q.1 - 1 + q.2 - 1
def kuF (l : List Pr) (p m a : Int) : Int := (kusT l p m a).foldl max (m + p - 1)
theorem kus_snoc (l : List Pr) (q : Pr) (p m a : Int) : kusT (l ++ [q]) p m a = kusT l p m a ++ (if decide (p < q.2) && decide (m ≤ lastA a q.1) then [lastA a q.1 + q.1 - 1 + q.2 - 1] else []) := by
  unfold kusT
  rw [List.filter_append, List.map_append]
  congr 1
  rw [List.filter_cons, List.filter_nil]
  split <;> rfl
theorem kus_len (l : List Pr) (p m a : Int) : (kusT l p m a).length ≤ l.length := by
  unfold kusT
  rw [List.length_map]
  exact List.length_filter_le _ _
section
variable {P : Program} {w : World} {K : PySem.W.Frag} {mg : Str → Option Value} {base : Heap}
def F_kept (K : PySem.W.Frag) : FT := fun ds cs Kk _ => ∃ (y : Addr) (j : Nat) (l : List Pr) (p : Int) (s : Sta) (m a : Int), ds = [.own y, .int m, .int a] ∧ cs[j]? = some (y, Cell.ins (CSo K) (soF K l p s)) ∧ Good l ∧ Kk (.int (kuF l p m a)) cs
def NK : List Str := ["store", "moment", "after", "untils", "width", "keep", "last"]
theorem ndK : NK.Nodup := by decide +kernel
theorem d_kept (T : Tx K mg) : Dfs.Dfn P w K mg base (L2.CX P w) 1 "kept_until" ["store", "moment", "after"] (spF (F_kept K)) := by
  refine dfnF T.q_kept_until T.g_kept_until (N := NK) ⟨rfl, rfl, rfl, ndK, rfl, by decide +kernel, by decide +kernel⟩ (fun kV doc pm an cdv ct => Vls.bind3 fun a b c => rfl) (fun ds cs Kk KE h => ?_) (fun cdv A outer s0 H E ds cs Kk KE hr h => ?_)
  · obtain ⟨_, _, _, _, _, _, _, rfl, _⟩ := h
    rfl
  · obtain ⟨y, j, l, p, s, m, a, rfl, hj, g, q⟩ := h
    have l2 := g.l2
    refine sw_cons (s1_set 3 ndK rfl (.inl rfl) (ew_lstO 0 (aw_cons (ew_bin (ew_bin ?_)))))
    walk_at "n"
    refine ew_fld T.c_Store T.n_Store_patience ?_
    walk_at "n"
    refine ⟨_, .own j hj rfl, od_add (ew_int (od_sub (aw_nil ⟨szl (Nat.le_of_ble_eq_true rfl), fun b => ?_⟩)))⟩
    show SW _ _ _ ⟨[some (.own y), some (.int m), some (.int a), some (.own b), none, none, none], (b, Cell.lst [.int (m + p - 1)]) :: cs⟩ _
    refine sw_cons (s1_forT [4, 5] (passes_of rfl) rfl ?_)
    refine ew_fld T.c_Tiers T.n_Tiers_pairs (ew_fld T.c_Store T.n_Store_tiers ?_)
    walk_at "n"
    refine ⟨_, .own (j + 1) hj rfl, _, .obj rfl, pL l, rfl, fun i s' => ∃ x4 x5 x6, s' = ⟨[some (.own y), some (.int m), some (.int a), some (.own b), x4, x5, x6], (b, Cell.lst (intsD ((m + p - 1) :: kusT (l.take i) p m a))) :: cs⟩, ⟨none, none, none, rfl⟩, fun i d s' hd hs => ?_, fun s' hs => ?_⟩
    · obtain ⟨x4, x5, x6, rfl⟩ := hs
      obtain ⟨z, hz, rfl⟩ := pL_at hd
      have zp := g.pos i z hz
      have hi := (List.getElem?_eq_some_iff.mp hz).1
      have tk1 : l.take (i + 1) = l.take i ++ [z] := by rw [List.take_add_one, hz]; rfl
      refine tg_tup rfl (tgs_cons (tg_name 4 ndK rfl (.inl rfl) (tgs_cons (tg_name 5 ndK rfl (.inl rfl) (tgs_nil ?_)))))
      refine sw_cons (s1_set 6 ndK rfl (.inl rfl) (ew_bin (ew_bin ?_)))
      walk_at "n"
      refine ew_int (od_sub (ew_bin (ew_bin ?_)))
      walk_at "n"
      refine ew_int (od_sub ?_)
      walk_at "n"
      refine od_mod zp (od_sub ?_)
      show SW _ _ _ ⟨[some (.own y), some (.int m), some (.int a), some (.own b), some (.int z.1), some (.int z.2), some (.int (lastA a z.1))], _⟩ _
      refine sw_cons (s1_if (tw_w (ww_and (tw_cmp ?_))))
      walk_at "n"
      refine ew_fld T.c_Store T.n_Store_patience ?_
      walk_at "n"
      refine ⟨_, .own (j + 1) hj rfl, od_gt ?_⟩
      have skip : (decide (p < z.2) && decide (m ≤ lastA a z.1)) = false → kusT (l.take (i + 1)) p m a = kusT (l.take i) p m a := fun e => by
        rw [tk1, kus_snoc, e]
        simp
      refine isB ⟨fun h1 => ?_, fun h1 => ?_⟩
      · refine ww_and1 (tw_cmp ?_)
        walk_at "n"
        walk_at "n"
        refine od_ge (isB ⟨fun h2 => ?_, fun h2 => ?_⟩)
        · refine sw_cons (s1_expr (ew_append ?_))
          walk_at "n"
          refine ⟨b, 0, _, rfl, rfl, ew_bin (ew_bin (ew_bin (ew_bin ?_)))⟩
          walk_at "n"
          walk_at "n"
          refine od_add (ew_int (od_sub ?_))
          walk_at "n"
          refine od_add (ew_int (od_sub ⟨0, _, rfl, ?_, ?_⟩))
          · rw [intsD_len]
            have := kus_len (l.take i) p m a
            rw [List.length_take] at this
            exact szl (by show _ + 1 + 1 ≤ _; omega)
          · refine sw_nil (sw_nil ⟨some (.int z.1), some (.int z.2), some (.int (lastA a z.1)), ?_⟩)
            rw [tk1, kus_snoc, h1, h2]
            unfold intsD
            simp
        · refine sw_nil (sw_nil ⟨some (.int z.1), some (.int z.2), some (.int (lastA a z.1)), ?_⟩)
          rw [skip (by rw [h1, h2]; rfl)]
      · refine br_f (sw_nil (sw_nil ⟨some (.int z.1), some (.int z.2), some (.int (lastA a z.1)), ?_⟩))
        rw [skip (by rw [h1]; rfl)]
    · obtain ⟨x4, x5, x6, rfl⟩ := hs
      rw [pL_len, List.take_length]
      refine sw_freeze 0 3 rfl rfl (sw_cons (s1_ret ?_))
      refine ew_callB (id := "max") T.f_max (by rfl) (by decide +kernel) (aw_cons ?_)
      walk_at "n"
      exact aw_nil (cl_maxL rfl q)
end
end K41
set_option Elab.async false
set_option linter.all false
set_option maxRecDepth 100000
set_option maxHeartbeats 4000000
namespace K41
open PySem PySem.Spec PyProof.Rows L2 Sx
local macro_rules | `(tactic| walk_at "c") => `(tactic| first
  | refine aw_cons ?_ | refine aw_nil ?_
  | refine ew_int ?_ | refine ew_non ?_ | refine ew_bl ?_ | refine ew_str ?_
  | refine ew_bin ?_ | refine ew_cmp ?_ | refine tw_cmp ?_ | refine tw_not ?_ | refine ew_chain ?_ | refine tw_chain ?_ | refine ew_and ?_ | refine ew_or ?_ | refine ew_one ?_ | refine ew_not ?_ | refine ew_neg ?_ | refine ew_if ?_
  | refine tw_w (ww_and ?_) | refine tw_w (ww_or ?_) | refine ww_and ?_ | refine ww_or ?_ | refine ww_and1 ?_ | refine ww_or1 ?_
  | refine tw_val (e := .Call _ _ _ _) ?_ | refine ew_tup ?_ | refine ew_ix ?_ | refine ew_lst ?_
  | refine sw_cons ?_ | refine s1_ret ?_ | refine s1_if ?_ | refine sw_nil ?_ | refine s1_expr ?_
  | refine od_add ?_ | refine od_sub ?_ | refine od_lt ?_ | refine od_le ?_ | refine od_gt ?_ | refine od_ge ?_
  | refine isB ?_ | refine intD ?_ | refine br_t ?_ | refine br_f ?_
  | refine ⟨szl (Nat.le_of_ble_eq_true rfl), ?_⟩)
local macro_rules | `(tactic| walk_at "n") => `(tactic| first
  | refine ew_name 0 rfl (by first | exact .inl rfl | exact .inr (.inl rfl) | exact .inr (.inr rfl)) rfl ?_
  | refine ew_name 1 rfl (by first | exact .inl rfl | exact .inr (.inl rfl) | exact .inr (.inr rfl)) rfl ?_
  | refine ew_name 2 rfl (by first | exact .inl rfl | exact .inr (.inl rfl) | exact .inr (.inr rfl)) rfl ?_
  | refine ew_name 3 rfl (by first | exact .inl rfl | exact .inr (.inl rfl) | exact .inr (.inr rfl)) rfl ?_
  | refine ew_name 4 rfl (by first | exact .inl rfl | exact .inr (.inl rfl) | exact .inr (.inr rfl)) rfl ?_
  | refine ew_name 5 rfl (by first | exact .inl rfl | exact .inr (.inl rfl) | exact .inr (.inr rfl)) rfl ?_
  | refine ew_name 6 rfl (by first | exact .inl rfl | exact .inr (.inl rfl) | exact .inr (.inr rfl)) rfl ?_
  | refine ew_name 7 rfl (by first | exact .inl rfl | exact .inr (.inl rfl) | exact .inr (.inr rfl)) rfl ?_
  | refine ew_name 8 rfl (by first | exact .inl rfl | exact .inr (.inl rfl) | exact .inr (.inr rfl)) rfl ?_
  | refine ew_name 9 rfl (by first | exact .inl rfl | exact .inr (.inl rfl) | exact .inr (.inr rfl)) rfl ?_
  | refine ew_name 10 rfl (by first | exact .inl rfl | exact .inr (.inl rfl) | exact .inr (.inr rfl)) rfl ?_
  | refine ew_name 11 rfl (by first | exact .inl rfl | exact .inr (.inl rfl) | exact .inr (.inr rfl)) rfl ?_
  | refine ew_name 12 rfl (by first | exact .inl rfl | exact .inr (.inl rfl) | exact .inr (.inr rfl)) rfl ?_)
local macro_rules | `(tactic| walk_at "i") => `(tactic| (refine' cl_isi (.ty _) ?a ?b ?_; (case a => constructor); (case b => with_reducible first | exact kit_int_int | exact kit_int_bool | exact kit_bool_int | exact kit_bool_bool | exact kit_NoneType_int | exact kit_str_int | exact kit_list_int | exact kit_tuple_int | exact kit_dict_int | exact kit_tuple_tuple | exact kit_int_tuple | exact kit_NoneType_tuple | exact kit_bool_tuple | exact kit_str_tuple | exact kit_list_tuple | exact kit_dict_tuple)))
local macro_rules | `(tactic| walk_at "l") => `(tactic| first
  | refine ew_isinstance (Tx.f_isinstance (by assumption)) ?_ | refine ew_len (Tx.f_len (by assumption)) ?_ | refine ew_vint (Tx.f_int (by assumption)) ?_ | refine ew_vbool (Tx.f_bool (by assumption)) ?_ | refine ew_vtuple (Tx.f_tuple (by assumption)) ?_ | refine ew_vstr (Tx.f_str (by assumption)) ?_
  | refine ew_gint (Tx.i_FAR (by assumption)) (by rfl) ?_ | refine ew_gint (Tx.i_FAR_TALLY (by assumption)) (by rfl) ?_ | refine ew_gint (Tx.i_MOST_PATIENCE (by assumption)) (by rfl) ?_ | refine ew_gint (Tx.i_MOST_LIFE (by assumption)) (by rfl) ?_ | refine ew_gint (Tx.i_MOST_PAIRS (by assumption)) (by rfl) ?_ | refine ew_gint (Tx.i_MOST_WIDTH (by assumption)) (by rfl) ?_ | refine ew_gint (Tx.i_MOST_KEEP (by assumption)) (by rfl) ?_
  | refine cl_len ?_ | refine cl_lenT ?_ | refine ix_tpl rfl ?_ | refine od_is (by intro _ h; cases h) ?_)
local macro_rules | `(tactic| walk_at "x") => `(tactic| repeat (first | walk_at "c" | walk_at "n" | walk_at "l" | walk_at "i"))
def keptL (xs : List Lk) (us : List Int) (now : Int) : List Lk := ((xs.zip us).filter fun z => decide (now ≤ z.2)).map (·.1)
def keptU (us : List Int) (now : Int) : List Int := us.filter fun u => decide (now ≤ u)
/-- a state without what has to go -/
def thin (s : Sta) : Sta := if s.now ≤ s.u then s else { now := s.now, lk := keptL s.lk s.un s.now, un := keptU s.un s.now, u := match keptU s.un s.now with
  | [] => 0
  | n :: ns => ns.foldl min n }
theorem keptL_next {xs : List Lk} {us : List Int} {now u : Int} {x : Lk} {i : Nat} (h1 : xs[i]? = some x) (h2 : us[i]? = some u) : keptL (xs.take (i + 1)) (us.take (i + 1)) now = keptL (xs.take i) (us.take i) now ++ (if now ≤ u then [x] else []) := by
  have l1 := (List.getElem?_eq_some_iff.mp h1).1
  have l2 := (List.getElem?_eq_some_iff.mp h2).1
  unfold keptL
  rw [List.take_add_one, h1, List.take_add_one, h2]
  show List.map _ (List.filter _ ((xs.take i ++ [x]).zip (us.take i ++ [u]))) = _
  rw [List.zip_append (by rw [List.length_take, List.length_take]; omega), List.filter_append, List.map_append]
  congr 1
  by_cases z : now ≤ u
  · rw [if_pos z]; simp [z]
  · rw [if_neg z]; simp [z]
theorem keptL_len (xs : List Lk) (us : List Int) (now : Int) : (keptL xs us now).length ≤ min xs.length us.length := by
  unfold keptL
  rw [List.length_map]
  exact Nat.le_trans (List.length_filter_le _ _) (by rw [List.length_zip]; exact Nat.le_refl _)
theorem keptU_next {us : List Int} {now u : Int} {i : Nat} (h2 : us[i]? = some u) : keptU (us.take (i + 1)) now = keptU (us.take i) now ++ (if now ≤ u then [u] else []) := by
  unfold keptU
  rw [List.take_add_one, h2, List.filter_append]
  congr 1
  by_cases z : now ≤ u
  · rw [if_pos z]; simp [z]
  · rw [if_neg z]; simp [z]
theorem intsD_at {xs : List Int} {i : Nat} {d : D} (h : (intsD xs)[i]? = some d) : ∃ x, xs[i]? = some x ∧ d = .int x := by
  unfold intsD at h
  rw [List.getElem?_map] at h
  cases q : xs[i]? with
  | none => rw [q] at h; cases h
  | some p => rw [q] at h; cases h; exact ⟨p, rfl, rfl⟩
section
variable {P : Program} {w : World} {K : PySem.W.Frag} {mg : Str → Option Value} {base : Heap}
def F_thin (K : PySem.W.Frag) : FT := fun ds cs Kk _ => ∃ (s : Sta), ds = [staD K s] ∧ s.lk.length = s.un.length ∧ s.lk.length ≤ 1000 ∧ (s.u < s.now → keptU s.un s.now ≠ []) ∧ Kk (staD K (thin s)) cs
def NT : List Str := ["state", "looks", "untils", "look", "until"]
theorem ndT : NT.Nodup := by decide +kernel
theorem d_thin (T : Tx K mg) : Dfs.Dfn P w K mg base (L2.CX P w) 3 "thinned" ["state"] (spF (F_thin K)) := by
  obtain ⟨fs, Fs, Bs_⟩ := g_state (P := P) (w := w) (base := base) T
  refine dfnF T.q_thinned T.g_thinned (N := NT) ⟨rfl, rfl, rfl, ndT, rfl, by decide +kernel, by decide +kernel⟩ (fun kV doc pm an cdv ct => Vls.bind1 fun a => rfl) (fun ds cs Kk KE h => ?_) (fun cdv A outer s0 H E ds cs Kk KE hr h => ?_)
  · obtain ⟨_, rfl, _⟩ := h
    rfl
  · obtain ⟨s, rfl, hl, l3, hne, q⟩ := h
    refine sw_cons (s1_if (tw_cmp ?_))
    refine ew_fld T.c_State T.n_State_moment ?_
    walk_at "n"
    refine ⟨_, .obj rfl, ew_fld T.c_State T.n_State_until ?_⟩
    walk_at "n"
    refine ⟨_, .obj rfl, od_le (isB ⟨fun h0 => ?_, fun h0 => ?_⟩)⟩
    · refine sw_cons (s1_ret ?_)
      walk_at "n"
      have e : thin s = s := if_pos (of_decide_eq_true h0)
      rw [e] at q
      exact q
    · have h0 := of_decide_eq_false h0
      have hne := hne (by omega)
      refine sw_nil (sw_cons (s1_lcZ 1 [("look", 3), ("until", 4)] 0 rfl ndT rfl rfl (Vls.blk_by (N := NT) (sc := defScope s_thinned) (by decide +kernel)) T.f_zip (aw_cons ?_)))
      refine ew_fld T.c_State T.n_State_looks ?_
      walk_at "n"
      refine ⟨_, .obj rfl, aw_cons (ew_fld T.c_State T.n_State_untils ?_)⟩
      walk_at "n"
      refine ⟨_, .obj rfl, ?_⟩
      refine aw_nil ⟨lks K s.lk, intsD s.un, rfl, by rw [lks_len]; omega, fun i acc cs' => cs' = cs ∧ acc = lks K (keptL (s.lk.take i) (s.un.take i) s.now), ⟨rfl, rfl⟩, fun i d1 d2 acc cs' hd1 hd2 hI => ?_, fun acc cs' hI => ?_⟩
      · obtain ⟨rfl, rfl⟩ := hI
        obtain ⟨x, hx, rfl⟩ := lks_at hd1
        obtain ⟨u, hu, rfl⟩ := intsD_at hd2
        have next := keptL_next (now := s.now) hx hu
        refine ⟨by rw [lks_len]; have := keptL_len (s.lk.take i) (s.un.take i) s.now; rw [List.length_take] at this; omega, fun lx _ _ _ _ _ => ?_⟩
        refine tg_tup rfl (tgs_cons (tg_name 3 ndT rfl (.inl rfl) (tgs_cons (tg_name 4 ndT rfl (.inl rfl) (tgs_nil ?_)))))
        intro _ _ _ _ _
        refine ts_one (tw_cmp ?_)
        walk_at "n"
        refine ew_fld T.c_State T.n_State_moment ?_
        walk_at "n"
        refine ⟨_, .obj rfl, od_ge (isB ⟨fun h => ?_, fun h => ?_⟩)⟩
        · intro _ _ _ _ _
          walk_at "n"
          rw [if_pos (of_decide_eq_true h)] at next
          exact ⟨cs', rfl, rfl, by rw [next]; unfold lks; rw [List.map_append]; rfl⟩
        · rw [if_neg (of_decide_eq_false h), List.append_nil] at next
          exact ⟨cs', rfl, rfl, by rw [next]⟩
      · obtain ⟨rfl, rfl⟩ := hI
        rw [lks_len, intsD_len, ← hl, Nat.min_self, List.take_length, hl, List.take_length]
        refine sw_cons (s1_lcT 2 [("until", 4)] 0 rfl ndT rfl rfl (Vls.blk_by (N := NT) (sc := defScope s_thinned) (by decide +kernel)) ?_)
        refine ew_fld T.c_State T.n_State_untils ?_
        walk_at "n"
        refine ⟨_, .obj rfl, ?_⟩
        refine ⟨intsD s.un, rfl, szl (by rw [intsD_len]; omega), fun i acc cs2 => cs2 = cs' ∧ acc = intsD (keptU (s.un.take i) s.now), ⟨rfl, rfl⟩, fun i d acc cs2 hd hI => ?_, fun acc cs2 hI => ?_⟩
        · obtain ⟨rfl, rfl⟩ := hI
          obtain ⟨u, hu, rfl⟩ := intsD_at hd
          have next := keptU_next (now := s.now) hu
          refine ⟨?_, fun lx _ _ _ _ _ => ?_⟩
          · rw [intsD_len]
            unfold keptU
            exact Nat.le_trans (List.length_filter_le _ _) (by rw [List.length_take]; omega)
          refine tg_name 4 ndT rfl (.inl rfl) ?_
          intro _ _ _ _ _
          refine ts_one (tw_cmp ?_)
          walk_at "n"
          refine ew_fld T.c_State T.n_State_moment ?_
          walk_at "n"
          refine ⟨_, .obj rfl, od_ge (isB ⟨fun h => ?_, fun h => ?_⟩)⟩
          · intro _ _ _ _ _
            walk_at "n"
            rw [if_pos (of_decide_eq_true h)] at next
            exact ⟨_, rfl, rfl, by rw [next]; unfold intsD; rw [List.map_append]; rfl⟩
          · rw [if_neg (of_decide_eq_false h), List.append_nil] at next
            exact ⟨_, rfl, rfl, by rw [next]⟩
        · obtain ⟨rfl, rfl⟩ := hI
          rw [intsD_len, List.take_length]
          obtain ⟨n, ns, en⟩ : ∃ n ns, keptU s.un s.now = n :: ns := by
            cases e : keptU s.un s.now with
            | nil => exact absurd e hne
            | cons n ns => exact ⟨n, ns, rfl⟩
          refine sw_cons (s1_ret ?_)
          refine ew_make (.none fun _ _ _ => False) T.k_State Fs (hr.mono (by decide)) (by rfl) T.g_State Bs_ pF (aw_cons ?_)
          refine ew_fld T.c_State T.n_State_moment ?_
          walk_at "n"
          refine ⟨_, .obj rfl, aw_cons (ew_ttuple T.f_tuple (aw_cons ?_))⟩
          walk_at "n"
          refine aw_nil (cl_tuple (aw_cons (ew_ttuple T.f_tuple (aw_cons ?_))))
          walk_at "n"
          refine aw_nil (cl_tuple (aw_cons (ew_callB (id := "min") T.f_min (by rfl) (by decide +kernel) (aw_cons ?_))))
          walk_at "n"
          rw [en]
          refine aw_nil (cl_minL rfl hr (aw_nil ?_))
          refine fun y => ⟨y, _, _, _, _, _, rfl, rfl, ?_⟩
          have e : thin s = { now := s.now, lk := keptL s.lk s.un s.now, un := keptU s.un s.now, u := ns.foldl min n } := by
            unfold thin
            rw [if_neg h0, en]
          rw [e, en] at q
          exact ⟨rfl, _, _, rfl, q⟩
end
end K41
set_option Elab.async false
set_option linter.all false
set_option maxRecDepth 100000
set_option maxHeartbeats 4000000
namespace K41
open PySem PySem.Spec PyProof.Rows L2 Sx
local macro_rules | `(tactic| walk_at "c") => `(tactic| first
  | refine aw_cons ?_ | refine aw_nil ?_
  | refine ew_int ?_ | refine ew_non ?_ | refine ew_bl ?_ | refine ew_str ?_
  | refine ew_bin ?_ | refine ew_cmp ?_ | refine tw_cmp ?_ | refine tw_not ?_ | refine ew_chain ?_ | refine tw_chain ?_ | refine ew_and ?_ | refine ew_or ?_ | refine ew_one ?_ | refine ew_not ?_ | refine ew_neg ?_ | refine ew_if ?_
  | refine tw_w (ww_and ?_) | refine tw_w (ww_or ?_) | refine ww_and ?_ | refine ww_or ?_ | refine ww_and1 ?_ | refine ww_or1 ?_
  | refine tw_val (e := .Call _ _ _ _) ?_ | refine ew_tup ?_ | refine ew_ix ?_ | refine ew_lst ?_
  | refine sw_cons ?_ | refine s1_ret ?_ | refine s1_if ?_ | refine sw_nil ?_ | refine s1_expr ?_
  | refine od_add ?_ | refine od_sub ?_ | refine od_lt ?_ | refine od_le ?_ | refine od_gt ?_ | refine od_ge ?_
  | refine isB ?_ | refine intD ?_ | refine br_t ?_ | refine br_f ?_
  | refine ⟨szl (Nat.le_of_ble_eq_true rfl), ?_⟩)
local macro_rules | `(tactic| walk_at "n") => `(tactic| first
  | refine ew_name 0 rfl (by first | exact .inl rfl | exact .inr (.inl rfl) | exact .inr (.inr rfl)) rfl ?_
  | refine ew_name 1 rfl (by first | exact .inl rfl | exact .inr (.inl rfl) | exact .inr (.inr rfl)) rfl ?_
  | refine ew_name 2 rfl (by first | exact .inl rfl | exact .inr (.inl rfl) | exact .inr (.inr rfl)) rfl ?_
  | refine ew_name 3 rfl (by first | exact .inl rfl | exact .inr (.inl rfl) | exact .inr (.inr rfl)) rfl ?_
  | refine ew_name 4 rfl (by first | exact .inl rfl | exact .inr (.inl rfl) | exact .inr (.inr rfl)) rfl ?_
  | refine ew_name 5 rfl (by first | exact .inl rfl | exact .inr (.inl rfl) | exact .inr (.inr rfl)) rfl ?_
  | refine ew_name 6 rfl (by first | exact .inl rfl | exact .inr (.inl rfl) | exact .inr (.inr rfl)) rfl ?_
  | refine ew_name 7 rfl (by first | exact .inl rfl | exact .inr (.inl rfl) | exact .inr (.inr rfl)) rfl ?_
  | refine ew_name 8 rfl (by first | exact .inl rfl | exact .inr (.inl rfl) | exact .inr (.inr rfl)) rfl ?_
  | refine ew_name 9 rfl (by first | exact .inl rfl | exact .inr (.inl rfl) | exact .inr (.inr rfl)) rfl ?_
  | refine ew_name 10 rfl (by first | exact .inl rfl | exact .inr (.inl rfl) | exact .inr (.inr rfl)) rfl ?_
  | refine ew_name 11 rfl (by first | exact .inl rfl | exact .inr (.inl rfl) | exact .inr (.inr rfl)) rfl ?_
  | refine ew_name 12 rfl (by first | exact .inl rfl | exact .inr (.inl rfl) | exact .inr (.inr rfl)) rfl ?_)
local macro_rules | `(tactic| walk_at "i") => `(tactic| (refine' cl_isi (.ty _) ?a ?b ?_; (case a => constructor); (case b => with_reducible first | exact kit_int_int | exact kit_int_bool | exact kit_bool_int | exact kit_bool_bool | exact kit_NoneType_int | exact kit_str_int | exact kit_list_int | exact kit_tuple_int | exact kit_dict_int | exact kit_tuple_tuple | exact kit_int_tuple | exact kit_NoneType_tuple | exact kit_bool_tuple | exact kit_str_tuple | exact kit_list_tuple | exact kit_dict_tuple)))
local macro_rules | `(tactic| walk_at "l") => `(tactic| first
  | refine ew_isinstance (Tx.f_isinstance (by assumption)) ?_ | refine ew_len (Tx.f_len (by assumption)) ?_ | refine ew_vint (Tx.f_int (by assumption)) ?_ | refine ew_vbool (Tx.f_bool (by assumption)) ?_ | refine ew_vtuple (Tx.f_tuple (by assumption)) ?_ | refine ew_vstr (Tx.f_str (by assumption)) ?_
  | refine ew_gint (Tx.i_FAR (by assumption)) (by rfl) ?_ | refine ew_gint (Tx.i_FAR_TALLY (by assumption)) (by rfl) ?_ | refine ew_gint (Tx.i_MOST_PATIENCE (by assumption)) (by rfl) ?_ | refine ew_gint (Tx.i_MOST_LIFE (by assumption)) (by rfl) ?_ | refine ew_gint (Tx.i_MOST_PAIRS (by assumption)) (by rfl) ?_ | refine ew_gint (Tx.i_MOST_WIDTH (by assumption)) (by rfl) ?_ | refine ew_gint (Tx.i_MOST_KEEP (by assumption)) (by rfl) ?_
  | refine cl_len ?_ | refine cl_lenT ?_ | refine ix_tpl rfl ?_ | refine od_is (by intro _ h; cases h) ?_)
local macro_rules | `(tactic| walk_at "x") => `(tactic| repeat (first | walk_at "c" | walk_at "n" | walk_at "l" | walk_at "i"))
section
variable {P : Program} {w : World} {K : PySem.W.Frag} {mg : Str → Option Value} {base : Heap}
/-- a store in its cell -/
def IsSo (K : PySem.W.Frag) (cs : Cs) (j : Nat) (y : Addr) (l : List Pr) (p : Int) (s : Sta) : Prop := cs[j]? = some (y, Cell.ins (CSo K) (soF K l p s)) ∧ Good l
theorem f_getNow (T : Tx K mg) : ∃ fd, FunD K "now" "Store.now" (defArgs s_Store_now) (defBody s_Store_now) (defScope s_Store_now) [] [] (Prp.gp K (CSo K) "now") fd :=
  Prp.funP T.v_Store_now T.pr_Store_now.2.1 T.pr_Store_now.2.2
def F_now (K : PySem.W.Frag) : FT := fun ds cs Kk _ => ∃ y j l p s, ds = [.own y] ∧ IsSo K cs j y l p s ∧ Kk (.int s.now) cs
theorem g_now (T : Tx K mg) : ∃ fd, FnOk P w K mg base (L2.CX P w) 1 (Prp.gp K (CSo K) "now") fd ["self"] (spF (F_now K)) ∧ L2.Binds K fd ["self"] [] := by
  obtain ⟨fd, F⟩ := f_getNow T
  refine ⟨fd, okF F (N := ["self"]) ⟨rfl, rfl, rfl, by decide +kernel, rfl, by decide +kernel, by decide +kernel⟩ (fun ds cs Kk KE h => ?_) (fun cdv A outer s H E ds cs Kk KE hr h => ?_), F.bindsN fun kV doc pm an cdv ct => Vls.bind1 fun a => rfl⟩
  · obtain ⟨_, _, _, _, _, rfl, _⟩ := h
    rfl
  · obtain ⟨y, j, l, p, s, rfl, i, q⟩ := h
    refine sw_cons (s1_ret (ew_fld T.c_State T.n_State_moment (ew_fld T.c_Store T.n_Store_state ?_)))
    walk_at "n"
    exact ⟨_, .own j i.1 rfl, _, .obj rfl, q⟩
def F_kept1 (K : PySem.W.Frag) : FT := fun ds cs Kk _ => ∃ y j l p s, ds = [.own y] ∧ IsSo K cs j y l p s ∧ Kk (.tup (lks K s.lk)) cs
theorem m_kept (T : Tx K mg) : Dfs.Mfn P w K mg base (L2.CX P w) 1 (CSo K) "kept" ["self"] (spF (F_kept1 K)) := by
  refine mfnF T.q_Store_kept T.c_Store T.m_Store_kept (N := ["self"]) ⟨rfl, rfl, rfl, by decide +kernel, rfl, by decide +kernel, by decide +kernel⟩ (fun kV doc pm an cdv ct => Vls.bind1 fun a => rfl) (fun ds cs Kk KE h => ?_) (fun cdv A outer s H E ds cs Kk KE hr h => ?_)
  · obtain ⟨_, _, _, _, _, rfl, _⟩ := h
    rfl
  · obtain ⟨y, j, l, p, s, rfl, i, q⟩ := h
    refine sw_cons (s1_ret (ew_fld T.c_State T.n_State_looks (ew_fld T.c_Store T.n_Store_state ?_)))
    walk_at "n"
    exact ⟨_, .own j i.1 rfl, _, .obj rfl, q⟩
def F_len (K : PySem.W.Frag) : FT := fun ds cs Kk _ => ∃ y j l p s, ds = [.own y] ∧ IsSo K cs j y l p s ∧ Kk (.int s.lk.length) cs
theorem m_len (T : Tx K mg) : Dfs.Mfn P w K mg base (L2.CX P w) 1 (CSo K) "__len__" ["self"] (spF (F_len K)) := by
  refine mfnF T.q_Store_len T.c_Store T.m_Store_len (N := ["self"]) ⟨rfl, rfl, rfl, by decide +kernel, rfl, by decide +kernel, by decide +kernel⟩ (fun kV doc pm an cdv ct => Vls.bind1 fun a => rfl) (fun ds cs Kk KE h => ?_) (fun cdv A outer s H E ds cs Kk KE hr h => ?_)
  · obtain ⟨_, _, _, _, _, rfl, _⟩ := h
    rfl
  · obtain ⟨y, j, l, p, s, rfl, i, q⟩ := h
    refine sw_cons (s1_ret (ew_len T.f_len (aw_cons (ew_fld T.c_State T.n_State_looks (ew_fld T.c_Store T.n_Store_state ?_)))))
    walk_at "n"
    refine ⟨_, .own j i.1 rfl, _, .obj rfl, aw_nil (cl_lenT ?_)⟩
    rw [lks_len]
    exact q
/-- Store(..) -/
def F_store (K : PySem.W.Frag) : FT := fun ds cs Kk KE => ∃ y t p b cs1, ds = [.own y, t, p, b] ∧ cs = (y, Cell.ins (CSo K) []) :: cs1 ∧ Pln p ∧ Pln b ∧
  ((∃ ty : Value, TyD K t cs ty ∧ PySem.W.kitOne K ty (.ref (CT K)) = some false ∧ KE (He.ga K "BadStore") [("part", .str "tiers")] cs) ∨
   (∃ l, t = tO K l ∧ Good l ∧ (inR 1 (10 ^ 6) p = false → KE (He.ga K "BadNumber") [("value", p)] cs) ∧ (inR 1 (10 ^ 6) p = true → inR (-10 ^ 30) (10 ^ 30) b = false → KE (He.ga K "BadNumber") [("value", b)] cs) ∧
     ∀ i j : Int, p = .int i → b = .int j → inR 1 (10 ^ 6) p = true → inR (-10 ^ 30) (10 ^ 30) b = true → (lastK l - 1 < i → KE (He.ga K "BadStore") [("part", .str "patience")] cs) ∧ (i ≤ lastK l - 1 → Kk .non ((y, Cell.ins (CSo K) (soF K l i ⟨j, [], [], 10 ^ 30⟩)) :: cs1))))
theorem inR_int {lo hi : Int} {d : D} (h : inR lo hi d = true) : ∃ i, d = .int i ∧ lo ≤ i ∧ i ≤ hi := by
  cases d with
  | int i =>
    have z : (decide (lo ≤ i) && decide (i ≤ hi)) = true := h
    simp only [Bool.and_eq_true, decide_eq_true_eq] at z
    exact ⟨i, rfl, z.1, z.2⟩
  | _ => cases h
theorem f_store (T : Tx K mg) : ∃ fd us, FnOk P w K mg base (L2.CX P w) 4 (He.ma K (CSo K) "__init__") fd ["self", "tiers", "patience", "begin"] (spF (F_store K)) ∧ L2.Binds K fd ["self", "tiers", "patience", "begin"] [] ∧ L2.Binds K fd ["self", "tiers", "patience", "begin"] us ∧ Vals [V.int 0] us := by
  obtain ⟨fb, Fb, Bb⟩ := i_BadStore (P := P) (w := w) (base := base) T
  obtain ⟨fo, Fo, Bo⟩ := g_oldest (P := P) (w := w) (base := base) T
  obtain ⟨fs, Fs, Bs_⟩ := g_state (P := P) (w := w) (base := base) T
  obtain ⟨fd, F⟩ := T.q_Store_init
  obtain ⟨u0, hd0, hb0⟩ := F.binds1 (ps := ["self", "tiers", "patience", "begin"]) 4 1 (by simp) rfl (fun T kV doc pm an cdv ct us its h1 h2 => by
    match us, its, h1, h2 with
    | [a, b, c, e], [d], _, _ => exact ⟨_, rfl, rfl⟩)
  cases hd0
  obtain ⟨us, hd, hb⟩ := F.binds1 (ps := ["self", "tiers", "patience", "begin"]) 3 0 (by simp) rfl (fun T kV doc pm an cdv ct us its h1 h2 => by
    match us, its, h1, h2 with
    | [a, b, c], [d], _, _ => exact ⟨_, rfl, rfl⟩)
  refine ⟨fd, us, okF F (N := ["self", "tiers", "patience", "begin"]) ⟨rfl, rfl, rfl, by decide +kernel, rfl, by decide +kernel, by decide +kernel⟩ (fun ds cs Kk KE h => ?_) (fun cdv A outer s H E ds cs Kk KE hr h => ?_), hb0, hb, hd⟩
  · obtain ⟨_, _, _, _, _, rfl, _⟩ := h
    rfl
  · obtain ⟨y, t, p, b, cs1, rfl, rfl, pp, pb, q⟩ := h
    refine sw_cons (s1_if (tw_not (tw_val (e := .Call _ _ _ _) (ew_isinstance T.f_isinstance (aw_cons ?_)))))
    walk_at "n"
    refine aw_cons (ew_gref T.g_Tiers (by rfl) (aw_nil ?_))
    rcases q with ⟨ty, ht, hk, q⟩ | ⟨l, rfl, g, q1, q2, q3⟩
    · refine cl_isi (.own _) ht hk (isB (br_t (sw_cons ?_)))
      refine s1_raise1 T.o_BadStore T.m_BadStore_init.at_ T.t_BadStore Fb (hr.mono (by decide)) Bb (by rfl) T.g_BadStore rfl tk (ew_str ?_)
      exact q
    · refine cl_isi (.own _) (.obj T.is_Tiers T.c_Tiers) T.k_Tiers_Tiers (isB (br_f (sw_nil ?_)))
      refine sw_cons (s1_expr (ew_call .same (d_check T) (hr.mono (by decide)) (by rfl) pc (aw_cons ?_)))
      walk_at "n"
      refine aw_cons (ew_int (aw_cons (ew_gint T.i_MOST_PATIENCE (by rfl) (aw_nil ⟨p, _, _, rfl, pp, fun h1 => ?_, fun h1 => q1 h1⟩))))
      refine sw_cons (s1_expr (ew_call .same (d_check T) (hr.mono (by decide)) (by rfl) pc (aw_cons ?_)))
      walk_at "n"
      refine aw_cons (ew_neg (ew_gint T.i_FAR (by rfl) ⟨_, rfl, aw_cons (ew_gint T.i_FAR (by rfl) (aw_nil ⟨b, _, _, rfl, pb, fun h2 => ?_, fun h2 => q2 h1 h2⟩))⟩))
      obtain ⟨i, rfl, i1, i2⟩ := inR_int h1
      obtain ⟨j, rfl, j1, j2⟩ := inR_int h2
      obtain ⟨q4, q5⟩ := q3 i j rfl rfl h1 h2
      refine sw_cons (s1_if (tw_cmp ?_))
      walk_at "n"
      refine ew_prop (.none fun _ _ _ => False) T.c_Tiers T.pr_Tiers_oldest.1 Fo (hr.mono (by decide)) Bo pF ?_
      walk_at "n"
      refine ⟨.obj, l, rfl, g, od_gt (isB ⟨fun h => ?_, fun h => ?_⟩)⟩
      · refine sw_cons (s1_raise1 T.o_BadStore T.m_BadStore_init.at_ T.t_BadStore Fb (hr.mono (by decide)) Bb (by rfl) T.g_BadStore rfl tk (ew_str ?_))
        exact q4 (of_decide_eq_true h)
      · have h := of_decide_eq_false h
        refine sw_nil (sw_cons (s1_fld T.c_Store T.n_Store_tiers ?_))
        walk_at "n"
        walk_at "n"
        refine ⟨y, 0, _, rfl, rfl, by decide, ?_⟩
        refine sw_cons (s1_fld T.c_Store T.n_Store_patience ?_)
        walk_at "n"
        walk_at "n"
        refine ⟨y, 0, _, rfl, rfl, by show 1 < 1000; decide, ?_⟩
        refine sw_cons (s1_fld T.c_Store T.n_Store_state ?_)
        refine ew_make (.none fun _ _ _ => False) T.k_State Fs (hr.mono (by decide)) (by rfl) T.g_State Bs_ pF (aw_cons ?_)
        walk_at "n"
        refine aw_cons (ew_tup (aw_nil ⟨szl (Nat.le_of_ble_eq_true rfl), aw_cons (ew_tup (aw_nil ⟨szl (Nat.le_of_ble_eq_true rfl), aw_cons (ew_gint T.i_FAR (by rfl) (aw_nil ?_))⟩))⟩))
        refine fun z => ⟨z, _, _, _, _, _, rfl, rfl, rfl, _, _, rfl, ?_⟩
        walk_at "n"
        refine ⟨y, 0, _, rfl, rfl, by show 2 < 1000; decide, ?_⟩
        refine sw_nil ?_
        exact q5 (by omega)
end
end K41
set_option Elab.async false
set_option linter.all false
set_option maxRecDepth 100000
set_option maxHeartbeats 4000000
namespace K41
open PySem PySem.Spec PyProof.Rows L2 Sx
local macro_rules | `(tactic| walk_at "c") => `(tactic| first
  | refine aw_cons ?_ | refine aw_nil ?_
  | refine ew_int ?_ | refine ew_non ?_ | refine ew_bl ?_ | refine ew_str ?_
  | refine ew_bin ?_ | refine ew_cmp ?_ | refine tw_cmp ?_ | refine tw_not ?_ | refine ew_chain ?_ | refine tw_chain ?_ | refine ew_and ?_ | refine ew_or ?_ | refine ew_one ?_ | refine ew_not ?_ | refine ew_neg ?_ | refine ew_if ?_
  | refine tw_w (ww_and ?_) | refine tw_w (ww_or ?_) | refine ww_and ?_ | refine ww_or ?_ | refine ww_and1 ?_ | refine ww_or1 ?_
  | refine tw_val (e := .Call _ _ _ _) ?_ | refine ew_tup ?_ | refine ew_ix ?_ | refine ew_lst ?_
  | refine sw_cons ?_ | refine s1_ret ?_ | refine s1_if ?_ | refine sw_nil ?_ | refine s1_expr ?_
  | refine od_add ?_ | refine od_sub ?_ | refine od_lt ?_ | refine od_le ?_ | refine od_gt ?_ | refine od_ge ?_
  | refine isB ?_ | refine intD ?_ | refine br_t ?_ | refine br_f ?_
  | refine ⟨szl (Nat.le_of_ble_eq_true rfl), ?_⟩)
local macro_rules | `(tactic| walk_at "n") => `(tactic| first
  | refine ew_name 0 rfl (by first | exact .inl rfl | exact .inr (.inl rfl) | exact .inr (.inr rfl)) rfl ?_
  | refine ew_name 1 rfl (by first | exact .inl rfl | exact .inr (.inl rfl) | exact .inr (.inr rfl)) rfl ?_
  | refine ew_name 2 rfl (by first | exact .inl rfl | exact .inr (.inl rfl) | exact .inr (.inr rfl)) rfl ?_
  | refine ew_name 3 rfl (by first | exact .inl rfl | exact .inr (.inl rfl) | exact .inr (.inr rfl)) rfl ?_
  | refine ew_name 4 rfl (by first | exact .inl rfl | exact .inr (.inl rfl) | exact .inr (.inr rfl)) rfl ?_
  | refine ew_name 5 rfl (by first | exact .inl rfl | exact .inr (.inl rfl) | exact .inr (.inr rfl)) rfl ?_
  | refine ew_name 6 rfl (by first | exact .inl rfl | exact .inr (.inl rfl) | exact .inr (.inr rfl)) rfl ?_
  | refine ew_name 7 rfl (by first | exact .inl rfl | exact .inr (.inl rfl) | exact .inr (.inr rfl)) rfl ?_
  | refine ew_name 8 rfl (by first | exact .inl rfl | exact .inr (.inl rfl) | exact .inr (.inr rfl)) rfl ?_
  | refine ew_name 9 rfl (by first | exact .inl rfl | exact .inr (.inl rfl) | exact .inr (.inr rfl)) rfl ?_
  | refine ew_name 10 rfl (by first | exact .inl rfl | exact .inr (.inl rfl) | exact .inr (.inr rfl)) rfl ?_
  | refine ew_name 11 rfl (by first | exact .inl rfl | exact .inr (.inl rfl) | exact .inr (.inr rfl)) rfl ?_
  | refine ew_name 12 rfl (by first | exact .inl rfl | exact .inr (.inl rfl) | exact .inr (.inr rfl)) rfl ?_)
local macro_rules | `(tactic| walk_at "i") => `(tactic| (refine' cl_isi (.ty _) ?a ?b ?_; (case a => constructor); (case b => with_reducible first | exact kit_int_int | exact kit_int_bool | exact kit_bool_int | exact kit_bool_bool | exact kit_NoneType_int | exact kit_str_int | exact kit_list_int | exact kit_tuple_int | exact kit_dict_int | exact kit_tuple_tuple | exact kit_int_tuple | exact kit_NoneType_tuple | exact kit_bool_tuple | exact kit_str_tuple | exact kit_list_tuple | exact kit_dict_tuple)))
local macro_rules | `(tactic| walk_at "l") => `(tactic| first
  | refine ew_isinstance (Tx.f_isinstance (by assumption)) ?_ | refine ew_len (Tx.f_len (by assumption)) ?_ | refine ew_vint (Tx.f_int (by assumption)) ?_ | refine ew_vbool (Tx.f_bool (by assumption)) ?_ | refine ew_vtuple (Tx.f_tuple (by assumption)) ?_ | refine ew_vstr (Tx.f_str (by assumption)) ?_
  | refine ew_gint (Tx.i_FAR (by assumption)) (by rfl) ?_ | refine ew_gint (Tx.i_FAR_TALLY (by assumption)) (by rfl) ?_ | refine ew_gint (Tx.i_MOST_PATIENCE (by assumption)) (by rfl) ?_ | refine ew_gint (Tx.i_MOST_LIFE (by assumption)) (by rfl) ?_ | refine ew_gint (Tx.i_MOST_PAIRS (by assumption)) (by rfl) ?_ | refine ew_gint (Tx.i_MOST_WIDTH (by assumption)) (by rfl) ?_ | refine ew_gint (Tx.i_MOST_KEEP (by assumption)) (by rfl) ?_
  | refine cl_len ?_ | refine cl_lenT ?_ | refine ix_tpl rfl ?_ | refine od_is (by intro _ h; cases h) ?_)
local macro_rules | `(tactic| walk_at "x") => `(tactic| repeat (first | walk_at "c" | walk_at "n" | walk_at "l" | walk_at "i"))
section
variable {P : Program} {w : World} {K : PySem.W.Frag} {mg : Str → Option Value} {base : Heap}
def F_gof (K : PySem.W.Frag) : FT := fun ds cs Kk _ => ∃ l m age w ws, ds = [tO K l, .int m, .int age] ∧ Good l ∧ wOf l age = w :: ws ∧ 0 < w ∧ Kk (.int (m - m % w)) cs
theorem m_gof (T : Tx K mg) : Dfs.Mfn P w K mg base (L2.CX P w) 2 (CT K) "grid_of" ["self", "moment", "age"] (spF (F_gof K)) := by
  refine mfnF T.q_Tiers_grid_of T.c_Tiers T.m_Tiers_grid_of (N := ["self", "moment", "age"]) ⟨rfl, rfl, rfl, by decide +kernel, rfl, by decide +kernel, by decide +kernel⟩ (fun kV doc pm an cdv ct => Vls.bind3 fun a b c => rfl) (fun ds cs Kk KE h => ?_) (fun cdv A outer s H E ds cs Kk KE hr h => ?_)
  · obtain ⟨_, _, _, _, _, rfl, _⟩ := h
    rfl
  · obtain ⟨l, m, age, wi, ws, rfl, g, hw, w0, q⟩ := h
    refine sw_cons (s1_ret (ew_bin ?_))
    walk_at "n"
    refine ew_bin ?_
    walk_at "n"
    refine ew_meth (.none fun _ _ _ => False) (m_wof T) (hr.mono (by decide)) pF ?_
    walk_at "n"
    refine ⟨.obj rfl, aw_cons ?_⟩
    walk_at "n"
    exact aw_nil ⟨l, age, wi, ws, rfl, g, hw, od_mod w0 (od_sub q)⟩
/-- what a look at a border answers -/
structure LkAt (K : PySem.W.Frag) (l : List Pr) (p : Int) (s : Sta) (b : D) (R : Lk → Prop) (KE : Addr → List (Str × D) → Prop) : Prop where
  bad : inR (-10 ^ 30) (10 ^ 30) b = false → KE (He.ga K "BadNumber") [("value", b)]
  yet : ∀ i : Int, b = .int i → inR (-10 ^ 30) (10 ^ 30) b = true → s.now - i < p → KE (He.ga K "NotYet") [("moment", b)]
  old : ∀ i : Int, b = .int i → inR (-10 ^ 30) (10 ^ 30) b = true → p ≤ s.now - i → lastK l - 1 < s.now - i → KE (He.ga K "Forgotten") [("moment", b)]
  non : ∀ (i : Int) w ws, b = .int i → inR (-10 ^ 30) (10 ^ 30) b = true → p ≤ s.now - i → s.now - i ≤ lastK l - 1 → wOf l (s.now - i) = w :: ws → cnt s.lk (i - i % w) = 0 → KE (He.ga K "Nothing") []
  yes : ∀ (i : Int) w ws k x, b = .int i → inR (-10 ^ 30) (10 ^ 30) b = true → p ≤ s.now - i → s.now - i ≤ lastK l - 1 → wOf l (s.now - i) = w :: ws → cnt s.lk (i - i % w) = k + 1 → s.lk[k]? = some x → R x
def F_lookof (K : PySem.W.Frag) : FT := fun ds cs Kk KE => ∃ y j l p s b, ds = [.own y, b] ∧ IsSo K cs j y l p s ∧ Pln b ∧ Srt s.lk ∧ LkAt K l p s b (fun x => Kk (lkD K x) cs) (fun C f => KE C f cs)
def NO : List Str := ["store", "border", "age", "looks", "at"]
theorem ndO : NO.Nodup := by decide +kernel
theorem d_lookof (T : Tx K mg) : Dfs.Dfn P w K mg base (L2.CX P w) 4 "look_of" ["store", "border"] (spF (F_lookof K)) := by
  obtain ⟨fy, Fy, By⟩ := i_NotYet (P := P) (w := w) (base := base) T
  obtain ⟨ff, Ff, Bf⟩ := i_Forgotten (P := P) (w := w) (base := base) T
  obtain ⟨fo, Fo, Bo⟩ := g_oldest (P := P) (w := w) (base := base) T
  obtain ⟨fn, Fn, Bn⟩ := g_now (P := P) (w := w) (base := base) T
  refine dfnF T.q_look_of T.g_look_of (N := NO) ⟨rfl, rfl, rfl, ndO, rfl, by decide +kernel, by decide +kernel⟩ (fun kV doc pm an cdv ct => Vls.bind2 fun a b => rfl) (fun ds cs Kk KE h => ?_) (fun cdv A outer s0 H E ds cs Kk KE hr h => ?_)
  · obtain ⟨_, _, _, _, _, _, rfl, _⟩ := h
    rfl
  · obtain ⟨y, j, l, p, s, b, rfl, hi, pb, st, L⟩ := h
    refine sw_cons (s1_expr (ew_call .same (d_check T) (hr.mono (by decide)) (by rfl) pc (aw_cons ?_)))
    walk_at "n"
    refine aw_cons (ew_neg (ew_gint T.i_FAR (by rfl) ⟨_, rfl, aw_cons (ew_gint T.i_FAR (by rfl) (aw_nil ⟨b, _, _, rfl, pb, fun h1 => ?_, fun h1 => L.bad h1⟩))⟩))
    obtain ⟨i, rfl, i1, i2⟩ := inR_int h1
    refine sw_cons (s1_set 2 ndO rfl (.inl rfl) (ew_bin ?_))
    refine ew_prop (.none fun _ _ _ => False) T.c_Store T.pr_Store_now.1 Fn (hr.mono (by decide)) Bn pF ?_
    walk_at "n"
    refine ⟨.own j hi.1, y, j, l, p, s, rfl, hi, ?_⟩
    walk_at "n"
    refine od_sub (sw_cons (s1_if (tw_cmp ?_)))
    walk_at "n"
    refine ew_fld T.c_Store T.n_Store_patience ?_
    walk_at "n"
    refine ⟨_, .own j hi.1 rfl, od_lt (isB ⟨fun h2 => ?_, fun h2 => ?_⟩)⟩
    · refine sw_cons (s1_raise1 T.o_NotYet T.m_NotYet_init.at_ T.t_NotYet Fy (hr.mono (by decide)) By (by rfl) T.g_NotYet rfl tk ?_)
      walk_at "n"
      exact L.yet i rfl h1 (of_decide_eq_true h2)
    · have h2 := of_decide_eq_false h2
      refine sw_nil (sw_cons (s1_if (tw_cmp ?_)))
      walk_at "n"
      refine ew_prop (.none fun _ _ _ => False) T.c_Tiers T.pr_Tiers_oldest.1 Fo (hr.mono (by decide)) Bo pF (ew_fld T.c_Store T.n_Store_tiers ?_)
      walk_at "n"
      refine ⟨_, .own j hi.1 rfl, .obj, l, rfl, hi.2, od_gt (isB ⟨fun h3 => ?_, fun h3 => ?_⟩)⟩
      · refine sw_cons (s1_raise1 T.o_Forgotten T.m_Forgotten_init.at_ T.t_Forgotten Ff (hr.mono (by decide)) Bf (by rfl) T.g_Forgotten rfl tk ?_)
        walk_at "n"
        exact L.old i rfl h1 (by omega) (of_decide_eq_true h3)
      · have h3 := of_decide_eq_false h3
        obtain ⟨wi, ws, hw, w0⟩ := wOf_some hi.2 (age := s.now - i) (by omega)
        refine sw_nil (sw_cons (s1_set 3 ndO rfl (.inl rfl) ?_))
        refine ew_meth0 (.none fun _ _ _ => False) (m_kept T) (hr.mono (by decide)) pF ?_
        walk_at "n"
        refine ⟨.own j hi.1 rfl, y, j, l, p, s, rfl, hi, ?_⟩
        refine sw_cons (s1_set 4 ndO rfl (.inl rfl) ?_)
        refine ew_call (.none fun _ _ _ => False) (d_many T) (hr.mono (by decide)) (by rfl) pF (aw_cons ?_)
        walk_at "n"
        refine aw_cons (ew_meth (.none fun _ _ _ => False) (m_gof T) (hr.mono (by decide)) pF (ew_fld T.c_Store T.n_Store_tiers ?_))
        walk_at "n"
        refine ⟨_, .own j hi.1 rfl, .obj rfl, aw_cons ?_⟩
        walk_at "n"
        refine aw_cons ?_
        walk_at "n"
        refine aw_nil ⟨l, i, _, wi, ws, rfl, hi.2, hw, w0, aw_nil ⟨s.lk, _, rfl, st, ?_⟩⟩
        refine sw_cons (s1_if (tw_cmp ?_))
        walk_at "n"
        refine ew_int (od_eq hr.units rfl rfl ?_)
        cases e : cnt s.lk (i - i % wi) with
        | zero =>
          rw [show D.eqv (.int ((0 : Nat) : Int)) (.int 0) = true from rfl]
          refine isB (br_t (sw_cons (s1_raise0 T.b_Nothing (by rfl) T.g_Nothing rfl tk ?_)))
          exact L.non i wi ws rfl h1 (by omega) (by omega) hw e
        | succ k =>
          have hk : k < s.lk.length := by
            have := cnt_le s.lk (i - i % wi)
            omega
          have hx : s.lk[k]? = some s.lk[k] := List.getElem?_eq_getElem hk
          have ne : D.eqv (.int ((k + 1 : Nat) : Int)) (.int 0) = false := by
            unfold D.eqv
            simp only [D.py, PyData.eqv, beq_eq_false_iff_ne, ne_eq]
            omega
          rw [ne]
          refine isB (br_f (sw_nil (sw_cons (s1_ret (ew_ix ?_)))))
          walk_at "n"
          refine ew_bin ?_
          walk_at "n"
          refine ew_int (od_sub (ix_tpl (d := lkD K s.lk[k]) ?_ ?_))
          · rw [show ((k + 1 : Nat) : Int) - 1 = (k : Nat) by omega]
            exact atI_nat (lks_get hx)
          · exact L.yes i wi ws k _ rfl h1 (by omega) (by omega) hw e hx
theorem m_lookat (T : Tx K mg) : Dfs.Mfn P w K mg base (L2.CX P w) 5 (CSo K) "look_at" ["self", "border"] (spF (F_lookof K)) := by
  refine mfnF T.q_Store_look_at T.c_Store T.m_Store_look_at (N := ["self", "border"]) ⟨rfl, rfl, rfl, by decide +kernel, rfl, by decide +kernel, by decide +kernel⟩ (fun kV doc pm an cdv ct => Vls.bind2 fun a b => rfl) (fun ds cs Kk KE h => ?_) (fun cdv A outer s H E ds cs Kk KE hr h => ?_)
  · obtain ⟨_, _, _, _, _, _, rfl, _⟩ := h
    rfl
  · obtain ⟨y, j, l, p, s, b, rfl, hi, pb, st, L⟩ := h
    refine sw_cons (s1_ret (ew_call .same (d_lookof T) (hr.mono (by decide)) (by rfl) pc (aw_cons ?_)))
    walk_at "n"
    refine aw_cons ?_
    walk_at "n"
    exact aw_nil ⟨y, j, l, p, s, b, rfl, hi, pb, st, L⟩
def F_getitem (K : PySem.W.Frag) : FT := fun ds cs Kk KE => ∃ y j l p s b, ds = [.own y, b] ∧ IsSo K cs j y l p s ∧ Pln b ∧ Srt s.lk ∧ LkAt K l p s b (fun x => Kk (.int x.t) cs) (fun C f => KE C f cs)
theorem m_getitem (T : Tx K mg) : Dfs.Mfn P w K mg base (L2.CX P w) 5 (CSo K) "__getitem__" ["self", "at"] (spF (F_getitem K)) := by
  refine mfnF T.q_Store_getitem T.c_Store T.m_Store_getitem (N := ["self", "at"]) ⟨rfl, rfl, rfl, by decide +kernel, rfl, by decide +kernel, by decide +kernel⟩ (fun kV doc pm an cdv ct => Vls.bind2 fun a b => rfl) (fun ds cs Kk KE h => ?_) (fun cdv A outer s H E ds cs Kk KE hr h => ?_)
  · obtain ⟨_, _, _, _, _, _, rfl, _⟩ := h
    rfl
  · obtain ⟨y, j, l, p, s, b, rfl, hi, pb, st, L⟩ := h
    refine sw_cons (s1_ret (ew_fld T.c_Look T.n_Look_tally (ew_call .same (d_lookof T) (hr.mono (by decide)) (by rfl) pc (aw_cons ?_))))
    walk_at "n"
    refine aw_cons ?_
    walk_at "n"
    exact aw_nil ⟨y, j, l, p, s, b, rfl, hi, pb, st, ⟨L.bad, L.yet, L.old, L.non, fun i w ws k x h1 h2 h3 h4 h5 h6 h7 => ⟨_, .obj rfl, L.yes i w ws k x h1 h2 h3 h4 h5 h6 h7⟩⟩⟩
/-- pass_to -/
def F_pass (K : PySem.W.Frag) : FT := fun ds cs Kk KE => ∃ y j l p s d, ds = [.own y, d] ∧ IsSo K cs j y l p s ∧ Pln d ∧ s.lk.length = s.un.length ∧ s.lk.length ≤ 1000 ∧ (inR s.now (10 ^ 30) d = false → KE (He.ga K "BadNumber") [("value", d)] cs) ∧
  ∀ i : Int, d = .int i → inR s.now (10 ^ 30) d = true → (s.u < i → keptU s.un i ≠ []) ∧ Kk .non (cs.set j (y, Cell.ins (CSo K) (soF K l p (thin { s with now := i }))))
theorem m_pass (T : Tx K mg) : Dfs.Mfn P w K mg base (L2.CX P w) 4 (CSo K) "pass_to" ["self", "moment"] (spF (F_pass K)) := by
  have nd : (["self", "moment", "state"] : List Str).Nodup := by decide +kernel
  obtain ⟨fn, Fn, Bn⟩ := g_now (P := P) (w := w) (base := base) T
  obtain ⟨fs, Fs, Bs_⟩ := g_state (P := P) (w := w) (base := base) T
  refine mfnF T.q_Store_pass_to T.c_Store T.m_Store_pass_to (N := ["self", "moment", "state"]) ⟨rfl, rfl, rfl, nd, rfl, by decide +kernel, by decide +kernel⟩ (fun kV doc pm an cdv ct => Vls.bind2 fun a b => rfl) (fun ds cs Kk KE h => ?_) (fun cdv A outer s0 H E ds cs Kk KE hr h => ?_)
  · obtain ⟨_, _, _, _, _, _, rfl, _⟩ := h
    rfl
  · obtain ⟨y, j, l, p, s, d, rfl, hi, pd, l1, l2, qb, q⟩ := h
    refine sw_cons (s1_expr (ew_call .same (d_check T) (hr.mono (by decide)) (by rfl) pc (aw_cons ?_)))
    walk_at "n"
    refine aw_cons (ew_prop (.none fun _ _ _ => False) T.c_Store T.pr_Store_now.1 Fn (hr.mono (by decide)) Bn pF ?_)
    walk_at "n"
    refine ⟨.own j hi.1, y, j, l, p, s, rfl, hi, aw_cons (ew_gint T.i_FAR (by rfl) (aw_nil ⟨d, _, _, rfl, pd, fun h1 => ?_, fun h1 => qb h1⟩))⟩
    obtain ⟨i, rfl, i1, i2⟩ := inR_int h1
    obtain ⟨q1, q2⟩ := q i rfl h1
    refine sw_cons (s1_set 2 nd rfl (.inl rfl) (ew_fld T.c_Store T.n_Store_state ?_))
    walk_at "n"
    refine ⟨_, .own j hi.1 rfl, ?_⟩
    refine sw_cons (s1_fld T.c_Store T.n_Store_state ?_)
    refine ew_call (.none fun _ _ _ => False) (d_thin T) (hr.mono (by decide)) (by rfl) pF (aw_cons ?_)
    refine ew_make (.none fun _ _ _ => False) T.k_State Fs (hr.mono (by decide)) (by rfl) T.g_State Bs_ pF (aw_cons ?_)
    walk_at "n"
    refine aw_cons (ew_fld T.c_State T.n_State_looks ?_)
    walk_at "n"
    refine ⟨_, .obj rfl, aw_cons (ew_fld T.c_State T.n_State_untils ?_)⟩
    walk_at "n"
    refine ⟨_, .obj rfl, aw_cons (ew_fld T.c_State T.n_State_until ?_)⟩
    walk_at "n"
    refine ⟨_, .obj rfl, aw_nil ?_⟩
    refine fun z => ⟨z, _, _, _, _, _, rfl, rfl, rfl, _, _, rfl, aw_nil ⟨{ s with now := i }, rfl, l1, l2, fun h => q1 h, ?_⟩⟩
    walk_at "n"
    refine ⟨y, j, _, rfl, hi.1, by show 3 < 1000; decide, sw_nil ?_⟩
    exact q2
end
end K41
set_option Elab.async false
set_option linter.all false
set_option maxRecDepth 100000
set_option maxHeartbeats 4000000
namespace K41
open PySem PySem.Spec PyProof.Rows L2 Sx
local macro_rules | `(tactic| walk_at "c") => `(tactic| first
  | refine aw_cons ?_ | refine aw_nil ?_
  | refine ew_int ?_ | refine ew_non ?_ | refine ew_bl ?_ | refine ew_str ?_
  | refine ew_bin ?_ | refine ew_cmp ?_ | refine tw_cmp ?_ | refine tw_not ?_ | refine ew_chain ?_ | refine tw_chain ?_ | refine ew_and ?_ | refine ew_or ?_ | refine ew_one ?_ | refine ew_not ?_ | refine ew_neg ?_ | refine ew_if ?_
  | refine tw_w (ww_and ?_) | refine tw_w (ww_or ?_) | refine ww_and ?_ | refine ww_or ?_ | refine ww_and1 ?_ | refine ww_or1 ?_
  | refine tw_val (e := .Call _ _ _ _) ?_ | refine ew_tup ?_ | refine ew_ix ?_ | refine ew_lst ?_
  | refine sw_cons ?_ | refine s1_ret ?_ | refine s1_if ?_ | refine sw_nil ?_ | refine s1_expr ?_
  | refine od_add ?_ | refine od_sub ?_ | refine od_lt ?_ | refine od_le ?_ | refine od_gt ?_ | refine od_ge ?_
  | refine isB ?_ | refine intD ?_ | refine br_t ?_ | refine br_f ?_
  | refine ⟨szl (Nat.le_of_ble_eq_true rfl), ?_⟩)
local macro_rules | `(tactic| walk_at "n") => `(tactic| first
  | refine ew_name 0 rfl (by first | exact .inl rfl | exact .inr (.inl rfl) | exact .inr (.inr rfl)) rfl ?_
  | refine ew_name 1 rfl (by first | exact .inl rfl | exact .inr (.inl rfl) | exact .inr (.inr rfl)) rfl ?_
  | refine ew_name 2 rfl (by first | exact .inl rfl | exact .inr (.inl rfl) | exact .inr (.inr rfl)) rfl ?_
  | refine ew_name 3 rfl (by first | exact .inl rfl | exact .inr (.inl rfl) | exact .inr (.inr rfl)) rfl ?_
  | refine ew_name 4 rfl (by first | exact .inl rfl | exact .inr (.inl rfl) | exact .inr (.inr rfl)) rfl ?_
  | refine ew_name 5 rfl (by first | exact .inl rfl | exact .inr (.inl rfl) | exact .inr (.inr rfl)) rfl ?_
  | refine ew_name 6 rfl (by first | exact .inl rfl | exact .inr (.inl rfl) | exact .inr (.inr rfl)) rfl ?_
  | refine ew_name 7 rfl (by first | exact .inl rfl | exact .inr (.inl rfl) | exact .inr (.inr rfl)) rfl ?_
  | refine ew_name 8 rfl (by first | exact .inl rfl | exact .inr (.inl rfl) | exact .inr (.inr rfl)) rfl ?_
  | refine ew_name 9 rfl (by first | exact .inl rfl | exact .inr (.inl rfl) | exact .inr (.inr rfl)) rfl ?_
  | refine ew_name 10 rfl (by first | exact .inl rfl | exact .inr (.inl rfl) | exact .inr (.inr rfl)) rfl ?_
  | refine ew_name 11 rfl (by first | exact .inl rfl | exact .inr (.inl rfl) | exact .inr (.inr rfl)) rfl ?_
  | refine ew_name 12 rfl (by first | exact .inl rfl | exact .inr (.inl rfl) | exact .inr (.inr rfl)) rfl ?_)
local macro_rules | `(tactic| walk_at "i") => `(tactic| (refine' cl_isi (.ty _) ?a ?b ?_; (case a => constructor); (case b => with_reducible first | exact kit_int_int | exact kit_int_bool | exact kit_bool_int | exact kit_bool_bool | exact kit_NoneType_int | exact kit_str_int | exact kit_list_int | exact kit_tuple_int | exact kit_dict_int | exact kit_tuple_tuple | exact kit_int_tuple | exact kit_NoneType_tuple | exact kit_bool_tuple | exact kit_str_tuple | exact kit_list_tuple | exact kit_dict_tuple)))
local macro_rules | `(tactic| walk_at "l") => `(tactic| first
  | refine ew_isinstance (Tx.f_isinstance (by assumption)) ?_ | refine ew_len (Tx.f_len (by assumption)) ?_ | refine ew_vint (Tx.f_int (by assumption)) ?_ | refine ew_vbool (Tx.f_bool (by assumption)) ?_ | refine ew_vtuple (Tx.f_tuple (by assumption)) ?_ | refine ew_vstr (Tx.f_str (by assumption)) ?_
  | refine ew_gint (Tx.i_FAR (by assumption)) (by rfl) ?_ | refine ew_gint (Tx.i_FAR_TALLY (by assumption)) (by rfl) ?_ | refine ew_gint (Tx.i_MOST_PATIENCE (by assumption)) (by rfl) ?_ | refine ew_gint (Tx.i_MOST_LIFE (by assumption)) (by rfl) ?_ | refine ew_gint (Tx.i_MOST_PAIRS (by assumption)) (by rfl) ?_ | refine ew_gint (Tx.i_MOST_WIDTH (by assumption)) (by rfl) ?_ | refine ew_gint (Tx.i_MOST_KEEP (by assumption)) (by rfl) ?_
  | refine cl_len ?_ | refine cl_lenT ?_ | refine ix_tpl rfl ?_ | refine od_is (by intro _ h; cases h) ?_)
local macro_rules | `(tactic| walk_at "x") => `(tactic| repeat (first | walk_at "c" | walk_at "n" | walk_at "l" | walk_at "i"))
theorem intsD_cat (a b : List Int) : intsD (a ++ b) = intsD a ++ intsD b := List.map_append
/-- until when the looks are kept, one more at m behind k others -/
def untB (l : List Pr) (p : Int) (s : Sta) (m : Int) : Nat → List Int
  | 0 => []
  | k + 1 => match s.lk[k]? with
    | some x => [kuF l p x.m m]
    | none => []
def untO (l : List Pr) (p : Int) (s : Sta) (m : Int) (k : Nat) : Int := match s.lk[k]? with
  | some x => kuF l p m x.m
  | none => 10 ^ 30
def untW (l : List Pr) (p : Int) (s : Sta) (m : Int) (k : Nat) : List Int := s.un.take (k - 1) ++ (untB l p s m k ++ (untO l p s m k :: s.un.drop k))
theorem untB_len (l : List Pr) (p : Int) (s : Sta) (m : Int) (k : Nat) : (untB l p s m k).length ≤ 1 := by
  cases k with
  | zero => exact Nat.zero_le _
  | succ k =>
    show (match s.lk[k]? with
    | some x => [kuF l p x.m m]
    | none => []).length ≤ 1
    split <;> simp
section
variable {P : Program} {w : World} {K : PySem.W.Frag} {mg : Str → Option Value} {base : Heap}
def F_unt (K : PySem.W.Frag) : FT := fun ds cs Kk _ => ∃ (y : Addr) (j : Nat) (l : List Pr) (p : Int) (s : Sta) (m : Int) (k : Nat), ds = [.own y, .int m, .int k] ∧ IsSo K cs j y l p s ∧ s.lk.length = s.un.length ∧ s.lk.length ≤ 1000 ∧ k ≤ s.lk.length ∧ Kk (.tup (intsD (untW l p s m k))) cs
def NU : List Str := ["store", "moment", "at", "looks", "untils", "ahead", "own", "look"]
theorem ndU : NU.Nodup := by decide +kernel
theorem d_unt (T : Tx K mg) : Dfs.Dfn P w K mg base (L2.CX P w) 2 "untils_with" ["store", "moment", "at"] (spF (F_unt K)) := by
  refine dfnF T.q_untils_with T.g_untils_with (N := NU) ⟨rfl, rfl, rfl, ndU, rfl, by decide +kernel, by decide +kernel⟩ (fun kV doc pm an cdv ct => Vls.bind3 fun a b c => rfl) (fun ds cs Kk KE h => ?_) (fun cdv A outer s0 H E ds cs Kk KE hr h => ?_)
  · obtain ⟨_, _, _, _, _, _, _, rfl, _⟩ := h
    rfl
  · obtain ⟨y, j, l, p, s, m, k, rfl, hi, l1, l2, hk, q⟩ := h
    refine sw_cons (s1_par 3 4 rfl ndU rfl rfl (by decide) rfl rfl (aw_cons ?_))
    refine ew_fld T.c_State T.n_State_looks (ew_fld T.c_Store T.n_Store_state ?_)
    walk_at "n"
    refine ⟨_, .own j hi.1 rfl, _, .obj rfl, aw_cons (ew_fld T.c_State T.n_State_untils (ew_fld T.c_Store T.n_Store_state ?_))⟩
    walk_at "n"
    refine ⟨_, .own j hi.1 rfl, _, .obj rfl, aw_nil ⟨_, _, rfl, ?_⟩⟩
    show SW _ _ _ ⟨[some (.own y), some (.int m), some (.int k), some (.tup (lks K s.lk)), some (.tup (intsD s.un)), none, none, none], cs⟩ _
    -- ahead
    refine sw_cons (s1_lcT 5 [("look", 7)] 0 rfl ndU rfl rfl (Vls.blk_by (N := NU) (sc := defScope s_untils_with) (by decide +kernel)) (ew_slT ?_))
    walk_at "n"
    show EW _ _ _ _ _
    refine ew_bin ?_
    walk_at "n"
    refine ew_int (od_sub ⟨_, rfl, ?_⟩)
    show EW _ _ _ _ _
    walk_at "n"
    refine ⟨_, rfl, _, rfl, ?_⟩
    have ahd : ∃ xs : List Lk, cutD (lks K s.lk) (some ((k : Int) - 1)) (some (k : Int)) = lks K xs ∧ xs.map (fun x => kuF l p x.m m) = untB l p s m k := by
      cases k with
      | zero => exact ⟨[], cut_zero _, rfl⟩
      | succ k =>
        have hx : s.lk[k]? = some s.lk[k] := List.getElem?_eq_getElem (by omega)
        refine ⟨[s.lk[k]], ?_, ?_⟩
        · rw [show ((k + 1 : Nat) : Int) - 1 = (k : Nat) by omega]
          exact cut_one (lks_get hx)
        · show _ = (match s.lk[k]? with
            | some x => [kuF l p x.m m]
            | none => [])
          rw [hx]
          rfl
    obtain ⟨xs, ex, eu⟩ := ahd
    rw [ex]
    have xl : xs.length ≤ 1 := by
      have := untB_len l p s m k
      rw [← eu, List.length_map] at this
      exact this
    refine ⟨lks K xs, rfl, szl (by rw [lks_len]; omega), fun i acc cs' => cs' = cs ∧ acc = intsD ((xs.take i).map fun x => kuF l p x.m m), ⟨rfl, rfl⟩, fun i d acc cs' hd hI => ?_, fun acc cs' hI => ?_⟩
    · obtain ⟨rfl, rfl⟩ := hI
      obtain ⟨x, hx, rfl⟩ := lks_at hd
      refine ⟨by rw [intsD_len, List.length_map, List.length_take]; omega, fun lx _ _ _ _ _ => ?_⟩
      refine tg_name 7 ndU rfl (.inl rfl) ?_
      intro _ _ _ _ _
      refine ts_nil ⟨fun _ => ?_, fun e => by cases e⟩
      intro _ _ _ _ _
      refine ew_call (.none fun _ _ _ => False) (d_kept T) (hr.mono (by decide)) (by rfl) pF (aw_cons ?_)
      walk_at "n"
      refine aw_cons (ew_fld T.c_Look T.n_Look_moment ?_)
      walk_at "n"
      refine ⟨_, .obj rfl, aw_cons ?_⟩
      walk_at "n"
      refine aw_nil ⟨y, j + 1, l, p, s, _, m, rfl, hi.1, hi.2, ⟨cs', rfl, rfl, ?_⟩⟩
      rw [List.take_add_one, hx]
      unfold intsD
      simp
    · obtain ⟨rfl, rfl⟩ := hI
      rw [lks_len, List.take_length, eu]
      -- own
      refine sw_cons (s1_set 6 ndU rfl (.inl rfl) (ew_if (tw_cmp ?_)))
      walk_at "n"
      refine ew_len T.f_len (aw_cons ?_)
      walk_at "n"
      refine aw_nil (cl_lenT (od_lt ?_))
      rw [lks_len]
      have last : ∀ (b : List (Option D)) , b = [some (D.own y), some (.int m), some (.int k), some (.tup (lks K s.lk)), some (.tup (intsD s.un)), some (.lst (intsD (untB l p s m k))), some (.int (untO l p s m k)), none] → SW (cxOf (L2.CX P w) P w K mg base NU "untils_with" (defScope s_untils_with) (He.ga K "untils_with") cdv A outer s0 H E) ⟨H, cs', E, KE⟩ ((defBody s_untils_with).drop 3) ⟨b, cs'⟩ { nx := fun s => Kk .non s.cs, rt := fun d s => Kk d s.cs } := by
        rintro _ rfl
        have cut : ∀ b : Int, b = ((k - 1 : Nat) : Int) → cutD (intsD s.un) none (some b) = intsD (s.un.take (k - 1)) := by
          rintro _ rfl
          rw [cut_to]
          unfold intsD
          rw [List.map_take]
        refine sw_cons (s1_ret (ew_tup (aw_star (ew_slT ?_))))
        walk_at "n"
        show EW _ _ _ _ _
        refine ew_callB (id := "max") T.f_max (by rfl) (by decide +kernel) (aw_cons (ew_int (aw_cons (ew_bin ?_))))
        walk_at "n"
        refine ew_int (od_sub (aw_nil (cl_max2 rfl ⟨_, rfl, _, rfl, _, .inl rfl, aw_star ?_⟩)))
        walk_at "n"
        refine ⟨_, .inr rfl, aw_cons ?_⟩
        walk_at "n"
        refine aw_star (ew_slT ?_)
        walk_at "n"
        show EW _ _ _ _ _
        walk_at "n"
        refine ⟨_, rfl, _, rfl, _, .inl rfl, aw_nil ?_⟩
        have e1 := cut (if (k : Int) - 1 > 0 then (k : Int) - 1 else 0) (by
          split <;> omega)
        rw [e1, cut_from k (by rw [intsD_len]; omega)]
        have e2 : intsD (s.un.take (k - 1)) ++ (intsD (untB l p s m k) ++ (D.int (untO l p s m k) :: ((intsD s.un).drop k ++ []))) = intsD (untW l p s m k) := by
          unfold untW
          rw [intsD_cat, intsD_cat, List.append_nil]
          unfold intsD
          rw [List.map_cons, List.map_drop]
        rw [e2]
        refine ⟨?_, q⟩
        rw [intsD_len]
        have := untB_len l p s m k
        unfold untW
        refine szl ?_
        rw [List.length_append, List.length_append, List.length_cons, List.length_take, List.length_drop]
        omega
      by_cases hlt : k < s.lk.length
      · rw [decide_eq_true (by omega)]
        have hx : s.lk[k]? = some s.lk[k] := List.getElem?_eq_getElem hlt
        refine isB (br_t ?_)
        refine ew_call (.none fun _ _ _ => False) (d_kept T) (hr.mono (by decide)) (by rfl) pF (aw_cons ?_)
        walk_at "n"
        refine aw_cons ?_
        walk_at "n"
        refine aw_cons (ew_fld T.c_Look T.n_Look_moment (ew_ix ?_))
        walk_at "n"
        walk_at "n"
        refine ix_tpl (d := lkD K s.lk[k]) (atI_nat (lks_get hx)) ⟨_, .obj rfl, aw_nil ⟨y, j, l, p, s, m, _, rfl, hi.1, hi.2, last _ ?_⟩⟩
        unfold untO
        rw [hx]
        rfl
      · rw [decide_eq_false (by omega)]
        have hx : s.lk[k]? = none := List.getElem?_eq_none (by omega)
        refine isB (br_f (ew_gint T.i_FAR (by rfl) (last _ ?_)))
        unfold untO
        rw [hx]
        rfl
end
end K41
set_option Elab.async false
set_option linter.all false
set_option maxRecDepth 100000
set_option maxHeartbeats 2000000
/-! Small data: what == and repr ask of it. -/
namespace Pre
open PySem PySem.Spec PyProof.Rows L2
theorem Same.put {H H1 : Hp} {D : Addr} {o : HO} (s : Same H H1) (n : H D = none) : Same H (L2.upd H1 D o) := fun b u h => by
  rw [upd_ne (ne_of_none h n)]
  exact s b u h
end Pre
namespace Flat
open PySem PySem.Spec PyProof.Rows L2 Pre
structure Sm (w k : Nat) (d : PyData) : Prop where
  leaf : PyData.leavesShort 60 d = true
  wt : PyData.weight d ≤ w
  sh : d.showable = true
  nd : d.hasDict = false
  dp : d.depth ≤ k
  lay : PyData.canLay0 d = true
structure SmA (w k : Nat) (ds : List PyData) : Prop where
  leaf : PyData.leavesShortAll 60 ds = true
  wt : PyData.weightAll ds ≤ w
  sh : PyData.showableAll ds = true
  nd : PyData.hasDictAll ds = false
  dp : PyData.depthAll ds ≤ k
  lay : PyData.canLayAll0 ds = true
theorem Sm.mono {w k v j : Nat} {d : PyData} (s : Sm w k d) (h : w ≤ v) (h2 : k ≤ j) : Sm v j d := ⟨s.leaf, Nat.le_trans s.wt h, s.sh, s.nd, Nat.le_trans s.dp h2, s.lay⟩
theorem Sm.non : Sm 0 0 .none := ⟨by simp only [PyData.leavesShort], by simp only [PyData.weight]; omega, by simp only [PyData.showable], by simp only [PyData.hasDict], by simp only [PyData.depth]; omega, by simp only [PyData.canLay0]⟩
theorem Sm.bl (b : Bool) : Sm 0 0 (.bool b) := ⟨by simp only [PyData.leavesShort], by simp only [PyData.weight]; omega, by simp only [PyData.showable], by simp only [PyData.hasDict], by simp only [PyData.depth]; omega, by simp only [PyData.canLay0]⟩
theorem log_of {n : Nat} (h : n < 10 ^ 50) : n.log2 < 170 := by
  by_cases z : n = 0
  · subst z
    decide
  · exact (Nat.log2_lt z).mpr (Nat.lt_of_lt_of_le h (by decide))
theorem Sm.int {i : Int} (h : i.natAbs < 10 ^ 50) : Sm 170 0 (.int i) := by
  have l := log_of h
  refine ⟨?_, ?_, ?_, by simp only [PyData.hasDict], by simp only [PyData.depth]; omega, by simp only [PyData.canLay0]⟩
  · simp only [PyData.leavesShort, PyData.shown_int]
    refine decide_eq_true ?_
    have z := int_text_length_le10 (k := 50) (by decide) h
    show (Str.ofString (toString i)).length ≤ 60
    have e : (Str.ofString (toString i)).length = (toString i).length := PySem.ofString_length _
    omega
  · simp only [PyData.weight]
    split <;> omega
  · simp only [PyData.showable]
    exact decide_eq_true (by omega)
theorem SmA.nil : SmA 0 0 [] := ⟨by simp [PyData.leavesShortAll], by simp [PyData.weightAll], by simp [PyData.showableAll], by simp [PyData.hasDictAll], by simp [PyData.depthAll], by simp [PyData.canLayAll0]⟩
theorem SmA.cons {w k v j : Nat} {d : PyData} {ds : List PyData} (a : Sm w k d) (b : SmA v j ds) : SmA (w + 1 + v) (max k j) (d :: ds) := by
  have h1 := a.wt
  have h2 := b.wt
  have h3 := a.dp
  have h4 := b.dp
  refine ⟨?_, ?_, ?_, ?_, ?_, ?_⟩
  · simp only [PyData.leavesShortAll, a.leaf, b.leaf, Bool.and_self]
  · simp only [PyData.weightAll]
    omega
  · simp only [PyData.showableAll, a.sh, b.sh, Bool.and_self]
  · simp only [PyData.hasDictAll, a.nd, b.nd, Bool.or_self]
  · simp only [PyData.depthAll]
    omega
  · simp only [PyData.canLayAll0, a.lay, b.lay, Bool.and_self]
theorem SmA.tup {w k : Nat} {ds : List PyData} (a : SmA w k ds) : Sm w (k + 1) (.tuple ds) := by
  have h1 := a.wt
  have h3 := a.dp
  exact ⟨by simp only [PyData.leavesShort, a.leaf], by simp only [PyData.weight]; omega, by simp only [PyData.showable, a.sh], by simp only [PyData.hasDict, a.nd], by simp only [PyData.depth]; omega, by simp only [PyData.canLay0, a.lay]⟩
theorem SmA.lst {w k : Nat} {ds : List PyData} (a : SmA w k ds) : Sm w (k + 1) (.list ds) := by
  have h1 := a.wt
  have h3 := a.dp
  exact ⟨by simp only [PyData.leavesShort, a.leaf], by simp only [PyData.weight]; omega, by simp only [PyData.showable, a.sh], by simp only [PyData.hasDict, a.nd], by simp only [PyData.depth]; omega, by simp only [PyData.canLay0, a.lay]⟩
theorem SmA.all {w k : Nat} : ∀ {ds : List PyData}, (∀ d ∈ ds, Sm w k d) → SmA ((w + 1) * ds.length) k ds
  | [], _ => ⟨SmA.nil.leaf, by simp [PyData.weightAll], SmA.nil.sh, SmA.nil.nd, by simp [PyData.depthAll], SmA.nil.lay⟩
  | d :: ds, h => by
    have a := SmA.cons (h d (List.mem_cons_self ..)) (SmA.all fun x hx => h x (List.mem_cons_of_mem _ hx))
    have e : (w + 1) * (d :: ds).length = w + 1 + (w + 1) * ds.length := by rw [List.length_cons, Nat.mul_succ]; omega
    rw [e]
    exact ⟨a.leaf, a.wt, a.sh, a.nd, by have := a.dp; omega, a.lay⟩
theorem SmA.ints {ns : List Int} (h : ∀ n ∈ ns, n.natAbs < 10 ^ 50) : SmA (171 * ns.length) 0 (ns.map PyData.int) := by
  have a := SmA.all (w := 170) (k := 0) (ds := ns.map PyData.int) (fun d hd => by
    obtain ⟨n, hn, rfl⟩ := List.mem_map.mp hd
    exact Sm.int (h n hn))
  rw [List.length_map] at a
  exact a
theorem Sm.fits {w k : Nat} {d : PyData} (s : Sm w k d) (h : w ≤ 100000) : d.shown.length ≤ sizeLine := by
  have z := PyData.shown_le 60 (by decide) d s.leaf
  have z2 := s.wt
  have z3 : (60 + 2) * d.weight ≤ 62 * 100000 := Nat.mul_le_mul (by decide) (by omega)
  rw [sizeLine_eq]
  omega
theorem Sm.shaped {w k : Nat} {d : PyData} (s : Sm w k d) (h : k ≤ 60) : SeqAt.shaped d = true := by
  unfold SeqAt.shaped
  have := s.dp
  rw [s.lay, decide_eq_true (show d.depth ≤ 64 by omega)]
  rfl
/-- what repr asks -/
theorem Sm.repr {w k : Nat} {d : PyData} (s : Sm w k d) (h : w ≤ 100000) (h2 : k ≤ 60) : d.showable = true ∧ d.hasDict = false ∧ d.depth ≤ 60 ∧ d.shown.length ≤ sizeLine := ⟨s.sh, s.nd, Nat.le_trans s.dp h2, s.fits h⟩
/-! equality of ints -/
theorem eqv_ints : ∀ xs ys : List Int, PyData.eqvAll (xs.map PyData.int) (ys.map PyData.int) = decide (xs = ys)
  | [], [] => by simp [PyData.eqvAll]
  | [], y :: ys => by simp [PyData.eqvAll]
  | x :: xs, [] => by simp [PyData.eqvAll]
  | x :: xs, y :: ys => by
    have h := eqv_ints xs ys
    rw [List.map_cons, List.map_cons, PyData.eqvAll, PyData.eqv, h]
    by_cases e : x = y
    · subst e
      simp
    · simp [e]
theorem eqv_tup (xs ys : List Int) : PyData.eqv (.tuple (xs.map PyData.int)) (.tuple (ys.map PyData.int)) = decide (xs = ys) := by rw [PyData.eqv, eqv_ints]
theorem eqv_lst (xs ys : List Int) : PyData.eqv (.list (xs.map PyData.int)) (.list (ys.map PyData.int)) = decide (xs = ys) := by rw [PyData.eqv, eqv_ints]
end Flat
set_option Elab.async false
set_option linter.all false
set_option maxRecDepth 100000
set_option maxHeartbeats 4000000
namespace K41
open PySem PySem.Spec PyProof.Rows L2 Sx
local macro_rules | `(tactic| walk_at "c") => `(tactic| first
  | refine aw_cons ?_ | refine aw_nil ?_
  | refine ew_int ?_ | refine ew_non ?_ | refine ew_bl ?_ | refine ew_str ?_
  | refine ew_bin ?_ | refine ew_cmp ?_ | refine tw_cmp ?_ | refine tw_not ?_ | refine ew_chain ?_ | refine tw_chain ?_ | refine ew_and ?_ | refine ew_or ?_ | refine ew_one ?_ | refine ew_not ?_ | refine ew_neg ?_ | refine ew_if ?_
  | refine tw_w (ww_and ?_) | refine tw_w (ww_or ?_) | refine ww_and ?_ | refine ww_or ?_ | refine ww_and1 ?_ | refine ww_or1 ?_
  | refine tw_val (e := .Call _ _ _ _) ?_ | refine ew_tup ?_ | refine ew_ix ?_ | refine ew_lst ?_
  | refine sw_cons ?_ | refine s1_ret ?_ | refine s1_if ?_ | refine sw_nil ?_ | refine s1_expr ?_
  | refine od_add ?_ | refine od_sub ?_ | refine od_lt ?_ | refine od_le ?_ | refine od_gt ?_ | refine od_ge ?_
  | refine isB ?_ | refine intD ?_ | refine br_t ?_ | refine br_f ?_
  | refine ⟨szl (Nat.le_of_ble_eq_true rfl), ?_⟩)
local macro_rules | `(tactic| walk_at "n") => `(tactic| first
  | refine ew_name 0 rfl (by first | exact .inl rfl | exact .inr (.inl rfl) | exact .inr (.inr rfl)) rfl ?_
  | refine ew_name 1 rfl (by first | exact .inl rfl | exact .inr (.inl rfl) | exact .inr (.inr rfl)) rfl ?_
  | refine ew_name 2 rfl (by first | exact .inl rfl | exact .inr (.inl rfl) | exact .inr (.inr rfl)) rfl ?_
  | refine ew_name 3 rfl (by first | exact .inl rfl | exact .inr (.inl rfl) | exact .inr (.inr rfl)) rfl ?_
  | refine ew_name 4 rfl (by first | exact .inl rfl | exact .inr (.inl rfl) | exact .inr (.inr rfl)) rfl ?_
  | refine ew_name 5 rfl (by first | exact .inl rfl | exact .inr (.inl rfl) | exact .inr (.inr rfl)) rfl ?_
  | refine ew_name 6 rfl (by first | exact .inl rfl | exact .inr (.inl rfl) | exact .inr (.inr rfl)) rfl ?_
  | refine ew_name 7 rfl (by first | exact .inl rfl | exact .inr (.inl rfl) | exact .inr (.inr rfl)) rfl ?_
  | refine ew_name 8 rfl (by first | exact .inl rfl | exact .inr (.inl rfl) | exact .inr (.inr rfl)) rfl ?_
  | refine ew_name 9 rfl (by first | exact .inl rfl | exact .inr (.inl rfl) | exact .inr (.inr rfl)) rfl ?_
  | refine ew_name 10 rfl (by first | exact .inl rfl | exact .inr (.inl rfl) | exact .inr (.inr rfl)) rfl ?_
  | refine ew_name 11 rfl (by first | exact .inl rfl | exact .inr (.inl rfl) | exact .inr (.inr rfl)) rfl ?_
  | refine ew_name 12 rfl (by first | exact .inl rfl | exact .inr (.inl rfl) | exact .inr (.inr rfl)) rfl ?_)
local macro_rules | `(tactic| walk_at "i") => `(tactic| (refine' cl_isi (.ty _) ?a ?b ?_; (case a => constructor); (case b => with_reducible first | exact kit_int_int | exact kit_int_bool | exact kit_bool_int | exact kit_bool_bool | exact kit_NoneType_int | exact kit_str_int | exact kit_list_int | exact kit_tuple_int | exact kit_dict_int | exact kit_tuple_tuple | exact kit_int_tuple | exact kit_NoneType_tuple | exact kit_bool_tuple | exact kit_str_tuple | exact kit_list_tuple | exact kit_dict_tuple)))
local macro_rules | `(tactic| walk_at "l") => `(tactic| first
  | refine ew_isinstance (Tx.f_isinstance (by assumption)) ?_ | refine ew_len (Tx.f_len (by assumption)) ?_ | refine ew_vint (Tx.f_int (by assumption)) ?_ | refine ew_vbool (Tx.f_bool (by assumption)) ?_ | refine ew_vtuple (Tx.f_tuple (by assumption)) ?_ | refine ew_vstr (Tx.f_str (by assumption)) ?_
  | refine ew_gint (Tx.i_FAR (by assumption)) (by rfl) ?_ | refine ew_gint (Tx.i_FAR_TALLY (by assumption)) (by rfl) ?_ | refine ew_gint (Tx.i_MOST_PATIENCE (by assumption)) (by rfl) ?_ | refine ew_gint (Tx.i_MOST_LIFE (by assumption)) (by rfl) ?_ | refine ew_gint (Tx.i_MOST_PAIRS (by assumption)) (by rfl) ?_ | refine ew_gint (Tx.i_MOST_WIDTH (by assumption)) (by rfl) ?_ | refine ew_gint (Tx.i_MOST_KEEP (by assumption)) (by rfl) ?_
  | refine cl_len ?_ | refine cl_lenT ?_ | refine ix_tpl rfl ?_ | refine od_is (by intro _ h; cases h) ?_)
local macro_rules | `(tactic| walk_at "x") => `(tactic| repeat (first | walk_at "c" | walk_at "n" | walk_at "l" | walk_at "i"))
def lkEq (x z : Lk) : Bool := decide ([x.m, x.t, x.l] = [z.m, z.t, z.l])
theorem told_ok (x : Lk) : (D.tup [.int x.m, .int x.t, .int x.l]).ok = true := by rfl
theorem told_eqv (x z : Lk) : D.eqv (.tup [.int x.m, .int x.t, .int x.l]) (.tup [.int z.m, .int z.t, .int z.l]) = lkEq x z := Flat.eqv_tup [x.m, x.t, x.l] [z.m, z.t, z.l]
/-- whether a moment has a look -/
def hasM (xs : List Lk) (m : Int) : Bool := match cnt xs m with
  | 0 => false
  | k + 1 => match xs[k]? with
    | some x => decide (x.m = m)
    | none => false
section
variable {P : Program} {w : World} {K : PySem.W.Frag} {mg : Str → Option Value} {base : Heap}
def F_leq (K : PySem.W.Frag) : FT := fun ds cs Kk _ => ∃ x o, ds = [lkD K x, o] ∧ ((∃ z, o = lkD K z ∧ Kk (.bl (lkEq x z)) cs) ∨ (∃ ts, o = .tup ts ∧ Kk (.bl false) cs))
theorem g_leq (T : Tx K mg) : ∃ fd, FnOk P w K mg base (L2.CX P w) 2 (He.ma K (CLk K) "__eq__") fd ["self", "other"] (spF (F_leq K)) ∧ L2.Binds K fd ["self", "other"] [] := by
  obtain ⟨fd, F⟩ := T.q_Look_eq
  refine ⟨fd, okF F (N := ["self", "other"]) ⟨rfl, rfl, rfl, by decide +kernel, rfl, by decide +kernel, by decide +kernel⟩ (fun ds cs Kk KE h => ?_) (fun cdv A outer s H E ds cs Kk KE hr h => ?_), F.bindsN fun kV doc pm an cdv ct => Vls.bind2 fun a b => rfl⟩
  · obtain ⟨_, _, rfl, _⟩ := h
    rfl
  · obtain ⟨x, o, rfl, q⟩ := h
    refine sw_cons (s1_ret (ew_and (ew_isinstance T.f_isinstance (aw_cons ?_))))
    walk_at "n"
    refine aw_cons (ew_gref T.g_Look (by rfl) (aw_nil ?_))
    rcases q with ⟨z, rfl, q⟩ | ⟨ts, rfl, q⟩
    · refine cl_isi (.own _) (.obj T.is_Look T.c_Look) T.k_Look_Look (isB (br_t (ew_one (ew_cmp ?_))))
      refine ew_call (.none fun _ _ _ => False) (d_told T) (hr.mono (by decide)) (by rfl) pF (aw_cons ?_)
      walk_at "n"
      refine aw_nil ⟨_, _, _, rfl, ?_⟩
      refine ew_call (.none fun _ _ _ => False) (d_told T) (hr.mono (by decide)) (by rfl) pF (aw_cons ?_)
      walk_at "n"
      refine aw_nil ⟨_, _, _, rfl, od_eq hr.units (told_ok x) (told_ok z) ?_⟩
      rw [told_eqv]
      exact q
    · refine cl_isi (.own _) .tup T.k_tuple_Look (isB (br_f ?_))
      exact q
def F_has (K : PySem.W.Frag) : FT := fun ds cs Kk _ => ∃ (y : Addr) (j : Nat) (l : List Pr) (p : Int) (s : Sta) (m : Int), ds = [.own y, .int m] ∧ IsSo K cs j y l p s ∧ Srt s.lk ∧ Kk (.bl (hasM s.lk m)) cs
theorem g_has (T : Tx K mg) : ∃ fd, FnOk P w K mg base (L2.CX P w) 2 (He.ma K (CSo K) "__contains__") fd ["self", "value"] (spF (F_has K)) ∧ L2.Binds K fd ["self", "value"] [] := by
  have nd : (["self", "value", "looks", "at"] : List Str).Nodup := by decide +kernel
  obtain ⟨fd, F⟩ := T.q_Store_contains
  refine ⟨fd, okF F (N := ["self", "value", "looks", "at"]) ⟨rfl, rfl, rfl, nd, rfl, by decide +kernel, by decide +kernel⟩ (fun ds cs Kk KE h => ?_) (fun cdv A outer s0 H E ds cs Kk KE hr h => ?_), F.bindsN fun kV doc pm an cdv ct => Vls.bind2 fun a b => rfl⟩
  · obtain ⟨_, _, _, _, _, _, rfl, _⟩ := h
    rfl
  · obtain ⟨y, j, l, p, s, m, rfl, hi, st, q⟩ := h
    refine sw_cons (s1_if (tw_not (tw_val (e := .Call _ _ _ _) (ew_call (.none fun _ _ _ => False) (d_whole T) (hr.mono (by decide)) (by rfl) pF (aw_cons ?_)))))
    walk_at "n"
    refine aw_nil ⟨_, rfl, trivial, isB (br_f (sw_nil (sw_cons (s1_set 2 nd rfl (.inl rfl) (ew_fld T.c_State T.n_State_looks (ew_fld T.c_Store T.n_Store_state ?_))))))⟩
    walk_at "n"
    refine ⟨_, .own j hi.1 rfl, _, .obj rfl, ?_⟩
    refine sw_cons (s1_set 3 nd rfl (.inl rfl) (ew_call (.none fun _ _ _ => False) (d_many T) (hr.mono (by decide)) (by rfl) pF (aw_cons ?_)))
    walk_at "n"
    refine aw_cons ?_
    walk_at "n"
    refine aw_nil ⟨_, _, rfl, st, sw_cons (s1_ret (ew_and (ew_cmp ?_)))⟩
    walk_at "n"
    refine ew_int (od_gt ?_)
    unfold hasM at q
    cases e : cnt s.lk m with
    | zero =>
      rw [e] at q
      refine isB (br_f ?_)
      exact q
    | succ k =>
      have hk : k < s.lk.length := by
        have := cnt_le s.lk m
        omega
      have hx : s.lk[k]? = some s.lk[k] := List.getElem?_eq_getElem hk
      rw [e] at q
      dsimp only at q
      rw [hx] at q
      rw [decide_eq_true (by omega)]
      refine isB (br_t (ew_one (ew_cmp (ew_fld T.c_Look T.n_Look_moment (ew_ix ?_)))))
      walk_at "n"
      refine ew_bin ?_
      walk_at "n"
      refine ew_int (od_sub (ix_tpl (d := lkD K s.lk[k]) ?_ ⟨_, .obj rfl, ?_⟩))
      · rw [show ((k + 1 : Nat) : Int) - 1 = (k : Nat) by omega]
        exact atI_nat (lks_get hx)
      walk_at "n"
      refine od_eq hr.units rfl rfl ?_
      have e2 : D.eqv (.int s.lk[k].m) (.int m) = decide (s.lk[k].m = m) := by
        unfold D.eqv
        simp only [D.py, PyData.eqv]
        rw [Bool.eq_iff_iff, beq_iff_eq, decide_eq_true_eq]
      rw [e2]
      exact q
end
end K41
set_option Elab.async false
set_option linter.all false
set_option maxRecDepth 100000
set_option maxHeartbeats 4000000
namespace K41
open PySem PySem.Spec PyProof.Rows L2 Sx
local macro_rules | `(tactic| walk_at "c") => `(tactic| first
  | refine aw_cons ?_ | refine aw_nil ?_
  | refine ew_int ?_ | refine ew_non ?_ | refine ew_bl ?_ | refine ew_str ?_
  | refine ew_bin ?_ | refine ew_cmp ?_ | refine tw_cmp ?_ | refine tw_not ?_ | refine ew_chain ?_ | refine tw_chain ?_ | refine ew_and ?_ | refine ew_or ?_ | refine ew_one ?_ | refine ew_not ?_ | refine ew_neg ?_ | refine ew_if ?_
  | refine tw_w (ww_and ?_) | refine tw_w (ww_or ?_) | refine ww_and ?_ | refine ww_or ?_ | refine ww_and1 ?_ | refine ww_or1 ?_
  | refine tw_val (e := .Call _ _ _ _) ?_ | refine ew_tup ?_ | refine ew_ix ?_ | refine ew_lst ?_
  | refine sw_cons ?_ | refine s1_ret ?_ | refine s1_if ?_ | refine sw_nil ?_ | refine s1_expr ?_
  | refine od_add ?_ | refine od_sub ?_ | refine od_lt ?_ | refine od_le ?_ | refine od_gt ?_ | refine od_ge ?_
  | refine isB ?_ | refine intD ?_ | refine br_t ?_ | refine br_f ?_
  | refine ⟨szl (Nat.le_of_ble_eq_true rfl), ?_⟩)
local macro_rules | `(tactic| walk_at "n") => `(tactic| first
  | refine ew_name 0 rfl (by first | exact .inl rfl | exact .inr (.inl rfl) | exact .inr (.inr rfl)) rfl ?_
  | refine ew_name 1 rfl (by first | exact .inl rfl | exact .inr (.inl rfl) | exact .inr (.inr rfl)) rfl ?_
  | refine ew_name 2 rfl (by first | exact .inl rfl | exact .inr (.inl rfl) | exact .inr (.inr rfl)) rfl ?_
  | refine ew_name 3 rfl (by first | exact .inl rfl | exact .inr (.inl rfl) | exact .inr (.inr rfl)) rfl ?_
  | refine ew_name 4 rfl (by first | exact .inl rfl | exact .inr (.inl rfl) | exact .inr (.inr rfl)) rfl ?_
  | refine ew_name 5 rfl (by first | exact .inl rfl | exact .inr (.inl rfl) | exact .inr (.inr rfl)) rfl ?_
  | refine ew_name 6 rfl (by first | exact .inl rfl | exact .inr (.inl rfl) | exact .inr (.inr rfl)) rfl ?_
  | refine ew_name 7 rfl (by first | exact .inl rfl | exact .inr (.inl rfl) | exact .inr (.inr rfl)) rfl ?_
  | refine ew_name 8 rfl (by first | exact .inl rfl | exact .inr (.inl rfl) | exact .inr (.inr rfl)) rfl ?_
  | refine ew_name 9 rfl (by first | exact .inl rfl | exact .inr (.inl rfl) | exact .inr (.inr rfl)) rfl ?_
  | refine ew_name 10 rfl (by first | exact .inl rfl | exact .inr (.inl rfl) | exact .inr (.inr rfl)) rfl ?_
  | refine ew_name 11 rfl (by first | exact .inl rfl | exact .inr (.inl rfl) | exact .inr (.inr rfl)) rfl ?_
  | refine ew_name 12 rfl (by first | exact .inl rfl | exact .inr (.inl rfl) | exact .inr (.inr rfl)) rfl ?_)
local macro_rules | `(tactic| walk_at "i") => `(tactic| (refine' cl_isi (.ty _) ?a ?b ?_; (case a => constructor); (case b => with_reducible first | exact kit_int_int | exact kit_int_bool | exact kit_bool_int | exact kit_bool_bool | exact kit_NoneType_int | exact kit_str_int | exact kit_list_int | exact kit_tuple_int | exact kit_dict_int | exact kit_tuple_tuple | exact kit_int_tuple | exact kit_NoneType_tuple | exact kit_bool_tuple | exact kit_str_tuple | exact kit_list_tuple | exact kit_dict_tuple)))
local macro_rules | `(tactic| walk_at "l") => `(tactic| first
  | refine ew_isinstance (Tx.f_isinstance (by assumption)) ?_ | refine ew_len (Tx.f_len (by assumption)) ?_ | refine ew_vint (Tx.f_int (by assumption)) ?_ | refine ew_vbool (Tx.f_bool (by assumption)) ?_ | refine ew_vtuple (Tx.f_tuple (by assumption)) ?_ | refine ew_vstr (Tx.f_str (by assumption)) ?_
  | refine ew_gint (Tx.i_FAR (by assumption)) (by rfl) ?_ | refine ew_gint (Tx.i_FAR_TALLY (by assumption)) (by rfl) ?_ | refine ew_gint (Tx.i_MOST_PATIENCE (by assumption)) (by rfl) ?_ | refine ew_gint (Tx.i_MOST_LIFE (by assumption)) (by rfl) ?_ | refine ew_gint (Tx.i_MOST_PAIRS (by assumption)) (by rfl) ?_ | refine ew_gint (Tx.i_MOST_WIDTH (by assumption)) (by rfl) ?_ | refine ew_gint (Tx.i_MOST_KEEP (by assumption)) (by rfl) ?_
  | refine cl_len ?_ | refine cl_lenT ?_ | refine ix_tpl rfl ?_ | refine od_is (by intro _ h; cases h) ?_)
local macro_rules | `(tactic| walk_at "x") => `(tactic| repeat (first | walk_at "c" | walk_at "n" | walk_at "l" | walk_at "i"))
/-- what is wrong about rows of looks one behind the other -/
def fallB (f : Lk → Lk → Bool) : List Lk → Bool
  | x :: z :: r => f x z || fallB f (z :: r)
  | _ => false
def lifeB (x z : Lk) : Bool := decide (z.l < x.l)
def talB (x z : Lk) : Bool := decide (x.l = z.l) && decide (z.t < x.t)
def chkB (rows : List Lk) : Option Str := if fallB lifeB rows then some "life" else if fallB talB rows then some "tally" else none
def aheadL (xs : List Lk) : Nat → List Lk
  | 0 => []
  | k + 1 => match xs[k]? with
    | some x => [x]
    | none => []
def behindL (xs : List Lk) (k : Nat) : List Lk := match xs[k]? with
  | some x => [x]
  | none => []
def minL : List Int → Int
  | [] => 0
  | n :: ns => ns.foldl min n
/-- the state with one look more, not yet thinned -/
def putS (l : List Pr) (p : Int) (s : Sta) (x : Lk) : Sta := ⟨s.now, s.lk.take (cnt s.lk x.m) ++ x :: s.lk.drop (cnt s.lk x.m), untW l p s x.m (cnt s.lk x.m), minL (untW l p s x.m (cnt s.lk x.m))⟩
/-- a look is put in: an error's class and its part, or the state behind it -/
def putR (l : List Pr) (p : Int) (s : Sta) (x : Lk) : (String × Str) ⊕ Sta :=
  if s.now < x.m then .inl ("BadStore", "ahead") else if p ≤ s.now - x.m then .inl ("BadStore", "late")
  else if hasM s.lk x.m then (match aheadL s.lk (cnt s.lk x.m) with
    | z :: _ => if lkEq z x then .inr s else .inl ("Unlike", "look")
    | [] => .inr s)
  else match chkB (aheadL s.lk (cnt s.lk x.m) ++ x :: behindL s.lk (cnt s.lk x.m)) with
    | some w => .inl ("BadStore", w)
    | none => .inr (thin (putS l p s x))
theorem cut_ahead {K : PySem.W.Frag} {xs : List Lk} {k : Nat} (hk : k ≤ xs.length) : cutD (lks K xs) (some ((k : Int) - 1)) (some (k : Int)) = lks K (aheadL xs k) := by
  cases k with
  | zero => exact cut_zero _
  | succ k =>
    have hx : xs[k]? = some xs[k] := List.getElem?_eq_getElem (by omega)
    rw [show ((k + 1 : Nat) : Int) - 1 = (k : Nat) by omega, cut_one (lks_get hx)]
    show _ = lks K (match xs[k]? with
      | some x => [x]
      | none => [])
    rw [hx]
    rfl
theorem cut_behind {K : PySem.W.Frag} {xs : List Lk} {k : Nat} (hk : k ≤ xs.length) : cutD (lks K xs) (some (k : Int)) (some ((k : Int) + 1)) = lks K (behindL xs k) := by
  unfold behindL
  cases e : xs[k]? with
  | some x =>
    rw [show (k : Int) + 1 = ((k + 1 : Nat) : Int) by omega, cut_one (lks_get e)]
    rfl
  | none =>
    have hl := List.getElem?_eq_none_iff.mp e
    have e1 : HT.sIx (lks K xs).length 0 (some (k : Int)) = min k (lks K xs).length := HT.sIx_nat _ _ k
    unfold Sx.cutD
    rw [e1, lks_len, Nat.min_eq_right hl, List.drop_eq_nil_of_le (by rw [lks_len]; exact Nat.le_refl _), List.take_nil]
    rfl
theorem set_same {cs : Cs} {j : Nat} {c : Addr × Cell} (h : cs[j]? = some c) : cs.set j c = cs := by
  have hj := (List.getElem?_eq_some_iff.mp h).1
  rw [List.getElem?_eq_getElem hj] at h
  cases h
  exact List.set_getElem_self hj
section
variable {P : Program} {w : World} {K : PySem.W.Frag} {mg : Str → Option Value} {base : Heap}
def F_chk (K : PySem.W.Frag) : FT := fun ds cs Kk KE => ∃ (x : Lk) (a b : List Lk), ds = [lkD K x, .tup (lks K a), .tup (lks K b)] ∧ a.length ≤ 1 ∧ b.length ≤ 1 ∧ (chkB (a ++ x :: b) = none → Kk .non cs) ∧ ∀ w, chkB (a ++ x :: b) = some w → KE (He.ga K "BadStore") [("part", .str w)] cs
/-- what comes of put -/
structure PutAt (K : PySem.W.Frag) (l : List Pr) (p : Int) (s : Sta) (dm dt dl : D) (R : Sta → Prop) (KE : Addr → List (Str × D) → Prop) : Prop where
  b1 : inR (-10 ^ 30) (10 ^ 30) dm = false → KE (He.ga K "BadNumber") [("value", dm)]
  b2 : inR (-10 ^ 30) (10 ^ 30) dm = true → inR 0 (10 ^ 40) dt = false → KE (He.ga K "BadNumber") [("value", dt)]
  b3 : inR (-10 ^ 30) (10 ^ 30) dm = true → inR 0 (10 ^ 40) dt = true → inR 0 (10 ^ 6) dl = false → KE (He.ga K "BadNumber") [("value", dl)]
  no : ∀ (m t li : Int) c w, dm = .int m → dt = .int t → dl = .int li → inR (-10 ^ 30) (10 ^ 30) dm = true → inR 0 (10 ^ 40) dt = true → inR 0 (10 ^ 6) dl = true → putR l p s ⟨m, t, li⟩ = .inl (c, w) → KE (He.ga K (Str.ofString c)) [("part", .str w)]
  yes : ∀ (m t li : Int) s', dm = .int m → dt = .int t → dl = .int li → inR (-10 ^ 30) (10 ^ 30) dm = true → inR 0 (10 ^ 40) dt = true → inR 0 (10 ^ 6) dl = true → putR l p s ⟨m, t, li⟩ = .inr s' → ((putS l p s ⟨m, t, li⟩).u < s.now → keptU (putS l p s ⟨m, t, li⟩).un s.now ≠ []) ∧ R s'
def F_put (K : PySem.W.Frag) : FT := fun ds cs Kk KE => ∃ (y : Addr) (j : Nat) (l : List Pr) (p : Int) (s : Sta) (dm dt dl : D), ds = [.own y, dm, dt, dl] ∧ IsSo K cs j y l p s ∧ Pln dm ∧ Pln dt ∧ Pln dl ∧ Srt s.lk ∧ s.lk.length = s.un.length ∧ s.lk.length ≤ 900 ∧
  PutAt K l p s dm dt dl (fun s' => Kk .non (cs.set j (y, Cell.ins (CSo K) (soF K l p s')))) (fun C f => KE C f cs)
def NP : List Str := ["self", "moment", "tally", "life", "looks", "at", "look", "untils", "state"]
theorem ndP : NP.Nodup := by decide +kernel
theorem g_put (T : Tx K mg) {n : Nat} (hn : n ≤ 8) (hchk : Dfs.Dfn P w K mg base (L2.CX P w) n "check_between" ["look", "ahead", "behind"] (spF (F_chk K))) : ∃ fd us, FnOk P w K mg base (L2.CX P w) 9 (He.ma K (CSo K) "put") fd ["self", "moment", "tally", "life"] (spF (F_put K)) ∧ L2.Binds K fd ["self", "moment", "tally", "life"] [] ∧ L2.Binds K fd ["self", "moment", "tally", "life"] us ∧ Vals [V.int 0] us := by
  obtain ⟨fb, Fb, Bb⟩ := i_BadStore (P := P) (w := w) (base := base) T
  obtain ⟨fu, Fu, Bu⟩ := i_Unlike (P := P) (w := w) (base := base) T
  obtain ⟨fn, Fn, Bn⟩ := g_now (P := P) (w := w) (base := base) T
  obtain ⟨fs, Fs, Bs_⟩ := g_state (P := P) (w := w) (base := base) T
  obtain ⟨fe, Fe, Be⟩ := g_leq (P := P) (w := w) (base := base) T
  obtain ⟨fl, ul, Fl, Bl, _, _⟩ := f_look (P := P) (w := w) (base := base) T
  obtain ⟨fd, F⟩ := T.q_Store_put
  obtain ⟨u0, hd0, hb0⟩ := F.binds1 (ps := ["self", "moment", "tally", "life"]) 4 1 (by simp) rfl (fun T kV doc pm an cdv ct us its h1 h2 => by
    match us, its, h1, h2 with
    | [a, b, c, e], [d], _, _ => exact ⟨_, rfl, rfl⟩)
  cases hd0
  obtain ⟨us, hd, hb⟩ := F.binds1 (ps := ["self", "moment", "tally", "life"]) 3 0 (by simp) rfl (fun T kV doc pm an cdv ct us its h1 h2 => by
    match us, its, h1, h2 with
    | [a, b, c], [d], _, _ => exact ⟨_, rfl, rfl⟩)
  refine ⟨fd, us, okF F (N := NP) ⟨rfl, rfl, rfl, ndP, rfl, by decide +kernel, by decide +kernel⟩ (fun ds cs Kk KE h => ?_) (fun cdv A outer s0 H E ds cs Kk KE hr h => ?_), hb0, hb, hd⟩
  · obtain ⟨_, _, _, _, _, _, _, _, rfl, _⟩ := h
    rfl
  · obtain ⟨y, j, l, p, s, dm, dt, dl, rfl, hi, pm, pt, pl, st, l1, l2, L⟩ := h
    refine sw_cons (s1_expr (ew_call .same (d_check T) (hr.mono (by decide)) (by rfl) pc (aw_cons ?_)))
    walk_at "n"
    refine aw_cons (ew_neg (ew_gint T.i_FAR (by rfl) ⟨_, rfl, aw_cons (ew_gint T.i_FAR (by rfl) (aw_nil ⟨dm, _, _, rfl, pm, fun h1 => ?_, fun h1 => L.b1 h1⟩))⟩))
    refine sw_cons (s1_expr (ew_call .same (d_check T) (hr.mono (by decide)) (by rfl) pc (aw_cons ?_)))
    walk_at "n"
    refine aw_cons (ew_int (aw_cons (ew_gint T.i_FAR_TALLY (by rfl) (aw_nil ⟨dt, _, _, rfl, pt, fun h2 => ?_, fun h2 => L.b2 h1 h2⟩))))
    refine sw_cons (s1_expr (ew_call .same (d_check T) (hr.mono (by decide)) (by rfl) pc (aw_cons ?_)))
    walk_at "n"
    refine aw_cons (ew_int (aw_cons (ew_gint T.i_MOST_LIFE (by rfl) (aw_nil ⟨dl, _, _, rfl, pl, fun h3 => ?_, fun h3 => L.b3 h1 h2 h3⟩))))
    obtain ⟨m, rfl, m1, m2⟩ := inR_int h1
    obtain ⟨t, rfl, t1, t2⟩ := inR_int h2
    obtain ⟨li, rfl, li1, li2⟩ := inR_int h3
    have no := fun c w => L.no m t li c w rfl rfl rfl h1 h2 h3
    have yes := fun s' => L.yes m t li s' rfl rfl rfl h1 h2 h3
    clear L
    -- ahead
    refine sw_cons (s1_if (tw_cmp ?_))
    walk_at "n"
    refine ew_prop (.none fun _ _ _ => False) T.c_Store T.pr_Store_now.1 Fn (hr.mono (by decide)) Bn pF ?_
    walk_at "n"
    refine ⟨.own j hi.1, y, j, l, p, s, rfl, hi, od_gt (isB ⟨fun g1 => ?_, fun g1 => ?_⟩)⟩
    · refine sw_cons (s1_raise1 T.o_BadStore T.m_BadStore_init.at_ T.t_BadStore Fb (hr.mono (by decide)) Bb (by rfl) T.g_BadStore rfl tk (ew_str ?_))
      refine no "BadStore" "ahead" ?_
      unfold putR
      rw [if_pos (of_decide_eq_true g1)]
    have g1 := of_decide_eq_false g1
    -- late
    refine sw_nil (sw_cons (s1_if (tw_cmp (ew_bin ?_))))
    refine ew_prop (.none fun _ _ _ => False) T.c_Store T.pr_Store_now.1 Fn (hr.mono (by decide)) Bn pF ?_
    walk_at "n"
    refine ⟨.own j hi.1, y, j, l, p, s, rfl, hi, ?_⟩
    walk_at "n"
    refine od_sub (ew_fld T.c_Store T.n_Store_patience ?_)
    walk_at "n"
    refine ⟨_, .own j hi.1 rfl, od_ge (isB ⟨fun g2 => ?_, fun g2 => ?_⟩)⟩
    · refine sw_cons (s1_raise1 T.o_BadStore T.m_BadStore_init.at_ T.t_BadStore Fb (hr.mono (by decide)) Bb (by rfl) T.g_BadStore rfl tk (ew_str ?_))
      refine no "BadStore" "late" ?_
      unfold putR
      rw [if_neg g1, if_pos (of_decide_eq_true g2)]
    have g2 := of_decide_eq_false g2
    refine sw_nil (sw_cons (s1_set 4 ndP rfl (.inl rfl) (ew_fld T.c_State T.n_State_looks (ew_fld T.c_Store T.n_Store_state ?_))))
    walk_at "n"
    refine ⟨_, .own j hi.1 rfl, _, .obj rfl, ?_⟩
    refine sw_cons (s1_set 5 ndP rfl (.inl rfl) (ew_call (.none fun _ _ _ => False) (d_many T) (hr.mono (by decide)) (by rfl) pF (aw_cons ?_)))
    walk_at "n"
    refine aw_cons ?_
    walk_at "n"
    refine aw_nil ⟨_, _, rfl, st, ?_⟩
    have cl := cnt_le s.lk m
    refine sw_cons (s1_set 6 ndP rfl (.inl rfl) (ew_make (.none fun _ _ _ => False) T.k_Look Fl (hr.mono (by decide)) (by rfl) T.g_Look Bl pF (aw_cons ?_)))
    walk_at "n"
    refine aw_cons ?_
    walk_at "n"
    refine aw_cons ?_
    walk_at "n"
    refine aw_nil (fun z => ⟨z, _, _, _, _, rfl, rfl, rfl, _, _, rfl, ?_⟩)
    generalize hx0 : (⟨m, t, li⟩ : Lk) = x at no yes
    have xm : x.m = m := by rw [← hx0]
    have ex : D.obj (CLk K) [("moment", .int m), ("tally", .int t), ("life", .int li)] = lkD K x := by rw [← hx0]; rfl
    show SW _ _ _ ⟨[some (.own y), some (.int m), some (.int t), some (.int li), some (.tup (lks K s.lk)), some (.int (cnt s.lk m)), some (D.obj (CLk K) [("moment", .int m), ("tally", .int t), ("life", .int li)]), none, none], cs⟩ _
    rw [ex]
    have g1' : ¬ s.now < x.m := by rw [xm]; exact g1
    have g2' : ¬ p ≤ s.now - x.m := by rw [xm]; exact g2
    generalize hX : (cxOf (L2.CX P w) P w K mg base NP "Store.put" (defScope s_Store_put) (He.ma K (CSo K) "put") cdv A outer s0 H E) = X
    have rest : hasM s.lk m = false → SW (cxOf (L2.CX P w) P w K mg base NP "Store.put" (defScope s_Store_put) (He.ma K (CSo K) "put") cdv A outer s0 H E) ⟨H, cs, E, KE⟩ ((defBody s_Store_put).drop 9) ⟨[some (.own y), some (.int m), some (.int t), some (.int li), some (.tup (lks K s.lk)), some (.int (cnt s.lk m)), some (lkD K x), none, none], cs⟩ { nx := fun s => Kk .non s.cs, rt := fun d s => Kk d s.cs } := fun hm => by
      clear hX
      have pr : putR l p s x = match chkB (aheadL s.lk (cnt s.lk x.m) ++ x :: behindL s.lk (cnt s.lk x.m)) with
          | some w => .inl ("BadStore", w)
          | none => .inr (thin (putS l p s x)) := by
        unfold putR
        rw [if_neg g1', if_neg g2', xm, hm, if_neg (by decide)]
      rw [xm] at pr
      have la : (aheadL s.lk (cnt s.lk m)).length ≤ 1 := by
        cases cnt s.lk m with
        | zero => exact Nat.zero_le _
        | succ k =>
          show (match s.lk[k]? with
            | some x => [x]
            | none => []).length ≤ 1
          split <;> simp
      have lb : (behindL s.lk (cnt s.lk m)).length ≤ 1 := by
        unfold behindL
        split <;> simp
      refine sw_cons (s1_expr (ew_call .same hchk (hr.mono hn) (by rfl) pc (aw_cons ?_)))
      walk_at "n"
      refine aw_cons (ew_slT ?_)
      walk_at "n"
      show EW _ _ _ _ _
      refine ew_bin ?_
      walk_at "n"
      refine ew_int (od_sub ⟨_, rfl, ?_⟩)
      show EW _ _ _ _ _
      walk_at "n"
      refine ⟨_, rfl, _, rfl, ?_⟩
      rw [cut_ahead cl]
      refine aw_cons (ew_slT ?_)
      walk_at "n"
      show EW _ _ _ _ _
      walk_at "n"
      refine ⟨_, rfl, ?_⟩
      show EW _ _ _ _ _
      refine ew_bin ?_
      walk_at "n"
      refine ew_int (od_add ⟨_, rfl, _, rfl, ?_⟩)
      rw [cut_behind cl]
      refine aw_nil ⟨x, _, _, rfl, la, lb, fun hc => ?_, fun w hw => ?_⟩
      · rw [hc] at pr
        obtain ⟨y1, y2⟩ := yes _ pr
        refine sw_cons (s1_set 7 ndP rfl (.inl rfl) (ew_call (.none fun _ _ _ => False) (d_unt T) (hr.mono (by decide)) (by rfl) pF (aw_cons ?_)))
        walk_at "n"
        refine aw_cons ?_
        walk_at "n"
        refine aw_cons ?_
        walk_at "n"
        refine aw_nil ⟨y, j, l, p, s, m, _, rfl, hi, l1, by omega, cl, ?_⟩
        refine sw_cons (s1_set 8 ndP rfl (.inl rfl) (ew_make (.none fun _ _ _ => False) T.k_State Fs (hr.mono (by decide)) (by rfl) T.g_State Bs_ pF (aw_cons ?_)))
        refine ew_prop (.none fun _ _ _ => False) T.c_Store T.pr_Store_now.1 Fn (hr.mono (by decide)) Bn pF ?_
        walk_at "n"
        refine ⟨.own j hi.1, y, j, l, p, s, rfl, hi, aw_cons (ew_tup (aw_star (ew_slT ?_)))⟩
        walk_at "n"
        show EW _ _ _ _ _
        walk_at "n"
        refine ⟨_, rfl, _, rfl, _, .inl rfl, aw_cons ?_⟩
        walk_at "n"
        refine aw_star (ew_slT ?_)
        walk_at "n"
        show EW _ _ _ _ _
        walk_at "n"
        refine ⟨_, rfl, _, rfl, _, .inl rfl, aw_nil ?_⟩
        rw [cut_to, cut_from _ (by rw [lks_len]; exact cl), List.append_nil]
        have e3 : (lks K s.lk).take (cnt s.lk m) ++ lkD K x :: (lks K s.lk).drop (cnt s.lk m) = lks K (putS l p s x).lk := by
          show _ = lks K (s.lk.take (cnt s.lk x.m) ++ x :: s.lk.drop (cnt s.lk x.m))
          rw [xm]
          unfold lks
          rw [List.map_append, List.map_cons, List.map_take, List.map_drop]
        rw [e3]
        have e3l : (putS l p s x).lk.length = s.lk.length + 1 := by
          show (s.lk.take (cnt s.lk x.m) ++ x :: s.lk.drop (cnt s.lk x.m)).length = _
          rw [List.length_append, List.length_cons, List.length_take, List.length_drop, xm]
          omega
        have e4 : untW l p s m (cnt s.lk m) = (putS l p s x).un := by
          show _ = untW l p s x.m (cnt s.lk x.m)
          rw [xm]
        have e4l : (putS l p s x).un.length = s.un.length + 1 := by
          rw [← e4]
          unfold untW
          rw [List.length_append, List.length_append, List.length_cons, List.length_take, List.length_drop]
          have ub : (untB l p s m (cnt s.lk m)).length = if cnt s.lk m = 0 then 0 else 1 := by
            cases h : cnt s.lk m with
            | zero => rfl
            | succ k =>
              have hx : s.lk[k]? = some s.lk[k] := List.getElem?_eq_getElem (by omega)
              show (match s.lk[k]? with
                | some x => [kuF l p x.m m]
                | none => []).length = _
              rw [hx]
              rfl
          rw [ub]
          split <;> omega
        rw [e4]
        obtain ⟨u, us, eu⟩ : ∃ u us, (putS l p s x).un = u :: us := by
          cases h : (putS l p s x).un with
          | nil => rw [h] at e4l; cases e4l
          | cons u us => exact ⟨u, us, rfl⟩
        refine ⟨szl (by rw [lks_len, e3l]; omega), aw_cons ?_⟩
        walk_at "n"
        refine aw_cons (ew_callB (id := "min") T.f_min (by rfl) (by decide +kernel) (aw_cons ?_))
        walk_at "n"
        have cm : ∀ {X : Cx} {B : Bs} {ss : SS} {Q : D → SS → Prop}, X.calm = true → Room 8 X.A → Q (.int (putS l p s x).u) ss → ClD X B (.builtin "min") [.tup (intsD (putS l p s x).un)] ss Q := fun c r q => by
          have eu2 : (putS l p s x).u = us.foldl min u := by
            show minL (putS l p s x).un = _
            rw [eu]
            rfl
          rw [eu2] at q
          rw [eu]
          exact cl_minT c r q
        refine aw_nil (cm rfl hr (aw_nil ?_))
        refine fun z => ⟨z, _, _, _, _, _, rfl, rfl, rfl, _, _, rfl, ?_⟩
        refine sw_cons (s1_fld T.c_Store T.n_Store_state ?_)
        refine ew_call (.none fun _ _ _ => False) (d_thin T) (hr.mono (by decide)) (by rfl) pF (aw_cons ?_)
        walk_at "n"
        refine aw_nil ⟨putS l p s x, rfl, by rw [e3l, e4l, l1], by rw [e3l]; omega, fun h => y1 h, ?_⟩
        walk_at "n"
        refine ⟨y, j, _, rfl, hi.1, by show 3 < 1000; decide, sw_nil ?_⟩
        exact y2
      · rw [hw] at pr
        exact no "BadStore" w pr
    subst hX
    refine sw_cons (s1_if (tw_w (ww_and (tw_cmp ?_))))
    walk_at "n"
    refine ew_int (od_gt ?_)
    have hm0 : hasM s.lk m = match cnt s.lk m with
      | 0 => false
      | k + 1 => match s.lk[k]? with
        | some x => decide (x.m = m)
        | none => false := rfl
    cases e : cnt s.lk m with
    | zero =>
      rw [e] at hm0
      rw [e] at rest
      refine isB (br_f (br_f (sw_nil (rest hm0))))
    | succ k =>
      have hk : k < s.lk.length := by omega
      have hx : s.lk[k]? = some s.lk[k] := List.getElem?_eq_getElem hk
      rw [e] at hm0 rest
      dsimp only at hm0
      rw [hx] at hm0
      dsimp only at hm0
      have at_ : L2.atI (lks K s.lk) (((k + 1 : Nat) : Int) - 1) = some (lkD K s.lk[k]) := by
        rw [show ((k + 1 : Nat) : Int) - 1 = (k : Nat) by omega]
        exact atI_nat (lks_get hx)
      rw [decide_eq_true (by omega)]
      refine isB (br_t (ww_and1 (tw_cmp (ew_fld T.c_Look T.n_Look_moment (ew_ix ?_)))))
      walk_at "n"
      refine ew_bin ?_
      walk_at "n"
      refine ew_int (od_sub (ix_tpl at_ ⟨_, .obj rfl, ?_⟩))
      walk_at "n"
      refine od_eq hr.units rfl rfl ?_
      have e2 : D.eqv (.int s.lk[k].m) (.int m) = decide (s.lk[k].m = m) := by
        unfold D.eqv
        simp only [D.py, PyData.eqv]
        rw [Bool.eq_iff_iff, beq_iff_eq, decide_eq_true_eq]
      rw [e2]
      by_cases hmm : s.lk[k].m = m
      · rw [decide_eq_true hmm] at hm0 ⊢
        have pr : putR l p s x = if lkEq s.lk[k] x then .inr s else .inl ("Unlike", "look") := by
          unfold putR
          rw [if_neg g1', if_neg g2', xm, hm0, if_pos rfl, e]
          show (match (match s.lk[k]? with
            | some x => [x]
            | none => []) with
            | z :: _ => if lkEq z x then (.inr s : (String × Str) ⊕ Sta) else .inl ("Unlike", "look")
            | [] => .inr s) = _
          rw [hx]
        refine isB (br_t (sw_cons (s1_if (tw_cmp (ew_ix ?_)))))
        walk_at "n"
        refine ew_bin ?_
        walk_at "n"
        refine ew_int (od_sub (ix_tpl at_ ?_))
        walk_at "n"
        refine od_neO (.none fun _ _ _ => False) T.m_Look_eq Fe Be (hr.mono (by decide)) pF T.ne_Look T.is_Look.o .obj (.obj T.is_Look T.c_Look) T.nf_Look ⟨_, _, rfl, .inl ⟨_, rfl, isB ?_⟩⟩
        cases q : lkEq s.lk[k] x with
        | true =>
          rw [q, if_pos rfl] at pr
          have y2 := (yes s pr).2
          rw [set_same hi.1] at y2
          refine isB (br_f (sw_nil (sw_cons (s1_retN ?_))))
          exact y2
        | false =>
          rw [q, if_neg (by decide)] at pr
          refine isB (br_t (sw_cons (s1_raise1 T.o_Unlike T.m_Unlike_init.at_ T.t_Unlike Fu (hr.mono (by decide)) Bu (by rfl) T.g_Unlike rfl tk (ew_str ?_))))
          exact no "Unlike" "look" pr
      · rw [decide_eq_false hmm] at hm0 ⊢
        refine isB (br_f (sw_nil (rest hm0)))
end
end K41
set_option Elab.async false
set_option linter.all false
set_option maxRecDepth 100000
set_option maxHeartbeats 4000000
namespace K41
open PySem PySem.Spec PyProof.Rows L2 Sx
local macro_rules | `(tactic| walk_at "c") => `(tactic| first
  | refine aw_cons ?_ | refine aw_nil ?_
  | refine ew_int ?_ | refine ew_non ?_ | refine ew_bl ?_ | refine ew_str ?_
  | refine ew_bin ?_ | refine ew_cmp ?_ | refine tw_cmp ?_ | refine tw_not ?_ | refine ew_chain ?_ | refine tw_chain ?_ | refine ew_and ?_ | refine ew_or ?_ | refine ew_one ?_ | refine ew_not ?_ | refine ew_neg ?_ | refine ew_if ?_
  | refine tw_w (ww_and ?_) | refine tw_w (ww_or ?_) | refine ww_and ?_ | refine ww_or ?_ | refine ww_and1 ?_ | refine ww_or1 ?_
  | refine tw_val (e := .Call _ _ _ _) ?_ | refine ew_tup ?_ | refine ew_ix ?_ | refine ew_lst ?_
  | refine sw_cons ?_ | refine s1_ret ?_ | refine s1_if ?_ | refine sw_nil ?_ | refine s1_expr ?_
  | refine od_add ?_ | refine od_sub ?_ | refine od_lt ?_ | refine od_le ?_ | refine od_gt ?_ | refine od_ge ?_
  | refine isB ?_ | refine intD ?_ | refine br_t ?_ | refine br_f ?_
  | refine ⟨szl (Nat.le_of_ble_eq_true rfl), ?_⟩)
local macro_rules | `(tactic| walk_at "n") => `(tactic| first
  | refine ew_name 0 rfl (by first | exact .inl rfl | exact .inr (.inl rfl) | exact .inr (.inr rfl)) rfl ?_
  | refine ew_name 1 rfl (by first | exact .inl rfl | exact .inr (.inl rfl) | exact .inr (.inr rfl)) rfl ?_
  | refine ew_name 2 rfl (by first | exact .inl rfl | exact .inr (.inl rfl) | exact .inr (.inr rfl)) rfl ?_
  | refine ew_name 3 rfl (by first | exact .inl rfl | exact .inr (.inl rfl) | exact .inr (.inr rfl)) rfl ?_
  | refine ew_name 4 rfl (by first | exact .inl rfl | exact .inr (.inl rfl) | exact .inr (.inr rfl)) rfl ?_
  | refine ew_name 5 rfl (by first | exact .inl rfl | exact .inr (.inl rfl) | exact .inr (.inr rfl)) rfl ?_
  | refine ew_name 6 rfl (by first | exact .inl rfl | exact .inr (.inl rfl) | exact .inr (.inr rfl)) rfl ?_
  | refine ew_name 7 rfl (by first | exact .inl rfl | exact .inr (.inl rfl) | exact .inr (.inr rfl)) rfl ?_
  | refine ew_name 8 rfl (by first | exact .inl rfl | exact .inr (.inl rfl) | exact .inr (.inr rfl)) rfl ?_
  | refine ew_name 9 rfl (by first | exact .inl rfl | exact .inr (.inl rfl) | exact .inr (.inr rfl)) rfl ?_
  | refine ew_name 10 rfl (by first | exact .inl rfl | exact .inr (.inl rfl) | exact .inr (.inr rfl)) rfl ?_
  | refine ew_name 11 rfl (by first | exact .inl rfl | exact .inr (.inl rfl) | exact .inr (.inr rfl)) rfl ?_
  | refine ew_name 12 rfl (by first | exact .inl rfl | exact .inr (.inl rfl) | exact .inr (.inr rfl)) rfl ?_)
local macro_rules | `(tactic| walk_at "i") => `(tactic| (refine' cl_isi (.ty _) ?a ?b ?_; (case a => constructor); (case b => with_reducible first | exact kit_int_int | exact kit_int_bool | exact kit_bool_int | exact kit_bool_bool | exact kit_NoneType_int | exact kit_str_int | exact kit_list_int | exact kit_tuple_int | exact kit_dict_int | exact kit_tuple_tuple | exact kit_int_tuple | exact kit_NoneType_tuple | exact kit_bool_tuple | exact kit_str_tuple | exact kit_list_tuple | exact kit_dict_tuple)))
local macro_rules | `(tactic| walk_at "l") => `(tactic| first
  | refine ew_isinstance (Tx.f_isinstance (by assumption)) ?_ | refine ew_len (Tx.f_len (by assumption)) ?_ | refine ew_vint (Tx.f_int (by assumption)) ?_ | refine ew_vbool (Tx.f_bool (by assumption)) ?_ | refine ew_vtuple (Tx.f_tuple (by assumption)) ?_ | refine ew_vstr (Tx.f_str (by assumption)) ?_
  | refine ew_gint (Tx.i_FAR (by assumption)) (by rfl) ?_ | refine ew_gint (Tx.i_FAR_TALLY (by assumption)) (by rfl) ?_ | refine ew_gint (Tx.i_MOST_PATIENCE (by assumption)) (by rfl) ?_ | refine ew_gint (Tx.i_MOST_LIFE (by assumption)) (by rfl) ?_ | refine ew_gint (Tx.i_MOST_PAIRS (by assumption)) (by rfl) ?_ | refine ew_gint (Tx.i_MOST_WIDTH (by assumption)) (by rfl) ?_ | refine ew_gint (Tx.i_MOST_KEEP (by assumption)) (by rfl) ?_
  | refine cl_len ?_ | refine cl_lenT ?_ | refine ix_tpl rfl ?_ | refine od_is (by intro _ h; cases h) ?_)
local macro_rules | `(tactic| walk_at "x") => `(tactic| repeat (first | walk_at "c" | walk_at "n" | walk_at "l" | walk_at "i"))
def F_draw : FT := fun ds cs Kk _ => ∃ p ns k cs1 m, ds = [.own p, .int m] ∧ cs = (p, Cell.pen ns k) :: cs1 ∧ k < 1000000 ∧ 0 < m ∧ m < 10 ^ 60 ∧ ∀ r : Int, 0 ≤ r → r < m → Kk (.int r) ((p, Cell.pen ns (k + 1)) :: cs1)
theorem draw_in {K : PySem.W.Frag} {vs : List V} {H : Hp} {Q : VK} {E : XK} (h : spF F_draw vs H Q E) : spDraw K vs H Q E := by
  obtain ⟨ds, cs, Kk, KE, r, ok, ⟨p, ns, k, cs1, m, rfl, rfl, hk, m0, m1, f⟩, q1, _⟩ := h
  cases r with
  | cons a r =>
    cases r with
    | cons b r =>
      cases r
      cases a
      cases b
      obtain ⟨a, s, g, e1, e2, e3, e4, s0, sk, g0⟩ := ok.ok p _ List.mem_cons_self
      refine ⟨p, a, ns, s, g, m, rfl, ⟨e1, e2, e4, s0, g0⟩, by omega, m0, m1, fun H' s' g' r b R' h1 h2 h3 h4 => ?_⟩
      have ext : Ext (ow ((p, Cell.pen ns k) :: cs1)) H (ow ((p, Cell.pen ns (k + 1)) :: cs1)) H' := ⟨fun c o n nt h => b _ _ (fun e => n (by
        rw [e]
        exact List.mem_cons_self)) h, fun c h => .inl h⟩
      have ok' : CsOk H' ((p, Cell.pen ns (k + 1)) :: cs1) := ⟨fun c d hm => by
        rcases List.mem_cons.mp hm with z | z
        · cases z
          exact ⟨a, s', g', R'.at_, R'.cells, e3, e4, R'.s0, by omega, R'.g0⟩
        · refine (ok.ok c d (List.mem_cons_of_mem _ z)).ext ext fun o e => b c o (fun e2 => ?_) e
          have nd := (List.nodup_cons.mp ok.nd).1
          exact nd (by rw [← e2]; exact List.mem_map.mpr ⟨_, z, rfl⟩), ok.nd⟩
      exact q1 _ _ _ _ (f r h3 h4) ext ok' (.int r)
theorem vl_nums {H : Hp} {M : Addr → Prop} : ∀ {ns : List Int} {vs : List V}, VlL H M vs (ns.map D.int) → vs = ns.map V.int
  | [], _, r => by cases r; rfl
  | n :: ns, _, r => by
    cases r with
    | cons a b =>
      cases a
      rw [vl_nums b]
      rfl
def F_pen : FT := fun ds cs Kk _ => ∃ ns, ds = [.lst (ns.map D.int)] ∧ ns.length ≤ 63 ∧ ∀ p, Kk (.own p) ((p, Cell.pen ns 0) :: cs)
theorem pen_in {K : PySem.W.Frag} {vs : List V} {H : Hp} {Q : VK} {E : XK} (h : spF F_pen vs H Q E) : spPen K vs H Q E := by
  obtain ⟨ds, cs, Kk, KE, r, ok, ⟨ns, rfl, few, f⟩, q1, _⟩ := h
  cases r with
  | cons a r =>
    cases r
    cases a with
    | lst e n r =>
      rw [vl_nums r] at e
      refine ⟨_, ns, rfl, SqL.of e, few, fun H' p c S hp hc R => ?_⟩
      have np : ¬ ow cs p := fun m => by
        obtain ⟨o, e⟩ := ok.there m
        rw [hp] at e
        cases e
      have nc : ¬ ow cs c := fun m => by
        obtain ⟨o, e⟩ := ok.there m
        rw [hc] at e
        cases e
      have ext : Ext (ow cs) H (ow ((p, Cell.pen ns 0) :: cs)) H' := ⟨fun c o n nt h => S _ _ h, fun b h => by
        rcases List.mem_cons.mp h with z | z
        · exact .inr (nwN (by rw [z]; exact hp))
        · exact .inl z⟩
      refine q1 _ _ _ _ (f p) ext ⟨fun b d hm => ?_, List.nodup_cons.mpr ⟨np, ok.nd⟩⟩ (.own p)
      rcases List.mem_cons.mp hm with z | z
      · cases z
        exact ⟨c, 0, 0, R.at_, R.cells, fun z => (List.mem_cons.mp z).elim R.ne nc, R.len, Int.le_refl _, Int.le_refl _, Int.le_refl _⟩
      · exact (ok.ok b d z).ext ext fun o e => S _ _ e
section
variable {P : Program} {w : World} {K : PySem.W.Frag} {mg : Str → Option Value} {base : Heap}
theorem x_draw (T : Tx K mg) : Dfs.Dfn P w K mg base CX0 1 "_law_draw" ["_law_pen_here", "_law_many"] (spF F_draw) := by
  obtain ⟨a, b, fd, F, c⟩ := d_draw (P := P) (w := w) (base := base) T
  exact ⟨a, b, fd, F.imp fun _ _ _ _ h => draw_in h, c⟩
theorem x_pen (T : Tx K mg) : Dfs.Dfn P w K mg base CX0 1 "_law_pen" ["_law_script"] (spF F_pen) := by
  obtain ⟨a, b, fd, F, c⟩ := d_pen (P := P) (w := w) (base := base) T
  exact ⟨a, b, fd, F.imp fun _ _ _ _ h => pen_in h, c⟩
def F_pick : FT := fun ds cs Kk _ => ∃ p ns k cs1 xs, ds = [.own p, .lst xs] ∧ cs = (p, Cell.pen ns k) :: cs1 ∧ k < 1000000 ∧ 0 < xs.length ∧ xs.length < 1000 ∧ ∀ x, x ∈ xs → Kk x ((p, Cell.pen ns (k + 1)) :: cs1)
theorem x_pick (T : Tx K mg) : Dfs.Dfn P w K mg base (L2.CX P w) 2 "_law_pick" ["_law_pen_here", "_law_some"] (spF F_pick) := by
  refine dfnF T.q_law_pick T.g_law_pick (N := ["_law_pen_here", "_law_some"]) ⟨rfl, rfl, rfl, by decide +kernel, rfl, by decide +kernel, by decide +kernel⟩ (fun kV doc pm an cdv ct => Vls.bind2 fun a b => rfl) (fun ds cs Kk KE h => ?_) (fun cdv A outer s H E ds cs Kk KE hr h => ?_)
  · obtain ⟨_, _, _, _, _, rfl, _⟩ := h
    rfl
  · obtain ⟨p, ns, k, cs1, xs, rfl, rfl, hk, h0, h1, q⟩ := h
    walk_at "x"
    refine ew_call (.none fun _ _ _ => False) (x_draw T) hr (by rfl) pass0 ?_
    walk_at "x"
    refine ⟨p, ns, k, cs1, _, rfl, rfl, hk, by omega, by omega, fun r r0 r1 => ?_⟩
    obtain ⟨n, rfl⟩ := Int.eq_ofNat_of_zero_le r0
    have hn : n < xs.length := by omega
    exact ix_lst (atI_nat (j := n) (List.getElem?_eq_getElem hn)) (q _ (List.getElem_mem hn))
end
end K41
set_option Elab.async false
set_option linter.all false
set_option maxRecDepth 100000
set_option maxHeartbeats 4000000
namespace K41
open PySem PySem.Spec PyProof.Rows L2 Sx
local macro_rules | `(tactic| walk_at "c") => `(tactic| first
  | refine aw_cons ?_ | refine aw_nil ?_
  | refine ew_int ?_ | refine ew_non ?_ | refine ew_bl ?_ | refine ew_str ?_
  | refine ew_bin ?_ | refine ew_cmp ?_ | refine tw_cmp ?_ | refine tw_not ?_ | refine ew_chain ?_ | refine tw_chain ?_ | refine ew_and ?_ | refine ew_or ?_ | refine ew_one ?_ | refine ew_not ?_ | refine ew_neg ?_ | refine ew_if ?_
  | refine tw_w (ww_and ?_) | refine tw_w (ww_or ?_) | refine ww_and ?_ | refine ww_or ?_ | refine ww_and1 ?_ | refine ww_or1 ?_
  | refine tw_val (e := .Call _ _ _ _) ?_ | refine ew_tup ?_ | refine ew_ix ?_ | refine ew_lst ?_
  | refine sw_cons ?_ | refine s1_ret ?_ | refine s1_if ?_ | refine sw_nil ?_ | refine s1_expr ?_
  | refine od_add ?_ | refine od_sub ?_ | refine od_lt ?_ | refine od_le ?_ | refine od_gt ?_ | refine od_ge ?_
  | refine isB ?_ | refine intD ?_ | refine br_t ?_ | refine br_f ?_
  | refine ⟨szl (Nat.le_of_ble_eq_true rfl), ?_⟩)
local macro_rules | `(tactic| walk_at "n") => `(tactic| first
  | refine ew_name 0 rfl (by first | exact .inl rfl | exact .inr (.inl rfl) | exact .inr (.inr rfl)) rfl ?_
  | refine ew_name 1 rfl (by first | exact .inl rfl | exact .inr (.inl rfl) | exact .inr (.inr rfl)) rfl ?_
  | refine ew_name 2 rfl (by first | exact .inl rfl | exact .inr (.inl rfl) | exact .inr (.inr rfl)) rfl ?_
  | refine ew_name 3 rfl (by first | exact .inl rfl | exact .inr (.inl rfl) | exact .inr (.inr rfl)) rfl ?_
  | refine ew_name 4 rfl (by first | exact .inl rfl | exact .inr (.inl rfl) | exact .inr (.inr rfl)) rfl ?_
  | refine ew_name 5 rfl (by first | exact .inl rfl | exact .inr (.inl rfl) | exact .inr (.inr rfl)) rfl ?_
  | refine ew_name 6 rfl (by first | exact .inl rfl | exact .inr (.inl rfl) | exact .inr (.inr rfl)) rfl ?_
  | refine ew_name 7 rfl (by first | exact .inl rfl | exact .inr (.inl rfl) | exact .inr (.inr rfl)) rfl ?_
  | refine ew_name 8 rfl (by first | exact .inl rfl | exact .inr (.inl rfl) | exact .inr (.inr rfl)) rfl ?_
  | refine ew_name 9 rfl (by first | exact .inl rfl | exact .inr (.inl rfl) | exact .inr (.inr rfl)) rfl ?_
  | refine ew_name 10 rfl (by first | exact .inl rfl | exact .inr (.inl rfl) | exact .inr (.inr rfl)) rfl ?_
  | refine ew_name 11 rfl (by first | exact .inl rfl | exact .inr (.inl rfl) | exact .inr (.inr rfl)) rfl ?_
  | refine ew_name 12 rfl (by first | exact .inl rfl | exact .inr (.inl rfl) | exact .inr (.inr rfl)) rfl ?_)
local macro_rules | `(tactic| walk_at "i") => `(tactic| (refine' cl_isi (.ty _) ?a ?b ?_; (case a => constructor); (case b => with_reducible first | exact kit_int_int | exact kit_int_bool | exact kit_bool_int | exact kit_bool_bool | exact kit_NoneType_int | exact kit_str_int | exact kit_list_int | exact kit_tuple_int | exact kit_dict_int | exact kit_tuple_tuple | exact kit_int_tuple | exact kit_NoneType_tuple | exact kit_bool_tuple | exact kit_str_tuple | exact kit_list_tuple | exact kit_dict_tuple)))
local macro_rules | `(tactic| walk_at "l") => `(tactic| first
  | refine ew_isinstance (Tx.f_isinstance (by assumption)) ?_ | refine ew_len (Tx.f_len (by assumption)) ?_ | refine ew_vint (Tx.f_int (by assumption)) ?_ | refine ew_vbool (Tx.f_bool (by assumption)) ?_ | refine ew_vtuple (Tx.f_tuple (by assumption)) ?_ | refine ew_vstr (Tx.f_str (by assumption)) ?_
  | refine ew_gint (Tx.i_FAR (by assumption)) (by rfl) ?_ | refine ew_gint (Tx.i_FAR_TALLY (by assumption)) (by rfl) ?_ | refine ew_gint (Tx.i_MOST_PATIENCE (by assumption)) (by rfl) ?_ | refine ew_gint (Tx.i_MOST_LIFE (by assumption)) (by rfl) ?_ | refine ew_gint (Tx.i_MOST_PAIRS (by assumption)) (by rfl) ?_ | refine ew_gint (Tx.i_MOST_WIDTH (by assumption)) (by rfl) ?_ | refine ew_gint (Tx.i_MOST_KEEP (by assumption)) (by rfl) ?_
  | refine cl_len ?_ | refine cl_lenT ?_ | refine ix_tpl rfl ?_ | refine od_is (by intro _ h; cases h) ?_)
local macro_rules | `(tactic| walk_at "x") => `(tactic| repeat (first | walk_at "c" | walk_at "n" | walk_at "l" | walk_at "i"))
theorem extDrop {H : Hp} {ex cs : Cs} : Ext (ow (ex ++ cs)) H (ow cs) H := Ext.less fun a h => by
  unfold ow at h ⊢
  rw [List.map_append]
  exact List.mem_append.mpr (.inr h)
theorem csDrop {H : Hp} {ex cs : Cs} (ok : CsOk H (ex ++ cs)) : CsOk H cs := by
  refine ⟨fun a c hm => (ok.ok a c (List.mem_append.mpr (.inr hm))).ext extDrop fun _ h => h, ?_⟩
  have nd := ok.nd
  rw [List.map_append] at nd
  exact (List.nodup_append.mp nd).2.1
/-- what repr shows -/
def Shn (d : D) : Prop := (d.dat = true ∧ d.py.showable = true ∧ d.py.hasDict = false ∧ d.py.depth ≤ 60 ∧ d.py.shown.length ≤ sizeLine) ∨ d = .dct0
theorem cl_shn {X : Cx} {B : Bs} {ss : SS} {Q : D → SS → Prop} {d : D} {j : Nat} (hr : Room j X.A) (still : X.A.guards = some []) (sh : Shn d) (q : Q (.str d.py.shown) ss) : ClD X B (.builtin "repr") [d] ss Q := by
  rcases sh with sh | rfl
  · exact cl_repr hr still sh.1 sh.2.1 sh.2.2.1 sh.2.2.2.1 sh.2.2.2.2 q
  · exact cl_repr0 hr still q
def ans (w : Str) (d : D) : D := .tup [.str w, .str d.py.shown]
/-- what _law_heard makes of an error -/
def HR (K : PySem.W.Frag) : HRt := fun C fs cs R => ∃ ex cs0, cs = ex ++ cs0 ∧
  ((∃ d, C = He.ga K "BadNumber" ∧ fs = [(("value" : Str), d)] ∧ Shn d ∧ R (ans "number" d) cs0) ∨
   (∃ d, C = He.ga K "BadStore" ∧ fs = [(("part" : Str), d)] ∧ Shn d ∧ R (ans "store" d) cs0) ∨
   (∃ d, C = He.ga K "Unlike" ∧ fs = [(("part" : Str), d)] ∧ Shn d ∧ R (ans "unlike" d) cs0) ∨
   (∃ d, C = He.ga K "NotYet" ∧ fs = [(("moment" : Str), d)] ∧ Shn d ∧ R (ans "not" d) cs0) ∨
   (∃ d, C = He.ga K "Forgotten" ∧ fs = [(("moment" : Str), d)] ∧ Shn d ∧ R (ans "forgotten" d) cs0) ∨
   (C = He.ga K "Nothing" ∧ fs = [] ∧ R (.tup [.str "nothing"]) cs0))
theorem takes_len {X : Cx} {W : WX} (t : Takes X W) : Takes X (fun cls d σ H => σ.length = X.N.length → W cls d σ H) := fun u s' ⟨a, B, sI, pins, σ, H, cls, d, e, I, nb, up, sky, na, os, ag, w⟩ =>
  t u s' ⟨a, B, sI, pins, σ, H, cls, d, e, I, nb, up, sky, na, os, ag, w I.len⟩
theorem not_ow {H : Hp} {cs : Cs} (ok : CsOk H cs) {t : Addr} (ht : H t = none) : ¬ ow cs t := fun m => by
  obtain ⟨o, e⟩ := ok.there m
  rw [ht] at e
  cases e
theorem exc_at {H : Hp} {a C : Addr} {x : Option Addr} {vs : List (Str × V)} {fs : List (Str × D)} {ex cs0 : Cs} (ok : CsOk H (ex ++ cs0)) (hx : Xat H x vs) (rf : VlF H (ow (ex ++ cs0)) vs fs) (ha : H a = none) :
    Vl (upd H a (Kept.errO a (.ref C) x)) (ow cs0) (.ref a) (.exc C fs) := by
  have ok0 := csDrop ok
  have S1 : Same H (upd H a (Kept.errO a (.ref C) x)) := Pre.Same.upd ha
  refine .exc (x := x) upd_same (not_ow ok0 ha) ?_ ?_ (VlF.ext (extDrop.trans (Ext.same S1)) rf)
  · cases x with
    | none => exact hx
    | some y => exact S1 _ _ hx
  · rintro y rfl
    exact ok0.notx hx
def NH : List Str := ["_law_ask", "_law_caught", "error", "_law_found"]
theorem ndH : NH.Nodup := by decide +kernel
def bodyH (i : Nat) : List Stmt := (defBody s_law_heard).drop i
section
variable {P : Program} {w : World} {K : PySem.W.Frag} {mg : Str → Option Value} {base : Heap} {cdv : Value} {A : Around} {outer : List Env} {s : Shared} {H : Hp} {E : XK} {B : Bs} {k : Kt} {cs : Cs}
abbrev XH (P : Program) (w : World) (K : PySem.W.Frag) (mg : Str → Option Value) (base : Heap) (cdv : Value) (A : Around) (outer : List Env) (s : Shared) (H : Hp) (E : XK) : Cx := (cxOf C8.CX0 P w K mg base NH "_law_heard" (defScope s_law_heard) (He.ga K "_law_heard") cdv A outer s H E).nox
theorem h_BadNumber (T : Tx K mg) (hr : Room 2 (XH P w K mg base cdv A outer s H E).A) (still : (XH P w K mg base cdv A outer s H E).A.guards = some []) {d : D} (sh : Shn d) (q : ∀ ss, ss.cs = cs → k.rt (ans "number" d) ss) : SW (XH P w K mg base cdv A outer s H E) B (bodyH 2) ⟨[none, some (.exc (He.ga K "BadNumber") [("value", d)]), none, none], cs⟩ k := by
  refine sw_cons (s1_set 3 ndH rfl (.inl rfl) (ew_lstO 0 (aw_nil ⟨szl (Nat.le_of_ble_eq_true rfl), fun y => ?_⟩)))
  refine sw_cons (s1_if (tw_val (e := .Call _ _ _ _) (ew_isinstance T.f_isinstance (aw_cons ?_))))
  walk_at "n"
  refine aw_cons (ew_gref T.g_BadNumber (by rfl) (aw_nil (cl_isErr T.e_BadNumber (.own _) T.ki_BadNumber_BadNumber (isB (br_t ?_)))))
  refine sw_cons (s1_expr (ew_append ?_))
  walk_at "n"
  refine ⟨y, 0, _, rfl, rfl, ew_tup ?_⟩
  refine aw_cons ?_
  refine ew_str (aw_cons (ew_repr T.f_repr (aw_cons (ew_errF T.e_BadNumber T.n_BadNumber_value ?_))))
  walk_at "n"
  refine ⟨_, d, rfl, rfl, aw_nil (cl_shn hr still sh (aw_nil ⟨szl (Nat.le_of_ble_eq_true rfl), 0, _, rfl, szl (Nat.le_of_ble_eq_true rfl), ?_⟩))⟩
  refine sw_nil ?_
  refine sw_cons (s1_if (tw_val (e := .Call _ _ _ _) (ew_isinstance T.f_isinstance (aw_cons ?_))))
  walk_at "n"
  refine aw_cons (ew_gref T.g_BadStore (by rfl) (aw_nil (cl_isErr T.e_BadNumber (.own _) T.ki_BadNumber_BadStore (isB (br_f (sw_nil ?_))))))
  refine sw_cons (s1_if (tw_val (e := .Call _ _ _ _) (ew_isinstance T.f_isinstance (aw_cons ?_))))
  walk_at "n"
  refine aw_cons (ew_gref T.g_Unlike (by rfl) (aw_nil (cl_isErr T.e_BadNumber (.own _) T.ki_BadNumber_Unlike (isB (br_f (sw_nil ?_))))))
  refine sw_cons (s1_if (tw_w (ww_or (tw_val (e := .Call _ _ _ _) (ew_isinstance T.f_isinstance (aw_cons ?_))))))
  walk_at "n"
  refine aw_cons (ew_gref T.g_NotYet (by rfl) (aw_nil (cl_isErr T.e_BadNumber (.own _) T.ki_BadNumber_NotYet (isB (br_f (ww_or1 (tw_val (e := .Call _ _ _ _) (ew_isinstance T.f_isinstance (aw_cons ?_)))))))))
  walk_at "n"
  refine aw_cons (ew_gref T.g_Forgotten (by rfl) (aw_nil (cl_isErr T.e_BadNumber (.own _) T.ki_BadNumber_Forgotten (isB (br_f (sw_nil ?_))))))
  refine sw_cons (s1_if (tw_val (e := .Call _ _ _ _) (ew_isinstance T.f_isinstance (aw_cons ?_))))
  walk_at "n"
  refine aw_cons (ew_gref T.g_Nothing (by rfl) (aw_nil (cl_isErr T.e_BadNumber (.own _) T.ki_BadNumber_Nothing (isB (br_f (sw_nil ?_))))))
  refine sw_freeze 0 3 rfl rfl (sw_cons (s1_ret (ew_if (tw_cmp (ew_len T.f_len (aw_cons ?_))))))
  walk_at "n"
  refine aw_nil (cl_len (ew_int (od_eq hr.units rfl rfl ?_)))
  refine isB (br_t (ew_ix ?_))
  walk_at "n"
  refine ew_int (ix_lst (atI_nat (j := 0) rfl) ?_)
  exact q _ rfl
theorem h_BadStore (T : Tx K mg) (hr : Room 2 (XH P w K mg base cdv A outer s H E).A) (still : (XH P w K mg base cdv A outer s H E).A.guards = some []) {d : D} (sh : Shn d) (q : ∀ ss, ss.cs = cs → k.rt (ans "store" d) ss) : SW (XH P w K mg base cdv A outer s H E) B (bodyH 2) ⟨[none, some (.exc (He.ga K "BadStore") [("part", d)]), none, none], cs⟩ k := by
  refine sw_cons (s1_set 3 ndH rfl (.inl rfl) (ew_lstO 0 (aw_nil ⟨szl (Nat.le_of_ble_eq_true rfl), fun y => ?_⟩)))
  refine sw_cons (s1_if (tw_val (e := .Call _ _ _ _) (ew_isinstance T.f_isinstance (aw_cons ?_))))
  walk_at "n"
  refine aw_cons (ew_gref T.g_BadNumber (by rfl) (aw_nil (cl_isErr T.e_BadStore (.own _) T.ki_BadStore_BadNumber (isB (br_f (sw_nil ?_))))))
  refine sw_cons (s1_if (tw_val (e := .Call _ _ _ _) (ew_isinstance T.f_isinstance (aw_cons ?_))))
  walk_at "n"
  refine aw_cons (ew_gref T.g_BadStore (by rfl) (aw_nil (cl_isErr T.e_BadStore (.own _) T.ki_BadStore_BadStore (isB (br_t ?_)))))
  refine sw_cons (s1_expr (ew_append ?_))
  walk_at "n"
  refine ⟨y, 0, _, rfl, rfl, ew_tup ?_⟩
  refine aw_cons ?_
  refine ew_str (aw_cons (ew_repr T.f_repr (aw_cons (ew_errF T.e_BadStore T.n_BadStore_part ?_))))
  walk_at "n"
  refine ⟨_, d, rfl, rfl, aw_nil (cl_shn hr still sh (aw_nil ⟨szl (Nat.le_of_ble_eq_true rfl), 0, _, rfl, szl (Nat.le_of_ble_eq_true rfl), ?_⟩))⟩
  refine sw_nil ?_
  refine sw_cons (s1_if (tw_val (e := .Call _ _ _ _) (ew_isinstance T.f_isinstance (aw_cons ?_))))
  walk_at "n"
  refine aw_cons (ew_gref T.g_Unlike (by rfl) (aw_nil (cl_isErr T.e_BadStore (.own _) T.ki_BadStore_Unlike (isB (br_f (sw_nil ?_))))))
  refine sw_cons (s1_if (tw_w (ww_or (tw_val (e := .Call _ _ _ _) (ew_isinstance T.f_isinstance (aw_cons ?_))))))
  walk_at "n"
  refine aw_cons (ew_gref T.g_NotYet (by rfl) (aw_nil (cl_isErr T.e_BadStore (.own _) T.ki_BadStore_NotYet (isB (br_f (ww_or1 (tw_val (e := .Call _ _ _ _) (ew_isinstance T.f_isinstance (aw_cons ?_)))))))))
  walk_at "n"
  refine aw_cons (ew_gref T.g_Forgotten (by rfl) (aw_nil (cl_isErr T.e_BadStore (.own _) T.ki_BadStore_Forgotten (isB (br_f (sw_nil ?_))))))
  refine sw_cons (s1_if (tw_val (e := .Call _ _ _ _) (ew_isinstance T.f_isinstance (aw_cons ?_))))
  walk_at "n"
  refine aw_cons (ew_gref T.g_Nothing (by rfl) (aw_nil (cl_isErr T.e_BadStore (.own _) T.ki_BadStore_Nothing (isB (br_f (sw_nil ?_))))))
  refine sw_freeze 0 3 rfl rfl (sw_cons (s1_ret (ew_if (tw_cmp (ew_len T.f_len (aw_cons ?_))))))
  walk_at "n"
  refine aw_nil (cl_len (ew_int (od_eq hr.units rfl rfl ?_)))
  refine isB (br_t (ew_ix ?_))
  walk_at "n"
  refine ew_int (ix_lst (atI_nat (j := 0) rfl) ?_)
  exact q _ rfl
theorem h_Unlike (T : Tx K mg) (hr : Room 2 (XH P w K mg base cdv A outer s H E).A) (still : (XH P w K mg base cdv A outer s H E).A.guards = some []) {d : D} (sh : Shn d) (q : ∀ ss, ss.cs = cs → k.rt (ans "unlike" d) ss) : SW (XH P w K mg base cdv A outer s H E) B (bodyH 2) ⟨[none, some (.exc (He.ga K "Unlike") [("part", d)]), none, none], cs⟩ k := by
  refine sw_cons (s1_set 3 ndH rfl (.inl rfl) (ew_lstO 0 (aw_nil ⟨szl (Nat.le_of_ble_eq_true rfl), fun y => ?_⟩)))
  refine sw_cons (s1_if (tw_val (e := .Call _ _ _ _) (ew_isinstance T.f_isinstance (aw_cons ?_))))
  walk_at "n"
  refine aw_cons (ew_gref T.g_BadNumber (by rfl) (aw_nil (cl_isErr T.e_Unlike (.own _) T.ki_Unlike_BadNumber (isB (br_f (sw_nil ?_))))))
  refine sw_cons (s1_if (tw_val (e := .Call _ _ _ _) (ew_isinstance T.f_isinstance (aw_cons ?_))))
  walk_at "n"
  refine aw_cons (ew_gref T.g_BadStore (by rfl) (aw_nil (cl_isErr T.e_Unlike (.own _) T.ki_Unlike_BadStore (isB (br_f (sw_nil ?_))))))
  refine sw_cons (s1_if (tw_val (e := .Call _ _ _ _) (ew_isinstance T.f_isinstance (aw_cons ?_))))
  walk_at "n"
  refine aw_cons (ew_gref T.g_Unlike (by rfl) (aw_nil (cl_isErr T.e_Unlike (.own _) T.ki_Unlike_Unlike (isB (br_t ?_)))))
  refine sw_cons (s1_expr (ew_append ?_))
  walk_at "n"
  refine ⟨y, 0, _, rfl, rfl, ew_tup ?_⟩
  refine aw_cons ?_
  refine ew_str (aw_cons (ew_repr T.f_repr (aw_cons (ew_errF T.e_Unlike T.n_Unlike_part ?_))))
  walk_at "n"
  refine ⟨_, d, rfl, rfl, aw_nil (cl_shn hr still sh (aw_nil ⟨szl (Nat.le_of_ble_eq_true rfl), 0, _, rfl, szl (Nat.le_of_ble_eq_true rfl), ?_⟩))⟩
  refine sw_nil ?_
  refine sw_cons (s1_if (tw_w (ww_or (tw_val (e := .Call _ _ _ _) (ew_isinstance T.f_isinstance (aw_cons ?_))))))
  walk_at "n"
  refine aw_cons (ew_gref T.g_NotYet (by rfl) (aw_nil (cl_isErr T.e_Unlike (.own _) T.ki_Unlike_NotYet (isB (br_f (ww_or1 (tw_val (e := .Call _ _ _ _) (ew_isinstance T.f_isinstance (aw_cons ?_)))))))))
  walk_at "n"
  refine aw_cons (ew_gref T.g_Forgotten (by rfl) (aw_nil (cl_isErr T.e_Unlike (.own _) T.ki_Unlike_Forgotten (isB (br_f (sw_nil ?_))))))
  refine sw_cons (s1_if (tw_val (e := .Call _ _ _ _) (ew_isinstance T.f_isinstance (aw_cons ?_))))
  walk_at "n"
  refine aw_cons (ew_gref T.g_Nothing (by rfl) (aw_nil (cl_isErr T.e_Unlike (.own _) T.ki_Unlike_Nothing (isB (br_f (sw_nil ?_))))))
  refine sw_freeze 0 3 rfl rfl (sw_cons (s1_ret (ew_if (tw_cmp (ew_len T.f_len (aw_cons ?_))))))
  walk_at "n"
  refine aw_nil (cl_len (ew_int (od_eq hr.units rfl rfl ?_)))
  refine isB (br_t (ew_ix ?_))
  walk_at "n"
  refine ew_int (ix_lst (atI_nat (j := 0) rfl) ?_)
  exact q _ rfl
theorem h_NotYet (T : Tx K mg) (hr : Room 2 (XH P w K mg base cdv A outer s H E).A) (still : (XH P w K mg base cdv A outer s H E).A.guards = some []) {d : D} (sh : Shn d) (q : ∀ ss, ss.cs = cs → k.rt (ans "not" d) ss) : SW (XH P w K mg base cdv A outer s H E) B (bodyH 2) ⟨[none, some (.exc (He.ga K "NotYet") [("moment", d)]), none, none], cs⟩ k := by
  refine sw_cons (s1_set 3 ndH rfl (.inl rfl) (ew_lstO 0 (aw_nil ⟨szl (Nat.le_of_ble_eq_true rfl), fun y => ?_⟩)))
  refine sw_cons (s1_if (tw_val (e := .Call _ _ _ _) (ew_isinstance T.f_isinstance (aw_cons ?_))))
  walk_at "n"
  refine aw_cons (ew_gref T.g_BadNumber (by rfl) (aw_nil (cl_isErr T.e_NotYet (.own _) T.ki_NotYet_BadNumber (isB (br_f (sw_nil ?_))))))
  refine sw_cons (s1_if (tw_val (e := .Call _ _ _ _) (ew_isinstance T.f_isinstance (aw_cons ?_))))
  walk_at "n"
  refine aw_cons (ew_gref T.g_BadStore (by rfl) (aw_nil (cl_isErr T.e_NotYet (.own _) T.ki_NotYet_BadStore (isB (br_f (sw_nil ?_))))))
  refine sw_cons (s1_if (tw_val (e := .Call _ _ _ _) (ew_isinstance T.f_isinstance (aw_cons ?_))))
  walk_at "n"
  refine aw_cons (ew_gref T.g_Unlike (by rfl) (aw_nil (cl_isErr T.e_NotYet (.own _) T.ki_NotYet_Unlike (isB (br_f (sw_nil ?_))))))
  refine sw_cons (s1_if (tw_w (ww_or (tw_val (e := .Call _ _ _ _) (ew_isinstance T.f_isinstance (aw_cons ?_))))))
  walk_at "n"
  refine aw_cons (ew_gref T.g_NotYet (by rfl) (aw_nil (cl_isErr T.e_NotYet (.own _) T.ki_NotYet_NotYet (isB (br_t (br_t ?_))))))
  refine sw_cons (s1_expr (ew_append ?_))
  walk_at "n"
  refine ⟨y, 0, _, rfl, rfl, ew_tup ?_⟩
  refine aw_cons ?_
  refine ew_if (tw_val (e := .Call _ _ _ _) (ew_isinstance T.f_isinstance (aw_cons ?_)))
  walk_at "n"
  refine aw_cons (ew_gref T.g_NotYet (by rfl) (aw_nil (cl_isErr T.e_NotYet (.own _) T.ki_NotYet_NotYet (isB (br_t (ew_str ?_))))))
  refine aw_cons (ew_repr T.f_repr (aw_cons (ew_errF T.e_NotYet T.n_NotYet_moment ?_)))
  walk_at "n"
  refine ⟨_, d, rfl, rfl, aw_nil (cl_shn hr still sh (aw_nil ⟨szl (Nat.le_of_ble_eq_true rfl), 0, _, rfl, szl (Nat.le_of_ble_eq_true rfl), ?_⟩))⟩
  refine sw_nil ?_
  refine sw_cons (s1_if (tw_val (e := .Call _ _ _ _) (ew_isinstance T.f_isinstance (aw_cons ?_))))
  walk_at "n"
  refine aw_cons (ew_gref T.g_Nothing (by rfl) (aw_nil (cl_isErr T.e_NotYet (.own _) T.ki_NotYet_Nothing (isB (br_f (sw_nil ?_))))))
  refine sw_freeze 0 3 rfl rfl (sw_cons (s1_ret (ew_if (tw_cmp (ew_len T.f_len (aw_cons ?_))))))
  walk_at "n"
  refine aw_nil (cl_len (ew_int (od_eq hr.units rfl rfl ?_)))
  refine isB (br_t (ew_ix ?_))
  walk_at "n"
  refine ew_int (ix_lst (atI_nat (j := 0) rfl) ?_)
  exact q _ rfl
theorem h_Forgotten (T : Tx K mg) (hr : Room 2 (XH P w K mg base cdv A outer s H E).A) (still : (XH P w K mg base cdv A outer s H E).A.guards = some []) {d : D} (sh : Shn d) (q : ∀ ss, ss.cs = cs → k.rt (ans "forgotten" d) ss) : SW (XH P w K mg base cdv A outer s H E) B (bodyH 2) ⟨[none, some (.exc (He.ga K "Forgotten") [("moment", d)]), none, none], cs⟩ k := by
  refine sw_cons (s1_set 3 ndH rfl (.inl rfl) (ew_lstO 0 (aw_nil ⟨szl (Nat.le_of_ble_eq_true rfl), fun y => ?_⟩)))
  refine sw_cons (s1_if (tw_val (e := .Call _ _ _ _) (ew_isinstance T.f_isinstance (aw_cons ?_))))
  walk_at "n"
  refine aw_cons (ew_gref T.g_BadNumber (by rfl) (aw_nil (cl_isErr T.e_Forgotten (.own _) T.ki_Forgotten_BadNumber (isB (br_f (sw_nil ?_))))))
  refine sw_cons (s1_if (tw_val (e := .Call _ _ _ _) (ew_isinstance T.f_isinstance (aw_cons ?_))))
  walk_at "n"
  refine aw_cons (ew_gref T.g_BadStore (by rfl) (aw_nil (cl_isErr T.e_Forgotten (.own _) T.ki_Forgotten_BadStore (isB (br_f (sw_nil ?_))))))
  refine sw_cons (s1_if (tw_val (e := .Call _ _ _ _) (ew_isinstance T.f_isinstance (aw_cons ?_))))
  walk_at "n"
  refine aw_cons (ew_gref T.g_Unlike (by rfl) (aw_nil (cl_isErr T.e_Forgotten (.own _) T.ki_Forgotten_Unlike (isB (br_f (sw_nil ?_))))))
  refine sw_cons (s1_if (tw_w (ww_or (tw_val (e := .Call _ _ _ _) (ew_isinstance T.f_isinstance (aw_cons ?_))))))
  walk_at "n"
  refine aw_cons (ew_gref T.g_NotYet (by rfl) (aw_nil (cl_isErr T.e_Forgotten (.own _) T.ki_Forgotten_NotYet (isB (br_f (ww_or1 (tw_val (e := .Call _ _ _ _) (ew_isinstance T.f_isinstance (aw_cons ?_)))))))))
  walk_at "n"
  refine aw_cons (ew_gref T.g_Forgotten (by rfl) (aw_nil (cl_isErr T.e_Forgotten (.own _) T.ki_Forgotten_Forgotten (isB (br_t ?_)))))
  refine sw_cons (s1_expr (ew_append ?_))
  walk_at "n"
  refine ⟨y, 0, _, rfl, rfl, ew_tup ?_⟩
  refine aw_cons ?_
  refine ew_if (tw_val (e := .Call _ _ _ _) (ew_isinstance T.f_isinstance (aw_cons ?_)))
  walk_at "n"
  refine aw_cons (ew_gref T.g_NotYet (by rfl) (aw_nil (cl_isErr T.e_Forgotten (.own _) T.ki_Forgotten_NotYet (isB (br_f (ew_str ?_))))))
  refine aw_cons (ew_repr T.f_repr (aw_cons (ew_errF T.e_Forgotten T.n_Forgotten_moment ?_)))
  walk_at "n"
  refine ⟨_, d, rfl, rfl, aw_nil (cl_shn hr still sh (aw_nil ⟨szl (Nat.le_of_ble_eq_true rfl), 0, _, rfl, szl (Nat.le_of_ble_eq_true rfl), ?_⟩))⟩
  refine sw_nil ?_
  refine sw_cons (s1_if (tw_val (e := .Call _ _ _ _) (ew_isinstance T.f_isinstance (aw_cons ?_))))
  walk_at "n"
  refine aw_cons (ew_gref T.g_Nothing (by rfl) (aw_nil (cl_isErr T.e_Forgotten (.own _) T.ki_Forgotten_Nothing (isB (br_f (sw_nil ?_))))))
  refine sw_freeze 0 3 rfl rfl (sw_cons (s1_ret (ew_if (tw_cmp (ew_len T.f_len (aw_cons ?_))))))
  walk_at "n"
  refine aw_nil (cl_len (ew_int (od_eq hr.units rfl rfl ?_)))
  refine isB (br_t (ew_ix ?_))
  walk_at "n"
  refine ew_int (ix_lst (atI_nat (j := 0) rfl) ?_)
  exact q _ rfl
theorem h_Nothing (T : Tx K mg) (hr : Room 2 (XH P w K mg base cdv A outer s H E).A) (still : (XH P w K mg base cdv A outer s H E).A.guards = some []) (q : ∀ ss, ss.cs = cs → k.rt (.tup [.str "nothing"]) ss) : SW (XH P w K mg base cdv A outer s H E) B (bodyH 2) ⟨[none, some (.exc (He.ga K "Nothing") []), none, none], cs⟩ k := by
  refine sw_cons (s1_set 3 ndH rfl (.inl rfl) (ew_lstO 0 (aw_nil ⟨szl (Nat.le_of_ble_eq_true rfl), fun y => ?_⟩)))
  refine sw_cons (s1_if (tw_val (e := .Call _ _ _ _) (ew_isinstance T.f_isinstance (aw_cons ?_))))
  walk_at "n"
  refine aw_cons (ew_gref T.g_BadNumber (by rfl) (aw_nil (cl_isErr T.e_Nothing (.own _) T.ki_Nothing_BadNumber (isB (br_f (sw_nil ?_))))))
  refine sw_cons (s1_if (tw_val (e := .Call _ _ _ _) (ew_isinstance T.f_isinstance (aw_cons ?_))))
  walk_at "n"
  refine aw_cons (ew_gref T.g_BadStore (by rfl) (aw_nil (cl_isErr T.e_Nothing (.own _) T.ki_Nothing_BadStore (isB (br_f (sw_nil ?_))))))
  refine sw_cons (s1_if (tw_val (e := .Call _ _ _ _) (ew_isinstance T.f_isinstance (aw_cons ?_))))
  walk_at "n"
  refine aw_cons (ew_gref T.g_Unlike (by rfl) (aw_nil (cl_isErr T.e_Nothing (.own _) T.ki_Nothing_Unlike (isB (br_f (sw_nil ?_))))))
  refine sw_cons (s1_if (tw_w (ww_or (tw_val (e := .Call _ _ _ _) (ew_isinstance T.f_isinstance (aw_cons ?_))))))
  walk_at "n"
  refine aw_cons (ew_gref T.g_NotYet (by rfl) (aw_nil (cl_isErr T.e_Nothing (.own _) T.ki_Nothing_NotYet (isB (br_f (ww_or1 (tw_val (e := .Call _ _ _ _) (ew_isinstance T.f_isinstance (aw_cons ?_)))))))))
  walk_at "n"
  refine aw_cons (ew_gref T.g_Forgotten (by rfl) (aw_nil (cl_isErr T.e_Nothing (.own _) T.ki_Nothing_Forgotten (isB (br_f (sw_nil ?_))))))
  refine sw_cons (s1_if (tw_val (e := .Call _ _ _ _) (ew_isinstance T.f_isinstance (aw_cons ?_))))
  walk_at "n"
  refine aw_cons (ew_gref T.g_Nothing (by rfl) (aw_nil (cl_isErr T.e_Nothing (.own _) T.ki_Nothing_Nothing (isB (br_t ?_)))))
  refine sw_cons (s1_expr (ew_append ?_))
  walk_at "n"
  refine ⟨y, 0, _, rfl, rfl, ew_tup ?_⟩
  refine aw_cons (ew_str (aw_nil ⟨szl (Nat.le_of_ble_eq_true rfl), 0, _, rfl, szl (Nat.le_of_ble_eq_true rfl), ?_⟩))
  refine sw_nil ?_
  refine sw_freeze 0 3 rfl rfl (sw_cons (s1_ret (ew_if (tw_cmp (ew_len T.f_len (aw_cons ?_))))))
  walk_at "n"
  refine aw_nil (cl_len (ew_int (od_eq hr.units rfl rfl ?_)))
  refine isB (br_t (ew_ix ?_))
  walk_at "n"
  refine ew_int (ix_lst (atI_nat (j := 0) rfl) ?_)
  exact q _ rfl
end
theorem heard_gives {X : Cx} {cdv : Value} {q : Str} {j : Nat} (hr : Room (j + 3) X.A) (still : X.A.guards = some []) (T : Tx X.K X.mg) :
    LamX.GivesTo X NH "_law_heard" (defScope s_law_heard) (He.ga X.K "_law_heard") cdv (defBody s_law_heard) "_law_ask" q (TThD (HR X.K)) := by
  intro f c' s H Q tl act hc h
  refine ⟨_, pss_cons (ps_set (i := 1) ndH rfl (Or.inl rfl) pe_non)
    (pss_cons (Kept.ps_try_kept (X := (cxOf C8.CX0 X.prog X.w X.K X.mg X.base NH "_law_heard" (defScope s_law_heard) (He.ga X.K "_law_heard") cdv X.A X.stack s H C8.E0).nox) (i := 2) (c := .ref (He.ga X.K "RoadError"))
        (tb := fun W D σ H => ∃ Ech : XK, (∀ cls d σ' H', Ech cls d H' → σ'.length = 4 → W cls d σ' H') ∧ σ[0]? = some (some (.ref f)) ∧ H c' = some (LamX.CodeO c' q) ∧ tl Ech H fun v H1 => ∀ l, H1 l = none → D.rt (.ref l) (upd H1 l (.lst [v])))
        rfl rfl rfl ndH rfl rfl ⟨rfl, by decide, .inl T.g_RoadError⟩ LamX.takes0 (fun W pn xe tk _ => ?_) (fun a oe cls d pn _ _ => pss_one (ps_set (i := 1) ndH rfl (Or.inl rfl) (pv 2))))
      (pss_any (sts := bodyH 2))), ?_⟩
  · refine ⟨fun pins s' σ H' D I h' => ?_⟩
    obtain ⟨Ech, hW, h1, h2, h3⟩ := h'
    refine PSs.run (pss_one (ps_ret (pe_lst (pa_cons (act _ pn xe Ech _ _ (takes_len tk) ?hh) pa_nil)))) pins s' σ H' D I ?_
    case hh => exact fun cls d σ' H' e hl => hW cls d σ' H' e hl
    have e : (fun (v : V) (H1 : Hp) => ([v] : List V).length ≤ sizeLine ∧ ∀ l, H1 l = none → D.rt (.ref l) (upd H1 l (.lst [v]))) = fun v H1 => ∀ l, H1 l = none → D.rt (.ref l) (upd H1 l (.lst [v])) := by
      funext v H1
      exact propext ⟨fun h => h.2, fun h => ⟨by show (1 : Nat) ≤ sizeLine; rw [sizeLine_eq]; decide, h⟩⟩
    refine ⟨h1, h2, ?_⟩
    show tl Ech H' (fun (v : V) (H1 : Hp) => ([v] : List V).length ≤ sizeLine ∧ ∀ l, H1 l = none → D.rt (.ref l) (upd H1 l (.lst [v])))
    rw [e]
    exact h3
  · refine ⟨_, ?_, rfl, hc, h⟩
    rintro cls d σ' H1 ⟨C, x, vs, fs, cs, rfl, rfl, hx, ok, rf, R, ⟨ex, cs0, rfl, hh⟩, q0⟩ hl
    obtain ⟨y0, y1, y2, y3, rfl⟩ : ∃ y0 y1 y2 y3, σ' = [y0, y1, y2, y3] := by
      match σ', hl with
      | [y0, y1, y2, y3], _ => exact ⟨y0, y1, y2, y3, rfl⟩
    have ok0 := csDrop ok
    have fin : ∀ (a : Addr) (ha : H1 a = none) (σ : L2.St), σ = [y0, some (.ref a), none, y3] → ∀ (w : SW (XH X.prog X.w X.K X.mg X.base cdv X.A X.stack s H C8.E0) ⟨upd H1 a (Kept.errO a (.ref C) d), cs0, C8.E0, fun _ _ _ => False⟩ (bodyH 2) ⟨[none, some (.exc C fs), none, none], cs0⟩ { nx := fun _ => False, rt := fun d s => R d s.cs }), ∀ (D0 : Ends), (∀ v H2, Q v H2 → D0.rt v H2) → tssAny (XH X.prog X.w X.K X.mg X.base cdv X.A X.stack s H C8.E0) (bodyH 2) D0 σ (upd H1 a (Kept.errO a (.ref C) d)) := fun a ha σ eσ w D0 hD => by
      subst eσ
      have S1 : Same H1 (upd H1 a (Kept.errO a (.ref C) d)) := Pre.Same.upd ha
      refine ⟨_, w.p, ⟨rfl, fun i d0 e => ?_, ok0.same S1, Ext.refl, fun _ _ _ _ _ _ z => z.elim⟩, fun _ _ _ z => z.elim, fun v d1 s1 σ1 H2 e sat x r => hD _ _ (q0 v d1 H2 s1.cs e (extDrop.trans ((Ext.same S1).trans x)) sat.ok r), fun _ _ _ z => z.elim, fun _ _ _ z => z.elim⟩
      match i, e with
      | 0, e => cases e
      | 1, e => cases e; exact ⟨_, rfl, exc_at ok hx rf ha⟩
      | 2, e => cases e
      | 3, e => cases e
      | n + 4, e => cases e
    rcases hh with ⟨d1, rfl, rfl, sh, q1⟩ | ⟨d1, rfl, rfl, sh, q1⟩ | ⟨d1, rfl, rfl, sh, q1⟩ | ⟨d1, rfl, rfl, sh, q1⟩ | ⟨d1, rfl, rfl, sh, q1⟩ | ⟨rfl, rfl, q1⟩
    · refine ⟨true, T.xm_BadNumber, fun _ a ha => ?_, fun e => by cases e⟩
      refine ⟨_, rfl, ?_⟩
      exact fin a ha _ rfl (h_BadNumber T ((hr.deeper _).mono (by omega)) still sh (fun ss e => by
        show R _ ss.cs
        rw [e]
        exact q1)) _ fun _ _ z => z
    · refine ⟨true, T.xm_BadStore, fun _ a ha => ?_, fun e => by cases e⟩
      refine ⟨_, rfl, ?_⟩
      exact fin a ha _ rfl (h_BadStore T ((hr.deeper _).mono (by omega)) still sh (fun ss e => by
        show R _ ss.cs
        rw [e]
        exact q1)) _ fun _ _ z => z
    · refine ⟨true, T.xm_Unlike, fun _ a ha => ?_, fun e => by cases e⟩
      refine ⟨_, rfl, ?_⟩
      exact fin a ha _ rfl (h_Unlike T ((hr.deeper _).mono (by omega)) still sh (fun ss e => by
        show R _ ss.cs
        rw [e]
        exact q1)) _ fun _ _ z => z
    · refine ⟨true, T.xm_NotYet, fun _ a ha => ?_, fun e => by cases e⟩
      refine ⟨_, rfl, ?_⟩
      exact fin a ha _ rfl (h_NotYet T ((hr.deeper _).mono (by omega)) still sh (fun ss e => by
        show R _ ss.cs
        rw [e]
        exact q1)) _ fun _ _ z => z
    · refine ⟨true, T.xm_Forgotten, fun _ a ha => ?_, fun e => by cases e⟩
      refine ⟨_, rfl, ?_⟩
      exact fin a ha _ rfl (h_Forgotten T ((hr.deeper _).mono (by omega)) still sh (fun ss e => by
        show R _ ss.cs
        rw [e]
        exact q1)) _ fun _ _ z => z
    · refine ⟨true, T.xm_Nothing, fun _ a ha => ?_, fun e => by cases e⟩
      refine ⟨_, rfl, ?_⟩
      exact fin a ha _ rfl (h_Nothing T ((hr.deeper _).mono (by omega)) still (fun ss e => by
        show R _ ss.cs
        rw [e]
        exact q1)) _ fun _ _ z => z
end K41
set_option Elab.async false
set_option linter.all false
set_option maxRecDepth 100000
set_option maxHeartbeats 4000000
namespace K41
open PySem PySem.Spec PyProof.Rows L2 Sx
local macro_rules | `(tactic| walk_at "c") => `(tactic| first
  | refine aw_cons ?_ | refine aw_nil ?_
  | refine ew_int ?_ | refine ew_non ?_ | refine ew_bl ?_ | refine ew_str ?_
  | refine ew_bin ?_ | refine ew_cmp ?_ | refine tw_cmp ?_ | refine tw_not ?_ | refine ew_chain ?_ | refine tw_chain ?_ | refine ew_and ?_ | refine ew_or ?_ | refine ew_one ?_ | refine ew_not ?_ | refine ew_neg ?_ | refine ew_if ?_
  | refine tw_w (ww_and ?_) | refine tw_w (ww_or ?_) | refine ww_and ?_ | refine ww_or ?_ | refine ww_and1 ?_ | refine ww_or1 ?_
  | refine tw_val (e := .Call _ _ _ _) ?_ | refine ew_tup ?_ | refine ew_ix ?_ | refine ew_lst ?_
  | refine sw_cons ?_ | refine s1_ret ?_ | refine s1_if ?_ | refine sw_nil ?_ | refine s1_expr ?_
  | refine od_add ?_ | refine od_sub ?_ | refine od_lt ?_ | refine od_le ?_ | refine od_gt ?_ | refine od_ge ?_
  | refine isB ?_ | refine intD ?_ | refine br_t ?_ | refine br_f ?_
  | refine ⟨szl (Nat.le_of_ble_eq_true rfl), ?_⟩)
local macro_rules | `(tactic| walk_at "n") => `(tactic| first
  | refine ew_name 0 rfl (by first | exact .inl rfl | exact .inr (.inl rfl) | exact .inr (.inr rfl)) rfl ?_
  | refine ew_name 1 rfl (by first | exact .inl rfl | exact .inr (.inl rfl) | exact .inr (.inr rfl)) rfl ?_
  | refine ew_name 2 rfl (by first | exact .inl rfl | exact .inr (.inl rfl) | exact .inr (.inr rfl)) rfl ?_
  | refine ew_name 3 rfl (by first | exact .inl rfl | exact .inr (.inl rfl) | exact .inr (.inr rfl)) rfl ?_
  | refine ew_name 4 rfl (by first | exact .inl rfl | exact .inr (.inl rfl) | exact .inr (.inr rfl)) rfl ?_
  | refine ew_name 5 rfl (by first | exact .inl rfl | exact .inr (.inl rfl) | exact .inr (.inr rfl)) rfl ?_
  | refine ew_name 6 rfl (by first | exact .inl rfl | exact .inr (.inl rfl) | exact .inr (.inr rfl)) rfl ?_
  | refine ew_name 7 rfl (by first | exact .inl rfl | exact .inr (.inl rfl) | exact .inr (.inr rfl)) rfl ?_
  | refine ew_name 8 rfl (by first | exact .inl rfl | exact .inr (.inl rfl) | exact .inr (.inr rfl)) rfl ?_
  | refine ew_name 9 rfl (by first | exact .inl rfl | exact .inr (.inl rfl) | exact .inr (.inr rfl)) rfl ?_
  | refine ew_name 10 rfl (by first | exact .inl rfl | exact .inr (.inl rfl) | exact .inr (.inr rfl)) rfl ?_
  | refine ew_name 11 rfl (by first | exact .inl rfl | exact .inr (.inl rfl) | exact .inr (.inr rfl)) rfl ?_
  | refine ew_name 12 rfl (by first | exact .inl rfl | exact .inr (.inl rfl) | exact .inr (.inr rfl)) rfl ?_)
local macro_rules | `(tactic| walk_at "i") => `(tactic| (refine' cl_isi (.ty _) ?a ?b ?_; (case a => constructor); (case b => with_reducible first | exact kit_int_int | exact kit_int_bool | exact kit_bool_int | exact kit_bool_bool | exact kit_NoneType_int | exact kit_str_int | exact kit_list_int | exact kit_tuple_int | exact kit_dict_int | exact kit_tuple_tuple | exact kit_int_tuple | exact kit_NoneType_tuple | exact kit_bool_tuple | exact kit_str_tuple | exact kit_list_tuple | exact kit_dict_tuple)))
local macro_rules | `(tactic| walk_at "l") => `(tactic| first
  | refine ew_isinstance (Tx.f_isinstance (by assumption)) ?_ | refine ew_len (Tx.f_len (by assumption)) ?_ | refine ew_vint (Tx.f_int (by assumption)) ?_ | refine ew_vbool (Tx.f_bool (by assumption)) ?_ | refine ew_vtuple (Tx.f_tuple (by assumption)) ?_ | refine ew_vstr (Tx.f_str (by assumption)) ?_
  | refine ew_gint (Tx.i_FAR (by assumption)) (by rfl) ?_ | refine ew_gint (Tx.i_FAR_TALLY (by assumption)) (by rfl) ?_ | refine ew_gint (Tx.i_MOST_PATIENCE (by assumption)) (by rfl) ?_ | refine ew_gint (Tx.i_MOST_LIFE (by assumption)) (by rfl) ?_ | refine ew_gint (Tx.i_MOST_PAIRS (by assumption)) (by rfl) ?_ | refine ew_gint (Tx.i_MOST_WIDTH (by assumption)) (by rfl) ?_ | refine ew_gint (Tx.i_MOST_KEEP (by assumption)) (by rfl) ?_
  | refine cl_len ?_ | refine cl_lenT ?_ | refine ix_tpl rfl ?_ | refine od_is (by intro _ h; cases h) ?_)
local macro_rules | `(tactic| walk_at "x") => `(tactic| repeat (first | walk_at "c" | walk_at "n" | walk_at "l" | walk_at "i"))
section
/-- _law_heard(lambda: body), of a def whose table is at Pa -/
theorem ew_h {X : Cx} {B : Bs} {c Pa : Addr} {Q : D → SS → Prop} {ss : SS} {q : Str} {j kk : Nat} {params : Arguments} {body : Expr} {lsc : Scope} {p1 lpos pos : Pos} (T : Tx X.K X.mg) (TB : LamX.TabB X.base X.mg c Pa) (hcode : X.env.code = .ref c) (hg : Gl X "_law_heard") (hq : q = X.env.qual ++ "<lambda>")
    (hj : ss.cs[j]? = some (Pa, .tab q)) (hr : Room (kk + 2) X.A) (hr3 : Room 3 X.A) (still : X.A.guards = some []) (Ls : LamX.LamS X.env.scope lsc) (hdef : defaultsOf params X.env = ([], []))
    (hbind : ∀ (q : Str) (cl : List (Str × Addr)) (pm cv ctv : Value), bindArgs (PySem.W.kla_fn "<lambda>" q params body lsc cl pm cv ctv) ⟨[], []⟩ = pure [])
    (h : ∀ (A : Around) (outer : List Env) (s : Shared) (H Hb : Hp) (E : XK) (f c' : Addr) (Ex : Addr → List (Str × D) → Cs → Prop), Room kk (A.deeper (LamX.lamEnv X lsc s.heap.objs.size f c')) →
      (∀ (d : D) (ex : Cs), Shn d → Q (ans "number" d) ss → Ex (He.ga X.K "BadNumber") [("value", d)] (ex ++ ss.cs)) →
      (∀ (d : D) (ex : Cs), Shn d → Q (ans "store" d) ss → Ex (He.ga X.K "BadStore") [("part", d)] (ex ++ ss.cs)) →
      (∀ (d : D) (ex : Cs), Shn d → Q (ans "unlike" d) ss → Ex (He.ga X.K "Unlike") [("part", d)] (ex ++ ss.cs)) →
      (∀ (d : D) (ex : Cs), Shn d → Q (ans "not" d) ss → Ex (He.ga X.K "NotYet") [("moment", d)] (ex ++ ss.cs)) →
      (∀ (d : D) (ex : Cs), Shn d → Q (ans "forgotten" d) ss → Ex (He.ga X.K "Forgotten") [("moment", d)] (ex ++ ss.cs)) →
      (∀ (ex : Cs), Q (.tup [.str "nothing"]) ss → Ex (He.ga X.K "Nothing") [] (ex ++ ss.cs)) →
      EW (LamX.lamCx X A outer s H E lsc f c') ⟨Hb, ss.cs, E, Ex⟩ body ss fun d s' => Q (.lst [d]) ⟨ss.sl, s'.cs⟩) : EW X B (.Call (.Name "_law_heard" p1) [.Lambda params body lsc lpos] [] pos) ss Q := by
  obtain ⟨fd, F⟩ := T.q_law_heard
  have hb := F.bindsN (ps := ["_law_ask"]) fun kV doc pm an cdv ct => Vls.bind1 fun a => rfl
  have kp := F.kp
  obtain ⟨oc, od, dV, kV, doc, pm, an, cdv, ct, osl, rfl, lk, hcd, hD, hK⟩ := F.ex
  exact ew_heardT (Ng := NH) hg T.g_law_heard kp lk hcd hb ⟨rfl, rfl, rfl, ndH, rfl, by decide +kernel, by decide +kernel⟩ rfl (by first | exact .inl rfl | exact .inr (.inl rfl)) (heard_gives (j := 0) hr3 still T) TB hcode hq hj hr Ls hdef hbind fun A outer s H Hb E f c' hr' =>
    h A outer s H Hb E f c' _ hr' (fun d ex sh q => ⟨ex, ss.cs, rfl, .inl ⟨d, rfl, rfl, sh, q⟩⟩) (fun d ex sh q => ⟨ex, ss.cs, rfl, .inr (.inl ⟨d, rfl, rfl, sh, q⟩)⟩) (fun d ex sh q => ⟨ex, ss.cs, rfl, .inr (.inr (.inl ⟨d, rfl, rfl, sh, q⟩))⟩)
      (fun d ex sh q => ⟨ex, ss.cs, rfl, .inr (.inr (.inr (.inl ⟨d, rfl, rfl, sh, q⟩)))⟩) (fun d ex sh q => ⟨ex, ss.cs, rfl, .inr (.inr (.inr (.inr (.inl ⟨d, rfl, rfl, sh, q⟩))))⟩) (fun ex q => ⟨ex, ss.cs, rfl, .inr (.inr (.inr (.inr (.inr ⟨rfl, rfl, q⟩))))⟩)
end
/-- the law's store -/
def l0 : List Pr := [(1, 30), (4, 60)]
theorem l0_good : Good l0 := by
  refine ⟨by decide, by decide, fun q h => ?_, fun i p q h1 h2 => ?_⟩
  · cases h
    exact ⟨rfl, by decide, by decide⟩
  · match i, h1, h2 with
    | 0, h1, h2 =>
      cases h1
      cases h2
      exact ⟨by decide, by decide, by decide, by decide, by decide, by decide⟩
    | 1, h1, h2 => cases h2
    | n + 2, h1, h2 => cases h1
def look4 : List Lk := [⟨92, 5, 0⟩, ⟨95, 8, 0⟩, ⟨97, 2, 1⟩, ⟨99, 6, 1⟩]
/-- looks put in one behind the other -/
def putN (l : List Pr) (p : Int) : Sta → List Lk → Option Sta
  | s, [] => some s
  | s, x :: r => match putR l p s x with
    | .inl _ => none
    | .inr s' => putN l p s' r
def made0 : Sta := ⟨100, [], [], 10 ^ 30⟩
def stp (s : Sta) (x : Lk) : Sta := match putR l0 9 s x with
  | .inr s' => s'
  | .inl _ => s
def mk1 : Sta := stp made0 ⟨92, 5, 0⟩
def mk2 : Sta := stp mk1 ⟨95, 8, 0⟩
def mk3 : Sta := stp mk2 ⟨97, 2, 1⟩
/-- the law's store, made -/
def mk4 : Sta := stp mk3 ⟨99, 6, 1⟩
theorem put1 : putR l0 9 made0 ⟨92, 5, 0⟩ = .inr mk1 := by kernel_rfl
theorem put2 : putR l0 9 mk1 ⟨95, 8, 0⟩ = .inr mk2 := by kernel_rfl
theorem put3 : putR l0 9 mk2 ⟨97, 2, 1⟩ = .inr mk3 := by kernel_rfl
theorem put4 : putR l0 9 mk3 ⟨99, 6, 1⟩ = .inr mk4 := by kernel_rfl
theorem mk4_lk : mk4.lk = look4 := by kernel_rfl
theorem mk4_now : mk4.now = 100 := by kernel_rfl
def srtB : List Lk → Bool
  | x :: z :: r => decide (x.m < z.m) && srtB (z :: r)
  | _ => true
theorem srt_of : ∀ {xs : List Lk}, srtB xs = true → Srt xs
  | [], _ => fun i j x y _ h => by cases h
  | [x], _ => fun i j a b hij h1 h2 => by
    match j, hij, h2 with
    | j + 1, _, h2 => cases h2
  | x :: z :: r, h => by
    have h : (decide (x.m < z.m) && srtB (z :: r)) = true := h
    simp only [Bool.and_eq_true, decide_eq_true_eq] at h
    have ih := srt_of h.2
    intro i j a b hij h1 h2
    match i, j, hij, h1, h2 with
    | 0, j + 1, _, h1, h2 =>
      cases h1
      match j, h2 with
      | 0, h2 => cases h2; exact h.1
      | j + 1, h2 => exact Int.lt_trans h.1 (ih 0 (j + 1) z b (by omega) rfl h2)
    | i + 1, j + 1, hij, h1, h2 => exact ih i j a b (by omega) h1 h2
end K41
set_option Elab.async false
set_option linter.all false
set_option maxRecDepth 100000
set_option maxHeartbeats 4000000
namespace K41
open PySem PySem.Spec PyProof.Rows L2 Sx
local macro_rules | `(tactic| walk_at "c") => `(tactic| first
  | refine aw_cons ?_ | refine aw_nil ?_
  | refine ew_int ?_ | refine ew_non ?_ | refine ew_bl ?_ | refine ew_str ?_
  | refine ew_bin ?_ | refine ew_cmp ?_ | refine tw_cmp ?_ | refine tw_not ?_ | refine ew_chain ?_ | refine tw_chain ?_ | refine ew_and ?_ | refine ew_or ?_ | refine ew_one ?_ | refine ew_not ?_ | refine ew_neg ?_ | refine ew_if ?_
  | refine tw_w (ww_and ?_) | refine tw_w (ww_or ?_) | refine ww_and ?_ | refine ww_or ?_ | refine ww_and1 ?_ | refine ww_or1 ?_
  | refine tw_val (e := .Call _ _ _ _) ?_ | refine ew_tup ?_ | refine ew_ix ?_ | refine ew_lst ?_
  | refine sw_cons ?_ | refine s1_ret ?_ | refine s1_if ?_ | refine sw_nil ?_ | refine s1_expr ?_
  | refine od_add ?_ | refine od_sub ?_ | refine od_lt ?_ | refine od_le ?_ | refine od_gt ?_ | refine od_ge ?_
  | refine isB ?_ | refine intD ?_ | refine br_t ?_ | refine br_f ?_
  | refine ⟨szl (Nat.le_of_ble_eq_true rfl), ?_⟩)
local macro_rules | `(tactic| walk_at "n") => `(tactic| first
  | refine ew_name 0 rfl (by first | exact .inl rfl | exact .inr (.inl rfl) | exact .inr (.inr rfl)) rfl ?_
  | refine ew_name 1 rfl (by first | exact .inl rfl | exact .inr (.inl rfl) | exact .inr (.inr rfl)) rfl ?_
  | refine ew_name 2 rfl (by first | exact .inl rfl | exact .inr (.inl rfl) | exact .inr (.inr rfl)) rfl ?_
  | refine ew_name 3 rfl (by first | exact .inl rfl | exact .inr (.inl rfl) | exact .inr (.inr rfl)) rfl ?_
  | refine ew_name 4 rfl (by first | exact .inl rfl | exact .inr (.inl rfl) | exact .inr (.inr rfl)) rfl ?_
  | refine ew_name 5 rfl (by first | exact .inl rfl | exact .inr (.inl rfl) | exact .inr (.inr rfl)) rfl ?_
  | refine ew_name 6 rfl (by first | exact .inl rfl | exact .inr (.inl rfl) | exact .inr (.inr rfl)) rfl ?_
  | refine ew_name 7 rfl (by first | exact .inl rfl | exact .inr (.inl rfl) | exact .inr (.inr rfl)) rfl ?_
  | refine ew_name 8 rfl (by first | exact .inl rfl | exact .inr (.inl rfl) | exact .inr (.inr rfl)) rfl ?_
  | refine ew_name 9 rfl (by first | exact .inl rfl | exact .inr (.inl rfl) | exact .inr (.inr rfl)) rfl ?_
  | refine ew_name 10 rfl (by first | exact .inl rfl | exact .inr (.inl rfl) | exact .inr (.inr rfl)) rfl ?_
  | refine ew_name 11 rfl (by first | exact .inl rfl | exact .inr (.inl rfl) | exact .inr (.inr rfl)) rfl ?_
  | refine ew_name 12 rfl (by first | exact .inl rfl | exact .inr (.inl rfl) | exact .inr (.inr rfl)) rfl ?_)
local macro_rules | `(tactic| walk_at "i") => `(tactic| (refine' cl_isi (.ty _) ?a ?b ?_; (case a => constructor); (case b => with_reducible first | exact kit_int_int | exact kit_int_bool | exact kit_bool_int | exact kit_bool_bool | exact kit_NoneType_int | exact kit_str_int | exact kit_list_int | exact kit_tuple_int | exact kit_dict_int | exact kit_tuple_tuple | exact kit_int_tuple | exact kit_NoneType_tuple | exact kit_bool_tuple | exact kit_str_tuple | exact kit_list_tuple | exact kit_dict_tuple)))
local macro_rules | `(tactic| walk_at "l") => `(tactic| first
  | refine ew_isinstance (Tx.f_isinstance (by assumption)) ?_ | refine ew_len (Tx.f_len (by assumption)) ?_ | refine ew_vint (Tx.f_int (by assumption)) ?_ | refine ew_vbool (Tx.f_bool (by assumption)) ?_ | refine ew_vtuple (Tx.f_tuple (by assumption)) ?_ | refine ew_vstr (Tx.f_str (by assumption)) ?_
  | refine ew_gint (Tx.i_FAR (by assumption)) (by rfl) ?_ | refine ew_gint (Tx.i_FAR_TALLY (by assumption)) (by rfl) ?_ | refine ew_gint (Tx.i_MOST_PATIENCE (by assumption)) (by rfl) ?_ | refine ew_gint (Tx.i_MOST_LIFE (by assumption)) (by rfl) ?_ | refine ew_gint (Tx.i_MOST_PAIRS (by assumption)) (by rfl) ?_ | refine ew_gint (Tx.i_MOST_WIDTH (by assumption)) (by rfl) ?_ | refine ew_gint (Tx.i_MOST_KEEP (by assumption)) (by rfl) ?_
  | refine cl_len ?_ | refine cl_lenT ?_ | refine ix_tpl rfl ?_ | refine od_is (by intro _ h; cases h) ?_)
local macro_rules | `(tactic| walk_at "x") => `(tactic| repeat (first | walk_at "c" | walk_at "n" | walk_at "l" | walk_at "i"))
theorem put_at {K : PySem.W.Frag} {l : List Pr} {p : Int} {s s' : Sta} {x : Lk} {R : Sta → Prop} {KE : Addr → List (Str × D) → Prop} (h1 : inR (-10 ^ 30) (10 ^ 30) (.int x.m) = true) (h2 : inR 0 (10 ^ 40) (.int x.t) = true) (h3 : inR 0 (10 ^ 6) (.int x.l) = true)
    (hp : putR l p s x = .inr s') (hk : (putS l p s x).u < s.now → keptU (putS l p s x).un s.now ≠ []) (r : R s') : PutAt K l p s (.int x.m) (.int x.t) (.int x.l) R KE := by
  refine ⟨fun h => (by rw [h1] at h; cases h), fun _ h => (by rw [h2] at h; cases h), fun _ _ h => (by rw [h3] at h; cases h), fun m t li c w e1 e2 e3 _ _ _ h => ?_, fun m t li s2 e1 e2 e3 _ _ _ h => ?_⟩
  · cases e1
    cases e2
    cases e3
    rw [show (⟨x.m, x.t, x.l⟩ : Lk) = x from rfl, hp] at h
    cases h
  · cases e1
    cases e2
    cases e3
    rw [show (⟨x.m, x.t, x.l⟩ : Lk) = x from rfl, hp] at h
    cases h
    exact ⟨hk, r⟩
def mkI : Nat → Sta
  | 0 => made0
  | 1 => mk1
  | 2 => mk2
  | 3 => mk3
  | _ => mk4
theorem mk_step {i : Nat} {x : Lk} (h : look4[i]? = some x) : putR l0 9 (mkI i) x = .inr (mkI (i + 1)) ∧ inR (-10 ^ 30) (10 ^ 30) (.int x.m) = true ∧ inR 0 (10 ^ 40) (.int x.t) = true ∧ inR 0 (10 ^ 6) (.int x.l) = true ∧
    ((putS l0 9 (mkI i) x).u < (mkI i).now → keptU (putS l0 9 (mkI i) x).un (mkI i).now ≠ []) ∧ Srt (mkI i).lk ∧ (mkI i).lk.length = (mkI i).un.length ∧ (mkI i).lk.length ≤ 900 := by
  match i, h with
  | 0, h =>
    cases h
    exact ⟨put1, by decide +kernel, by decide +kernel, by decide +kernel, fun h => absurd h (by decide +kernel), srt_of (by kernel_rfl), by kernel_rfl, by decide +kernel⟩
  | 1, h =>
    cases h
    exact ⟨put2, by decide +kernel, by decide +kernel, by decide +kernel, fun h => absurd h (by decide +kernel), srt_of (by kernel_rfl), by kernel_rfl, by decide +kernel⟩
  | 2, h =>
    cases h
    exact ⟨put3, by decide +kernel, by decide +kernel, by decide +kernel, fun h => absurd h (by decide +kernel), srt_of (by kernel_rfl), by kernel_rfl, by decide +kernel⟩
  | 3, h =>
    cases h
    exact ⟨put4, by decide +kernel, by decide +kernel, by decide +kernel, fun h => absurd h (by decide +kernel), srt_of (by kernel_rfl), by kernel_rfl, by decide +kernel⟩
  | n + 4, h => cases h
section
variable {P : Program} {w : World} {K : PySem.W.Frag} {mg : Str → Option Value} {base : Heap}
/-- check_between's promise, not yet shown -/
abbrev Hchk (P : Program) (w : World) (K : PySem.W.Frag) (mg : Str → Option Value) (base : Heap) : Prop := Dfs.Dfn P w K mg base (L2.CX P w) 8 "check_between" ["look", "ahead", "behind"] (spF (F_chk K))
def F_made (K : PySem.W.Frag) : FT := fun ds cs Kk _ => ds = [] ∧ ∀ y, Kk (.own y) (cs ++ [(y, Cell.ins (CSo K) (soF K l0 9 mk4))])
def NM : List Str := ["_law_store", "_law_look"]
theorem ndM : NM.Nodup := by decide +kernel
theorem x_made (T : Tx K mg) (hchk : Hchk P w K mg base) : Dfs.Dfn P w K mg base (L2.CX P w) 10 "_law_made" [] (spF (F_made K)) := by
  obtain ⟨fs, _, Fs, B0, _, _⟩ := f_store (P := P) (w := w) (base := base) T
  obtain ⟨fp, _, Fp, Bp, _, _⟩ := g_put (P := P) (w := w) (base := base) T (Nat.le_refl 8) hchk
  have Rp : FnR P w K mg base (L2.CX P w) 9 (He.ma K (CSo K) "put") (spF (F_put K)) := (Fp.raw Bp .nil).imp fun vs H Q E h => by rw [List.append_nil]; exact h
  refine dfnF T.q_law_made T.g_law_made (N := NM) ⟨rfl, rfl, rfl, ndM, rfl, by decide +kernel, by decide +kernel⟩ (fun kV doc pm an cdv ct us h => by
    match us, h with
    | [], _ => rfl) (fun ds cs Kk KE h => ?_) (fun cdv A outer s0 H E ds cs Kk KE hr h => ?_)
  · obtain ⟨rfl, _⟩ := h
    rfl
  · obtain ⟨rfl, q⟩ := h
    refine sw_cons (s1_set 0 ndM rfl (.inl rfl) ?_)
    refine ew_makeO (dds := []) (.none fun _ _ _ => False) T.k_Store Fs (hr.mono (by decide)) (by rfl) T.g_Store B0 .nil (fun _ _ => .nil) pF (aw_cons ?_)
    refine ew_makeR (.none fun _ _ _ => False) T.k_Tiers (r_tiers T) (hr.mono (by decide)) (by rfl) T.g_Tiers pF ?_
    refine aw_cons (ew_tup (aw_cons (ew_int (aw_cons (ew_int (aw_nil ⟨szl (Nat.le_of_ble_eq_true rfl), ?_⟩))))))
    refine aw_cons (ew_tup (aw_cons (ew_int (aw_cons (ew_int (aw_nil ⟨szl (Nat.le_of_ble_eq_true rfl), ?_⟩))))))
    refine aw_nil ?_
    refine fun y2 => ⟨y2, l0, _, rfl, rfl, l0_good, rfl, _, _, rfl, ?_⟩
    refine aw_cons (ew_int (aw_cons (ew_int (aw_nil fun y => ?_))))
    refine ⟨y, _, _, _, cs, rfl, rfl, trivial, trivial, .inr ⟨l0, rfl, l0_good, fun h => (by cases h), fun _ h => (by cases h), fun i j ei ej _ _ => ?_⟩⟩
    cases ei
    cases ej
    refine ⟨fun h => absurd h (by decide), fun _ => ⟨rfl, ?_⟩⟩
    refine sw_perm (cs ++ [(y, Cell.ins (CSo K) (soF K l0 9 made0))]) (List.perm_append_comm (l₁ := cs) (l₂ := [(y, Cell.ins (CSo K) (soF K l0 9 made0))])) ?_
    have at_ : ∀ s : Sta, (cs ++ [(y, Cell.ins (CSo K) (soF K l0 9 s))])[cs.length]? = some (y, Cell.ins (CSo K) (soF K l0 9 s)) := fun s => by simp
    have st_ : ∀ s s' : Sta, (cs ++ [(y, Cell.ins (CSo K) (soF K l0 9 s))]).set cs.length (y, Cell.ins (CSo K) (soF K l0 9 s')) = cs ++ [(y, Cell.ins (CSo K) (soF K l0 9 s'))] := fun s s' => by simp
    refine sw_cons (s1_forL [1] (passes_of rfl) rfl (ew_lst ?_))
    repeat (refine aw_cons (ew_tup (aw_cons (ew_int (aw_cons (ew_int (aw_cons (ew_int (aw_nil ⟨szl (Nat.le_of_ble_eq_true rfl), ?_⟩)))))))))
    refine aw_nil ⟨szl (Nat.le_of_ble_eq_true rfl), _, rfl, fun i s' => ∃ x1, s' = ⟨[some (.own y), x1], cs ++ [(y, Cell.ins (CSo K) (soF K l0 9 (mkI i)))]⟩, ⟨none, rfl⟩, fun i d s' hd hs => ?_, fun s' hs => ?_⟩
    · obtain ⟨x1, rfl⟩ := hs
      obtain ⟨x, hx, rfl⟩ : ∃ x, look4[i]? = some x ∧ d = .tup [.int x.m, .int x.t, .int x.l] := by
        match i, hd with
        | 0, hd => cases hd; exact ⟨_, rfl, rfl⟩
        | 1, hd => cases hd; exact ⟨_, rfl, rfl⟩
        | 2, hd => cases hd; exact ⟨_, rfl, rfl⟩
        | 3, hd => cases hd; exact ⟨_, rfl, rfl⟩
        | n + 4, hd => cases hd
      obtain ⟨k1, k2, k3, k4, k5, k6, k7, k8⟩ := mk_step hx
      refine tg_name 1 ndM rfl (.inl rfl) ?_
      refine sw_cons (s1_expr ?_)
      refine ew_methR (.none fun _ _ _ => False) T.c_Store T.m_Store_put Rp (hr.mono (by decide)) pF ?_
      walk_at "n"
      refine ⟨.own cs.length (at_ _) rfl, aw_cons (ew_ix ?_)⟩
      walk_at "n"
      refine ew_int (ix_tpl (atI_nat (j := 0) rfl) (aw_cons (ew_ix ?_)))
      walk_at "n"
      refine ew_int (ix_tpl (atI_nat (j := 1) rfl) (aw_cons (ew_ix ?_)))
      walk_at "n"
      refine ew_int (ix_tpl (atI_nat (j := 2) rfl) (aw_nil ?_))
      refine ⟨y, cs.length, l0, 9, mkI i, _, _, _, rfl, ⟨at_ _, l0_good⟩, trivial, trivial, trivial, k6, k7, k8, put_at k2 k3 k4 k1 k5 ?_⟩
      refine sw_nil ⟨some (.tup [.int x.m, .int x.t, .int x.l]), ?_⟩
      rw [← st_ (mkI i) (mkI (i + 1))]
      rfl
    · obtain ⟨x1, rfl⟩ := hs
      refine sw_cons (s1_ret ?_)
      walk_at "n"
      exact q y
end
end K41
set_option Elab.async false
set_option linter.all false
set_option maxRecDepth 100000
set_option maxHeartbeats 4000000
namespace K41
open PySem PySem.Spec PyProof.Rows L2 Sx
local macro_rules | `(tactic| walk_at "c") => `(tactic| first
  | refine aw_cons ?_ | refine aw_nil ?_
  | refine ew_int ?_ | refine ew_non ?_ | refine ew_bl ?_ | refine ew_str ?_
  | refine ew_bin ?_ | refine ew_cmp ?_ | refine tw_cmp ?_ | refine tw_not ?_ | refine ew_chain ?_ | refine tw_chain ?_ | refine ew_and ?_ | refine ew_or ?_ | refine ew_one ?_ | refine ew_not ?_ | refine ew_neg ?_ | refine ew_if ?_
  | refine tw_w (ww_and ?_) | refine tw_w (ww_or ?_) | refine ww_and ?_ | refine ww_or ?_ | refine ww_and1 ?_ | refine ww_or1 ?_
  | refine tw_val (e := .Call _ _ _ _) ?_ | refine ew_tup ?_ | refine ew_ix ?_ | refine ew_lst ?_
  | refine sw_cons ?_ | refine s1_ret ?_ | refine s1_if ?_ | refine sw_nil ?_ | refine s1_expr ?_
  | refine od_add ?_ | refine od_sub ?_ | refine od_lt ?_ | refine od_le ?_ | refine od_gt ?_ | refine od_ge ?_
  | refine isB ?_ | refine intD ?_ | refine br_t ?_ | refine br_f ?_
  | refine ⟨szl (Nat.le_of_ble_eq_true rfl), ?_⟩)
local macro_rules | `(tactic| walk_at "n") => `(tactic| first
  | refine ew_name 0 rfl (by first | exact .inl rfl | exact .inr (.inl rfl) | exact .inr (.inr rfl)) rfl ?_
  | refine ew_name 1 rfl (by first | exact .inl rfl | exact .inr (.inl rfl) | exact .inr (.inr rfl)) rfl ?_
  | refine ew_name 2 rfl (by first | exact .inl rfl | exact .inr (.inl rfl) | exact .inr (.inr rfl)) rfl ?_
  | refine ew_name 3 rfl (by first | exact .inl rfl | exact .inr (.inl rfl) | exact .inr (.inr rfl)) rfl ?_
  | refine ew_name 4 rfl (by first | exact .inl rfl | exact .inr (.inl rfl) | exact .inr (.inr rfl)) rfl ?_
  | refine ew_name 5 rfl (by first | exact .inl rfl | exact .inr (.inl rfl) | exact .inr (.inr rfl)) rfl ?_
  | refine ew_name 6 rfl (by first | exact .inl rfl | exact .inr (.inl rfl) | exact .inr (.inr rfl)) rfl ?_
  | refine ew_name 7 rfl (by first | exact .inl rfl | exact .inr (.inl rfl) | exact .inr (.inr rfl)) rfl ?_
  | refine ew_name 8 rfl (by first | exact .inl rfl | exact .inr (.inl rfl) | exact .inr (.inr rfl)) rfl ?_
  | refine ew_name 9 rfl (by first | exact .inl rfl | exact .inr (.inl rfl) | exact .inr (.inr rfl)) rfl ?_
  | refine ew_name 10 rfl (by first | exact .inl rfl | exact .inr (.inl rfl) | exact .inr (.inr rfl)) rfl ?_
  | refine ew_name 11 rfl (by first | exact .inl rfl | exact .inr (.inl rfl) | exact .inr (.inr rfl)) rfl ?_
  | refine ew_name 12 rfl (by first | exact .inl rfl | exact .inr (.inl rfl) | exact .inr (.inr rfl)) rfl ?_)
local macro_rules | `(tactic| walk_at "i") => `(tactic| (refine' cl_isi (.ty _) ?a ?b ?_; (case a => constructor); (case b => with_reducible first | exact kit_int_int | exact kit_int_bool | exact kit_bool_int | exact kit_bool_bool | exact kit_NoneType_int | exact kit_str_int | exact kit_list_int | exact kit_tuple_int | exact kit_dict_int | exact kit_tuple_tuple | exact kit_int_tuple | exact kit_NoneType_tuple | exact kit_bool_tuple | exact kit_str_tuple | exact kit_list_tuple | exact kit_dict_tuple)))
local macro_rules | `(tactic| walk_at "l") => `(tactic| first
  | refine ew_isinstance (Tx.f_isinstance (by assumption)) ?_ | refine ew_len (Tx.f_len (by assumption)) ?_ | refine ew_vint (Tx.f_int (by assumption)) ?_ | refine ew_vbool (Tx.f_bool (by assumption)) ?_ | refine ew_vtuple (Tx.f_tuple (by assumption)) ?_ | refine ew_vstr (Tx.f_str (by assumption)) ?_
  | refine ew_gint (Tx.i_FAR (by assumption)) (by rfl) ?_ | refine ew_gint (Tx.i_FAR_TALLY (by assumption)) (by rfl) ?_ | refine ew_gint (Tx.i_MOST_PATIENCE (by assumption)) (by rfl) ?_ | refine ew_gint (Tx.i_MOST_LIFE (by assumption)) (by rfl) ?_ | refine ew_gint (Tx.i_MOST_PAIRS (by assumption)) (by rfl) ?_ | refine ew_gint (Tx.i_MOST_WIDTH (by assumption)) (by rfl) ?_ | refine ew_gint (Tx.i_MOST_KEEP (by assumption)) (by rfl) ?_
  | refine cl_len ?_ | refine cl_lenT ?_ | refine ix_tpl rfl ?_ | refine od_is (by intro _ h; cases h) ?_)
local macro_rules | `(tactic| walk_at "x") => `(tactic| repeat (first | walk_at "c" | walk_at "n" | walk_at "l" | walk_at "i"))
def pairL : List Lk → List (Lk × Lk)
  | x :: z :: r => (x, z) :: pairL (z :: r)
  | _ => []
def emP (K : PySem.W.Frag) (p : Lk × Lk) : D := .tup [lkD K p.1, lkD K p.2]
theorem pairD_lks (K : PySem.W.Frag) : ∀ xs : List Lk, pairD (lks K xs) ((lks K xs).drop 1) = (pairL xs).map (emP K)
  | [] => rfl
  | [x] => rfl
  | x :: z :: r => by
    have ih := pairD_lks K (z :: r)
    show emP K (x, z) :: pairD (lks K (z :: r)) ((lks K (z :: r)).drop 1) = emP K (x, z) :: (pairL (z :: r)).map (emP K)
    rw [ih]
theorem fallB_pair (f : Lk → Lk → Bool) : ∀ xs : List Lk, ((pairL xs).map fun p => f p.1 p.2).any id = fallB f xs
  | [] => rfl
  | [x] => rfl
  | x :: z :: r => by
    show (f x z || ((pairL (z :: r)).map fun p => f p.1 p.2).any id) = (f x z || fallB f (z :: r))
    rw [fallB_pair f (z :: r)]
theorem pairL_len : ∀ xs : List Lk, (pairL xs).length ≤ xs.length
  | [] => Nat.le_refl _
  | [x] => Nat.zero_le _
  | x :: z :: r => by
    have ih := pairL_len (z :: r)
    show (pairL (z :: r)).length + 1 ≤ (z :: r).length + 1
    omega
section
variable {P : Program} {w : World} {K : PySem.W.Frag} {mg : Str → Option Value} {base : Heap}
def NC : List Str := ["look", "ahead", "behind", "rows", "pairs", "one", "other"]
theorem ndC : NC.Nodup := by decide +kernel
theorem d_chk (T : Tx K mg) : Hchk P w K mg base := by
  obtain ⟨fb, Fb, Bb⟩ := i_BadStore (P := P) (w := w) (base := base) T
  refine dfnF T.q_check_between T.g_check_between (N := NC) ⟨rfl, rfl, rfl, ndC, rfl, by decide +kernel, by decide +kernel⟩ (fun kV doc pm an cdv ct => Vls.bind3 fun a b c => rfl) (fun ds cs Kk KE h => ?_) (fun cdv A outer s0 H E ds cs Kk KE hr h => ?_)
  · obtain ⟨_, _, _, rfl, _⟩ := h
    rfl
  · obtain ⟨x, a, b, rfl, la, lb, ok, no⟩ := h
    have ll : (a ++ x :: b).length ≤ 3 := by
      rw [List.length_append, List.length_cons]
      omega
    generalize hx : a ++ x :: b = xs at ok no ll
    have e3 : lks K a ++ (lkD K x :: (lks K b ++ [])) = lks K xs := by
      rw [← hx, List.append_nil]
      unfold lks
      rw [List.map_append]
      rfl
    refine sw_cons (s1_set 3 ndC rfl (.inl rfl) (ew_lst (aw_star ?_)))
    walk_at "n"
    refine ⟨_, .inl rfl, aw_cons ?_⟩
    walk_at "n"
    refine aw_star ?_
    walk_at "n"
    refine ⟨_, .inl rfl, aw_nil ?_⟩
    rw [e3]
    refine ⟨szl (by rw [lks_len]; omega), ?_⟩
    refine sw_cons (s1_set 4 ndC rfl (.inl rfl) (ew_listZip rfl T.f_list T.f_zip (aw_cons ?_)))
    walk_at "n"
    refine aw_cons (ew_sl ?_)
    walk_at "n"
    refine ew_int ⟨1, rfl, lks K xs, rfl, ?_⟩
    have e4 : xs = [] ∨ 1 ≤ xs.length := by
      cases xs with
      | nil => exact .inl rfl
      | cons => exact .inr (Nat.succ_le_succ (Nat.zero_le _))
    have c1 : cutD (lks K xs) (some 1) none = (lks K xs).drop 1 := by
      rcases e4 with rfl | h
      · rfl
      · exact cut_from 1 (by rw [lks_len]; exact h)
    rw [c1]
    refine aw_nil ⟨_, _, rfl, ?_⟩
    rw [pairD_lks]
    have lp : (pairL xs).length ≤ 3 := Nat.le_trans (pairL_len xs) ll
    have fin : ∀ (f : Lk → Lk → Bool), (selM (pairL xs) (fun _ => true) fun p => .bl (f p.1 p.2)) = ((pairL xs).map fun p => f p.1 p.2).map D.bl := fun f => by
      rw [selM_all, List.map_map]
      rfl
    refine sw_cons (s1_if (tw_val (e := .Call _ _ _ _) (ew_callB (id := "any") T.f_any (by rfl) (by kernel_rfl) (aw_cons (ew_selL (emP K) (fun p => .bl (lifeB p.1 p.2)) (fun _ => true) [("one", 5), ("other", 6)] 0 rfl ndC (Vls.blk_by (N := NC) (sc := defScope s_check_between) (by decide +kernel)) ?_)))))
    walk_at "n"
    refine ⟨pairL xs, rfl, szl (by omega), fun i y hy l acc => ?_, ?_⟩
    · intro _ _ _ _ _
      refine tg_tup rfl (tgs_cons (tg_name 5 ndC rfl (.inl rfl) (tgs_cons (tg_name 6 ndC rfl (.inl rfl) (tgs_nil ?_)))))
      intro _ _ _ _ _
      refine ts_nil ⟨rfl, rfl, fun _ => ?_⟩
      intro _ _ _ _ _
      refine ew_cmp (ew_fld T.c_Look T.n_Look_life ?_)
      walk_at "n"
      refine ⟨_, .obj rfl, ew_fld T.c_Look T.n_Look_life ?_⟩
      walk_at "n"
      exact ⟨_, .obj rfl, od_gt ⟨rfl, rfl⟩⟩
    rw [fin]
    refine aw_nil (cl_any' rfl ?_)
    rw [fallB_pair]
    refine isB ⟨fun h1 => ?_, fun h1 => ?_⟩
    · refine sw_cons (s1_raise1 T.o_BadStore T.m_BadStore_init.at_ T.t_BadStore Fb (hr.mono (by decide)) Bb (by rfl) T.g_BadStore rfl tk (ew_str ?_))
      refine no _ ?_
      unfold chkB
      rw [if_pos h1]
    refine sw_nil (sw_cons (s1_if (tw_val (e := .Call _ _ _ _) (ew_callB (id := "any") T.f_any (by rfl) (by kernel_rfl) (aw_cons (ew_selL (emP K) (fun p => .bl (talB p.1 p.2)) (fun _ => true) [("one", 5), ("other", 6)] 0 rfl ndC (Vls.blk_by (N := NC) (sc := defScope s_check_between) (by decide +kernel)) ?_))))))
    walk_at "n"
    refine ⟨pairL xs, rfl, szl (by omega), fun i y hy l acc => ?_, ?_⟩
    · intro _ _ _ _ _
      refine tg_tup rfl (tgs_cons (tg_name 5 ndC rfl (.inl rfl) (tgs_cons (tg_name 6 ndC rfl (.inl rfl) (tgs_nil ?_)))))
      intro _ _ _ _ _
      refine ts_nil ⟨rfl, rfl, fun _ => ?_⟩
      intro _ _ _ _ _
      refine ew_and (ew_cmp (ew_fld T.c_Look T.n_Look_life ?_))
      walk_at "n"
      refine ⟨_, .obj rfl, ew_fld T.c_Look T.n_Look_life ?_⟩
      walk_at "n"
      refine ⟨_, .obj rfl, od_eq hr.units rfl rfl (isB ⟨fun h => ?_, fun h => ⟨?_, rfl⟩⟩)⟩
      · refine ew_one (ew_cmp (ew_fld T.c_Look T.n_Look_tally ?_))
        walk_at "n"
        refine ⟨_, .obj rfl, ew_fld T.c_Look T.n_Look_tally ?_⟩
        walk_at "n"
        refine ⟨_, .obj rfl, od_gt ⟨?_, rfl⟩⟩
        have h : (y.1.l == y.2.l) = true := h
        have h := eq_of_beq h
        unfold talB
        rw [decide_eq_true h, Bool.true_and]
      · have h : (y.1.l == y.2.l) = false := h
        have h := ne_of_beq_false h
        unfold talB
        rw [decide_eq_false h, Bool.false_and]
    rw [fin]
    refine aw_nil (cl_any' rfl ?_)
    rw [fallB_pair]
    refine isB ⟨fun h2 => ?_, fun h2 => ?_⟩
    · refine sw_cons (s1_raise1 T.o_BadStore T.m_BadStore_init.at_ T.t_BadStore Fb (hr.mono (by decide)) Bb (by rfl) T.g_BadStore rfl tk (ew_str ?_))
      refine no _ ?_
      unfold chkB
      rw [h1, if_neg Bool.false_ne_true, if_pos h2]
    refine sw_nil (sw_nil (ok ?_))
    unfold chkB
    rw [h1, h2]
    rfl
end
end K41
set_option Elab.async false
set_option linter.all false
set_option maxRecDepth 100000
set_option maxHeartbeats 4000000
namespace K41
open PySem PySem.Spec PyProof.Rows L2 Sx
local macro_rules | `(tactic| walk_at "c") => `(tactic| first
  | refine aw_cons ?_ | refine aw_nil ?_
  | refine ew_int ?_ | refine ew_non ?_ | refine ew_bl ?_ | refine ew_str ?_
  | refine ew_bin ?_ | refine ew_cmp ?_ | refine tw_cmp ?_ | refine tw_not ?_ | refine ew_chain ?_ | refine tw_chain ?_ | refine ew_and ?_ | refine ew_or ?_ | refine ew_one ?_ | refine ew_not ?_ | refine ew_neg ?_ | refine ew_if ?_
  | refine tw_w (ww_and ?_) | refine tw_w (ww_or ?_) | refine ww_and ?_ | refine ww_or ?_ | refine ww_and1 ?_ | refine ww_or1 ?_
  | refine tw_val (e := .Call _ _ _ _) ?_ | refine ew_tup ?_ | refine ew_ix ?_ | refine ew_lst ?_
  | refine sw_cons ?_ | refine s1_ret ?_ | refine s1_if ?_ | refine sw_nil ?_ | refine s1_expr ?_
  | refine od_add ?_ | refine od_sub ?_ | refine od_lt ?_ | refine od_le ?_ | refine od_gt ?_ | refine od_ge ?_
  | refine isB ?_ | refine intD ?_ | refine br_t ?_ | refine br_f ?_
  | refine ⟨szl (Nat.le_of_ble_eq_true rfl), ?_⟩)
local macro_rules | `(tactic| walk_at "n") => `(tactic| first
  | refine ew_name 0 rfl (by first | exact .inl rfl | exact .inr (.inl rfl) | exact .inr (.inr rfl)) rfl ?_
  | refine ew_name 1 rfl (by first | exact .inl rfl | exact .inr (.inl rfl) | exact .inr (.inr rfl)) rfl ?_
  | refine ew_name 2 rfl (by first | exact .inl rfl | exact .inr (.inl rfl) | exact .inr (.inr rfl)) rfl ?_
  | refine ew_name 3 rfl (by first | exact .inl rfl | exact .inr (.inl rfl) | exact .inr (.inr rfl)) rfl ?_
  | refine ew_name 4 rfl (by first | exact .inl rfl | exact .inr (.inl rfl) | exact .inr (.inr rfl)) rfl ?_
  | refine ew_name 5 rfl (by first | exact .inl rfl | exact .inr (.inl rfl) | exact .inr (.inr rfl)) rfl ?_
  | refine ew_name 6 rfl (by first | exact .inl rfl | exact .inr (.inl rfl) | exact .inr (.inr rfl)) rfl ?_
  | refine ew_name 7 rfl (by first | exact .inl rfl | exact .inr (.inl rfl) | exact .inr (.inr rfl)) rfl ?_
  | refine ew_name 8 rfl (by first | exact .inl rfl | exact .inr (.inl rfl) | exact .inr (.inr rfl)) rfl ?_
  | refine ew_name 9 rfl (by first | exact .inl rfl | exact .inr (.inl rfl) | exact .inr (.inr rfl)) rfl ?_
  | refine ew_name 10 rfl (by first | exact .inl rfl | exact .inr (.inl rfl) | exact .inr (.inr rfl)) rfl ?_
  | refine ew_name 11 rfl (by first | exact .inl rfl | exact .inr (.inl rfl) | exact .inr (.inr rfl)) rfl ?_
  | refine ew_name 12 rfl (by first | exact .inl rfl | exact .inr (.inl rfl) | exact .inr (.inr rfl)) rfl ?_)
local macro_rules | `(tactic| walk_at "i") => `(tactic| (refine' cl_isi (.ty _) ?a ?b ?_; (case a => constructor); (case b => with_reducible first | exact kit_int_int | exact kit_int_bool | exact kit_bool_int | exact kit_bool_bool | exact kit_NoneType_int | exact kit_str_int | exact kit_list_int | exact kit_tuple_int | exact kit_dict_int | exact kit_tuple_tuple | exact kit_int_tuple | exact kit_NoneType_tuple | exact kit_bool_tuple | exact kit_str_tuple | exact kit_list_tuple | exact kit_dict_tuple)))
local macro_rules | `(tactic| walk_at "l") => `(tactic| first
  | refine ew_isinstance (Tx.f_isinstance (by assumption)) ?_ | refine ew_len (Tx.f_len (by assumption)) ?_ | refine ew_vint (Tx.f_int (by assumption)) ?_ | refine ew_vbool (Tx.f_bool (by assumption)) ?_ | refine ew_vtuple (Tx.f_tuple (by assumption)) ?_ | refine ew_vstr (Tx.f_str (by assumption)) ?_
  | refine ew_gint (Tx.i_FAR (by assumption)) (by rfl) ?_ | refine ew_gint (Tx.i_FAR_TALLY (by assumption)) (by rfl) ?_ | refine ew_gint (Tx.i_MOST_PATIENCE (by assumption)) (by rfl) ?_ | refine ew_gint (Tx.i_MOST_LIFE (by assumption)) (by rfl) ?_ | refine ew_gint (Tx.i_MOST_PAIRS (by assumption)) (by rfl) ?_ | refine ew_gint (Tx.i_MOST_WIDTH (by assumption)) (by rfl) ?_ | refine ew_gint (Tx.i_MOST_KEEP (by assumption)) (by rfl) ?_
  | refine cl_len ?_ | refine cl_lenT ?_ | refine ix_tpl rfl ?_ | refine od_is (by intro _ h; cases h) ?_)
local macro_rules | `(tactic| walk_at "x") => `(tactic| repeat (first | walk_at "c" | walk_at "n" | walk_at "l" | walk_at "i"))
section
variable {P : Program} {w : World} {K : PySem.W.Frag} {mg : Str → Option Value} {base : Heap}
theorem i_iter (T : Tx K mg) : ∃ fd, Owp.FnN P w K mg base (L2.CX P w) 1 (He.ma K (CSo K) "__iter__") fd ["self"] (spItT2 (CSo K) "_state" (CSt K) "looks") ∧ L2.Binds K fd ["self"] [] := by
  obtain ⟨fd, F⟩ := T.q_Store_iter
  refine ⟨fd, Owp.fnN_of F (N := ["self"]) ⟨rfl, rfl, rfl, by decide +kernel, rfl, by decide +kernel, by decide +kernel⟩ (fun cdv A up s H vs Q E n hn hr h => ?_), F.bindsN fun kV doc pm an cdv ct => Vls.bind1 fun a => rfl⟩
  obtain ⟨a, dx, fs, b, dx2, fs2, t, xs, rfl, ea, h1, eb, h2, et, q⟩ := h
  exact ⟨_, pss_cons (ps_ret (pe_callB Owp.call_iterT (by rfl) T.f_iter (by kernel_rfl) (pa_cons (pe_fld (pe_fld (pv 0) (by rfl)) (by rfl)) pa_nil))) pss_nil, .ref a, rfl, a, CSo K, dx, fs, .ref b, rfl, ea, T.c_Store, T.n_Store_state, h1, b, CSt K, dx2, fs2, .ref t, rfl, eb, T.c_State, T.n_State_looks, h2, t, xs, rfl, SqT.of et, fun p hp hs => q p hp (Nat.le_trans hn hs)⟩
end
end K41
set_option Elab.async false
set_option linter.all false
set_option maxRecDepth 100000
set_option maxHeartbeats 4000000
namespace K41
open PySem PySem.Spec PyProof.Rows L2 Sx
local macro_rules | `(tactic| walk_at "c") => `(tactic| first
  | refine aw_cons ?_ | refine aw_nil ?_
  | refine ew_int ?_ | refine ew_non ?_ | refine ew_bl ?_ | refine ew_str ?_
  | refine ew_bin ?_ | refine ew_cmp ?_ | refine tw_cmp ?_ | refine tw_not ?_ | refine ew_chain ?_ | refine tw_chain ?_ | refine ew_and ?_ | refine ew_or ?_ | refine ew_one ?_ | refine ew_not ?_ | refine ew_neg ?_ | refine ew_if ?_
  | refine tw_w (ww_and ?_) | refine tw_w (ww_or ?_) | refine ww_and ?_ | refine ww_or ?_ | refine ww_and1 ?_ | refine ww_or1 ?_
  | refine tw_val (e := .Call _ _ _ _) ?_ | refine ew_tup ?_ | refine ew_ix ?_ | refine ew_lst ?_
  | refine sw_cons ?_ | refine s1_ret ?_ | refine s1_if ?_ | refine sw_nil ?_ | refine s1_expr ?_
  | refine od_add ?_ | refine od_sub ?_ | refine od_lt ?_ | refine od_le ?_ | refine od_gt ?_ | refine od_ge ?_
  | refine isB ?_ | refine intD ?_ | refine br_t ?_ | refine br_f ?_
  | refine ⟨szl (Nat.le_of_ble_eq_true rfl), ?_⟩)
local macro_rules | `(tactic| walk_at "n") => `(tactic| first
  | refine ew_name 0 rfl (by first | exact .inl rfl | exact .inr (.inl rfl) | exact .inr (.inr rfl)) rfl ?_
  | refine ew_name 1 rfl (by first | exact .inl rfl | exact .inr (.inl rfl) | exact .inr (.inr rfl)) rfl ?_
  | refine ew_name 2 rfl (by first | exact .inl rfl | exact .inr (.inl rfl) | exact .inr (.inr rfl)) rfl ?_
  | refine ew_name 3 rfl (by first | exact .inl rfl | exact .inr (.inl rfl) | exact .inr (.inr rfl)) rfl ?_
  | refine ew_name 4 rfl (by first | exact .inl rfl | exact .inr (.inl rfl) | exact .inr (.inr rfl)) rfl ?_
  | refine ew_name 5 rfl (by first | exact .inl rfl | exact .inr (.inl rfl) | exact .inr (.inr rfl)) rfl ?_
  | refine ew_name 6 rfl (by first | exact .inl rfl | exact .inr (.inl rfl) | exact .inr (.inr rfl)) rfl ?_
  | refine ew_name 7 rfl (by first | exact .inl rfl | exact .inr (.inl rfl) | exact .inr (.inr rfl)) rfl ?_
  | refine ew_name 8 rfl (by first | exact .inl rfl | exact .inr (.inl rfl) | exact .inr (.inr rfl)) rfl ?_
  | refine ew_name 9 rfl (by first | exact .inl rfl | exact .inr (.inl rfl) | exact .inr (.inr rfl)) rfl ?_
  | refine ew_name 10 rfl (by first | exact .inl rfl | exact .inr (.inl rfl) | exact .inr (.inr rfl)) rfl ?_
  | refine ew_name 11 rfl (by first | exact .inl rfl | exact .inr (.inl rfl) | exact .inr (.inr rfl)) rfl ?_
  | refine ew_name 12 rfl (by first | exact .inl rfl | exact .inr (.inl rfl) | exact .inr (.inr rfl)) rfl ?_)
local macro_rules | `(tactic| walk_at "i") => `(tactic| (refine' cl_isi (.ty _) ?a ?b ?_; (case a => constructor); (case b => with_reducible first | exact kit_int_int | exact kit_int_bool | exact kit_bool_int | exact kit_bool_bool | exact kit_NoneType_int | exact kit_str_int | exact kit_list_int | exact kit_tuple_int | exact kit_dict_int | exact kit_tuple_tuple | exact kit_int_tuple | exact kit_NoneType_tuple | exact kit_bool_tuple | exact kit_str_tuple | exact kit_list_tuple | exact kit_dict_tuple)))
local macro_rules | `(tactic| walk_at "l") => `(tactic| first
  | refine ew_isinstance (Tx.f_isinstance (by assumption)) ?_ | refine ew_len (Tx.f_len (by assumption)) ?_ | refine ew_vint (Tx.f_int (by assumption)) ?_ | refine ew_vbool (Tx.f_bool (by assumption)) ?_ | refine ew_vtuple (Tx.f_tuple (by assumption)) ?_ | refine ew_vstr (Tx.f_str (by assumption)) ?_
  | refine ew_gint (Tx.i_FAR (by assumption)) (by rfl) ?_ | refine ew_gint (Tx.i_FAR_TALLY (by assumption)) (by rfl) ?_ | refine ew_gint (Tx.i_MOST_PATIENCE (by assumption)) (by rfl) ?_ | refine ew_gint (Tx.i_MOST_LIFE (by assumption)) (by rfl) ?_ | refine ew_gint (Tx.i_MOST_PAIRS (by assumption)) (by rfl) ?_ | refine ew_gint (Tx.i_MOST_WIDTH (by assumption)) (by rfl) ?_ | refine ew_gint (Tx.i_MOST_KEEP (by assumption)) (by rfl) ?_
  | refine cl_len ?_ | refine cl_lenT ?_ | refine ix_tpl rfl ?_ | refine od_is (by intro _ h; cases h) ?_)
local macro_rules | `(tactic| walk_at "x") => `(tactic| repeat (first | walk_at "c" | walk_at "n" | walk_at "l" | walk_at "i"))
abbrev scK : Scope := defScope s_law_kinds_right
def qK : Str := (envOfC "_law_kinds_right" scK 0 0 .none).qual ++ "<lambda>"
def NKr : List Str := ["_law_pen_here", "_law_store", "_law_face", "_law_odd", "_law_bad", "_law_life", "_law_heard_here", "_law_past", "_law_due", "_law_look", "_law_one"]
theorem ndKr : NKr.Nodup := by decide +kernel
def bodyK (i : Nat) : List Stmt := (defBody s_law_kinds_right).drop i
def faceD (x : Lk) : D := .tup [.int x.m, .int x.t, .int x.l]
/-- what no number from lo to hi is -/
structure Wr (lo hi : Int) (x : D) : Prop where
  r : inR lo hi x = false
  pl : Pln x
  sh : Shn x
  tm : (ans "number" x).tm 2 = true
theorem shn_by {d : D} (h1 : d.dat = true) (h2 : d.py.showable = true) (h3 : d.py.hasDict = false) (h4 : d.py.depth ≤ 60) (h5 : d.py.shown.length ≤ 1000) : Shn d := .inl ⟨h1, h2, h3, h4, szl (Nat.le_trans h5 (by decide))⟩
theorem wr_odd {o : D} (h : o ∈ [D.non, .int (10 ^ 30 + 1), .int (-10 ^ 30 - 1), .bl true, .str "0", .tup [.int 0]]) : Wr (-10 ^ 30) (10 ^ 30) o := by
  simp only [List.mem_cons, List.not_mem_nil, or_false] at h
  rcases h with rfl | rfl | rfl | rfl | rfl | rfl
  all_goals refine ⟨by decide +kernel, ?_, shn_by (by decide +kernel) (by decide +kernel) (by decide +kernel) (by decide +kernel) (by decide +kernel), by decide +kernel⟩
  all_goals trivial
theorem wr_bad {o : D} (h : o ∈ [D.non, .int (-1), .int (10 ^ 40 + 1), .bl false, .str "5", .lst []]) : Wr 0 (10 ^ 40) o := by
  simp only [List.mem_cons, List.not_mem_nil, or_false] at h
  rcases h with rfl | rfl | rfl | rfl | rfl | rfl
  all_goals refine ⟨by decide +kernel, ?_, shn_by (by decide +kernel) (by decide +kernel) (by decide +kernel) (by decide +kernel) (by decide +kernel), by decide +kernel⟩
  all_goals trivial
theorem put_b1 {K : PySem.W.Frag} {l : List Pr} {p : Int} {s : Sta} {dm dt dl : D} {R : Sta → Prop} {KE : Addr → List (Str × D) → Prop} (h : inR (-10 ^ 30) (10 ^ 30) dm = false) (k : KE (He.ga K "BadNumber") [("value", dm)]) : PutAt K l p s dm dt dl R KE :=
  ⟨fun _ => k, fun h1 => (by rw [h] at h1; cases h1), fun h1 => (by rw [h] at h1; cases h1), fun _ _ _ _ _ _ _ _ h1 => (by rw [h] at h1; cases h1), fun _ _ _ _ _ _ _ h1 => (by rw [h] at h1; cases h1)⟩
theorem put_b2 {K : PySem.W.Frag} {l : List Pr} {p : Int} {s : Sta} {dm dt dl : D} {R : Sta → Prop} {KE : Addr → List (Str × D) → Prop} (h0 : inR (-10 ^ 30) (10 ^ 30) dm = true) (h : inR 0 (10 ^ 40) dt = false) (k : KE (He.ga K "BadNumber") [("value", dt)]) : PutAt K l p s dm dt dl R KE :=
  ⟨fun h1 => (by rw [h0] at h1; cases h1), fun _ _ => k, fun _ h1 => (by rw [h] at h1; cases h1), fun _ _ _ _ _ _ _ _ _ h1 => (by rw [h] at h1; cases h1), fun _ _ _ _ _ _ _ _ h1 => (by rw [h] at h1; cases h1)⟩
theorem put_b3 {K : PySem.W.Frag} {l : List Pr} {p : Int} {s : Sta} {dm dt dl : D} {R : Sta → Prop} {KE : Addr → List (Str × D) → Prop} (h0 : inR (-10 ^ 30) (10 ^ 30) dm = true) (h2 : inR 0 (10 ^ 40) dt = true) (h : inR 0 (10 ^ 6) dl = false) (k : KE (He.ga K "BadNumber") [("value", dl)]) : PutAt K l p s dm dt dl R KE :=
  ⟨fun h1 => (by rw [h0] at h1; cases h1), fun _ h1 => (by rw [h2] at h1; cases h1), fun _ _ _ => k, fun _ _ _ _ _ _ _ _ _ _ h1 => (by rw [h] at h1; cases h1), fun _ _ _ _ _ _ _ _ _ h1 => (by rw [h] at h1; cases h1)⟩
theorem lk_bad {K : PySem.W.Frag} {l : List Pr} {p : Int} {s : Sta} {b : D} {R : Lk → Prop} {KE : Addr → List (Str × D) → Prop} (h : inR (-10 ^ 30) (10 ^ 30) b = false) (k : KE (He.ga K "BadNumber") [("value", b)]) : LkAt K l p s b R KE :=
  ⟨fun _ => k, fun _ _ h1 => (by rw [h] at h1; cases h1), fun _ _ h1 => (by rw [h] at h1; cases h1), fun _ _ _ _ h1 => (by rw [h] at h1; cases h1), fun _ _ _ _ _ _ h1 => (by rw [h] at h1; cases h1)⟩
theorem mk4_srt : Srt mk4.lk := srt_of (by kernel_rfl)
theorem mk4_len : mk4.lk.length = mk4.un.length := by kernel_rfl
theorem mk4_le : mk4.lk.length ≤ 900 := by decide +kernel
theorem mk4_le' : mk4.lk.length ≤ 1000 := by decide +kernel
theorem hy2 (a b : Addr × Cell) (cs : Cs) (c : Addr × Cell) : (a :: b :: (cs ++ [c]))[cs.length + 2]? = some c := by simp
theorem hy3 (a b d : Addr × Cell) (cs : Cs) (c : Addr × Cell) : (a :: b :: d :: (cs ++ [c]))[cs.length + 3]? = some c := by simp
theorem wr_life {o : D} (h : o ∈ [D.non, .int (-1), .int (10 ^ 6 + 1), .bl true, .str "0", .dct0]) : Wr 0 (10 ^ 6) o := by
  simp only [List.mem_cons, List.not_mem_nil, or_false] at h
  rcases h with rfl | rfl | rfl | rfl | rfl | rfl
  all_goals refine ⟨by decide +kernel, ?_, ?_, by decide +kernel⟩
  all_goals first | trivial | exact shn_by (by decide +kernel) (by decide +kernel) (by decide +kernel) (by decide +kernel) (by decide +kernel) | exact .inr rfl
theorem wr_past {o : D} (h : o ∈ [D.non, .int 99, .int (10 ^ 30 + 1), .bl true, .str "100", .int (-1)]) : Wr 100 (10 ^ 30) o := by
  simp only [List.mem_cons, List.not_mem_nil, or_false] at h
  rcases h with rfl | rfl | rfl | rfl | rfl | rfl
  all_goals refine ⟨by decide +kernel, ?_, shn_by (by decide +kernel) (by decide +kernel) (by decide +kernel) (by decide +kernel) (by decide +kernel), by decide +kernel⟩
  all_goals trivial
section
variable {P : Program} {w : World} {K : PySem.W.Frag} {mg : Str → Option Value} {base : Heap}
abbrev XKi (P : Program) (w : World) (K : PySem.W.Frag) (mg : Str → Option Value) (base : Heap) (c : Addr) (A : Around) (outer : List Env) (s : Shared) (H : Hp) (E : XK) : Cx := cxOf (L2.CX P w) P w K mg base NKr "_law_kinds_right" scK (He.ga K "_law_kinds_right") (.ref c) A outer s H E
theorem pLaK {c : Addr} {A : Around} {outer : List Env} {s : Shared} {H : Hp} {E : XK} {A' : Around} {outer' : List Env} {s' : Shared} {H' : Hp} {E' : XK} {scope : Scope} {f c' : Addr} : Passes (L2.CX P w) (LamX.lamCx (XKi P w K mg base c A outer s H E) A' outer' s' H' E' scope f c') E' := passes_call (X := LamX.lamCx (XKi P w K mg base c A outer s H E) A' outer' s' H' E' scope f c') (takes_of rfl rfl rfl rfl) fun _ _ _ _ h => h
def F_kinds (Pa : Addr) : FT := fun ds cs Kk _ => ∃ p qs z0 cs1, ds = [.own p] ∧ cs = (p, Cell.pen qs z0) :: (Pa, Cell.tab qK) :: cs1 ∧ z0 < 90000 ∧ ∀ ex, Kk (.bl true) ((p, Cell.pen qs (z0 + 4)) :: (Pa, Cell.tab qK) :: (cs1 ++ ex))
theorem x_kinds {Pa : Addr} (T : Tx K mg) (TB : LamX.TabB base mg (He.codeOf K ("_law_kinds_right", none)) Pa) : DfnG P w K mg base (L2.CX P w) 12 "_law_kinds_right" ["_law_pen_here"] (spF (F_kinds Pa)) := by
  obtain ⟨fp, _, Fp, Bp, _, _⟩ := g_put (P := P) (w := w) (base := base) T (Nat.le_refl 8) (d_chk T)
  have Rp : FnR P w K mg base (L2.CX P w) 9 (He.ma K (CSo K) "put") (spF (F_put K)) := (Fp.raw Bp .nil).imp fun vs H Q E h => by rw [List.append_nil]; exact h
  obtain ⟨fg, Gg, Bg⟩ := (m_getitem (P := P) (w := w) (base := base) T).ok
  obtain ⟨fn, Fn, Bn⟩ := g_now (P := P) (w := w) (base := base) T
  obtain ⟨fi, Fi, Bi⟩ := i_iter (P := P) (w := w) (base := base) T
  refine dfnGT T.q_law_kinds_right T.g_law_kinds_right (N := NKr) ⟨rfl, rfl, rfl, ndKr, rfl, by decide +kernel, by decide +kernel⟩ (fun kV doc pm an cdv ct => Vls.bind1 fun a => rfl) (fun ds cs Kk KE h => ?_) TB rfl (fun c TB A outer s H E ds cs Kk KE hr still h => ?_)
  · obtain ⟨_, _, _, _, rfl, _⟩ := h
    rfl
  · obtain ⟨p, qs, z0, cs1, rfl, rfl, hz, h⟩ := h
    refine sw_cons (s1_asg (vs := [1, 2]) (ew_tup (aw_cons (ew_call0 (.none fun _ _ _ => False) (x_made T (d_chk T)) (hr.mono (by decide)) (by rfl) pF ⟨rfl, fun y => aw_cons ?_⟩))))
    refine ew_lcI2 [("_law_look", 9)] 0 rfl rfl ndKr (Vls.blk_by (N := NKr) (sc := scK) (by decide +kernel)) T.m_Store_iter Fi Bi (hr.mono (by decide)) pF ?_
    refine ew_call0 (.none fun _ _ _ => False) (x_made T (d_chk T)) (hr.mono (by decide)) (by rfl) pF ⟨rfl, fun y2 => ?_⟩
    have lk : (staF K mk4).lookup ("looks" : Str) = some (.tup (lks K look4)) := by
      rw [← mk4_lk]
      rfl
    have at2 : ∀ (cs : Cs) (c : Addr × Cell), (cs ++ [c])[cs.length]? = some c := fun cs c => by simp
    refine ⟨y2, _, _, staF K mk4, _, rfl, at2 _ _, rfl, lk, szl (by rw [lks_len]; decide), fun i acc cs' => cs' = ((p, Cell.pen qs z0) :: (Pa, Cell.tab qK) :: cs1 ++ [(y, Cell.ins (CSo K) (soF K l0 9 mk4))]) ++ [(y2, Cell.ins (CSo K) (soF K l0 9 mk4))] ∧ acc = (look4.take i).map faceD, ⟨rfl, rfl⟩, fun i d acc cs' hd hI => ?_, fun acc cs' hI => ?_⟩
    · obtain ⟨rfl, rfl⟩ := hI
      obtain ⟨x, hx, rfl⟩ := lks_at hd
      refine ⟨by rw [List.length_map, List.length_take]; omega, fun lx _ _ _ _ _ => ?_⟩
      refine tg_name 9 ndKr rfl (.inl rfl) ?_
      intro _ _ _ _ _
      refine ts_nil ⟨fun _ => ?_, fun e => by cases e⟩
      intro _ _ _ _ _
      refine ew_tup (aw_cons (ew_fld T.c_Look T.n_Look_moment ?_))
      walk_at "n"
      refine ⟨_, .obj rfl, aw_cons (ew_fld T.c_Look T.n_Look_tally ?_)⟩
      walk_at "n"
      refine ⟨_, .obj rfl, aw_cons (ew_fld T.c_Look T.n_Look_life ?_)⟩
      walk_at "n"
      refine ⟨_, .obj rfl, aw_nil ⟨szl (Nat.le_of_ble_eq_true rfl), _, rfl, rfl, ?_⟩⟩
      rw [List.take_add_one, hx, List.map_append]
      rfl
    · obtain ⟨rfl, rfl⟩ := hI
      rw [lks_len, List.take_length]
      refine aw_nil ⟨szl (Nat.le_of_ble_eq_true rfl), tg_tup rfl (tgs_cons (tg_name 1 ndKr rfl (.inr rfl) (tgs_cons (tg_name 2 ndKr rfl (.inl rfl) (tgs_nil ?_)))))⟩
      show SW _ _ (bodyK 1) ⟨[some (.own p), some (.own y), some (.lst (look4.map faceD)), none, none, none, none, none, none, none, none], _⟩ _
      refine sw_perm ((y2, Cell.ins (CSo K) (soF K l0 9 mk4)) :: ((p, Cell.pen qs z0) :: (Pa, Cell.tab qK) :: cs1 ++ [(y, Cell.ins (CSo K) (soF K l0 9 mk4))])) (List.perm_append_comm (l₁ := [(y2, Cell.ins (CSo K) (soF K l0 9 mk4))])) (sw_drop ?_)
      refine sw_cons (s1_asg (vs := [3, 4]) (ew_tup (aw_cons ?_)))
      refine ew_call (.none fun _ _ _ => False) (x_pick T) (hr.mono (by decide)) (by rfl) pF (aw_cons ?_)
      walk_at "n"
      refine aw_cons (ew_lst ?_)
      refine aw_cons (ew_non (aw_cons ?_))
      refine ew_bin (ew_bin (ew_int (ew_int (od_pow ⟨by decide, by decide, by decide⟩ ?_))))
      refine ew_int (od_add (aw_cons ?_))
      refine ew_bin (ew_neg (ew_bin (ew_int (ew_int (od_pow ⟨by decide, by decide, by decide⟩ ?_)))))
      refine ⟨_, rfl, ew_int (od_sub (aw_cons ?_))⟩
      refine ew_bl (aw_cons (ew_str (aw_cons (ew_tup (aw_cons (ew_int (aw_nil ⟨szl (Nat.le_of_ble_eq_true rfl), aw_nil ?_⟩)))))))
      refine ⟨szl (Nat.le_of_ble_eq_true rfl), aw_nil ⟨p, qs, z0, _, _, rfl, rfl, by omega, by simp, by simp, fun odd hodd => ?_⟩⟩
      refine aw_cons (ew_call (.none fun _ _ _ => False) (x_pick T) (hr.mono (by decide)) (by rfl) pF (aw_cons ?_))
      walk_at "n"
      refine aw_cons (ew_lst ?_)
      refine aw_cons (ew_non (aw_cons (ew_neg (ew_int ⟨_, rfl, aw_cons ?_⟩))))
      refine ew_bin (ew_bin (ew_int (ew_int (od_pow ⟨by decide, by decide, by decide⟩ ?_))))
      refine ew_int (od_add (aw_cons ?_))
      refine ew_bl (aw_cons (ew_str (aw_cons (ew_lst (aw_nil ⟨szl (Nat.le_of_ble_eq_true rfl), aw_nil ?_⟩)))))
      refine ⟨szl (Nat.le_of_ble_eq_true rfl), aw_nil ⟨p, qs, z0 + 1, _, _, rfl, rfl, by omega, by simp, by simp, fun bad hbad => ?_⟩⟩
      refine aw_nil ⟨szl (Nat.le_of_ble_eq_true rfl), tg_tup rfl (tgs_cons (tg_name 3 ndKr rfl (.inr rfl) (tgs_cons (tg_name 4 ndKr rfl (.inr rfl) (tgs_nil ?_)))))⟩
      refine sw_cons (s1_set 5 ndKr rfl (.inr rfl) (ew_call (.none fun _ _ _ => False) (x_pick T) (hr.mono (by decide)) (by rfl) pF (aw_cons ?_)))
      walk_at "n"
      refine aw_cons (ew_lst ?_)
      refine aw_cons (ew_non (aw_cons (ew_neg (ew_int ⟨_, rfl, aw_cons ?_⟩))))
      refine ew_bin (ew_bin (ew_int (ew_int (od_pow ⟨by decide, by decide, by decide⟩ ?_))))
      refine ew_int (od_add (aw_cons ?_))
      refine ew_bl (aw_cons (ew_str (aw_cons (ew_dict0 (aw_nil ?_)))))
      refine ⟨szl (Nat.le_of_ble_eq_true rfl), aw_nil ⟨p, qs, z0 + 1 + 1, _, _, rfl, rfl, by omega, by simp, by simp, fun life hlife => ?_⟩⟩
      show SW _ _ (bodyK 3) ⟨[some (.own p), some (.own y), some (.lst (look4.map faceD)), some odd, some bad, some life, none, none, none, none, none], (p, Cell.pen qs (z0 + 1 + 1 + 1)) :: (Pa, Cell.tab qK) :: (cs1 ++ [(y, Cell.ins (CSo K) (soF K l0 9 mk4))])⟩ _
      have wo := wr_odd hodd
      have wb := wr_bad hbad
      have wl := wr_life hlife
      -- _law_heard_here = [_law_heard(lambda: _law_store.put(_law_odd, _law_bad, _law_life))]
      refine sw_cons (s1_set 6 ndKr rfl (.inl rfl) ?_)
      refine ew_lstO 2 ?_
      refine aw_cons ?_
      refine ew_h (kk := 9) T TB rfl (by rfl) rfl (j := 1) rfl (hr.mono (by decide)) (hr.mono (by decide)) still (LamX.lamS_by (sc := scK) (by decide +kernel)) rfl (fun _ _ _ _ _ => rfl) fun A' outer' s' H' Hb E' f c' Ex hr' hnu hst hun hyt hfg hno => ?_
      refine ew_methR .same T.c_Store T.m_Store_put Rp (hr'.mono (by decide)) pLaK ?_
      refine ew_name 1 rfl (.inr (.inr rfl)) rfl ?_
      refine ⟨.own _ (hy2 _ _ _ _) rfl, aw_cons ?_⟩
      refine ew_name 3 rfl (.inr (.inr rfl)) rfl ?_
      refine aw_cons ?_
      refine ew_name 4 rfl (.inr (.inr rfl)) rfl ?_
      refine aw_cons ?_
      refine ew_name 5 rfl (.inr (.inr rfl)) rfl ?_
      refine aw_nil ⟨y, _, l0, 9, mk4, _, _, _, rfl, ⟨hy2 _ _ _ _, l0_good⟩, wo.pl, wb.pl, wl.pl, mk4_srt, mk4_len, mk4_le, put_b1 wo.r (hnu _ [] wo.sh ?_)⟩
      --heard
      refine aw_nil ⟨szl (Nat.le_of_ble_eq_true rfl), fun yl => ?_⟩
      -- _law_heard_here.append(_law_heard(lambda: _law_store.put(101, _law_bad, _law_life)))
      refine sw_cons (s1_expr ?_)
      refine ew_append ?_
      refine ew_name 6 rfl (.inl rfl) rfl ?_
      refine ⟨yl, 2, _, rfl, rfl, ?_⟩
      refine ew_h (kk := 9) T TB rfl (by rfl) rfl (j := 1) rfl (hr.mono (by decide)) (hr.mono (by decide)) still (LamX.lamS_by (sc := scK) (by decide +kernel)) rfl (fun _ _ _ _ _ => rfl) fun A' outer' s' H' Hb E' f c' Ex hr' hnu hst hun hyt hfg hno => ?_
      refine ew_methR .same T.c_Store T.m_Store_put Rp (hr'.mono (by decide)) pLaK ?_
      refine ew_name 1 rfl (.inr (.inr rfl)) rfl ?_
      refine ⟨.own _ (hy3 _ _ _ _ _) rfl, aw_cons ?_⟩
      refine ew_int ?_
      refine aw_cons ?_
      refine ew_name 4 rfl (.inr (.inr rfl)) rfl ?_
      refine aw_cons ?_
      refine ew_name 5 rfl (.inr (.inr rfl)) rfl ?_
      refine aw_nil ⟨y, _, l0, 9, mk4, _, _, _, rfl, ⟨hy3 _ _ _ _ _, l0_good⟩, trivial, wb.pl, wl.pl, mk4_srt, mk4_len, mk4_le, put_b2 (by decide +kernel) wb.r (hnu _ [] wb.sh ?_)⟩
      --heard
      refine ⟨2, _, rfl, szl (Nat.le_of_ble_eq_true rfl), ?_⟩
      -- _law_heard_here.append(_law_heard(lambda: _law_store.put(101, 5, _law_life)))
      refine sw_cons (s1_expr ?_)
      refine ew_append ?_
      refine ew_name 6 rfl (.inl rfl) rfl ?_
      refine ⟨yl, 2, _, rfl, rfl, ?_⟩
      refine ew_h (kk := 9) T TB rfl (by rfl) rfl (j := 1) rfl (hr.mono (by decide)) (hr.mono (by decide)) still (LamX.lamS_by (sc := scK) (by decide +kernel)) rfl (fun _ _ _ _ _ => rfl) fun A' outer' s' H' Hb E' f c' Ex hr' hnu hst hun hyt hfg hno => ?_
      refine ew_methR .same T.c_Store T.m_Store_put Rp (hr'.mono (by decide)) pLaK ?_
      refine ew_name 1 rfl (.inr (.inr rfl)) rfl ?_
      refine ⟨.own _ (hy3 _ _ _ _ _) rfl, aw_cons ?_⟩
      refine ew_int ?_
      refine aw_cons ?_
      refine ew_int ?_
      refine aw_cons ?_
      refine ew_name 5 rfl (.inr (.inr rfl)) rfl ?_
      refine aw_nil ⟨y, _, l0, 9, mk4, _, _, _, rfl, ⟨hy3 _ _ _ _ _, l0_good⟩, trivial, trivial, wl.pl, mk4_srt, mk4_len, mk4_le, put_b3 (by decide +kernel) (by decide +kernel) wl.r (hnu _ [] wl.sh ?_)⟩
      --heard
      refine ⟨2, _, rfl, szl (Nat.le_of_ble_eq_true rfl), ?_⟩
      -- _law_heard_here.append(_law_heard(lambda: _law_store.look_at(_law_odd)))
      refine sw_cons (s1_expr ?_)
      refine ew_append ?_
      refine ew_name 6 rfl (.inl rfl) rfl ?_
      refine ⟨yl, 2, _, rfl, rfl, ?_⟩
      refine ew_h (kk := 9) T TB rfl (by rfl) rfl (j := 1) rfl (hr.mono (by decide)) (hr.mono (by decide)) still (LamX.lamS_by (sc := scK) (by decide +kernel)) rfl (fun _ _ _ _ _ => rfl) fun A' outer' s' H' Hb E' f c' Ex hr' hnu hst hun hyt hfg hno => ?_
      refine ew_meth .same (m_lookat T) (hr'.mono (by decide)) pLaK ?_
      refine ew_name 1 rfl (.inr (.inr rfl)) rfl ?_
      refine ⟨.own _ (hy3 _ _ _ _ _) rfl, aw_cons ?_⟩
      refine ew_name 3 rfl (.inr (.inr rfl)) rfl ?_
      refine aw_nil ⟨y, _, l0, 9, mk4, _, rfl, ⟨hy3 _ _ _ _ _, l0_good⟩, wo.pl, mk4_srt, lk_bad wo.r (hnu _ [] wo.sh ?_)⟩
      --heard
      refine ⟨2, _, rfl, szl (Nat.le_of_ble_eq_true rfl), ?_⟩
      -- _law_heard_here.append(_law_heard(lambda: _law_store[_law_odd]))
      refine sw_cons (s1_expr ?_)
      refine ew_append ?_
      refine ew_name 6 rfl (.inl rfl) rfl ?_
      refine ⟨yl, 2, _, rfl, rfl, ?_⟩
      refine ew_h (kk := 9) T TB rfl (by rfl) rfl (j := 1) rfl (hr.mono (by decide)) (hr.mono (by decide)) still (LamX.lamS_by (sc := scK) (by decide +kernel)) rfl (fun _ _ _ _ _ => rfl) fun A' outer' s' H' Hb E' f c' Ex hr' hnu hst hun hyt hfg hno => ?_
      refine ew_ixO .same ⟨T.m_Store_getitem, T.fi_getitem⟩ Gg Bg (hr'.mono (by decide)) pLaK ?_
      refine ew_name 1 rfl (.inr (.inr rfl)) rfl ?_
      refine ew_name 3 rfl (.inr (.inr rfl)) rfl ?_
      refine ⟨.own _ (hy3 _ _ _ _ _), y, _, l0, 9, mk4, _, rfl, ⟨hy3 _ _ _ _ _, l0_good⟩, wo.pl, mk4_srt, lk_bad wo.r (hnu _ [] wo.sh ?_)⟩
      --heard
      refine ⟨2, _, rfl, szl (Nat.le_of_ble_eq_true rfl), ?_⟩
      -- _law_past = _law_pick(_law_pen_here, [None, 99, 10 ** 30 + 1, True, '100', -1])
      refine sw_cons (s1_set 7 ndKr rfl (.inr rfl) ?_)
      refine ew_call (.none fun _ _ _ => False) (x_pick T) (hr.mono (by decide)) (by rfl) pF ?_
      refine aw_cons ?_
      refine ew_name 0 rfl (.inl rfl) rfl ?_
      refine aw_cons ?_
      refine ew_lst ?_
      refine aw_cons ?_
      refine ew_non ?_
      refine aw_cons ?_
      refine ew_int ?_
      refine aw_cons ?_
      refine ew_bin ?_
      refine ew_bin ?_
      refine ew_int ?_
      refine ew_int ?_
      refine od_pow ⟨by decide, by decide, by decide⟩ ?_
      refine ew_int ?_
      refine od_add ?_
      refine aw_cons ?_
      refine ew_bl ?_
      refine aw_cons ?_
      refine ew_str ?_
      refine aw_cons ?_
      refine ew_neg ?_
      refine ew_int ?_
      refine ⟨_, rfl, ?_⟩
      refine aw_nil ⟨szl (Nat.le_of_ble_eq_true rfl), ?_⟩
      refine aw_nil ⟨p, qs, z0 + 1 + 1 + 1, _, _, rfl, rfl, by omega, by simp, by simp, fun past hpast => ?_⟩
      have wp := wr_past hpast
      -- _law_heard_here.append(_law_heard(lambda: _law_store.pass_to(_law_past)))
      refine sw_cons (s1_expr ?_)
      refine ew_append ?_
      refine ew_name 6 rfl (.inl rfl) rfl ?_
      refine ⟨yl, 2, _, rfl, rfl, ?_⟩
      refine ew_h (kk := 9) T TB rfl (by rfl) rfl (j := 1) rfl (hr.mono (by decide)) (hr.mono (by decide)) still (LamX.lamS_by (sc := scK) (by decide +kernel)) rfl (fun _ _ _ _ _ => rfl) fun A' outer' s' H' Hb E' f c' Ex hr' hnu hst hun hyt hfg hno => ?_
      refine ew_meth .same (m_pass T) (hr'.mono (by decide)) pLaK ?_
      refine ew_name 1 rfl (.inr (.inr rfl)) rfl ?_
      refine ⟨.own _ (hy3 _ _ _ _ _) rfl, aw_cons ?_⟩
      refine ew_name 7 rfl (.inr (.inr rfl)) rfl ?_
      refine aw_nil ⟨y, _, l0, 9, mk4, _, rfl, ⟨hy3 _ _ _ _ _, l0_good⟩, wp.pl, mk4_len, mk4_le', fun _ => hnu _ [] wp.sh ?_, fun i e h => (by rw [mk4_now, wp.r] at h; cases h)⟩
      --heard
      refine ⟨2, _, rfl, szl (Nat.le_of_ble_eq_true rfl), ?_⟩
      have shs : ∀ d ∈ [odd, bad, life, odd, odd, past], Shn d := fun d hd => by
        simp only [List.mem_cons, List.not_mem_nil, or_false] at hd
        rcases hd with rfl | rfl | rfl | rfl | rfl | rfl
        all_goals first | exact wo.sh | exact wb.sh | exact wl.sh | exact wp.sh
      have okx : (D.lst ([odd, bad, life, odd, odd, past].map (ans "number"))).ok = true := tm_ok (n := 3) (by
        show D.tmL [ans "number" odd, ans "number" bad, ans "number" life, ans "number" odd, ans "number" odd, ans "number" past] 2 = true
        simp only [D.tmL, wo.tm, wb.tm, wl.tm, wp.tm, Bool.and_self]) (by decide)
      -- _law_due = [('number', repr(_law_one)) for _law_one in [_law_odd, _law_bad, _law_life, _law_odd, _law_odd, _law_past]]
      refine sw_cons (s1_selL 8 (fun d => d) (ans "number") (fun _ => true) [("_law_one", 10)] 0 rfl ndKr rfl rfl (Vls.blk_by (N := NKr) (sc := scK) (by decide +kernel)) ?_)
      refine ew_lst ?_
      refine aw_cons ?_
      refine ew_name 3 rfl (.inr (.inl rfl)) rfl ?_
      refine aw_cons ?_
      refine ew_name 4 rfl (.inr (.inl rfl)) rfl ?_
      refine aw_cons ?_
      refine ew_name 5 rfl (.inr (.inl rfl)) rfl ?_
      refine aw_cons ?_
      refine ew_name 3 rfl (.inr (.inl rfl)) rfl ?_
      refine aw_cons ?_
      refine ew_name 3 rfl (.inr (.inl rfl)) rfl ?_
      refine aw_cons ?_
      refine ew_name 7 rfl (.inr (.inl rfl)) rfl ?_
      refine aw_nil ⟨szl (Nat.le_of_ble_eq_true rfl), ?_⟩
      refine ⟨[odd, bad, life, odd, odd, past], rfl, szl (Nat.le_of_ble_eq_true rfl), fun i y hy l acc => ?_, ?_⟩
      · intro _ _ _ _ _
        refine tg_name 10 ndKr rfl (.inl rfl) ?_
        intro _ _ _ _ _
        refine ts_nil ⟨rfl, rfl, fun _ => ?_⟩
        intro _ _ _ _ _
        refine ew_tup ?_
        refine aw_cons ?_
        refine ew_str ?_
        refine aw_cons ?_
        refine ew_repr T.f_repr ?_
        refine aw_cons ?_
        refine ew_name 10 rfl (.inl rfl) rfl ?_
        refine aw_nil (cl_shn hr still (shs y (List.mem_of_getElem? hy)) ?_)
        refine aw_nil ⟨szl (Nat.le_of_ble_eq_true rfl), ?_⟩
        exact ⟨rfl, rfl⟩
      rw [selM_all]
      refine sw_freeze 2 6 rfl rfl ?_
      -- return _law_heard_here == _law_due and [(_law_look.moment, _law_look.tally, _law_look.life) for _law_look in _law_store] == _law_face and (_law_store.
      refine sw_cons (s1_ret ?_)
      refine ew_and ?_
      refine ew_cmp ?_
      refine ew_name 6 rfl (.inl rfl) rfl ?_
      refine ew_name 8 rfl (.inl rfl) rfl ?_
      refine od_eq hr.units okx okx ?_
      rw [show D.eqv (.lst ([ans "number" odd] ++ [ans "number" bad] ++ [ans "number" life] ++ [ans "number" odd] ++ [ans "number" odd] ++ [ans "number" past])) (.lst ([odd, bad, life, odd, odd, past].map (ans "number"))) = true from eqv_self okx]
      refine isB (br_t ?_) --br
      refine ew_and ?_
      refine ew_cmp ?_
      refine ew_selI2 (lkD K) faceD (fun _ => true) [("_law_look", 9)] 0 rfl rfl ndKr (Vls.blk_by (N := NKr) (sc := scK) (by decide +kernel)) T.m_Store_iter Fi Bi (hr.mono (by decide)) pF ?_
      refine ew_name 1 rfl (.inr (.inl rfl)) rfl ?_
      refine ⟨y, _, _, staF K mk4, look4, rfl, hy2 _ _ _ _, rfl, lk, szl (by decide), fun i y hy l acc => ?_, ?_⟩
      · intro _ _ _ _ _
        refine tg_name 9 ndKr rfl (.inl rfl) ?_
        intro _ _ _ _ _
        refine ts_nil ⟨rfl, rfl, fun _ => ?_⟩
        intro _ _ _ _ _
        refine ew_tup ?_
        refine aw_cons ?_
        refine ew_fld T.c_Look T.n_Look_moment ?_
        refine ew_name 9 rfl (.inl rfl) rfl ?_
        refine ⟨_, .obj rfl, ?_⟩
        refine aw_cons ?_
        refine ew_fld T.c_Look T.n_Look_tally ?_
        refine ew_name 9 rfl (.inl rfl) rfl ?_
        refine ⟨_, .obj rfl, ?_⟩
        refine aw_cons ?_
        refine ew_fld T.c_Look T.n_Look_life ?_
        refine ew_name 9 rfl (.inl rfl) rfl ?_
        refine ⟨_, .obj rfl, ?_⟩
        refine aw_nil ⟨szl (Nat.le_of_ble_eq_true rfl), ?_⟩
        exact ⟨rfl, rfl⟩
      refine ew_name 2 rfl (.inl rfl) rfl ?_
      rw [selM_all]
      refine od_eq hr.units rfl rfl ?_
      rw [show D.eqv (.lst (look4.map faceD)) (.lst (look4.map faceD)) = true by kernel_rfl]
      refine isB (br_t ?_) --br
      refine ew_one ?_
      refine ew_cmp ?_
      refine ew_prop (.none fun _ _ _ => False) T.c_Store T.pr_Store_now.1 Fn (hr.mono (by decide)) Bn pF ?_
      refine ew_name 1 rfl (.inr (.inl rfl)) rfl ?_
      refine ⟨.own _ (hy2 _ _ _ _), y, _, l0, 9, mk4, rfl, ⟨hy2 _ _ _ _, l0_good⟩, ?_⟩
      refine ew_int ?_
      refine od_eq hr.units rfl rfl ?_
      rw [show D.eqv (.int mk4.now) (.int 100) = true by kernel_rfl]
      have h := h [(y, Cell.ins (CSo K) (soF K l0 9 mk4))]
      rw [show z0 + 4 = z0 + 1 + 1 + 1 + 1 by omega] at h
      exact h --[(y, Cell.ins (CSo K) (soF K l0 9 mk4))]

end
end K41
set_option Elab.async false
set_option linter.all false
set_option maxRecDepth 100000
set_option maxHeartbeats 4000000
namespace K41
open PySem PySem.Spec PyProof.Rows L2 Sx
local macro_rules | `(tactic| walk_at "c") => `(tactic| first
  | refine aw_cons ?_ | refine aw_nil ?_
  | refine ew_int ?_ | refine ew_non ?_ | refine ew_bl ?_ | refine ew_str ?_
  | refine ew_bin ?_ | refine ew_cmp ?_ | refine tw_cmp ?_ | refine tw_not ?_ | refine ew_chain ?_ | refine tw_chain ?_ | refine ew_and ?_ | refine ew_or ?_ | refine ew_one ?_ | refine ew_not ?_ | refine ew_neg ?_ | refine ew_if ?_
  | refine tw_w (ww_and ?_) | refine tw_w (ww_or ?_) | refine ww_and ?_ | refine ww_or ?_ | refine ww_and1 ?_ | refine ww_or1 ?_
  | refine tw_val (e := .Call _ _ _ _) ?_ | refine ew_tup ?_ | refine ew_ix ?_ | refine ew_lst ?_
  | refine sw_cons ?_ | refine s1_ret ?_ | refine s1_if ?_ | refine sw_nil ?_ | refine s1_expr ?_
  | refine od_add ?_ | refine od_sub ?_ | refine od_lt ?_ | refine od_le ?_ | refine od_gt ?_ | refine od_ge ?_
  | refine isB ?_ | refine intD ?_ | refine br_t ?_ | refine br_f ?_
  | refine ⟨szl (Nat.le_of_ble_eq_true rfl), ?_⟩)
local macro_rules | `(tactic| walk_at "n") => `(tactic| first
  | refine ew_name 0 rfl (by first | exact .inl rfl | exact .inr (.inl rfl) | exact .inr (.inr rfl)) rfl ?_
  | refine ew_name 1 rfl (by first | exact .inl rfl | exact .inr (.inl rfl) | exact .inr (.inr rfl)) rfl ?_
  | refine ew_name 2 rfl (by first | exact .inl rfl | exact .inr (.inl rfl) | exact .inr (.inr rfl)) rfl ?_
  | refine ew_name 3 rfl (by first | exact .inl rfl | exact .inr (.inl rfl) | exact .inr (.inr rfl)) rfl ?_
  | refine ew_name 4 rfl (by first | exact .inl rfl | exact .inr (.inl rfl) | exact .inr (.inr rfl)) rfl ?_
  | refine ew_name 5 rfl (by first | exact .inl rfl | exact .inr (.inl rfl) | exact .inr (.inr rfl)) rfl ?_
  | refine ew_name 6 rfl (by first | exact .inl rfl | exact .inr (.inl rfl) | exact .inr (.inr rfl)) rfl ?_
  | refine ew_name 7 rfl (by first | exact .inl rfl | exact .inr (.inl rfl) | exact .inr (.inr rfl)) rfl ?_
  | refine ew_name 8 rfl (by first | exact .inl rfl | exact .inr (.inl rfl) | exact .inr (.inr rfl)) rfl ?_
  | refine ew_name 9 rfl (by first | exact .inl rfl | exact .inr (.inl rfl) | exact .inr (.inr rfl)) rfl ?_
  | refine ew_name 10 rfl (by first | exact .inl rfl | exact .inr (.inl rfl) | exact .inr (.inr rfl)) rfl ?_
  | refine ew_name 11 rfl (by first | exact .inl rfl | exact .inr (.inl rfl) | exact .inr (.inr rfl)) rfl ?_
  | refine ew_name 12 rfl (by first | exact .inl rfl | exact .inr (.inl rfl) | exact .inr (.inr rfl)) rfl ?_)
local macro_rules | `(tactic| walk_at "i") => `(tactic| (refine' cl_isi (.ty _) ?a ?b ?_; (case a => constructor); (case b => with_reducible first | exact kit_int_int | exact kit_int_bool | exact kit_bool_int | exact kit_bool_bool | exact kit_NoneType_int | exact kit_str_int | exact kit_list_int | exact kit_tuple_int | exact kit_dict_int | exact kit_tuple_tuple | exact kit_int_tuple | exact kit_NoneType_tuple | exact kit_bool_tuple | exact kit_str_tuple | exact kit_list_tuple | exact kit_dict_tuple)))
local macro_rules | `(tactic| walk_at "l") => `(tactic| first
  | refine ew_isinstance (Tx.f_isinstance (by assumption)) ?_ | refine ew_len (Tx.f_len (by assumption)) ?_ | refine ew_vint (Tx.f_int (by assumption)) ?_ | refine ew_vbool (Tx.f_bool (by assumption)) ?_ | refine ew_vtuple (Tx.f_tuple (by assumption)) ?_ | refine ew_vstr (Tx.f_str (by assumption)) ?_
  | refine ew_gint (Tx.i_FAR (by assumption)) (by rfl) ?_ | refine ew_gint (Tx.i_FAR_TALLY (by assumption)) (by rfl) ?_ | refine ew_gint (Tx.i_MOST_PATIENCE (by assumption)) (by rfl) ?_ | refine ew_gint (Tx.i_MOST_LIFE (by assumption)) (by rfl) ?_ | refine ew_gint (Tx.i_MOST_PAIRS (by assumption)) (by rfl) ?_ | refine ew_gint (Tx.i_MOST_WIDTH (by assumption)) (by rfl) ?_ | refine ew_gint (Tx.i_MOST_KEEP (by assumption)) (by rfl) ?_
  | refine cl_len ?_ | refine cl_lenT ?_ | refine ix_tpl rfl ?_ | refine od_is (by intro _ h; cases h) ?_)
local macro_rules | `(tactic| walk_at "x") => `(tactic| repeat (first | walk_at "c" | walk_at "n" | walk_at "l" | walk_at "i"))
def mk5 : Sta := stp mk4 ⟨100, 6, 1⟩
def mk6 : Sta := stp mk5 ⟨96, 2, 1⟩
def mk7 : Sta := thin { mk6 with now := 104 }
theorem put5 : putR l0 9 mk4 ⟨100, 6, 1⟩ = .inr mk5 := by kernel_rfl
theorem put6 : putR l0 9 mk5 ⟨96, 2, 1⟩ = .inr mk6 := by kernel_rfl
def OneOf (s : Sta) : Prop := s = mk4 ∨ s = mk5
theorem mk5_srt : Srt mk5.lk := srt_of (by kernel_rfl)
theorem one_srt {s : Sta} (h : OneOf s) : Srt s.lk ∧ s.lk.length = s.un.length ∧ s.lk.length ≤ 900 ∧ s.now = 100 := by
  rcases h with rfl | rfl
  · exact ⟨mk4_srt, mk4_len, mk4_le, mk4_now⟩
  · exact ⟨mk5_srt, by kernel_rfl, by decide +kernel, by kernel_rfl⟩
theorem shn_w {w : Str} (h : w ∈ (["ahead", "late", "look", "life", "tally", "tiers", "patience"] : List Str)) : Shn (.str w) := by
  simp only [List.mem_cons, List.not_mem_nil, or_false] at h
  rcases h with rfl | rfl | rfl | rfl | rfl | rfl | rfl
  all_goals exact shn_by (by decide +kernel) (by decide +kernel) (by decide +kernel) (by decide +kernel) (by decide +kernel)
theorem put_of {K : PySem.W.Frag} {l : List Pr} {p : Int} {s : Sta} {x : Lk} {R : Sta → Prop} {KE : Addr → List (Str × D) → Prop} (h1 : inR (-10 ^ 30) (10 ^ 30) (.int x.m) = true) (h2 : inR 0 (10 ^ 40) (.int x.t) = true) (h3 : inR 0 (10 ^ 6) (.int x.l) = true)
    (no : ∀ c w, putR l p s x = .inl (c, w) → KE (He.ga K (Str.ofString c)) [("part", .str w)]) (yes : ∀ s', putR l p s x = .inr s' → ((putS l p s x).u < s.now → keptU (putS l p s x).un s.now ≠ []) ∧ R s') : PutAt K l p s (.int x.m) (.int x.t) (.int x.l) R KE := by
  refine ⟨fun h => (by rw [h1] at h; cases h), fun _ h => (by rw [h2] at h; cases h), fun _ _ h => (by rw [h3] at h; cases h), fun m t li c w e1 e2 e3 _ _ _ h => ?_, fun m t li s2 e1 e2 e3 _ _ _ h => ?_⟩
  · cases e1
    cases e2
    cases e3
    exact no c w h
  · cases e1
    cases e2
    cases e3
    exact yes s2 h
theorem put_no {K : PySem.W.Frag} {l : List Pr} {p : Int} {s : Sta} {x : Lk} {R : Sta → Prop} {KE : Addr → List (Str × D) → Prop} {c : String} {w : Str} (h1 : inR (-10 ^ 30) (10 ^ 30) (.int x.m) = true) (h2 : inR 0 (10 ^ 40) (.int x.t) = true) (h3 : inR 0 (10 ^ 6) (.int x.l) = true)
    (hp : putR l p s x = .inl (c, w)) (k : KE (He.ga K (Str.ofString c)) [("part", .str w)]) : PutAt K l p s (.int x.m) (.int x.t) (.int x.l) R KE :=
  put_of h1 h2 h3 (fun c' w' e => by
    rw [hp] at e
    cases e
    exact k) fun s' e => by
    rw [hp] at e
    cases e
/-- a row: what is put in, what is due -/
def rowE (x : Lk × D) : D := .tup [.tup [.int x.1.m, .int x.1.t, .int x.1.l], x.2]
def rowsL (far : Int) : List (Lk × D) :=
  [(⟨101 + far, 9, 0⟩, ans "store" (.str "ahead")), (⟨91 - far, 9, 1⟩, ans "store" (.str "late")), (⟨95, 9, 0⟩, ans "unlike" (.str "look")),
   (⟨95, 8, 1⟩, ans "unlike" (.str "look")), (⟨98, 3, 0⟩, ans "store" (.str "life")), (⟨94, 6, 1⟩, ans "store" (.str "life")),
   (⟨94, 4, 0⟩, ans "store" (.str "tally")), (⟨94, 9, 0⟩, ans "store" (.str "tally")), (⟨98, 7, 1⟩, ans "store" (.str "tally")),
   (⟨96, 7, 0⟩, ans "store" (.str "tally")), (⟨96, 3, 1⟩, ans "store" (.str "tally")), (⟨98, 1, 2⟩, ans "store" (.str "life")),
   (⟨95, 8, 0⟩, .lst [.non]), (⟨100, 6, 1⟩, .lst [.non])]
structure RowOk (s : Sta) (x : Lk × D) : Prop where
  m : inR (-10 ^ 30) (10 ^ 30) (.int x.1.m) = true
  t : inR 0 (10 ^ 40) (.int x.1.t) = true
  l : inR 0 (10 ^ 6) (.int x.1.l) = true
  ok : x.2.ok = true
  is : (∃ w, putR l0 9 s x.1 = .inl ("BadStore", w) ∧ Shn (.str w) ∧ x.2 = ans "store" (.str w) ∧ x.1.m ≠ 100) ∨ (∃ w, putR l0 9 s x.1 = .inl ("Unlike", w) ∧ Shn (.str w) ∧ x.2 = ans "unlike" (.str w) ∧ x.1.m ≠ 100) ∨
    (∃ s', putR l0 9 s x.1 = .inr s' ∧ ((putS l0 9 s x.1).u < s.now → keptU (putS l0 9 s x.1).un s.now ≠ []) ∧ x.2 = .lst [.non] ∧ OneOf s' ∧ (x.1.m = 100 → s' = mk5))
theorem row_st {s : Sta} {m t l : Int} {w : Str} (hw : w ∈ (["ahead", "late", "look", "life", "tally", "tiers", "patience"] : List Str)) (h1 : inR (-10 ^ 30) (10 ^ 30) (.int m) = true) (h2 : inR 0 (10 ^ 40) (.int t) = true) (h3 : inR 0 (10 ^ 6) (.int l) = true)
    (ok : (ans "store" (.str w)).ok = true) (hp : putR l0 9 s ⟨m, t, l⟩ = .inl ("BadStore", w)) (ne : m ≠ 100) : RowOk s (⟨m, t, l⟩, ans "store" (.str w)) := ⟨h1, h2, h3, ok, .inl ⟨w, hp, shn_w hw, rfl, ne⟩⟩
theorem row_un {s : Sta} {m t l : Int} {w : Str} (hw : w ∈ (["ahead", "late", "look", "life", "tally", "tiers", "patience"] : List Str)) (h1 : inR (-10 ^ 30) (10 ^ 30) (.int m) = true) (h2 : inR 0 (10 ^ 40) (.int t) = true) (h3 : inR 0 (10 ^ 6) (.int l) = true)
    (ok : (ans "unlike" (.str w)).ok = true) (hp : putR l0 9 s ⟨m, t, l⟩ = .inl ("Unlike", w)) (ne : m ≠ 100) : RowOk s (⟨m, t, l⟩, ans "unlike" (.str w)) := ⟨h1, h2, h3, ok, .inr (.inl ⟨w, hp, shn_w hw, rfl, ne⟩)⟩
theorem in_b {lo hi i : Int} (h1 : lo ≤ i) (h2 : i ≤ hi) : inR lo hi (.int i) = true := by
  show (decide (lo ≤ i) && decide (i ≤ hi)) = true
  rw [decide_eq_true h1, decide_eq_true h2]
  rfl
theorem put_ahead {s : Sta} {x : Lk} (h : s.now < x.m) : putR l0 9 s x = .inl ("BadStore", "ahead") := by
  unfold putR
  rw [if_pos h]
theorem put_late {s : Sta} {x : Lk} (h : x.m ≤ s.now) (h2 : 9 ≤ s.now - x.m) : putR l0 9 s x = .inl ("BadStore", "late") := by
  unfold putR
  rw [if_neg (by omega), if_pos h2]
theorem row_ok {far : Int} (h0 : 0 ≤ far) (h1 : far < 99) {x : Lk × D} (hx : x ∈ rowsL far) {s : Sta} (hs : OneOf s) : RowOk s x := by
  have now := (one_srt hs).2.2.2
  simp only [rowsL, List.mem_cons, List.not_mem_nil, or_false] at hx
  rcases hx with rfl | rfl | rfl | rfl | rfl | rfl | rfl | rfl | rfl | rfl | rfl | rfl | rfl | rfl
  · exact row_st (by simp) (in_b (by omega) (by omega)) (by decide +kernel) (by decide +kernel) (by decide +kernel) (put_ahead (by show s.now < 101 + far; omega)) (by omega)
  · exact row_st (by simp) (in_b (by omega) (by omega)) (by decide +kernel) (by decide +kernel) (by decide +kernel) (put_late (by show 91 - far ≤ s.now; omega) (by show 9 ≤ s.now - (91 - far); omega)) (by omega)
  · rcases hs with rfl | rfl <;> exact row_un (by simp) (by decide +kernel) (by decide +kernel) (by decide +kernel) (by decide +kernel) (by kernel_rfl) (by decide)
  · rcases hs with rfl | rfl <;> exact row_un (by simp) (by decide +kernel) (by decide +kernel) (by decide +kernel) (by decide +kernel) (by kernel_rfl) (by decide)
  all_goals first
    | (rcases hs with rfl | rfl <;> exact row_st (by simp) (by decide +kernel) (by decide +kernel) (by decide +kernel) (by decide +kernel) (by kernel_rfl) (by decide))
    | (refine ⟨by decide +kernel, by decide +kernel, by decide +kernel, by decide +kernel, .inr (.inr ?_)⟩
       rcases hs with rfl | rfl
       · first | exact ⟨mk4, by kernel_rfl, by decide +kernel, rfl, .inl rfl, fun h => absurd h (by decide)⟩ | exact ⟨mk5, by kernel_rfl, by decide +kernel, rfl, .inr rfl, fun _ => rfl⟩
       · exact ⟨mk5, by kernel_rfl, by decide +kernel, rfl, .inr rfl, fun _ => rfl⟩)
theorem mk7_srt : Srt mk7.lk := srt_of (by kernel_rfl)
theorem ok_st : (ans "store" (.str "tally")).ok = true := by decide +kernel
theorem ok_late : (D.lst [ans "store" (.str "late"), ans "store" (.str "late")]).ok = true := by decide +kernel
theorem set3 (a b d : Addr × Cell) (cs : Cs) (c c' : Addr × Cell) : (a :: b :: d :: (cs ++ [c])).set (cs.length + 3) c' = a :: b :: d :: (cs ++ [c']) := by simp
theorem hy4 (a b d e : Addr × Cell) (cs : Cs) (c : Addr × Cell) : (a :: b :: d :: e :: (cs ++ [c]))[cs.length + 4]? = some c := by simp
theorem set4 (a b d e : Addr × Cell) (cs : Cs) (c c' : Addr × Cell) : (a :: b :: d :: e :: (cs ++ [c])).set (cs.length + 4) c' = a :: b :: d :: e :: (cs ++ [c']) := by simp
end K41
set_option Elab.async false
set_option linter.all false
set_option maxRecDepth 100000
set_option maxHeartbeats 4000000
namespace K41
open PySem PySem.Spec PyProof.Rows L2 Sx
local macro_rules | `(tactic| walk_at "c") => `(tactic| first
  | refine aw_cons ?_ | refine aw_nil ?_
  | refine ew_int ?_ | refine ew_non ?_ | refine ew_bl ?_ | refine ew_str ?_
  | refine ew_bin ?_ | refine ew_cmp ?_ | refine tw_cmp ?_ | refine tw_not ?_ | refine ew_chain ?_ | refine tw_chain ?_ | refine ew_and ?_ | refine ew_or ?_ | refine ew_one ?_ | refine ew_not ?_ | refine ew_neg ?_ | refine ew_if ?_
  | refine tw_w (ww_and ?_) | refine tw_w (ww_or ?_) | refine ww_and ?_ | refine ww_or ?_ | refine ww_and1 ?_ | refine ww_or1 ?_
  | refine tw_val (e := .Call _ _ _ _) ?_ | refine ew_tup ?_ | refine ew_ix ?_ | refine ew_lst ?_
  | refine sw_cons ?_ | refine s1_ret ?_ | refine s1_if ?_ | refine sw_nil ?_ | refine s1_expr ?_
  | refine od_add ?_ | refine od_sub ?_ | refine od_lt ?_ | refine od_le ?_ | refine od_gt ?_ | refine od_ge ?_
  | refine isB ?_ | refine intD ?_ | refine br_t ?_ | refine br_f ?_
  | refine ⟨szl (Nat.le_of_ble_eq_true rfl), ?_⟩)
local macro_rules | `(tactic| walk_at "n") => `(tactic| first
  | refine ew_name 0 rfl (by first | exact .inl rfl | exact .inr (.inl rfl) | exact .inr (.inr rfl)) rfl ?_
  | refine ew_name 1 rfl (by first | exact .inl rfl | exact .inr (.inl rfl) | exact .inr (.inr rfl)) rfl ?_
  | refine ew_name 2 rfl (by first | exact .inl rfl | exact .inr (.inl rfl) | exact .inr (.inr rfl)) rfl ?_
  | refine ew_name 3 rfl (by first | exact .inl rfl | exact .inr (.inl rfl) | exact .inr (.inr rfl)) rfl ?_
  | refine ew_name 4 rfl (by first | exact .inl rfl | exact .inr (.inl rfl) | exact .inr (.inr rfl)) rfl ?_
  | refine ew_name 5 rfl (by first | exact .inl rfl | exact .inr (.inl rfl) | exact .inr (.inr rfl)) rfl ?_
  | refine ew_name 6 rfl (by first | exact .inl rfl | exact .inr (.inl rfl) | exact .inr (.inr rfl)) rfl ?_
  | refine ew_name 7 rfl (by first | exact .inl rfl | exact .inr (.inl rfl) | exact .inr (.inr rfl)) rfl ?_
  | refine ew_name 8 rfl (by first | exact .inl rfl | exact .inr (.inl rfl) | exact .inr (.inr rfl)) rfl ?_
  | refine ew_name 9 rfl (by first | exact .inl rfl | exact .inr (.inl rfl) | exact .inr (.inr rfl)) rfl ?_
  | refine ew_name 10 rfl (by first | exact .inl rfl | exact .inr (.inl rfl) | exact .inr (.inr rfl)) rfl ?_
  | refine ew_name 11 rfl (by first | exact .inl rfl | exact .inr (.inl rfl) | exact .inr (.inr rfl)) rfl ?_
  | refine ew_name 12 rfl (by first | exact .inl rfl | exact .inr (.inl rfl) | exact .inr (.inr rfl)) rfl ?_)
local macro_rules | `(tactic| walk_at "i") => `(tactic| (refine' cl_isi (.ty _) ?a ?b ?_; (case a => constructor); (case b => with_reducible first | exact kit_int_int | exact kit_int_bool | exact kit_bool_int | exact kit_bool_bool | exact kit_NoneType_int | exact kit_str_int | exact kit_list_int | exact kit_tuple_int | exact kit_dict_int | exact kit_tuple_tuple | exact kit_int_tuple | exact kit_NoneType_tuple | exact kit_bool_tuple | exact kit_str_tuple | exact kit_list_tuple | exact kit_dict_tuple)))
local macro_rules | `(tactic| walk_at "l") => `(tactic| first
  | refine ew_isinstance (Tx.f_isinstance (by assumption)) ?_ | refine ew_len (Tx.f_len (by assumption)) ?_ | refine ew_vint (Tx.f_int (by assumption)) ?_ | refine ew_vbool (Tx.f_bool (by assumption)) ?_ | refine ew_vtuple (Tx.f_tuple (by assumption)) ?_ | refine ew_vstr (Tx.f_str (by assumption)) ?_
  | refine ew_gint (Tx.i_FAR (by assumption)) (by rfl) ?_ | refine ew_gint (Tx.i_FAR_TALLY (by assumption)) (by rfl) ?_ | refine ew_gint (Tx.i_MOST_PATIENCE (by assumption)) (by rfl) ?_ | refine ew_gint (Tx.i_MOST_LIFE (by assumption)) (by rfl) ?_ | refine ew_gint (Tx.i_MOST_PAIRS (by assumption)) (by rfl) ?_ | refine ew_gint (Tx.i_MOST_WIDTH (by assumption)) (by rfl) ?_ | refine ew_gint (Tx.i_MOST_KEEP (by assumption)) (by rfl) ?_
  | refine cl_len ?_ | refine cl_lenT ?_ | refine ix_tpl rfl ?_ | refine od_is (by intro _ h; cases h) ?_)
local macro_rules | `(tactic| walk_at "x") => `(tactic| repeat (first | walk_at "c" | walk_at "n" | walk_at "l" | walk_at "i"))
def b1 : Sta := thin { mk4 with now := 120 }
def b2 : Sta := thin { b1 with now := 10 ^ 20 }
def lf : List Pr := [(1, 9)]
def l5 : List Pr := [(1, 5)]
def l6 : List Pr := [(1, 10 ^ 6 + 1)]
theorem one_good {k : Int} (h1 : 1 ≤ k) (h2 : k ≤ 10 ^ 9) : Good [(1, k)] := by
  refine ⟨by simp, by simp, fun q h => ?_, fun i p q h1' h2' => ?_⟩
  · cases h
    exact ⟨rfl, h1, h2⟩
  · match i, h1', h2' with
    | 0, _, h2' => cases h2'
    | n + 1, h1', _ => cases h1'
theorem lf_good : Good lf := one_good (by decide) (by decide)
theorem l5_good : Good l5 := one_good (by decide) (by decide)
theorem l6_good : Good l6 := one_good (by decide) (by decide)
def g0 : Sta := ⟨10 ^ 30 - 1, [], [], 10 ^ 30⟩
def g1 : Sta := thin { g0 with now := 10 ^ 30 }
def gl : Lk := ⟨10 ^ 30, 10 ^ 40, 10 ^ 6⟩
def g2 : Sta := match putR lf 3 g1 gl with
  | .inr s' => s'
  | .inl _ => g1
theorem putg1 : putR lf 3 g1 gl = .inr g2 := by kernel_rfl
theorem putg2 : putR lf 3 g2 gl = .inr g2 := by kernel_rfl
theorem b1_srt : Srt b1.lk := srt_of (by kernel_rfl)
theorem b2_srt : Srt b2.lk := srt_of (by kernel_rfl)
theorem g1_srt : Srt g1.lk := srt_of (by kernel_rfl)
theorem g2_srt : Srt g2.lk := srt_of (by kernel_rfl)
section
variable {K : PySem.W.Frag} {l : List Pr} {p i : Int} {s : Sta} {R : Lk → Prop} {KE : Addr → List (Str × D) → Prop}
theorem lk_yet (h : inR (-10 ^ 30) (10 ^ 30) (.int i) = true) (h1 : s.now - i < p) (k : KE (He.ga K "NotYet") [("moment", .int i)]) : LkAt K l p s (.int i) R KE :=
  ⟨fun e => (by rw [h] at e; cases e), fun _ _ _ _ => k, fun j e _ g => (by cases e; omega), fun j _ _ e _ g => (by cases e; omega), fun j _ _ _ _ e _ g => (by cases e; omega)⟩
theorem lk_old (h : inR (-10 ^ 30) (10 ^ 30) (.int i) = true) (h1 : p ≤ s.now - i) (h2 : lastK l - 1 < s.now - i) (k : KE (He.ga K "Forgotten") [("moment", .int i)]) : LkAt K l p s (.int i) R KE :=
  ⟨fun e => (by rw [h] at e; cases e), fun j e _ g => (by cases e; omega), fun _ _ _ _ _ => k, fun j _ _ e _ _ g => (by cases e; omega), fun j _ _ _ _ e _ _ g => (by cases e; omega)⟩
theorem lk_non {w : Int} {ws : List Int} (h : inR (-10 ^ 30) (10 ^ 30) (.int i) = true) (h1 : p ≤ s.now - i) (h2 : s.now - i ≤ lastK l - 1) (hw : wOf l (s.now - i) = w :: ws) (hc : cnt s.lk (i - i % w) = 0) (k : KE (He.ga K "Nothing") []) : LkAt K l p s (.int i) R KE :=
  ⟨fun e => (by rw [h] at e; cases e), fun j e _ g => (by cases e; omega), fun j e _ _ g => (by cases e; omega), fun _ _ _ _ _ _ _ _ _ => k, fun j w' ws' k' x e _ _ _ e2 e3 _ => (by cases e; rw [hw] at e2; cases e2; rw [hc] at e3; cases e3)⟩
theorem lk_yes {w : Int} {ws : List Int} {k : Nat} {x : Lk} (h : inR (-10 ^ 30) (10 ^ 30) (.int i) = true) (h1 : p ≤ s.now - i) (h2 : s.now - i ≤ lastK l - 1) (hw : wOf l (s.now - i) = w :: ws) (hc : cnt s.lk (i - i % w) = k + 1) (hx : s.lk[k]? = some x) (r : R x) : LkAt K l p s (.int i) R KE :=
  ⟨fun e => (by rw [h] at e; cases e), fun j e _ g => (by cases e; omega), fun j e _ _ g => (by cases e; omega), fun j w' ws' e _ _ _ e2 e3 => (by cases e; rw [hw] at e2; cases e2; rw [hc] at e3; cases e3), fun j w' ws' k' x' e _ _ _ e2 e3 e4 => (by
    cases e
    rw [hw] at e2
    cases e2
    rw [hc] at e3
    cases e3
    rw [hx] at e4
    cases e4
    exact r)⟩
end
section
variable {K : PySem.W.Frag} {l : List Pr} {cs1 : Cs} {y : Addr} {Kk : D → Cs → Prop} {KE : Addr → List (Str × D) → Cs → Prop} {dp db t : D}
theorem fs_ok {p b : Int} (g : Good l) (h1 : inR 1 (10 ^ 6) (.int p) = true) (h2 : inR (-10 ^ 30) (10 ^ 30) (.int b) = true) (h3 : p ≤ lastK l - 1) (q : Kk .non ((y, Cell.ins (CSo K) (soF K l p ⟨b, [], [], 10 ^ 30⟩)) :: cs1)) : F_store K [.own y, tO K l, .int p, .int b] ((y, Cell.ins (CSo K) []) :: cs1) Kk KE :=
  ⟨y, _, _, _, cs1, rfl, rfl, trivial, trivial, .inr ⟨l, rfl, g, fun h => (by rw [h1] at h; cases h), fun _ h => (by rw [h2] at h; cases h), fun i j ei ej _ _ => (by cases ei; cases ej; exact ⟨fun h => absurd h (by omega), fun _ => q⟩)⟩⟩
theorem fs_pat {p b : Int} (g : Good l) (h1 : inR 1 (10 ^ 6) (.int p) = true) (h2 : inR (-10 ^ 30) (10 ^ 30) (.int b) = true) (h3 : lastK l - 1 < p) (q : KE (He.ga K "BadStore") [("part", .str "patience")] ((y, Cell.ins (CSo K) []) :: cs1)) : F_store K [.own y, tO K l, .int p, .int b] ((y, Cell.ins (CSo K) []) :: cs1) Kk KE :=
  ⟨y, _, _, _, cs1, rfl, rfl, trivial, trivial, .inr ⟨l, rfl, g, fun h => (by rw [h1] at h; cases h), fun _ h => (by rw [h2] at h; cases h), fun i j ei ej _ _ => (by cases ei; cases ej; exact ⟨fun _ => q, fun h => absurd h (by omega)⟩)⟩⟩
theorem fs_badb {p : Int} (g : Good l) (h1 : inR 1 (10 ^ 6) (.int p) = true) (pl : Pln db) (h2 : inR (-10 ^ 30) (10 ^ 30) db = false) (q : KE (He.ga K "BadNumber") [("value", db)] ((y, Cell.ins (CSo K) []) :: cs1)) : F_store K [.own y, tO K l, .int p, db] ((y, Cell.ins (CSo K) []) :: cs1) Kk KE :=
  ⟨y, _, _, _, cs1, rfl, rfl, trivial, pl, .inr ⟨l, rfl, g, fun h => (by rw [h1] at h; cases h), fun _ _ => q, fun i j ei ej _ h => (by rw [h2] at h; cases h)⟩⟩
theorem fs_badp (g : Good l) (pl : Pln dp) (pb : Pln db) (h1 : inR 1 (10 ^ 6) dp = false) (q : KE (He.ga K "BadNumber") [("value", dp)] ((y, Cell.ins (CSo K) []) :: cs1)) : F_store K [.own y, tO K l, dp, db] ((y, Cell.ins (CSo K) []) :: cs1) Kk KE :=
  ⟨y, _, _, _, cs1, rfl, rfl, pl, pb, .inr ⟨l, rfl, g, fun _ => q, fun h => (by rw [h1] at h; cases h), fun i j ei ej h => (by rw [h1] at h; cases h)⟩⟩
theorem fs_badt {ty : Value} (pl : Pln dp) (pb : Pln db) (h1 : TyD K t ((y, Cell.ins (CSo K) []) :: cs1) ty) (h2 : PySem.W.kitOne K ty (.ref (CT K)) = some false) (q : KE (He.ga K "BadStore") [("part", .str "tiers")] ((y, Cell.ins (CSo K) []) :: cs1)) : F_store K [.own y, t, dp, db] ((y, Cell.ins (CSo K) []) :: cs1) Kk KE :=
  ⟨y, _, _, _, cs1, rfl, rfl, pl, pb, .inl ⟨ty, h1, h2, q⟩⟩
end
theorem ty_odd {K : PySem.W.Frag} {mg : Str → Option Value} (T : Tx K mg) {o : D} (h : o ∈ [D.non, .int 0, .str "tiers", .tup [.tup [.int 1, .int 5]], .lst [], .dct0]) (cs : Cs) : ∃ ty : Value, TyD K o cs ty ∧ PySem.W.kitOne K ty (.ref (CT K)) = some false := by
  simp only [List.mem_cons, List.not_mem_nil, or_false] at h
  rcases h with rfl | rfl | rfl | rfl | rfl | rfl
  · exact ⟨_, .non, T.k_NoneType_Tiers⟩
  · exact ⟨_, .int, T.k_int_Tiers⟩
  · exact ⟨_, .str, T.k_str_Tiers⟩
  · exact ⟨_, .tup, T.k_tuple_Tiers⟩
  · exact ⟨_, .lst, T.k_list_Tiers⟩
  · exact ⟨_, .dct0, T.k_dict_Tiers⟩
theorem wr_pat {o : D} (h : o ∈ [D.non, .int 0, .int (10 ^ 6 + 1), .bl true, .str "3", .int (-1)]) : Wr 1 (10 ^ 6) o := by
  simp only [List.mem_cons, List.not_mem_nil, or_false] at h
  rcases h with rfl | rfl | rfl | rfl | rfl | rfl
  all_goals refine ⟨by decide +kernel, ?_, shn_by (by decide +kernel) (by decide +kernel) (by decide +kernel) (by decide +kernel) (by decide +kernel), by decide +kernel⟩
  all_goals trivial
theorem wr_beg {o : D} (h : o ∈ [D.non, .bl true, .str "0", .tup [.int 0], .int (-10 ^ 30 - 1), .int (10 ^ 30 + 1), .lst []]) : Wr (-10 ^ 30) (10 ^ 30) o := by
  simp only [List.mem_cons, List.not_mem_nil, or_false] at h
  rcases h with rfl | rfl | rfl | rfl | rfl | rfl | rfl
  all_goals refine ⟨by decide +kernel, ?_, shn_by (by decide +kernel) (by decide +kernel) (by decide +kernel) (by decide +kernel) (by decide +kernel), by decide +kernel⟩
  all_goals trivial
theorem shn_far : Shn (.int (10 ^ 30)) := shn_by (by decide +kernel) (by decide +kernel) (by decide +kernel) (by decide +kernel) (by decide +kernel)
theorem shn_nfar : Shn (.int (-10 ^ 30)) := shn_by (by decide +kernel) (by decide +kernel) (by decide +kernel) (by decide +kernel) (by decide +kernel)
theorem shn_31 : Shn (.int (10 ^ 31)) := shn_by (by decide +kernel) (by decide +kernel) (by decide +kernel) (by decide +kernel) (by decide +kernel)
theorem shn_all : ∀ n : Nat, n < 300 → ((D.int n).py.showable && decide ((D.int n).py.depth ≤ 60) && decide ((D.int n).py.shown.length ≤ 1000)) = true := by decide +kernel
theorem shn_sm {i : Int} (h0 : 0 ≤ i) (h1 : i < 300) : Shn (.int i) := by
  obtain ⟨n, rfl⟩ : ∃ n : Nat, i = n := ⟨i.toNat, by omega⟩
  have h := shn_all n (by omega)
  simp only [Bool.and_eq_true, decide_eq_true_eq] at h
  exact shn_by rfl h.1.1 rfl h.1.2 h.2
def fst_ : D → D
  | .tup (x :: _) => x
  | .lst (x :: _) => x
  | d => d
theorem set5 (a b d e f : Addr × Cell) (cs : Cs) (c c' : Addr × Cell) : (a :: b :: d :: e :: f :: (cs ++ [c])).set (cs.length + 5) c' = a :: b :: d :: e :: f :: (cs ++ [c']) := by simp
theorem hy5 (a b d e f : Addr × Cell) (cs : Cs) (c : Addr × Cell) : (a :: b :: d :: e :: f :: (cs ++ [c]))[cs.length + 5]? = some c := by simp
theorem tm_far : (ans "not" (.int (10 ^ 30))).tm 2 = true ∧ (ans "forgotten" (.int (-10 ^ 30))).tm 2 = true ∧ (ans "store" (.str "tiers")).tm 2 = true ∧ (ans "number" (.int (10 ^ 31))).tm 2 = true ∧ (ans "store" (.str "patience")).tm 2 = true := by decide +kernel
section
/-- _law_heard(lambda: body), where the body may change the cells and raise then -/
theorem ew_h2 {X : Cx} {B : Bs} {c Pa : Addr} {Q : D → SS → Prop} {ss : SS} {q : Str} {j kk : Nat} {params : Arguments} {body : Expr} {lsc : Scope} {p1 lpos pos : Pos} (T : Tx X.K X.mg) (TB : LamX.TabB X.base X.mg c Pa) (hcode : X.env.code = .ref c) (hg : Gl X "_law_heard") (hq : q = X.env.qual ++ "<lambda>")
    (hj : ss.cs[j]? = some (Pa, .tab q)) (hr : Room (kk + 2) X.A) (hr3 : Room 3 X.A) (still : X.A.guards = some []) (Ls : LamX.LamS X.env.scope lsc) (hdef : defaultsOf params X.env = ([], []))
    (hbind : ∀ (q : Str) (cl : List (Str × Addr)) (pm cv ctv : Value), bindArgs (PySem.W.kla_fn "<lambda>" q params body lsc cl pm cv ctv) ⟨[], []⟩ = pure [])
    (h : ∀ (A : Around) (outer : List Env) (s : Shared) (H Hb : Hp) (E : XK) (f c' : Addr) (Ex : Addr → List (Str × D) → Cs → Prop), Room kk (A.deeper (LamX.lamEnv X lsc s.heap.objs.size f c')) →
      (∀ (d : D) (ex cs0 : Cs), Shn d → Q (ans "not" d) ⟨ss.sl, cs0⟩ → Ex (He.ga X.K "NotYet") [("moment", d)] (ex ++ cs0)) →
      EW (LamX.lamCx X A outer s H E lsc f c') ⟨Hb, ss.cs, E, Ex⟩ body ss fun d s' => Q (.lst [d]) ⟨ss.sl, s'.cs⟩) : EW X B (.Call (.Name "_law_heard" p1) [.Lambda params body lsc lpos] [] pos) ss Q := by
  obtain ⟨fd, F⟩ := T.q_law_heard
  have hb := F.bindsN (ps := ["_law_ask"]) fun kV doc pm an cdv ct => Vls.bind1 fun a => rfl
  have kp := F.kp
  obtain ⟨oc, od, dV, kV, doc, pm, an, cdv, ct, osl, rfl, lk, hcd, hD, hK⟩ := F.ex
  exact ew_heardT (Ng := NH) hg T.g_law_heard kp lk hcd hb ⟨rfl, rfl, rfl, ndH, rfl, by decide +kernel, by decide +kernel⟩ rfl (by first | exact .inl rfl | exact .inr (.inl rfl)) (heard_gives (j := 0) hr3 still T) TB hcode hq hj hr Ls hdef hbind fun A outer s H Hb E f c' hr' =>
    h A outer s H Hb E f c' _ hr' (fun d ex cs0 sh q => ⟨ex, cs0, rfl, .inr (.inr (.inr (.inl ⟨d, rfl, rfl, sh, q⟩)))⟩)
end
end K41
set_option Elab.async false
set_option linter.all false
set_option maxRecDepth 100000
set_option maxHeartbeats 4000000
namespace K41
open PySem PySem.Spec PyProof.Rows L2 Sx
local macro_rules | `(tactic| walk_at "c") => `(tactic| first
  | refine aw_cons ?_ | refine aw_nil ?_
  | refine ew_int ?_ | refine ew_non ?_ | refine ew_bl ?_ | refine ew_str ?_
  | refine ew_bin ?_ | refine ew_cmp ?_ | refine tw_cmp ?_ | refine tw_not ?_ | refine ew_chain ?_ | refine tw_chain ?_ | refine ew_and ?_ | refine ew_or ?_ | refine ew_one ?_ | refine ew_not ?_ | refine ew_neg ?_ | refine ew_if ?_
  | refine tw_w (ww_and ?_) | refine tw_w (ww_or ?_) | refine ww_and ?_ | refine ww_or ?_ | refine ww_and1 ?_ | refine ww_or1 ?_
  | refine tw_val (e := .Call _ _ _ _) ?_ | refine ew_tup ?_ | refine ew_ix ?_ | refine ew_lst ?_
  | refine sw_cons ?_ | refine s1_ret ?_ | refine s1_if ?_ | refine sw_nil ?_ | refine s1_expr ?_
  | refine od_add ?_ | refine od_sub ?_ | refine od_lt ?_ | refine od_le ?_ | refine od_gt ?_ | refine od_ge ?_
  | refine isB ?_ | refine intD ?_ | refine br_t ?_ | refine br_f ?_
  | refine ⟨szl (Nat.le_of_ble_eq_true rfl), ?_⟩)
local macro_rules | `(tactic| walk_at "n") => `(tactic| first
  | refine ew_name 0 rfl (by first | exact .inl rfl | exact .inr (.inl rfl) | exact .inr (.inr rfl)) rfl ?_
  | refine ew_name 1 rfl (by first | exact .inl rfl | exact .inr (.inl rfl) | exact .inr (.inr rfl)) rfl ?_
  | refine ew_name 2 rfl (by first | exact .inl rfl | exact .inr (.inl rfl) | exact .inr (.inr rfl)) rfl ?_
  | refine ew_name 3 rfl (by first | exact .inl rfl | exact .inr (.inl rfl) | exact .inr (.inr rfl)) rfl ?_
  | refine ew_name 4 rfl (by first | exact .inl rfl | exact .inr (.inl rfl) | exact .inr (.inr rfl)) rfl ?_
  | refine ew_name 5 rfl (by first | exact .inl rfl | exact .inr (.inl rfl) | exact .inr (.inr rfl)) rfl ?_
  | refine ew_name 6 rfl (by first | exact .inl rfl | exact .inr (.inl rfl) | exact .inr (.inr rfl)) rfl ?_
  | refine ew_name 7 rfl (by first | exact .inl rfl | exact .inr (.inl rfl) | exact .inr (.inr rfl)) rfl ?_
  | refine ew_name 8 rfl (by first | exact .inl rfl | exact .inr (.inl rfl) | exact .inr (.inr rfl)) rfl ?_
  | refine ew_name 9 rfl (by first | exact .inl rfl | exact .inr (.inl rfl) | exact .inr (.inr rfl)) rfl ?_
  | refine ew_name 10 rfl (by first | exact .inl rfl | exact .inr (.inl rfl) | exact .inr (.inr rfl)) rfl ?_
  | refine ew_name 11 rfl (by first | exact .inl rfl | exact .inr (.inl rfl) | exact .inr (.inr rfl)) rfl ?_
  | refine ew_name 12 rfl (by first | exact .inl rfl | exact .inr (.inl rfl) | exact .inr (.inr rfl)) rfl ?_)
local macro_rules | `(tactic| walk_at "i") => `(tactic| (refine' cl_isi (.ty _) ?a ?b ?_; (case a => constructor); (case b => with_reducible first | exact kit_int_int | exact kit_int_bool | exact kit_bool_int | exact kit_bool_bool | exact kit_NoneType_int | exact kit_str_int | exact kit_list_int | exact kit_tuple_int | exact kit_dict_int | exact kit_tuple_tuple | exact kit_int_tuple | exact kit_NoneType_tuple | exact kit_bool_tuple | exact kit_str_tuple | exact kit_list_tuple | exact kit_dict_tuple)))
local macro_rules | `(tactic| walk_at "l") => `(tactic| first
  | refine ew_isinstance (Tx.f_isinstance (by assumption)) ?_ | refine ew_len (Tx.f_len (by assumption)) ?_ | refine ew_vint (Tx.f_int (by assumption)) ?_ | refine ew_vbool (Tx.f_bool (by assumption)) ?_ | refine ew_vtuple (Tx.f_tuple (by assumption)) ?_ | refine ew_vstr (Tx.f_str (by assumption)) ?_
  | refine ew_gint (Tx.i_FAR (by assumption)) (by rfl) ?_ | refine ew_gint (Tx.i_FAR_TALLY (by assumption)) (by rfl) ?_ | refine ew_gint (Tx.i_MOST_PATIENCE (by assumption)) (by rfl) ?_ | refine ew_gint (Tx.i_MOST_LIFE (by assumption)) (by rfl) ?_ | refine ew_gint (Tx.i_MOST_PAIRS (by assumption)) (by rfl) ?_ | refine ew_gint (Tx.i_MOST_WIDTH (by assumption)) (by rfl) ?_ | refine ew_gint (Tx.i_MOST_KEEP (by assumption)) (by rfl) ?_
  | refine cl_len ?_ | refine cl_lenT ?_ | refine ix_tpl rfl ?_ | refine od_is (by intro _ h; cases h) ?_)
local macro_rules | `(tactic| walk_at "x") => `(tactic| repeat (first | walk_at "c" | walk_at "n" | walk_at "l" | walk_at "i"))
theorem ty_odd2 {K : PySem.W.Frag} {mg : Str → Option Value} (T : Tx K mg) {o : D} (h : o ∈ [D.non, .int 0, .str "tiers", .tup [.tup [.int 1, .int 5]], .lst [], .dct0]) : ∃ ty : Value, (∀ cs, TyD K o cs ty) ∧ PySem.W.kitOne K ty (.ref (CT K)) = some false := by
  simp only [List.mem_cons, List.not_mem_nil, or_false] at h
  rcases h with rfl | rfl | rfl | rfl | rfl | rfl
  · exact ⟨_, fun _ => .non, T.k_NoneType_Tiers⟩
  · exact ⟨_, fun _ => .int, T.k_int_Tiers⟩
  · exact ⟨_, fun _ => .str, T.k_str_Tiers⟩
  · exact ⟨_, fun _ => .tup, T.k_tuple_Tiers⟩
  · exact ⟨_, fun _ => .lst, T.k_list_Tiers⟩
  · exact ⟨_, fun _ => .dct0, T.k_dict_Tiers⟩
abbrev scB : Scope := defScope s_law_borders_right
def qB : Str := (envOfC "_law_borders_right" scB 0 0 .none).qual ++ "<lambda>"
def NB : List Str := ["_law_pen_here", "_law_store", "_law_heard_here", "_law_odd", "_law_bad", "_law_begin", "_law_far", "_law_due", "_law_one"]
theorem ndB : NB.Nodup := by decide +kernel
def bodyB (i : Nat) : List Stmt := (defBody s_law_borders_right).drop i
section
variable {P : Program} {w : World} {K : PySem.W.Frag} {mg : Str → Option Value} {base : Heap}
abbrev XBi (P : Program) (w : World) (K : PySem.W.Frag) (mg : Str → Option Value) (base : Heap) (c : Addr) (A : Around) (outer : List Env) (s : Shared) (H : Hp) (E : XK) : Cx := cxOf (L2.CX P w) P w K mg base NB "_law_borders_right" scB (He.ga K "_law_borders_right") (.ref c) A outer s H E
theorem pLaB {c : Addr} {A : Around} {outer : List Env} {s : Shared} {H : Hp} {E : XK} {A' : Around} {outer' : List Env} {s' : Shared} {H' : Hp} {E' : XK} {scope : Scope} {f c' : Addr} : Passes (L2.CX P w) (LamX.lamCx (XBi P w K mg base c A outer s H E) A' outer' s' H' E' scope f c') E' := passes_call (X := LamX.lamCx (XBi P w K mg base c A outer s H E) A' outer' s' H' E' scope f c') (takes_of rfl rfl rfl rfl) fun _ _ _ _ h => h
def F_borders (Pa : Addr) : FT := fun ds cs Kk _ => ∃ p qs z0 c1 c2 cs1, ds = [.own p] ∧ cs = (p, Cell.pen qs z0) :: c1 :: c2 :: (Pa, Cell.tab qB) :: cs1 ∧ z0 < 90000 ∧ ∀ e ex, Kk (.bl true) (e :: (p, Cell.pen qs (z0 + 4)) :: c1 :: c2 :: (Pa, Cell.tab qB) :: (cs1 ++ ex))
theorem x_borders {Pa : Addr} (T : Tx K mg) (TB : LamX.TabB base mg (He.codeOf K ("_law_borders_right", none)) Pa) : DfnG P w K mg base (L2.CX P w) 12 "_law_borders_right" ["_law_pen_here"] (spF (F_borders Pa)) := by
  obtain ⟨fp, _, Fp, Bp, _, _⟩ := g_put (P := P) (w := w) (base := base) T (Nat.le_refl 8) (d_chk T)
  have Rp : FnR P w K mg base (L2.CX P w) 9 (He.ma K (CSo K) "put") (spF (F_put K)) := (Fp.raw Bp .nil).imp fun vs H Q E h => by rw [List.append_nil]; exact h
  obtain ⟨fg, Gg, Bg⟩ := (m_getitem (P := P) (w := w) (base := base) T).ok
  obtain ⟨fh, Gh, Bh⟩ := g_has (P := P) (w := w) (base := base) T
  obtain ⟨fs, us, Fs, B0, Bd, Hd⟩ := f_store (P := P) (w := w) (base := base) T
  refine dfnGT T.q_law_borders_right T.g_law_borders_right (N := NB) ⟨rfl, rfl, rfl, ndB, rfl, by decide +kernel, by decide +kernel⟩ (fun kV doc pm an cdv ct => Vls.bind1 fun a => rfl) (fun ds cs Kk KE h => ?_) TB rfl (fun c TB A outer s H E ds cs Kk KE hr still h => ?_)
  · obtain ⟨_, _, _, _, _, _, rfl, _⟩ := h
    rfl
  · obtain ⟨p, qs, z0, c1, c2, cs1, rfl, rfl, hz, h⟩ := h
    -- _law_store = _law_made()
    refine sw_cons (s1_set 1 ndB rfl (.inr rfl) ?_)
    refine ew_call0 (.none fun _ _ _ => False) (x_made T (d_chk T)) (hr.mono (by decide)) (by rfl) pF ?_
    refine ⟨rfl, fun y => ?_⟩
    show SW _ _ (bodyB 1) ⟨[some (.own p), some (.own y), none, none, none, none, none, none, none], (p, Cell.pen qs z0) :: c1 :: c2 :: (Pa, Cell.tab qB) :: (cs1 ++ [(y, Cell.ins (CSo K) (soF K l0 9 mk4))])⟩ _
    -- _law_store.pass_to(120)
    refine sw_cons (s1_expr ?_)
    refine ew_meth (.none fun _ _ _ => False) (m_pass T) (hr.mono (by decide)) pF ?_
    refine ew_name 1 rfl (.inr (.inl rfl)) rfl ?_
    refine ⟨.own _ (hy4 _ _ _ _ _ _) rfl, aw_cons ?_⟩
    refine ew_int ?_
    refine aw_nil ⟨y, _, l0, 9, mk4, _, rfl, ⟨hy4 _ _ _ _ _ _, l0_good⟩, trivial, mk4_len, mk4_le', fun h => absurd h (by decide +kernel), fun i e _ => ?_⟩
    cases e
    refine ⟨by decide +kernel, ?_⟩
    rw [set4]
    -- _law_heard_here = [_law_heard(lambda: _law_store.look_at(112 + _law_draw(_law_pen_here, 40)))]
    refine sw_cons (s1_set 2 ndB rfl (.inl rfl) ?_)
    refine ew_lstO 4 ?_
    refine aw_cons ?_
    refine ew_h2 (kk := 9) T TB rfl (by rfl) rfl (j := 3) rfl (hr.mono (by decide)) (hr.mono (by decide)) still (LamX.lamS_by (sc := scB) (by decide +kernel)) rfl (fun _ _ _ _ _ => rfl) fun A' outer' s' H' Hb E' f c' Ex hr' hyt => ?_
    refine ew_meth .same (m_lookat T) (hr'.mono (by decide)) pLaB ?_
    refine ew_name 1 rfl (.inr (.inr rfl)) rfl ?_
    refine ⟨.own _ (hy4 _ _ _ _ _ _) rfl, aw_cons ?_⟩
    refine ew_bin ?_
    refine ew_int ?_
    refine ew_call .same (x_draw T) (hr'.mono (by decide)) (by rfl) pass0 ?_
    refine aw_cons ?_
    refine ew_name 0 rfl (.inr (.inr rfl)) rfl ?_
    refine aw_cons ?_
    refine ew_int ?_
    refine aw_nil ⟨p, qs, z0, _, _, rfl, rfl, by omega, by simp, by simp, fun r r0 r1 => ?_⟩
    refine od_add ?_
    refine aw_nil ⟨y, _, l0, 9, b1, _, rfl, ⟨hy4 _ _ _ _ _ _, l0_good⟩, trivial, b1_srt, lk_yet (in_b (by omega) (by omega)) (by show 120 - (112 + r) < 9; omega) (hyt _ [] _ (shn_sm (by omega) (by omega)) ?_)⟩
    --heard
    refine aw_nil ⟨szl (Nat.le_of_ble_eq_true rfl), fun yl => ?_⟩
    -- _law_heard_here.append(_law_heard(lambda: _law_store[91]))
    refine sw_cons (s1_expr ?_)
    refine ew_append ?_
    refine ew_name 2 rfl (.inl rfl) rfl ?_
    refine ⟨yl, 4, _, rfl, rfl, ?_⟩
    refine ew_h (kk := 9) T TB rfl (by rfl) rfl (j := 3) rfl (hr.mono (by decide)) (hr.mono (by decide)) still (LamX.lamS_by (sc := scB) (by decide +kernel)) rfl (fun _ _ _ _ _ => rfl) fun A' outer' s' H' Hb E' f c' Ex hr' hnu hst hun hyt hfg hno => ?_
    refine ew_ixO .same ⟨T.m_Store_getitem, T.fi_getitem⟩ Gg Bg (hr'.mono (by decide)) pLaB ?_
    refine ew_name 1 rfl (.inr (.inr rfl)) rfl ?_
    refine ew_int ?_
    refine ⟨.own _ (hy5 _ _ _ _ _ _ _), y, _, l0, 9, b1, _, rfl, ⟨hy5 _ _ _ _ _ _ _, l0_good⟩, trivial, b1_srt, lk_non (w := 1) (ws := [4]) (by decide +kernel) (by decide +kernel) (by decide +kernel) (by decide +kernel) (by decide +kernel) (hno [] ?_)⟩
    --heard
    refine ⟨4, _, rfl, szl (Nat.le_of_ble_eq_true rfl), ?_⟩
    -- _law_heard_here.append(_law_heard(lambda: _law_store.look_at(60)))
    refine sw_cons (s1_expr ?_)
    refine ew_append ?_
    refine ew_name 2 rfl (.inl rfl) rfl ?_
    refine ⟨yl, 4, _, rfl, rfl, ?_⟩
    refine ew_h (kk := 9) T TB rfl (by rfl) rfl (j := 3) rfl (hr.mono (by decide)) (hr.mono (by decide)) still (LamX.lamS_by (sc := scB) (by decide +kernel)) rfl (fun _ _ _ _ _ => rfl) fun A' outer' s' H' Hb E' f c' Ex hr' hnu hst hun hyt hfg hno => ?_
    refine ew_meth .same (m_lookat T) (hr'.mono (by decide)) pLaB ?_
    refine ew_name 1 rfl (.inr (.inr rfl)) rfl ?_
    refine ⟨.own _ (hy5 _ _ _ _ _ _ _) rfl, aw_cons ?_⟩
    refine ew_int ?_
    refine aw_nil ⟨y, _, l0, 9, b1, _, rfl, ⟨hy5 _ _ _ _ _ _ _, l0_good⟩, trivial, b1_srt, lk_old (by decide +kernel) (by decide +kernel) (by decide +kernel) (hfg _ [] (shn_sm (by decide) (by decide)) ?_)⟩
    --heard
    refine ⟨4, _, rfl, szl (Nat.le_of_ble_eq_true rfl), ?_⟩
    -- _law_heard_here.append(_law_heard(lambda: _law_store[111]))
    refine sw_cons (s1_expr ?_)
    refine ew_append ?_
    refine ew_name 2 rfl (.inl rfl) rfl ?_
    refine ⟨yl, 4, _, rfl, rfl, ?_⟩
    refine ew_h (kk := 9) T TB rfl (by rfl) rfl (j := 3) rfl (hr.mono (by decide)) (hr.mono (by decide)) still (LamX.lamS_by (sc := scB) (by decide +kernel)) rfl (fun _ _ _ _ _ => rfl) fun A' outer' s' H' Hb E' f c' Ex hr' hnu hst hun hyt hfg hno => ?_
    refine ew_ixO .same ⟨T.m_Store_getitem, T.fi_getitem⟩ Gg Bg (hr'.mono (by decide)) pLaB ?_
    refine ew_name 1 rfl (.inr (.inr rfl)) rfl ?_
    refine ew_int ?_
    refine ⟨.own _ (hy5 _ _ _ _ _ _ _), y, _, l0, 9, b1, _, rfl, ⟨hy5 _ _ _ _ _ _ _, l0_good⟩, trivial, b1_srt, lk_yes (w := 1) (ws := [4]) (k := 3) (x := ⟨99, 6, 1⟩) (by decide +kernel) (by decide +kernel) (by decide +kernel) (by decide +kernel) (by decide +kernel) (by kernel_rfl) ?_⟩
    --heard
    refine ⟨4, _, rfl, szl (Nat.le_of_ble_eq_true rfl), ?_⟩
    show SW _ _ (bodyB 6) ⟨[some (.own p), some (.own y), some (.own yl), none, none, none, none, none, none], (p, Cell.pen qs (z0 + 1)) :: c1 :: c2 :: (Pa, Cell.tab qB) :: (yl, Cell.lst [ans "not" (.int (112 + r)), .tup [.str "nothing"], ans "forgotten" (.int 60), .lst [.int 6]]) :: (cs1 ++ [(y, Cell.ins (CSo K) (soF K l0 9 b1))])⟩ _
    -- _law_store.pass_to(10 ** 20)
    refine sw_cons (s1_expr ?_)
    refine ew_meth (.none fun _ _ _ => False) (m_pass T) (hr.mono (by decide)) pF ?_
    refine ew_name 1 rfl (.inr (.inl rfl)) rfl ?_
    refine ⟨.own _ (hy5 _ _ _ _ _ _ _) rfl, aw_cons ?_⟩
    refine ew_bin ?_
    refine ew_int ?_
    refine ew_int ?_
    refine od_pow ⟨by decide, by decide, by decide⟩ ?_
    refine aw_nil ⟨y, _, l0, 9, b1, _, rfl, ⟨hy5 _ _ _ _ _ _ _, l0_good⟩, trivial, (by kernel_rfl), (by decide +kernel), fun h => absurd h (by decide +kernel), fun i e _ => ?_⟩
    cases e
    refine ⟨by decide +kernel, ?_⟩
    rw [set5]
    -- _law_heard_here.append(_law_heard(lambda: _law_store[99]))
    refine sw_cons (s1_expr ?_)
    refine ew_append ?_
    refine ew_name 2 rfl (.inl rfl) rfl ?_
    refine ⟨yl, 4, _, rfl, rfl, ?_⟩
    refine ew_h (kk := 9) T TB rfl (by rfl) rfl (j := 3) rfl (hr.mono (by decide)) (hr.mono (by decide)) still (LamX.lamS_by (sc := scB) (by decide +kernel)) rfl (fun _ _ _ _ _ => rfl) fun A' outer' s' H' Hb E' f c' Ex hr' hnu hst hun hyt hfg hno => ?_
    refine ew_ixO .same ⟨T.m_Store_getitem, T.fi_getitem⟩ Gg Bg (hr'.mono (by decide)) pLaB ?_
    refine ew_name 1 rfl (.inr (.inr rfl)) rfl ?_
    refine ew_int ?_
    refine ⟨.own _ (hy5 _ _ _ _ _ _ _), y, _, l0, 9, b2, _, rfl, ⟨hy5 _ _ _ _ _ _ _, l0_good⟩, trivial, b2_srt, lk_old (by decide +kernel) (by decide +kernel) (by decide +kernel) (hfg _ [] (shn_sm (by decide) (by decide)) ?_)⟩
    --heard
    refine ⟨4, _, rfl, szl (Nat.le_of_ble_eq_true rfl), ?_⟩
    refine sw_freeze 4 2 rfl rfl ?_
    have hd0 : ∀ z ∈ [ans "not" (.int (112 + r)), .tup [.str "nothing"], ans "forgotten" (.int 60), .lst [.int 6], ans "forgotten" (.int 99)], (∃ x r, z = D.tup (x :: r)) ∨ ∃ x r, z = D.lst (x :: r) := fun z hz => by
      simp only [List.mem_cons, List.not_mem_nil, or_false] at hz
      rcases hz with rfl | rfl | rfl | rfl | rfl
      · exact .inl ⟨_, _, rfl⟩
      · exact .inl ⟨_, _, rfl⟩
      · exact .inl ⟨_, _, rfl⟩
      · exact .inr ⟨_, _, rfl⟩
      · exact .inl ⟨_, _, rfl⟩
    -- if [_law_one[0] for _law_one in _law_heard_here] != ['not', 'nothing', 'forgotten', 6, 'forgotten']:
    refine sw_cons (s1_if ?_)
    refine tw_cmp ?_
    refine ew_selL (fun d => d) fst_ (fun _ => true) [("_law_one", 8)] 0 rfl ndB (Vls.blk_by (N := NB) (sc := scB) (by decide +kernel)) ?_
    refine ew_name 2 rfl (.inl rfl) rfl ?_
    refine ⟨[ans "not" (.int (112 + r)), .tup [.str "nothing"], ans "forgotten" (.int 60), .lst [.int 6], ans "forgotten" (.int 99)], rfl, szl (Nat.le_of_ble_eq_true rfl), fun i z hz l acc => ?_, ?_⟩
    · intro _ _ _ _ _
      refine tg_name 8 ndB rfl (.inl rfl) ?_
      intro _ _ _ _ _
      refine ts_nil ⟨rfl, rfl, fun _ => ?_⟩
      intro _ _ _ _ _
      refine ew_ix ?_
      refine ew_name 8 rfl (.inl rfl) rfl ?_
      refine ew_int ?_
      rcases hd0 z (List.mem_of_getElem? hz) with ⟨x, r, rfl⟩ | ⟨x, r, rfl⟩
      · exact ix_tpl (atI_nat (j := 0) rfl) ⟨rfl, rfl⟩
      · exact ix_lst (atI_nat (j := 0) rfl) ⟨rfl, rfl⟩
    refine ew_lst ?_
    refine aw_cons ?_
    refine ew_str ?_
    refine aw_cons ?_
    refine ew_str ?_
    refine aw_cons ?_
    refine ew_str ?_
    refine aw_cons ?_
    refine ew_int ?_
    refine aw_cons ?_
    refine ew_str ?_
    refine aw_nil ⟨szl (Nat.le_of_ble_eq_true rfl), ?_⟩
    rw [selM_all]
    refine od_neB (d1 := .lst [.str "not", .str "nothing", .str "forgotten", .int 6, .str "forgotten"]) (b := true) hr.units (by decide +kernel) (by decide +kernel) (by kernel_rfl) ?_
    refine isB ?_
    refine br_f (sw_nil ?_)
    refine sw_perm ((y, Cell.ins (CSo K) (soF K l0 9 b2)) :: ((p, Cell.pen qs (z0 + 1)) :: c1 :: c2 :: (Pa, Cell.tab qB) :: cs1)) (List.perm_append_comm (l₁ := [(y, Cell.ins (CSo K) (soF K l0 9 b2))]) (l₂ := (p, Cell.pen qs (z0 + 1)) :: c1 :: c2 :: (Pa, Cell.tab qB) :: cs1)) (sw_drop ?_)
    -- _law_odd = _law_pick(_law_pen_here, [None, 0, 'tiers', ((1, 5),), [], {}])
    refine sw_cons (s1_set 3 ndB rfl (.inr rfl) ?_)
    refine ew_call (.none fun _ _ _ => False) (x_pick T) (hr.mono (by decide)) (by rfl) pF ?_
    refine aw_cons ?_
    refine ew_name 0 rfl (.inr (.inl rfl)) rfl ?_
    refine aw_cons ?_
    refine ew_lst ?_
    refine aw_cons ?_
    refine ew_non ?_
    refine aw_cons ?_
    refine ew_int ?_
    refine aw_cons ?_
    refine ew_str ?_
    refine aw_cons ?_
    refine ew_tup ?_
    refine aw_cons ?_
    refine ew_tup ?_
    refine aw_cons ?_
    refine ew_int ?_
    refine aw_cons ?_
    refine ew_int ?_
    refine aw_nil ⟨szl (Nat.le_of_ble_eq_true rfl), ?_⟩
    refine aw_nil ⟨szl (Nat.le_of_ble_eq_true rfl), ?_⟩
    refine aw_cons ?_
    refine ew_lst ?_
    refine aw_nil ⟨szl (Nat.le_of_ble_eq_true rfl), ?_⟩
    refine aw_cons ?_
    refine ew_dict0 ?_
    refine aw_nil ⟨szl (Nat.le_of_ble_eq_true rfl), ?_⟩
    refine aw_nil ⟨p, qs, z0 + 1, _, _, rfl, rfl, by omega, by simp, by simp, fun odd hodd => ?_⟩
    -- _law_bad = _law_pick(_law_pen_here, [None, 0, 10 ** 6 + 1, True, '3', -1])
    refine sw_cons (s1_set 4 ndB rfl (.inr rfl) ?_)
    refine ew_call (.none fun _ _ _ => False) (x_pick T) (hr.mono (by decide)) (by rfl) pF ?_
    refine aw_cons ?_
    refine ew_name 0 rfl (.inr (.inl rfl)) rfl ?_
    refine aw_cons ?_
    refine ew_lst ?_
    refine aw_cons ?_
    refine ew_non ?_
    refine aw_cons ?_
    refine ew_int ?_
    refine aw_cons ?_
    refine ew_bin ?_
    refine ew_bin ?_
    refine ew_int ?_
    refine ew_int ?_
    refine od_pow ⟨by decide, by decide, by decide⟩ ?_
    refine ew_int ?_
    refine od_add ?_
    refine aw_cons ?_
    refine ew_bl ?_
    refine aw_cons ?_
    refine ew_str ?_
    refine aw_cons ?_
    refine ew_neg ?_
    refine ew_int ?_
    refine ⟨_, rfl, ?_⟩
    refine aw_nil ⟨szl (Nat.le_of_ble_eq_true rfl), ?_⟩
    refine aw_nil ⟨p, qs, z0 + 1 + 1, _, _, rfl, rfl, by omega, by simp, by simp, fun bad hbad => ?_⟩
    -- _law_begin = _law_pick(_law_pen_here, [None, True, '0', (0,), -10 ** 30 - 1, 10 ** 30 + 1, []])
    refine sw_cons (s1_set 5 ndB rfl (.inr rfl) ?_)
    refine ew_call (.none fun _ _ _ => False) (x_pick T) (hr.mono (by decide)) (by rfl) pF ?_
    refine aw_cons ?_
    refine ew_name 0 rfl (.inr (.inl rfl)) rfl ?_
    refine aw_cons ?_
    refine ew_lst ?_
    refine aw_cons ?_
    refine ew_non ?_
    refine aw_cons ?_
    refine ew_bl ?_
    refine aw_cons ?_
    refine ew_str ?_
    refine aw_cons ?_
    refine ew_tup ?_
    refine aw_cons ?_
    refine ew_int ?_
    refine aw_nil ⟨szl (Nat.le_of_ble_eq_true rfl), ?_⟩
    refine aw_cons ?_
    refine ew_bin ?_
    refine ew_neg ?_
    refine ew_bin ?_
    refine ew_int ?_
    refine ew_int ?_
    refine od_pow ⟨by decide, by decide, by decide⟩ ?_
    refine ⟨_, rfl, ?_⟩
    refine ew_int ?_
    refine od_sub ?_
    refine aw_cons ?_
    refine ew_bin ?_
    refine ew_bin ?_
    refine ew_int ?_
    refine ew_int ?_
    refine od_pow ⟨by decide, by decide, by decide⟩ ?_
    refine ew_int ?_
    refine od_add ?_
    refine aw_cons ?_
    refine ew_lst ?_
    refine aw_nil ⟨szl (Nat.le_of_ble_eq_true rfl), ?_⟩
    refine aw_nil ⟨szl (Nat.le_of_ble_eq_true rfl), ?_⟩
    refine aw_nil ⟨p, qs, z0 + 1 + 1 + 1, _, _, rfl, rfl, by omega, by simp, by simp, fun beg hbeg => ?_⟩
    have wb := wr_pat hbad
    have wg := wr_beg hbeg
    -- _law_far = Store(Tiers((1, 9)), 3, 10 ** 30 - 1)
    refine sw_cons (s1_set 6 ndB rfl (.inr rfl) ?_)
    refine ew_makeO (dds := []) (.none fun _ _ _ => False) T.k_Store Fs (hr.mono (by decide)) (by rfl) T.g_Store B0 .nil (fun _ _ => .nil) pF ?_
    refine aw_cons ?_
    refine ew_makeR (.none fun _ _ _ => False) T.k_Tiers (r_tiers T) (hr.mono (by decide)) (by rfl) T.g_Tiers pF ?_
    refine aw_cons ?_
    refine ew_tup ?_
    refine aw_cons ?_
    refine ew_int ?_
    refine aw_cons ?_
    refine ew_int ?_
    refine aw_nil ⟨szl (Nat.le_of_ble_eq_true rfl), ?_⟩
    refine aw_nil (fun yt => ⟨yt, lf, _, rfl, rfl, lf_good, rfl, _, _, rfl, ?_⟩)
    refine aw_cons ?_
    refine ew_int ?_
    refine aw_cons ?_
    refine ew_bin ?_
    refine ew_bin ?_
    refine ew_int ?_
    refine ew_int ?_
    refine od_pow ⟨by decide, by decide, by decide⟩ ?_
    refine ew_int ?_
    refine od_sub ?_
    refine aw_nil (fun y2 => fs_ok lf_good (by decide +kernel) (by decide +kernel) (by decide +kernel) ⟨rfl, ?_⟩)
    refine sw_perm (((p, Cell.pen qs (z0 + 1 + 1 + 1 + 1)) :: c1 :: c2 :: (Pa, Cell.tab qB) :: cs1) ++ [(y2, Cell.ins (CSo K) (soF K lf 3 g0))]) (List.perm_append_comm (l₁ := (p, Cell.pen qs (z0 + 1 + 1 + 1 + 1)) :: c1 :: c2 :: (Pa, Cell.tab qB) :: cs1) (l₂ := [(y2, Cell.ins (CSo K) (soF K lf 3 g0))])) ?_
    show SW _ _ (bodyB 13) ⟨_, (p, Cell.pen qs (z0 + 1 + 1 + 1 + 1)) :: c1 :: c2 :: (Pa, Cell.tab qB) :: (cs1 ++ [(y2, Cell.ins (CSo K) (soF K lf 3 g0))])⟩ _
    -- _law_far.pass_to(10 ** 30)
    refine sw_cons (s1_expr ?_)
    refine ew_meth (.none fun _ _ _ => False) (m_pass T) (hr.mono (by decide)) pF ?_
    refine ew_name 6 rfl (.inr (.inl rfl)) rfl ?_
    refine ⟨.own _ (hy4 _ _ _ _ _ _) rfl, aw_cons ?_⟩
    refine ew_bin ?_
    refine ew_int ?_
    refine ew_int ?_
    refine od_pow ⟨by decide, by decide, by decide⟩ ?_
    refine aw_nil ⟨y2, _, lf, 3, g0, _, rfl, ⟨hy4 _ _ _ _ _ _, lf_good⟩, trivial, rfl, (by decide), fun h => absurd h (by decide +kernel), fun i e _ => ?_⟩
    cases e
    refine ⟨by decide +kernel, ?_⟩
    rw [set4]
    -- _law_far.put(10 ** 30, 10 ** 40, 10 ** 6)
    refine sw_cons (s1_expr ?_)
    refine ew_methR (.none fun _ _ _ => False) T.c_Store T.m_Store_put Rp (hr.mono (by decide)) pF ?_
    refine ew_name 6 rfl (.inr (.inl rfl)) rfl ?_
    refine ⟨.own _ (hy4 _ _ _ _ _ _) rfl, aw_cons ?_⟩
    refine ew_bin ?_
    refine ew_int ?_
    refine ew_int ?_
    refine od_pow ⟨by decide, by decide, by decide⟩ ?_
    refine aw_cons ?_
    refine ew_bin ?_
    refine ew_int ?_
    refine ew_int ?_
    refine od_pow ⟨by decide, by decide, by decide⟩ ?_
    refine aw_cons ?_
    refine ew_bin ?_
    refine ew_int ?_
    refine ew_int ?_
    refine od_pow ⟨by decide, by decide, by decide⟩ ?_
    refine aw_nil ⟨y2, _, lf, 3, g1, _, _, _, rfl, ⟨hy4 _ _ _ _ _ _, lf_good⟩, trivial, trivial, trivial, g1_srt, by kernel_rfl, by decide +kernel, put_at (x := gl) (by decide +kernel) (by decide +kernel) (by decide +kernel) putg1 (by decide +kernel) ?_⟩
    rw [set4]
    -- _law_far.put(10 ** 30, 10 ** 40, 10 ** 6)
    refine sw_cons (s1_expr ?_)
    refine ew_methR (.none fun _ _ _ => False) T.c_Store T.m_Store_put Rp (hr.mono (by decide)) pF ?_
    refine ew_name 6 rfl (.inr (.inl rfl)) rfl ?_
    refine ⟨.own _ (hy4 _ _ _ _ _ _) rfl, aw_cons ?_⟩
    refine ew_bin ?_
    refine ew_int ?_
    refine ew_int ?_
    refine od_pow ⟨by decide, by decide, by decide⟩ ?_
    refine aw_cons ?_
    refine ew_bin ?_
    refine ew_int ?_
    refine ew_int ?_
    refine od_pow ⟨by decide, by decide, by decide⟩ ?_
    refine aw_cons ?_
    refine ew_bin ?_
    refine ew_int ?_
    refine ew_int ?_
    refine od_pow ⟨by decide, by decide, by decide⟩ ?_
    refine aw_nil ⟨y2, _, lf, 3, g2, _, _, _, rfl, ⟨hy4 _ _ _ _ _ _, lf_good⟩, trivial, trivial, trivial, g2_srt, by kernel_rfl, by decide +kernel, put_at (x := gl) (by decide +kernel) (by decide +kernel) (by decide +kernel) putg2 (by decide +kernel) ?_⟩
    rw [set4]
    -- _law_heard_here = [_law_heard(lambda: _law_far.look_at(10 ** 30))]
    refine sw_cons (s1_set 2 ndB rfl (.inl rfl) ?_)
    refine ew_lstO 4 ?_
    refine aw_cons ?_
    refine ew_h (kk := 9) T TB rfl (by rfl) rfl (j := 3) rfl (hr.mono (by decide)) (hr.mono (by decide)) still (LamX.lamS_by (sc := scB) (by decide +kernel)) rfl (fun _ _ _ _ _ => rfl) fun A' outer' s' H' Hb E' f c' Ex hr' hnu hst hun hyt hfg hno => ?_
    refine ew_meth .same (m_lookat T) (hr'.mono (by decide)) pLaB ?_
    refine ew_name 6 rfl (.inr (.inr rfl)) rfl ?_
    refine ⟨.own _ (hy4 _ _ _ _ _ _) rfl, aw_cons ?_⟩
    refine ew_bin ?_
    refine ew_int ?_
    refine ew_int ?_
    refine od_pow ⟨by decide, by decide, by decide⟩ ?_
    refine aw_nil ⟨y2, _, lf, 3, g2, _, rfl, ⟨hy4 _ _ _ _ _ _, lf_good⟩, trivial, g2_srt, lk_yet (by decide +kernel) (by decide +kernel) (hyt _ [] shn_far ?_)⟩
    --heard
    refine aw_nil ⟨szl (Nat.le_of_ble_eq_true rfl), fun yl => ?_⟩
    -- _law_heard_here.append(_law_heard(lambda: _law_far.look_at(-10 ** 30)))
    refine sw_cons (s1_expr ?_)
    refine ew_append ?_
    refine ew_name 2 rfl (.inl rfl) rfl ?_
    refine ⟨yl, 4, _, rfl, rfl, ?_⟩
    refine ew_h (kk := 9) T TB rfl (by rfl) rfl (j := 3) rfl (hr.mono (by decide)) (hr.mono (by decide)) still (LamX.lamS_by (sc := scB) (by decide +kernel)) rfl (fun _ _ _ _ _ => rfl) fun A' outer' s' H' Hb E' f c' Ex hr' hnu hst hun hyt hfg hno => ?_
    refine ew_meth .same (m_lookat T) (hr'.mono (by decide)) pLaB ?_
    refine ew_name 6 rfl (.inr (.inr rfl)) rfl ?_
    refine ⟨.own _ (hy5 _ _ _ _ _ _ _) rfl, aw_cons ?_⟩
    refine ew_neg ?_
    refine ew_bin ?_
    refine ew_int ?_
    refine ew_int ?_
    refine od_pow ⟨by decide, by decide, by decide⟩ ?_
    refine ⟨_, rfl, ?_⟩
    refine aw_nil ⟨y2, _, lf, 3, g2, _, rfl, ⟨hy5 _ _ _ _ _ _ _, lf_good⟩, trivial, g2_srt, lk_old (by decide +kernel) (by decide +kernel) (by decide +kernel) (hfg _ [] shn_nfar ?_)⟩
    --heard
    refine ⟨4, _, rfl, szl (Nat.le_of_ble_eq_true rfl), ?_⟩
    -- _law_heard_here.append(_law_heard(lambda: Store(Tiers((1, 5)), 5, _law_begin)))
    refine sw_cons (s1_expr ?_)
    refine ew_append ?_
    refine ew_name 2 rfl (.inl rfl) rfl ?_
    refine ⟨yl, 4, _, rfl, rfl, ?_⟩
    refine ew_h (kk := 9) T TB rfl (by rfl) rfl (j := 3) rfl (hr.mono (by decide)) (hr.mono (by decide)) still (LamX.lamS_by (sc := scB) (by decide +kernel)) rfl (fun _ _ _ _ _ => rfl) fun A' outer' s' H' Hb E' f c' Ex hr' hnu hst hun hyt hfg hno => ?_
    refine ew_makeO (dds := []) .same T.k_Store Fs (hr'.mono (by decide)) (by rfl) T.g_Store B0 .nil (fun _ _ => .nil) pLaB ?_
    refine aw_cons ?_
    refine ew_makeR .same T.k_Tiers (r_tiers T) (hr'.mono (by decide)) (by rfl) T.g_Tiers pLaB ?_
    refine aw_cons ?_
    refine ew_tup ?_
    refine aw_cons ?_
    refine ew_int ?_
    refine aw_cons ?_
    refine ew_int ?_
    refine aw_nil ⟨szl (Nat.le_of_ble_eq_true rfl), ?_⟩
    refine aw_nil (fun yt => ⟨yt, l5, _, rfl, rfl, l5_good, rfl, _, _, rfl, ?_⟩)
    refine aw_cons ?_
    refine ew_int ?_
    refine aw_cons ?_
    refine ew_name 5 rfl (.inr (.inr rfl)) rfl ?_
    refine aw_nil (fun y3 => fs_badb l5_good (by decide +kernel) wg.pl wg.r ⟨_, _, rfl, hnu _ [] wg.sh ?_⟩)
    --heard
    refine ⟨4, _, rfl, szl (Nat.le_of_ble_eq_true rfl), ?_⟩
    have okA : (D.lst [ans "not" (.int (10 ^ 30)), ans "forgotten" (.int (-10 ^ 30)), ans "number" beg]).ok = true := tm_ok (n := 3) (by
      show D.tmL [ans "not" (.int (10 ^ 30)), ans "forgotten" (.int (-10 ^ 30)), ans "number" beg] 2 = true
      simp only [D.tmL, tm_far.1, tm_far.2.1, wg.tm, Bool.and_self]) (by decide)
    refine sw_freeze 4 2 rfl rfl ?_
    -- _law_due = [('not', repr(10 ** 30)), ('forgotten', repr(-10 ** 30)), ('number', repr(_law_begin))]
    refine sw_cons (s1_set 7 ndB rfl (.inl rfl) ?_)
    refine ew_lst ?_
    refine aw_cons ?_
    refine ew_tup ?_
    refine aw_cons ?_
    refine ew_str ?_
    refine aw_cons ?_
    refine ew_repr T.f_repr ?_
    refine aw_cons ?_
    refine ew_bin ?_
    refine ew_int ?_
    refine ew_int ?_
    refine od_pow ⟨by decide, by decide, by decide⟩ ?_
    refine aw_nil (cl_shn hr still shn_far ?_)
    refine aw_nil ⟨szl (Nat.le_of_ble_eq_true rfl), ?_⟩
    refine aw_cons ?_
    refine ew_tup ?_
    refine aw_cons ?_
    refine ew_str ?_
    refine aw_cons ?_
    refine ew_repr T.f_repr ?_
    refine aw_cons ?_
    refine ew_neg ?_
    refine ew_bin ?_
    refine ew_int ?_
    refine ew_int ?_
    refine od_pow ⟨by decide, by decide, by decide⟩ ?_
    refine ⟨_, rfl, ?_⟩
    refine aw_nil (cl_shn hr still shn_nfar ?_)
    refine aw_nil ⟨szl (Nat.le_of_ble_eq_true rfl), ?_⟩
    refine aw_cons ?_
    refine ew_tup ?_
    refine aw_cons ?_
    refine ew_str ?_
    refine aw_cons ?_
    refine ew_repr T.f_repr ?_
    refine aw_cons ?_
    refine ew_name 5 rfl (.inr (.inl rfl)) rfl ?_
    refine aw_nil (cl_shn hr still wg.sh ?_)
    refine aw_nil ⟨szl (Nat.le_of_ble_eq_true rfl), ?_⟩
    refine aw_nil ⟨szl (Nat.le_of_ble_eq_true rfl), ?_⟩
    -- if _law_heard_here != _law_due or 10 ** 30 not in _law_far or Store(Tiers((1, 10 ** 6 + 1)), 10 ** 6).patience != 10 ** 6:
    refine sw_cons (s1_if ?_)
    refine tw_w ?_
    refine ww_or ?_
    refine tw_cmp ?_
    refine ew_name 2 rfl (.inl rfl) rfl ?_
    refine ew_name 7 rfl (.inl rfl) rfl ?_
    refine od_neB hr.units okA okA (eqv_self okA) ?_
    refine isB ?_
    refine br_f ?_ --br
    refine ww_or ?_
    refine tw_cmp ?_
    refine ew_bin ?_
    refine ew_int ?_
    refine ew_int ?_
    refine od_pow ⟨by decide, by decide, by decide⟩ ?_
    refine ew_name 6 rfl (.inr (.inl rfl)) rfl ?_
    refine od_ninO (.none fun _ _ _ => False) ⟨T.m_Store_contains, T.fi_contains⟩ Gh Bh (hr.mono (by decide)) pF (.own _ (hy4 _ _ _ _ _ _)) ⟨y2, _, lf, 3, g2, _, rfl, ⟨hy4 _ _ _ _ _ _, lf_good⟩, g2_srt, isB ?_⟩
    rw [show hasM g2.lk (10 ^ Int.toNat 30) = true by kernel_rfl]
    refine isB ?_
    refine br_f ?_ --br
    refine ww_or1 ?_
    refine tw_cmp ?_
    refine ew_fld T.c_Store T.n_Store_patience ?_
    refine ew_makeO (dds := [.int 0]) (.none fun _ _ _ => False) T.k_Store Fs (hr.mono (by decide)) (by rfl) T.g_Store Bd Hd (fun _ _ => .cons (.int _) .nil) pF ?_
    refine aw_cons ?_
    refine ew_makeR (.none fun _ _ _ => False) T.k_Tiers (r_tiers T) (hr.mono (by decide)) (by rfl) T.g_Tiers pF ?_
    refine aw_cons ?_
    refine ew_tup ?_
    refine aw_cons ?_
    refine ew_int ?_
    refine aw_cons ?_
    refine ew_bin ?_
    refine ew_bin ?_
    refine ew_int ?_
    refine ew_int ?_
    refine od_pow ⟨by decide, by decide, by decide⟩ ?_
    refine ew_int ?_
    refine od_add ?_
    refine aw_nil ⟨szl (Nat.le_of_ble_eq_true rfl), ?_⟩
    refine aw_nil (fun yt => ⟨yt, l6, _, rfl, rfl, l6_good, rfl, _, _, rfl, ?_⟩)
    refine aw_cons ?_
    refine ew_bin ?_
    refine ew_int ?_
    refine ew_int ?_
    refine od_pow ⟨by decide, by decide, by decide⟩ ?_
    refine aw_nil (fun y3 => fs_ok l6_good (by decide +kernel) (by decide +kernel) (by decide +kernel) ⟨rfl, ?_⟩)
    refine ⟨_, .own 0 rfl rfl, ?_⟩
    refine ew_bin ?_
    refine ew_int ?_
    refine ew_int ?_
    refine od_pow ⟨by decide, by decide, by decide⟩ ?_
    refine od_neB (b := true) hr.units (by decide +kernel) (by decide +kernel) (by kernel_rfl) ?_
    refine isB ?_
    refine br_f (sw_nil ?_)
    refine sw_drop ?_
    obtain ⟨tyo, ty1, ty2⟩ : ∃ ty : Value, (∀ cs, TyD K odd cs ty) ∧ PySem.W.kitOne K ty (.ref (CT K)) = some false := ty_odd2 T hodd
    -- _law_heard_here = [_law_heard(lambda: Store(_law_odd, _law_bad, _law_bad))]
    refine sw_cons (s1_set 2 ndB rfl (.inl rfl) ?_)
    refine ew_lstO 4 ?_
    refine aw_cons ?_
    refine ew_h (kk := 9) T TB rfl (by rfl) rfl (j := 3) rfl (hr.mono (by decide)) (hr.mono (by decide)) still (LamX.lamS_by (sc := scB) (by decide +kernel)) rfl (fun _ _ _ _ _ => rfl) fun A' outer' s' H' Hb E' f c' Ex hr' hnu hst hun hyt hfg hno => ?_
    refine ew_makeO (dds := []) .same T.k_Store Fs (hr'.mono (by decide)) (by rfl) T.g_Store B0 .nil (fun _ _ => .nil) pLaB ?_
    refine aw_cons ?_
    refine ew_name 3 rfl (.inr (.inr rfl)) rfl ?_
    refine aw_cons ?_
    refine ew_name 4 rfl (.inr (.inr rfl)) rfl ?_
    refine aw_cons ?_
    refine ew_name 4 rfl (.inr (.inr rfl)) rfl ?_
    refine aw_nil (fun y3 => fs_badt wb.pl wb.pl (ty1 _) ty2 ⟨_, _, rfl, hst _ [] (shn_w (by simp)) ?_⟩)
    --heard
    refine aw_nil ⟨szl (Nat.le_of_ble_eq_true rfl), fun yl2 => ?_⟩
    -- _law_heard_here.append(_law_heard(lambda: Store(Tiers((1, 5)), _law_bad, 10 ** 31)))
    refine sw_cons (s1_expr ?_)
    refine ew_append ?_
    refine ew_name 2 rfl (.inl rfl) rfl ?_
    refine ⟨yl2, 4, _, rfl, rfl, ?_⟩
    refine ew_h (kk := 9) T TB rfl (by rfl) rfl (j := 3) rfl (hr.mono (by decide)) (hr.mono (by decide)) still (LamX.lamS_by (sc := scB) (by decide +kernel)) rfl (fun _ _ _ _ _ => rfl) fun A' outer' s' H' Hb E' f c' Ex hr' hnu hst hun hyt hfg hno => ?_
    refine ew_makeO (dds := []) .same T.k_Store Fs (hr'.mono (by decide)) (by rfl) T.g_Store B0 .nil (fun _ _ => .nil) pLaB ?_
    refine aw_cons ?_
    refine ew_makeR .same T.k_Tiers (r_tiers T) (hr'.mono (by decide)) (by rfl) T.g_Tiers pLaB ?_
    refine aw_cons ?_
    refine ew_tup ?_
    refine aw_cons ?_
    refine ew_int ?_
    refine aw_cons ?_
    refine ew_int ?_
    refine aw_nil ⟨szl (Nat.le_of_ble_eq_true rfl), ?_⟩
    refine aw_nil (fun yt => ⟨yt, l5, _, rfl, rfl, l5_good, rfl, _, _, rfl, ?_⟩)
    refine aw_cons ?_
    refine ew_name 4 rfl (.inr (.inr rfl)) rfl ?_
    refine aw_cons ?_
    refine ew_bin ?_
    refine ew_int ?_
    refine ew_int ?_
    refine od_pow ⟨by decide, by decide, by decide⟩ ?_
    refine aw_nil (fun y3 => fs_badp l5_good wb.pl trivial wb.r ⟨_, _, rfl, hnu _ [] wb.sh ?_⟩)
    --heard
    refine ⟨4, _, rfl, szl (Nat.le_of_ble_eq_true rfl), ?_⟩
    -- _law_heard_here.append(_law_heard(lambda: Store(Tiers((1, 5)), 5, 10 ** 31)))
    refine sw_cons (s1_expr ?_)
    refine ew_append ?_
    refine ew_name 2 rfl (.inl rfl) rfl ?_
    refine ⟨yl2, 4, _, rfl, rfl, ?_⟩
    refine ew_h (kk := 9) T TB rfl (by rfl) rfl (j := 3) rfl (hr.mono (by decide)) (hr.mono (by decide)) still (LamX.lamS_by (sc := scB) (by decide +kernel)) rfl (fun _ _ _ _ _ => rfl) fun A' outer' s' H' Hb E' f c' Ex hr' hnu hst hun hyt hfg hno => ?_
    refine ew_makeO (dds := []) .same T.k_Store Fs (hr'.mono (by decide)) (by rfl) T.g_Store B0 .nil (fun _ _ => .nil) pLaB ?_
    refine aw_cons ?_
    refine ew_makeR .same T.k_Tiers (r_tiers T) (hr'.mono (by decide)) (by rfl) T.g_Tiers pLaB ?_
    refine aw_cons ?_
    refine ew_tup ?_
    refine aw_cons ?_
    refine ew_int ?_
    refine aw_cons ?_
    refine ew_int ?_
    refine aw_nil ⟨szl (Nat.le_of_ble_eq_true rfl), ?_⟩
    refine aw_nil (fun yt => ⟨yt, l5, _, rfl, rfl, l5_good, rfl, _, _, rfl, ?_⟩)
    refine aw_cons ?_
    refine ew_int ?_
    refine aw_cons ?_
    refine ew_bin ?_
    refine ew_int ?_
    refine ew_int ?_
    refine od_pow ⟨by decide, by decide, by decide⟩ ?_
    refine aw_nil (fun y3 => fs_badb l5_good (by decide +kernel) trivial (by decide +kernel) ⟨_, _, rfl, hnu _ [] shn_31 ?_⟩)
    --heard
    refine ⟨4, _, rfl, szl (Nat.le_of_ble_eq_true rfl), ?_⟩
    -- _law_heard_here.append(_law_heard(lambda: Store(Tiers((1, 5)), 5, 0)))
    refine sw_cons (s1_expr ?_)
    refine ew_append ?_
    refine ew_name 2 rfl (.inl rfl) rfl ?_
    refine ⟨yl2, 4, _, rfl, rfl, ?_⟩
    refine ew_h (kk := 9) T TB rfl (by rfl) rfl (j := 3) rfl (hr.mono (by decide)) (hr.mono (by decide)) still (LamX.lamS_by (sc := scB) (by decide +kernel)) rfl (fun _ _ _ _ _ => rfl) fun A' outer' s' H' Hb E' f c' Ex hr' hnu hst hun hyt hfg hno => ?_
    refine ew_makeO (dds := []) .same T.k_Store Fs (hr'.mono (by decide)) (by rfl) T.g_Store B0 .nil (fun _ _ => .nil) pLaB ?_
    refine aw_cons ?_
    refine ew_makeR .same T.k_Tiers (r_tiers T) (hr'.mono (by decide)) (by rfl) T.g_Tiers pLaB ?_
    refine aw_cons ?_
    refine ew_tup ?_
    refine aw_cons ?_
    refine ew_int ?_
    refine aw_cons ?_
    refine ew_int ?_
    refine aw_nil ⟨szl (Nat.le_of_ble_eq_true rfl), ?_⟩
    refine aw_nil (fun yt => ⟨yt, l5, _, rfl, rfl, l5_good, rfl, _, _, rfl, ?_⟩)
    refine aw_cons ?_
    refine ew_int ?_
    refine aw_cons ?_
    refine ew_int ?_
    refine aw_nil (fun y3 => fs_pat l5_good (by decide +kernel) (by decide +kernel) (by decide +kernel) ⟨_, _, rfl, hst _ [] (shn_w (by simp)) ?_⟩)
    --heard
    refine ⟨4, _, rfl, szl (Nat.le_of_ble_eq_true rfl), ?_⟩
    have okB : (D.lst [ans "store" (.str "tiers"), ans "number" bad, ans "number" (.int (10 ^ 31)), ans "store" (.str "patience")]).ok = true := tm_ok (n := 3) (by
      show D.tmL [ans "store" (.str "tiers"), ans "number" bad, ans "number" (.int (10 ^ 31)), ans "store" (.str "patience")] 2 = true
      simp only [D.tmL, tm_far.2.2.1, tm_far.2.2.2.1, tm_far.2.2.2.2, wb.tm, Bool.and_self]) (by decide)
    refine sw_freeze 4 2 rfl rfl ?_
    -- _law_due = [('store', repr('tiers')), ('number', repr(_law_bad)), ('number', repr(10 ** 31)), ('store', repr('patience'))]
    refine sw_cons (s1_set 7 ndB rfl (.inl rfl) ?_)
    refine ew_lst ?_
    refine aw_cons ?_
    refine ew_tup ?_
    refine aw_cons ?_
    refine ew_str ?_
    refine aw_cons ?_
    refine ew_repr T.f_repr ?_
    refine aw_cons ?_
    refine ew_str ?_
    refine aw_nil (cl_shn hr still (shn_w (by simp)) ?_)
    refine aw_nil ⟨szl (Nat.le_of_ble_eq_true rfl), ?_⟩
    refine aw_cons ?_
    refine ew_tup ?_
    refine aw_cons ?_
    refine ew_str ?_
    refine aw_cons ?_
    refine ew_repr T.f_repr ?_
    refine aw_cons ?_
    refine ew_name 4 rfl (.inr (.inl rfl)) rfl ?_
    refine aw_nil (cl_shn hr still wb.sh ?_)
    refine aw_nil ⟨szl (Nat.le_of_ble_eq_true rfl), ?_⟩
    refine aw_cons ?_
    refine ew_tup ?_
    refine aw_cons ?_
    refine ew_str ?_
    refine aw_cons ?_
    refine ew_repr T.f_repr ?_
    refine aw_cons ?_
    refine ew_bin ?_
    refine ew_int ?_
    refine ew_int ?_
    refine od_pow ⟨by decide, by decide, by decide⟩ ?_
    refine aw_nil (cl_shn hr still shn_31 ?_)
    refine aw_nil ⟨szl (Nat.le_of_ble_eq_true rfl), ?_⟩
    refine aw_cons ?_
    refine ew_tup ?_
    refine aw_cons ?_
    refine ew_str ?_
    refine aw_cons ?_
    refine ew_repr T.f_repr ?_
    refine aw_cons ?_
    refine ew_str ?_
    refine aw_nil (cl_shn hr still (shn_w (by simp)) ?_)
    refine aw_nil ⟨szl (Nat.le_of_ble_eq_true rfl), ?_⟩
    refine aw_nil ⟨szl (Nat.le_of_ble_eq_true rfl), ?_⟩
    -- return _law_heard_here == _law_due and Store(Tiers((1, 5)), 4).patience == 4
    refine sw_cons (s1_ret ?_)
    refine ew_and ?_
    refine ew_cmp ?_
    refine ew_name 2 rfl (.inl rfl) rfl ?_
    refine ew_name 7 rfl (.inl rfl) rfl ?_
    refine od_eqB hr.units okB okB (eqv_self okB) ?_
    refine isB (br_t ?_) --br
    refine ew_one ?_
    refine ew_cmp ?_
    refine ew_fld T.c_Store T.n_Store_patience ?_
    refine ew_makeO (dds := [.int 0]) (.none fun _ _ _ => False) T.k_Store Fs (hr.mono (by decide)) (by rfl) T.g_Store Bd Hd (fun _ _ => .cons (.int _) .nil) pF ?_
    refine aw_cons ?_
    refine ew_makeR (.none fun _ _ _ => False) T.k_Tiers (r_tiers T) (hr.mono (by decide)) (by rfl) T.g_Tiers pF ?_
    refine aw_cons ?_
    refine ew_tup ?_
    refine aw_cons ?_
    refine ew_int ?_
    refine aw_cons ?_
    refine ew_int ?_
    refine aw_nil ⟨szl (Nat.le_of_ble_eq_true rfl), ?_⟩
    refine aw_nil (fun yt => ⟨yt, l5, _, rfl, rfl, l5_good, rfl, _, _, rfl, ?_⟩)
    refine aw_cons ?_
    refine ew_int ?_
    refine aw_nil (fun y3 => fs_ok l5_good (by decide +kernel) (by decide +kernel) (by decide +kernel) ⟨rfl, ?_⟩)
    refine ⟨_, .own 0 rfl rfl, ?_⟩
    refine ew_int ?_
    refine od_eqB (b := true) hr.units (by decide +kernel) (by decide +kernel) (by kernel_rfl) ?_
    have h := h (y3, Cell.ins (CSo K) (soF K l5 4 ⟨0, [], [], 10 ^ 30⟩)) [(y2, Cell.ins (CSo K) (soF K lf 3 g2))]
    rw [show z0 + 4 = z0 + 1 + 1 + 1 + 1 by omega] at h
    exact h
end
end K41
set_option Elab.async false
set_option linter.all false
set_option maxRecDepth 100000
set_option maxHeartbeats 4000000
namespace K41
open PySem PySem.Spec PyProof.Rows L2 Sx
local macro_rules | `(tactic| walk_at "c") => `(tactic| first
  | refine aw_cons ?_ | refine aw_nil ?_
  | refine ew_int ?_ | refine ew_non ?_ | refine ew_bl ?_ | refine ew_str ?_
  | refine ew_bin ?_ | refine ew_cmp ?_ | refine tw_cmp ?_ | refine tw_not ?_ | refine ew_chain ?_ | refine tw_chain ?_ | refine ew_and ?_ | refine ew_or ?_ | refine ew_one ?_ | refine ew_not ?_ | refine ew_neg ?_ | refine ew_if ?_
  | refine tw_w (ww_and ?_) | refine tw_w (ww_or ?_) | refine ww_and ?_ | refine ww_or ?_ | refine ww_and1 ?_ | refine ww_or1 ?_
  | refine tw_val (e := .Call _ _ _ _) ?_ | refine ew_tup ?_ | refine ew_ix ?_ | refine ew_lst ?_
  | refine sw_cons ?_ | refine s1_ret ?_ | refine s1_if ?_ | refine sw_nil ?_ | refine s1_expr ?_
  | refine od_add ?_ | refine od_sub ?_ | refine od_lt ?_ | refine od_le ?_ | refine od_gt ?_ | refine od_ge ?_
  | refine isB ?_ | refine intD ?_ | refine br_t ?_ | refine br_f ?_
  | refine ⟨szl (Nat.le_of_ble_eq_true rfl), ?_⟩)
local macro_rules | `(tactic| walk_at "n") => `(tactic| first
  | refine ew_name 0 rfl (by first | exact .inl rfl | exact .inr (.inl rfl) | exact .inr (.inr rfl)) rfl ?_
  | refine ew_name 1 rfl (by first | exact .inl rfl | exact .inr (.inl rfl) | exact .inr (.inr rfl)) rfl ?_
  | refine ew_name 2 rfl (by first | exact .inl rfl | exact .inr (.inl rfl) | exact .inr (.inr rfl)) rfl ?_
  | refine ew_name 3 rfl (by first | exact .inl rfl | exact .inr (.inl rfl) | exact .inr (.inr rfl)) rfl ?_
  | refine ew_name 4 rfl (by first | exact .inl rfl | exact .inr (.inl rfl) | exact .inr (.inr rfl)) rfl ?_
  | refine ew_name 5 rfl (by first | exact .inl rfl | exact .inr (.inl rfl) | exact .inr (.inr rfl)) rfl ?_
  | refine ew_name 6 rfl (by first | exact .inl rfl | exact .inr (.inl rfl) | exact .inr (.inr rfl)) rfl ?_
  | refine ew_name 7 rfl (by first | exact .inl rfl | exact .inr (.inl rfl) | exact .inr (.inr rfl)) rfl ?_
  | refine ew_name 8 rfl (by first | exact .inl rfl | exact .inr (.inl rfl) | exact .inr (.inr rfl)) rfl ?_
  | refine ew_name 9 rfl (by first | exact .inl rfl | exact .inr (.inl rfl) | exact .inr (.inr rfl)) rfl ?_
  | refine ew_name 10 rfl (by first | exact .inl rfl | exact .inr (.inl rfl) | exact .inr (.inr rfl)) rfl ?_
  | refine ew_name 11 rfl (by first | exact .inl rfl | exact .inr (.inl rfl) | exact .inr (.inr rfl)) rfl ?_
  | refine ew_name 12 rfl (by first | exact .inl rfl | exact .inr (.inl rfl) | exact .inr (.inr rfl)) rfl ?_)
local macro_rules | `(tactic| walk_at "i") => `(tactic| (refine' cl_isi (.ty _) ?a ?b ?_; (case a => constructor); (case b => with_reducible first | exact kit_int_int | exact kit_int_bool | exact kit_bool_int | exact kit_bool_bool | exact kit_NoneType_int | exact kit_str_int | exact kit_list_int | exact kit_tuple_int | exact kit_dict_int | exact kit_tuple_tuple | exact kit_int_tuple | exact kit_NoneType_tuple | exact kit_bool_tuple | exact kit_str_tuple | exact kit_list_tuple | exact kit_dict_tuple)))
local macro_rules | `(tactic| walk_at "l") => `(tactic| first
  | refine ew_isinstance (Tx.f_isinstance (by assumption)) ?_ | refine ew_len (Tx.f_len (by assumption)) ?_ | refine ew_vint (Tx.f_int (by assumption)) ?_ | refine ew_vbool (Tx.f_bool (by assumption)) ?_ | refine ew_vtuple (Tx.f_tuple (by assumption)) ?_ | refine ew_vstr (Tx.f_str (by assumption)) ?_
  | refine ew_gint (Tx.i_FAR (by assumption)) (by rfl) ?_ | refine ew_gint (Tx.i_FAR_TALLY (by assumption)) (by rfl) ?_ | refine ew_gint (Tx.i_MOST_PATIENCE (by assumption)) (by rfl) ?_ | refine ew_gint (Tx.i_MOST_LIFE (by assumption)) (by rfl) ?_ | refine ew_gint (Tx.i_MOST_PAIRS (by assumption)) (by rfl) ?_ | refine ew_gint (Tx.i_MOST_WIDTH (by assumption)) (by rfl) ?_ | refine ew_gint (Tx.i_MOST_KEEP (by assumption)) (by rfl) ?_
  | refine cl_len ?_ | refine cl_lenT ?_ | refine ix_tpl rfl ?_ | refine od_is (by intro _ h; cases h) ?_)
local macro_rules | `(tactic| walk_at "x") => `(tactic| repeat (first | walk_at "c" | walk_at "n" | walk_at "l" | walk_at "i"))
abbrev scR : Scope := defScope s_law_looks_right
def qL : Str := (envOfC "_law_looks_right" scR 0 0 .none).qual ++ "<lambda>"
def NR : List Str := ["_law_pen_here", "_law_store", "_law_far", "_law_rows", "_law_spot", "_law_due", "_law_then", "_law_heard_here", "_law_look"]
theorem ndR : NR.Nodup := by decide +kernel
def bodyR (i : Nat) : List Stmt := (defBody s_law_looks_right).drop i
section
variable {P : Program} {w : World} {K : PySem.W.Frag} {mg : Str → Option Value} {base : Heap}
abbrev XRi (P : Program) (w : World) (K : PySem.W.Frag) (mg : Str → Option Value) (base : Heap) (c : Addr) (A : Around) (outer : List Env) (s : Shared) (H : Hp) (E : XK) : Cx := cxOf (L2.CX P w) P w K mg base NR "_law_looks_right" scR (He.ga K "_law_looks_right") (.ref c) A outer s H E
theorem pLaR {c : Addr} {A : Around} {outer : List Env} {s : Shared} {H : Hp} {E : XK} {A' : Around} {outer' : List Env} {s' : Shared} {H' : Hp} {E' : XK} {scope : Scope} {f c' : Addr} : Passes (L2.CX P w) (LamX.lamCx (XRi P w K mg base c A outer s H E) A' outer' s' H' E' scope f c') E' := passes_call (X := LamX.lamCx (XRi P w K mg base c A outer s H E) A' outer' s' H' E' scope f c') (takes_of rfl rfl rfl rfl) fun _ _ _ _ h => h
def F_looks (Pa : Addr) : FT := fun ds cs Kk _ => ∃ p qs z0 c1 cs1, ds = [.own p] ∧ cs = (p, Cell.pen qs z0) :: c1 :: (Pa, Cell.tab qL) :: cs1 ∧ z0 < 90000 ∧ ∀ ex, Kk (.bl true) ((p, Cell.pen qs (z0 + 2)) :: c1 :: (Pa, Cell.tab qL) :: (cs1 ++ ex))
theorem x_looks {Pa : Addr} (T : Tx K mg) (TB : LamX.TabB base mg (He.codeOf K ("_law_looks_right", none)) Pa) : DfnG P w K mg base (L2.CX P w) 12 "_law_looks_right" ["_law_pen_here"] (spF (F_looks Pa)) := by
  obtain ⟨fp, _, Fp, Bp, _, _⟩ := g_put (P := P) (w := w) (base := base) T (Nat.le_refl 8) (d_chk T)
  have Rp : FnR P w K mg base (L2.CX P w) 9 (He.ma K (CSo K) "put") (spF (F_put K)) := (Fp.raw Bp .nil).imp fun vs H Q E h => by rw [List.append_nil]; exact h
  obtain ⟨fi, Fi, Bi⟩ := i_iter (P := P) (w := w) (base := base) T
  obtain ⟨fl, ul, Fl, Bl3, Bl2, Hl, _, Bk⟩ := f_look (P := P) (w := w) (base := base) T
  obtain ⟨fe, Fe, Be⟩ := g_leq (P := P) (w := w) (base := base) T
  obtain ⟨fn, Gl, Bl⟩ := (m_len (P := P) (w := w) (base := base) T).ok
  have lk6 : (staF K mk6).lookup ("looks" : Str) = some (.tup (mk6.lk.map (lkD K))) := rfl
  have lk7 : (staF K mk7).lookup ("looks" : Str) = some (.tup (mk7.lk.map (lkD K))) := rfl
  refine dfnGT T.q_law_looks_right T.g_law_looks_right (N := NR) ⟨rfl, rfl, rfl, ndR, rfl, by decide +kernel, by decide +kernel⟩ (fun kV doc pm an cdv ct => Vls.bind1 fun a => rfl) (fun ds cs Kk KE h => ?_) TB rfl (fun c TB A outer s H E ds cs Kk KE hr still h => ?_)
  · obtain ⟨_, _, _, _, _, rfl, _⟩ := h
    rfl
  · obtain ⟨p, qs, z0, c1, cs1, rfl, rfl, hz, h⟩ := h
    -- _law_store, _law_far = (_law_made(), _law_draw(_law_pen_here, 99))
    refine sw_cons (s1_asg (vs := [1, 2]) ?_)
    refine ew_tup ?_
    refine aw_cons ?_
    refine ew_call0 (.none fun _ _ _ => False) (x_made T (d_chk T)) (hr.mono (by decide)) (by rfl) pF ?_
    refine ⟨rfl, fun y => ?_⟩
    refine aw_cons ?_
    refine ew_call (.none fun _ _ _ => False) (x_draw T) (hr.mono (by decide)) (by rfl) pass0 ?_
    refine aw_cons ?_
    refine ew_name 0 rfl (.inl rfl) rfl ?_
    refine aw_cons ?_
    refine ew_int ?_
    refine aw_nil ⟨p, qs, z0, _, _, rfl, rfl, by omega, by simp, by simp, fun far f0 f1 => ?_⟩
    refine aw_nil ⟨szl (Nat.le_of_ble_eq_true rfl), ?_⟩
    refine tg_tup rfl (tgs_cons (tg_name 1 ndR rfl (.inr rfl) (tgs_cons (tg_name 2 ndR rfl (.inl rfl) (tgs_nil ?_)))))
    -- _law_rows = [((101 + _law_far, 9, 0), ('store', repr('ahead'))), ((91 - _law_far, 9, 1), ('store', repr('late'))), ((95, 9, 0), ('unlike', repr('look'
    refine sw_cons (s1_set 3 ndR rfl (.inl rfl) ?_)
    refine ew_lst ?_
    refine aw_cons ?_
    refine ew_tup ?_
    refine aw_cons ?_
    refine ew_tup ?_
    refine aw_cons ?_
    refine ew_bin ?_
    refine ew_int ?_
    refine ew_name 2 rfl (.inl rfl) rfl ?_
    refine od_add ?_
    refine aw_cons ?_
    refine ew_int ?_
    refine aw_cons ?_
    refine ew_int ?_
    refine aw_nil ⟨szl (Nat.le_of_ble_eq_true rfl), ?_⟩
    refine aw_cons ?_
    refine ew_tup ?_
    refine aw_cons ?_
    refine ew_str ?_
    refine aw_cons ?_
    refine ew_repr T.f_repr ?_
    refine aw_cons ?_
    refine ew_str ?_
    refine aw_nil (cl_shn hr still (shn_w (by simp)) ?_)
    refine aw_nil ⟨szl (Nat.le_of_ble_eq_true rfl), ?_⟩
    refine aw_nil ⟨szl (Nat.le_of_ble_eq_true rfl), ?_⟩
    refine aw_cons ?_
    refine ew_tup ?_
    refine aw_cons ?_
    refine ew_tup ?_
    refine aw_cons ?_
    refine ew_bin ?_
    refine ew_int ?_
    refine ew_name 2 rfl (.inl rfl) rfl ?_
    refine od_sub ?_
    refine aw_cons ?_
    refine ew_int ?_
    refine aw_cons ?_
    refine ew_int ?_
    refine aw_nil ⟨szl (Nat.le_of_ble_eq_true rfl), ?_⟩
    refine aw_cons ?_
    refine ew_tup ?_
    refine aw_cons ?_
    refine ew_str ?_
    refine aw_cons ?_
    refine ew_repr T.f_repr ?_
    refine aw_cons ?_
    refine ew_str ?_
    refine aw_nil (cl_shn hr still (shn_w (by simp)) ?_)
    refine aw_nil ⟨szl (Nat.le_of_ble_eq_true rfl), ?_⟩
    refine aw_nil ⟨szl (Nat.le_of_ble_eq_true rfl), ?_⟩
    refine aw_cons ?_
    refine ew_tup ?_
    refine aw_cons ?_
    refine ew_tup ?_
    refine aw_cons ?_
    refine ew_int ?_
    refine aw_cons ?_
    refine ew_int ?_
    refine aw_cons ?_
    refine ew_int ?_
    refine aw_nil ⟨szl (Nat.le_of_ble_eq_true rfl), ?_⟩
    refine aw_cons ?_
    refine ew_tup ?_
    refine aw_cons ?_
    refine ew_str ?_
    refine aw_cons ?_
    refine ew_repr T.f_repr ?_
    refine aw_cons ?_
    refine ew_str ?_
    refine aw_nil (cl_shn hr still (shn_w (by simp)) ?_)
    refine aw_nil ⟨szl (Nat.le_of_ble_eq_true rfl), ?_⟩
    refine aw_nil ⟨szl (Nat.le_of_ble_eq_true rfl), ?_⟩
    refine aw_nil ⟨szl (Nat.le_of_ble_eq_true rfl), ?_⟩
    -- _law_rows = _law_rows + [((95, 8, 1), ('unlike', repr('look'))), ((98, 3, 0), ('store', repr('life'))), ((94, 6, 1), ('store', repr('life')))]
    refine sw_cons (s1_set 3 ndR rfl (.inl rfl) ?_)
    refine ew_bin ?_
    refine ew_name 3 rfl (.inl rfl) rfl ?_
    refine ew_lst ?_
    refine aw_cons ?_
    refine ew_tup ?_
    refine aw_cons ?_
    refine ew_tup ?_
    refine aw_cons ?_
    refine ew_int ?_
    refine aw_cons ?_
    refine ew_int ?_
    refine aw_cons ?_
    refine ew_int ?_
    refine aw_nil ⟨szl (Nat.le_of_ble_eq_true rfl), ?_⟩
    refine aw_cons ?_
    refine ew_tup ?_
    refine aw_cons ?_
    refine ew_str ?_
    refine aw_cons ?_
    refine ew_repr T.f_repr ?_
    refine aw_cons ?_
    refine ew_str ?_
    refine aw_nil (cl_shn hr still (shn_w (by simp)) ?_)
    refine aw_nil ⟨szl (Nat.le_of_ble_eq_true rfl), ?_⟩
    refine aw_nil ⟨szl (Nat.le_of_ble_eq_true rfl), ?_⟩
    refine aw_cons ?_
    refine ew_tup ?_
    refine aw_cons ?_
    refine ew_tup ?_
    refine aw_cons ?_
    refine ew_int ?_
    refine aw_cons ?_
    refine ew_int ?_
    refine aw_cons ?_
    refine ew_int ?_
    refine aw_nil ⟨szl (Nat.le_of_ble_eq_true rfl), ?_⟩
    refine aw_cons ?_
    refine ew_tup ?_
    refine aw_cons ?_
    refine ew_str ?_
    refine aw_cons ?_
    refine ew_repr T.f_repr ?_
    refine aw_cons ?_
    refine ew_str ?_
    refine aw_nil (cl_shn hr still (shn_w (by simp)) ?_)
    refine aw_nil ⟨szl (Nat.le_of_ble_eq_true rfl), ?_⟩
    refine aw_nil ⟨szl (Nat.le_of_ble_eq_true rfl), ?_⟩
    refine aw_cons ?_
    refine ew_tup ?_
    refine aw_cons ?_
    refine ew_tup ?_
    refine aw_cons ?_
    refine ew_int ?_
    refine aw_cons ?_
    refine ew_int ?_
    refine aw_cons ?_
    refine ew_int ?_
    refine aw_nil ⟨szl (Nat.le_of_ble_eq_true rfl), ?_⟩
    refine aw_cons ?_
    refine ew_tup ?_
    refine aw_cons ?_
    refine ew_str ?_
    refine aw_cons ?_
    refine ew_repr T.f_repr ?_
    refine aw_cons ?_
    refine ew_str ?_
    refine aw_nil (cl_shn hr still (shn_w (by simp)) ?_)
    refine aw_nil ⟨szl (Nat.le_of_ble_eq_true rfl), ?_⟩
    refine aw_nil ⟨szl (Nat.le_of_ble_eq_true rfl), ?_⟩
    refine aw_nil ⟨szl (Nat.le_of_ble_eq_true rfl), ?_⟩
    refine od_cat (szl (Nat.le_of_ble_eq_true rfl)) ?_
    -- _law_rows = _law_rows + [((94, 4, 0), ('store', repr('tally'))), ((94, 9, 0), ('store', repr('tally'))), ((98, 7, 1), ('store', repr('tally')))]
    refine sw_cons (s1_set 3 ndR rfl (.inl rfl) ?_)
    refine ew_bin ?_
    refine ew_name 3 rfl (.inl rfl) rfl ?_
    refine ew_lst ?_
    refine aw_cons ?_
    refine ew_tup ?_
    refine aw_cons ?_
    refine ew_tup ?_
    refine aw_cons ?_
    refine ew_int ?_
    refine aw_cons ?_
    refine ew_int ?_
    refine aw_cons ?_
    refine ew_int ?_
    refine aw_nil ⟨szl (Nat.le_of_ble_eq_true rfl), ?_⟩
    refine aw_cons ?_
    refine ew_tup ?_
    refine aw_cons ?_
    refine ew_str ?_
    refine aw_cons ?_
    refine ew_repr T.f_repr ?_
    refine aw_cons ?_
    refine ew_str ?_
    refine aw_nil (cl_shn hr still (shn_w (by simp)) ?_)
    refine aw_nil ⟨szl (Nat.le_of_ble_eq_true rfl), ?_⟩
    refine aw_nil ⟨szl (Nat.le_of_ble_eq_true rfl), ?_⟩
    refine aw_cons ?_
    refine ew_tup ?_
    refine aw_cons ?_
    refine ew_tup ?_
    refine aw_cons ?_
    refine ew_int ?_
    refine aw_cons ?_
    refine ew_int ?_
    refine aw_cons ?_
    refine ew_int ?_
    refine aw_nil ⟨szl (Nat.le_of_ble_eq_true rfl), ?_⟩
    refine aw_cons ?_
    refine ew_tup ?_
    refine aw_cons ?_
    refine ew_str ?_
    refine aw_cons ?_
    refine ew_repr T.f_repr ?_
    refine aw_cons ?_
    refine ew_str ?_
    refine aw_nil (cl_shn hr still (shn_w (by simp)) ?_)
    refine aw_nil ⟨szl (Nat.le_of_ble_eq_true rfl), ?_⟩
    refine aw_nil ⟨szl (Nat.le_of_ble_eq_true rfl), ?_⟩
    refine aw_cons ?_
    refine ew_tup ?_
    refine aw_cons ?_
    refine ew_tup ?_
    refine aw_cons ?_
    refine ew_int ?_
    refine aw_cons ?_
    refine ew_int ?_
    refine aw_cons ?_
    refine ew_int ?_
    refine aw_nil ⟨szl (Nat.le_of_ble_eq_true rfl), ?_⟩
    refine aw_cons ?_
    refine ew_tup ?_
    refine aw_cons ?_
    refine ew_str ?_
    refine aw_cons ?_
    refine ew_repr T.f_repr ?_
    refine aw_cons ?_
    refine ew_str ?_
    refine aw_nil (cl_shn hr still (shn_w (by simp)) ?_)
    refine aw_nil ⟨szl (Nat.le_of_ble_eq_true rfl), ?_⟩
    refine aw_nil ⟨szl (Nat.le_of_ble_eq_true rfl), ?_⟩
    refine aw_nil ⟨szl (Nat.le_of_ble_eq_true rfl), ?_⟩
    refine od_cat (szl (Nat.le_of_ble_eq_true rfl)) ?_
    -- _law_rows = _law_rows + [((96, 7, 0), ('store', repr('tally'))), ((96, 3, 1), ('store', repr('tally'))), ((98, 1, 2), ('store', repr('life')))]
    refine sw_cons (s1_set 3 ndR rfl (.inl rfl) ?_)
    refine ew_bin ?_
    refine ew_name 3 rfl (.inl rfl) rfl ?_
    refine ew_lst ?_
    refine aw_cons ?_
    refine ew_tup ?_
    refine aw_cons ?_
    refine ew_tup ?_
    refine aw_cons ?_
    refine ew_int ?_
    refine aw_cons ?_
    refine ew_int ?_
    refine aw_cons ?_
    refine ew_int ?_
    refine aw_nil ⟨szl (Nat.le_of_ble_eq_true rfl), ?_⟩
    refine aw_cons ?_
    refine ew_tup ?_
    refine aw_cons ?_
    refine ew_str ?_
    refine aw_cons ?_
    refine ew_repr T.f_repr ?_
    refine aw_cons ?_
    refine ew_str ?_
    refine aw_nil (cl_shn hr still (shn_w (by simp)) ?_)
    refine aw_nil ⟨szl (Nat.le_of_ble_eq_true rfl), ?_⟩
    refine aw_nil ⟨szl (Nat.le_of_ble_eq_true rfl), ?_⟩
    refine aw_cons ?_
    refine ew_tup ?_
    refine aw_cons ?_
    refine ew_tup ?_
    refine aw_cons ?_
    refine ew_int ?_
    refine aw_cons ?_
    refine ew_int ?_
    refine aw_cons ?_
    refine ew_int ?_
    refine aw_nil ⟨szl (Nat.le_of_ble_eq_true rfl), ?_⟩
    refine aw_cons ?_
    refine ew_tup ?_
    refine aw_cons ?_
    refine ew_str ?_
    refine aw_cons ?_
    refine ew_repr T.f_repr ?_
    refine aw_cons ?_
    refine ew_str ?_
    refine aw_nil (cl_shn hr still (shn_w (by simp)) ?_)
    refine aw_nil ⟨szl (Nat.le_of_ble_eq_true rfl), ?_⟩
    refine aw_nil ⟨szl (Nat.le_of_ble_eq_true rfl), ?_⟩
    refine aw_cons ?_
    refine ew_tup ?_
    refine aw_cons ?_
    refine ew_tup ?_
    refine aw_cons ?_
    refine ew_int ?_
    refine aw_cons ?_
    refine ew_int ?_
    refine aw_cons ?_
    refine ew_int ?_
    refine aw_nil ⟨szl (Nat.le_of_ble_eq_true rfl), ?_⟩
    refine aw_cons ?_
    refine ew_tup ?_
    refine aw_cons ?_
    refine ew_str ?_
    refine aw_cons ?_
    refine ew_repr T.f_repr ?_
    refine aw_cons ?_
    refine ew_str ?_
    refine aw_nil (cl_shn hr still (shn_w (by simp)) ?_)
    refine aw_nil ⟨szl (Nat.le_of_ble_eq_true rfl), ?_⟩
    refine aw_nil ⟨szl (Nat.le_of_ble_eq_true rfl), ?_⟩
    refine aw_nil ⟨szl (Nat.le_of_ble_eq_true rfl), ?_⟩
    refine od_cat (szl (Nat.le_of_ble_eq_true rfl)) ?_
    -- _law_rows = _law_rows + [((95, 8, 0), [None]), ((100, 6, 1), [None])]
    refine sw_cons (s1_set 3 ndR rfl (.inl rfl) ?_)
    refine ew_bin ?_
    refine ew_name 3 rfl (.inl rfl) rfl ?_
    refine ew_lst ?_
    refine aw_cons ?_
    refine ew_tup ?_
    refine aw_cons ?_
    refine ew_tup ?_
    refine aw_cons ?_
    refine ew_int ?_
    refine aw_cons ?_
    refine ew_int ?_
    refine aw_cons ?_
    refine ew_int ?_
    refine aw_nil ⟨szl (Nat.le_of_ble_eq_true rfl), ?_⟩
    refine aw_cons ?_
    refine ew_lst ?_
    refine aw_cons ?_
    refine ew_non ?_
    refine aw_nil ⟨szl (Nat.le_of_ble_eq_true rfl), ?_⟩
    refine aw_nil ⟨szl (Nat.le_of_ble_eq_true rfl), ?_⟩
    refine aw_cons ?_
    refine ew_tup ?_
    refine aw_cons ?_
    refine ew_tup ?_
    refine aw_cons ?_
    refine ew_int ?_
    refine aw_cons ?_
    refine ew_int ?_
    refine aw_cons ?_
    refine ew_int ?_
    refine aw_nil ⟨szl (Nat.le_of_ble_eq_true rfl), ?_⟩
    refine aw_cons ?_
    refine ew_lst ?_
    refine aw_cons ?_
    refine ew_non ?_
    refine aw_nil ⟨szl (Nat.le_of_ble_eq_true rfl), ?_⟩
    refine aw_nil ⟨szl (Nat.le_of_ble_eq_true rfl), ?_⟩
    refine aw_nil ⟨szl (Nat.le_of_ble_eq_true rfl), ?_⟩
    refine od_cat (szl (Nat.le_of_ble_eq_true rfl)) ?_
    show SW _ _ (bodyR 6) ⟨[some (.own p), some (.own y), some (.int far), some (.lst ((rowsL far).map rowE)), none, none, none, none, none], (p, Cell.pen qs (z0 + 1)) :: c1 :: (Pa, Cell.tab qL) :: (cs1 ++ [(y, Cell.ins (CSo K) (soF K l0 9 mk4))])⟩ _
    -- _law_spot = _law_draw(_law_pen_here, len(_law_rows))
    refine sw_cons (s1_set 4 ndR rfl (.inl rfl) ?_)
    refine ew_call (.none fun _ _ _ => False) (x_draw T) (hr.mono (by decide)) (by rfl) pass0 ?_
    refine aw_cons ?_
    refine ew_name 0 rfl (.inl rfl) rfl ?_
    refine aw_cons ?_
    refine ew_len T.f_len ?_
    refine aw_cons ?_
    refine ew_name 3 rfl (.inl rfl) rfl ?_
    refine aw_nil (cl_len ?_)
    refine aw_nil ⟨p, qs, z0 + 1, _, _, rfl, rfl, by omega, by show (0 : Int) < 14; decide, by show (14 : Int) < 10 ^ 60; decide, fun r r0 r1 => ?_⟩
    have r1 : r < 14 := r1
    obtain ⟨n, rfl⟩ : ∃ n : Nat, r = n := ⟨r.toNat, by omega⟩
    have hn : n < (rowsL far).length := by show n < 14; omega
    have hx0 : (rowsL far)[n]? = some (rowsL far)[n] := List.getElem?_eq_getElem hn
    generalize (rowsL far)[n] = x0 at hx0
    have hm0 := List.mem_of_getElem? hx0
    -- for _law_look, _law_due in [_law_rows[_law_spot]] + _law_rows:
    refine sw_cons (s1_forL [8, 5] (passes_of rfl) rfl ?_)
    refine ew_bin ?_
    refine ew_lst ?_
    refine aw_cons ?_
    refine ew_ix ?_
    refine ew_name 3 rfl (.inl rfl) rfl ?_
    refine ew_name 4 rfl (.inl rfl) rfl ?_
    refine ix_lst (d := rowE x0) (atI_nat (by rw [List.getElem?_map, hx0]; rfl)) ?_
    refine aw_nil ⟨szl (Nat.le_of_ble_eq_true rfl), ?_⟩
    refine ew_name 3 rfl (.inl rfl) rfl ?_
    refine od_cat (szl (Nat.le_of_ble_eq_true rfl)) ?_
    refine ⟨(x0 :: rowsL far).map rowE, rfl, fun i s' => ∃ x5 x8 st, OneOf st ∧ (i = 15 → st = mk5) ∧ s' = ⟨[some (.own p), some (.own y), some (.int far), some (.lst ((rowsL far).map rowE)), some (.int n), x5, none, none, x8], (p, Cell.pen qs (z0 + 1 + 1)) :: c1 :: (Pa, Cell.tab qL) :: (cs1 ++ [(y, Cell.ins (CSo K) (soF K l0 9 st))])⟩, ⟨none, none, mk4, .inl rfl, fun h => (by cases h), rfl⟩, fun i d s' hd hI => ?_, fun s' hI => ?_⟩
    · obtain ⟨x5, x8, st, hs, _, rfl⟩ := hI
      rw [List.getElem?_map] at hd
      obtain ⟨x, hx, rfl⟩ := Option.map_eq_some_iff.mp hd
      have hmx : x ∈ rowsL far := by
        rcases List.mem_cons.mp (List.mem_of_getElem? hx) with h | h
        · rw [h]; exact hm0
        · exact h
      have rk := row_ok f0 f1 hmx hs
      obtain ⟨k1, k2, k3, k4⟩ := one_srt hs
      have last : i = 14 → x.1.m = 100 := fun h => by
        subst h
        have hx : (rowsL far)[13]? = some x := hx
        cases hx
        rfl
      refine tg_tup rfl (tgs_cons (tg_name 8 ndR rfl (.inr rfl) (tgs_cons (tg_name 5 ndR rfl (.inl rfl) (tgs_nil ?_)))))
      refine sw_cons (s1_if ?_)
      refine tw_cmp ?_
      refine EW.mono (Q := fun d s => d = x.2 ∧ ∃ st', OneOf st' ∧ (x.1.m = 100 → st' = mk5) ∧ s = ⟨[some (.own p), some (.own y), some (.int far), some (.lst ((rowsL far).map rowE)), some (.int n), some x.2, none, none, some (.tup [.int x.1.m, .int x.1.t, .int x.1.l])], (p, Cell.pen qs (z0 + 1 + 1)) :: c1 :: (Pa, Cell.tab qL) :: (cs1 ++ [(y, Cell.ins (CSo K) (soF K l0 9 st'))])⟩) ?_ ?_
      · refine ew_h (kk := 9) T TB rfl (by rfl) rfl (j := 2) rfl (hr.mono (by decide)) (hr.mono (by decide)) still (LamX.lamS_by (sc := scR) (by decide +kernel)) rfl (fun _ _ _ _ _ => rfl) fun A' outer' s' H' Hb E' f c' Ex hr' hnu hst hun hyt hfg hno => ?_
        refine ew_methR .same T.c_Store T.m_Store_put Rp (hr'.mono (by decide)) pLaR ?_
        refine ew_name 1 rfl (.inr (.inr rfl)) rfl ?_
        refine ⟨.own _ (hy3 _ _ _ _ _) rfl, aw_cons ?_⟩
        refine ew_ix ?_
        refine ew_name 8 rfl (.inr (.inr rfl)) rfl ?_
        refine ew_int ?_
        refine ix_tpl (atI_nat (j := 0) rfl) ?_
        refine aw_cons ?_
        refine ew_ix ?_
        refine ew_name 8 rfl (.inr (.inr rfl)) rfl ?_
        refine ew_int ?_
        refine ix_tpl (atI_nat (j := 1) rfl) ?_
        refine aw_cons ?_
        refine ew_ix ?_
        refine ew_name 8 rfl (.inr (.inr rfl)) rfl ?_
        refine ew_int ?_
        refine ix_tpl (atI_nat (j := 2) rfl) ?_
        refine aw_nil ⟨y, _, l0, 9, st, _, _, _, rfl, ⟨hy3 _ _ _ _ _, l0_good⟩, trivial, trivial, trivial, k1, k2, k3, ?_⟩
        refine put_of rk.m rk.t rk.l (fun c w e => ?_) fun s2 e => ?_
        · rcases rk.is with ⟨w', hp, sh, e2⟩ | ⟨w', hp, sh, e2⟩ | ⟨s', hp, _⟩
          · rw [hp] at e
            cases e
            exact hst _ [] sh ⟨e2.1.symm, st, hs, fun h => absurd h e2.2, rfl⟩
          · rw [hp] at e
            cases e
            exact hun _ [] sh ⟨e2.1.symm, st, hs, fun h => absurd h e2.2, rfl⟩
          · rw [hp] at e
            cases e
        · rcases rk.is with ⟨w', hp, sh, e2⟩ | ⟨w', hp, sh, e2⟩ | ⟨s', hp, kc, e2, o2, h5⟩
          · rw [hp] at e
            cases e
          · rw [hp] at e
            cases e
          · rw [hp] at e
            cases e
            refine ⟨kc, e2.symm, s2, o2, h5, ?_⟩
            rw [set3]
            rfl
      · rintro d s ⟨rfl, st', hs', h5, rfl⟩
        refine ew_name 5 rfl (.inl rfl) rfl ?_
        refine od_ne hr.units rk.ok rk.ok ?_
        rw [eqv_self rk.ok]
        refine isB (br_f (sw_nil (sw_nil ⟨some x.2, some (.tup [.int x.1.m, .int x.1.t, .int x.1.l]), st', hs', fun h => h5 (last (by omega)), rfl⟩)))
    · obtain ⟨x5, x8, st, hs, e5, rfl⟩ := hI
      have e5 := e5 rfl
      subst e5
      -- if len(_law_store) != 5 or _law_heard(lambda: _law_store.put(96, 3, 0)) != ('store', repr('tally')):
      refine sw_cons (s1_if ?_)
      refine tw_w ?_
      refine ww_or ?_
      refine tw_cmp ?_
      refine ew_len T.f_len ?_
      refine aw_cons ?_
      refine ew_name 1 rfl (.inr (.inl rfl)) rfl ?_
      refine aw_nil (cl_lenI (.none fun _ _ _ => False) T.m_Store_len Gl Bl (hr.mono (by decide)) pF (.own _ (hy3 _ _ _ _ _)) ⟨y, _, l0, 9, mk5, rfl, ⟨hy3 _ _ _ _ _, l0_good⟩, _, rfl, by decide +kernel, by decide +kernel, ?_⟩)
      refine ew_int ?_
      refine od_ne hr.units rfl rfl ?_
      rw [show D.eqv (.int (mk5.lk.length : Int)) (.int 5) = true by kernel_rfl]
      refine isB ?_
      refine br_f ?_ --br
      refine ww_or1 ?_
      refine tw_cmp ?_
      refine ew_h (kk := 9) T TB rfl (by rfl) rfl (j := 2) rfl (hr.mono (by decide)) (hr.mono (by decide)) still (LamX.lamS_by (sc := scR) (by decide +kernel)) rfl (fun _ _ _ _ _ => rfl) fun A' outer' s' H' Hb E' f c' Ex hr' hnu hst hun hyt hfg hno => ?_
      refine ew_methR .same T.c_Store T.m_Store_put Rp (hr'.mono (by decide)) pLaR ?_
      refine ew_name 1 rfl (.inr (.inr rfl)) rfl ?_
      refine ⟨.own _ (hy3 _ _ _ _ _) rfl, aw_cons ?_⟩
      refine ew_int ?_
      refine aw_cons ?_
      refine ew_int ?_
      refine aw_cons ?_
      refine ew_int ?_
      refine aw_nil ⟨y, _, l0, 9, mk5, _, _, _, rfl, ⟨hy3 _ _ _ _ _, l0_good⟩, trivial, trivial, trivial, mk5_srt, by kernel_rfl, by decide +kernel, put_no (x := ⟨96, 3, 0⟩) (by decide +kernel) (by decide +kernel) (by decide +kernel) (c := "BadStore") (w := "tally") (by kernel_rfl) (hst _ [] (shn_w (by simp)) ?_)⟩
      --heard
      refine ew_tup ?_
      refine aw_cons ?_
      refine ew_str ?_
      refine aw_cons ?_
      refine ew_repr T.f_repr ?_
      refine aw_cons ?_
      refine ew_str ?_
      refine aw_nil (cl_shn hr still (shn_w (by simp)) ?_)
      refine aw_nil ⟨szl (Nat.le_of_ble_eq_true rfl), ?_⟩
      refine od_ne hr.units ok_st ok_st ?_
      rw [show D.eqv (ans "store" (.str "tally")) (.tup [.str "store", .str (D.str "tally").py.shown]) = true from eqv_self ok_st]
      refine isB ?_
      refine br_f (sw_nil ?_)
      -- _law_store.put(96, 2, 1)
      refine sw_cons (s1_expr ?_)
      refine ew_methR (.none fun _ _ _ => False) T.c_Store T.m_Store_put Rp (hr.mono (by decide)) pF ?_
      refine ew_name 1 rfl (.inr (.inl rfl)) rfl ?_
      refine ⟨.own _ (hy3 _ _ _ _ _) rfl, aw_cons ?_⟩
      refine ew_int ?_
      refine aw_cons ?_
      refine ew_int ?_
      refine aw_cons ?_
      refine ew_int ?_
      refine aw_nil ⟨y, _, l0, 9, mk5, _, _, _, rfl, ⟨hy3 _ _ _ _ _, l0_good⟩, trivial, trivial, trivial, mk5_srt, by kernel_rfl, by decide +kernel, put_at (x := ⟨96, 2, 1⟩) (by decide +kernel) (by decide +kernel) (by decide +kernel) put6 (by decide +kernel) ?_⟩
      rw [set3]
      -- _law_then = [_law_look.moment for _law_look in _law_store]
      refine sw_cons ?_
      refine s1_selI2 6 (lkD K) (fun x : Lk => .int x.m) (fun _ => true) [("_law_look", 8)] 0 rfl rfl ndR rfl rfl (Vls.blk_by (N := NR) (sc := scR) (by decide +kernel)) T.m_Store_iter Fi Bi (hr.mono (by decide)) pF ?_
      refine ew_name 1 rfl (.inr (.inl rfl)) rfl ?_
      refine ⟨y, _, _, staF K mk6, mk6.lk, rfl, hy3 _ _ _ _ _, rfl, lk6, szl (by decide +kernel), fun i z hz l acc => ?_, ?_⟩
      · intro _ _ _ _ _
        refine tg_name 8 ndR rfl (.inl rfl) ?_
        intro _ _ _ _ _
        refine ts_nil ⟨rfl, rfl, fun _ => ?_⟩
        intro _ _ _ _ _
        refine ew_fld T.c_Look T.n_Look_moment ?_
        refine ew_name 8 rfl (.inl rfl) rfl ?_
        refine ⟨_, .obj rfl, ?_⟩
        exact ⟨rfl, rfl⟩
      -- _law_store.pass_to(104)
      refine sw_cons (s1_expr ?_)
      refine ew_meth (.none fun _ _ _ => False) (m_pass T) (hr.mono (by decide)) pF ?_
      refine ew_name 1 rfl (.inr (.inl rfl)) rfl ?_
      refine ⟨.own _ (hy3 _ _ _ _ _) rfl, aw_cons ?_⟩
      refine ew_int ?_
      refine aw_nil ⟨y, _, l0, 9, mk6, _, rfl, ⟨hy3 _ _ _ _ _, l0_good⟩, trivial, by kernel_rfl, by decide +kernel, fun h => absurd h (by decide +kernel), fun i e _ => ?_⟩
      cases e
      refine ⟨by decide +kernel, ?_⟩
      rw [set3]
      rw [selM_all]
      show SW _ _ (bodyR 12) ⟨[some (.own p), some (.own y), some (.int far), some (.lst ((rowsL far).map rowE)), some (.int n), x5, some (.lst (mk6.lk.map fun x => .int x.m)), none, x8], (p, Cell.pen qs (z0 + 1 + 1)) :: c1 :: (Pa, Cell.tab qL) :: (cs1 ++ [(y, Cell.ins (CSo K) (soF K l0 9 mk7))])⟩ _
      -- _law_heard_here = [_law_heard(lambda: _law_store.put(95, 8, 0))]
      refine sw_cons (s1_set 7 ndR rfl (.inl rfl) ?_)
      refine ew_lstO 3 ?_
      refine aw_cons ?_
      refine ew_h (kk := 9) T TB rfl (by rfl) rfl (j := 2) rfl (hr.mono (by decide)) (hr.mono (by decide)) still (LamX.lamS_by (sc := scR) (by decide +kernel)) rfl (fun _ _ _ _ _ => rfl) fun A' outer' s' H' Hb E' f c' Ex hr' hnu hst hun hyt hfg hno => ?_
      refine ew_methR .same T.c_Store T.m_Store_put Rp (hr'.mono (by decide)) pLaR ?_
      refine ew_name 1 rfl (.inr (.inr rfl)) rfl ?_
      refine ⟨.own _ (hy3 _ _ _ _ _) rfl, aw_cons ?_⟩
      refine ew_int ?_
      refine aw_cons ?_
      refine ew_int ?_
      refine aw_cons ?_
      refine ew_int ?_
      refine aw_nil ⟨y, _, l0, 9, mk7, _, _, _, rfl, ⟨hy3 _ _ _ _ _, l0_good⟩, trivial, trivial, trivial, mk7_srt, by kernel_rfl, by decide +kernel, put_no (x := ⟨95, 8, 0⟩) (by decide +kernel) (by decide +kernel) (by decide +kernel) (c := "BadStore") (w := "late") (by kernel_rfl) (hst _ [] (shn_w (by simp)) ?_)⟩
      --heard
      refine aw_nil ⟨szl (Nat.le_of_ble_eq_true rfl), fun yl => ?_⟩
      -- _law_heard_here.append(_law_heard(lambda: _law_store.put(95, 9, 0)))
      refine sw_cons (s1_expr ?_)
      refine ew_append ?_
      refine ew_name 7 rfl (.inl rfl) rfl ?_
      refine ⟨yl, 3, _, rfl, rfl, ?_⟩
      refine ew_h (kk := 9) T TB rfl (by rfl) rfl (j := 2) rfl (hr.mono (by decide)) (hr.mono (by decide)) still (LamX.lamS_by (sc := scR) (by decide +kernel)) rfl (fun _ _ _ _ _ => rfl) fun A' outer' s' H' Hb E' f c' Ex hr' hnu hst hun hyt hfg hno => ?_
      refine ew_methR .same T.c_Store T.m_Store_put Rp (hr'.mono (by decide)) pLaR ?_
      refine ew_name 1 rfl (.inr (.inr rfl)) rfl ?_
      refine ⟨.own _ (hy4 _ _ _ _ _ _) rfl, aw_cons ?_⟩
      refine ew_int ?_
      refine aw_cons ?_
      refine ew_int ?_
      refine aw_cons ?_
      refine ew_int ?_
      refine aw_nil ⟨y, _, l0, 9, mk7, _, _, _, rfl, ⟨hy4 _ _ _ _ _ _, l0_good⟩, trivial, trivial, trivial, mk7_srt, by kernel_rfl, by decide +kernel, put_no (x := ⟨95, 9, 0⟩) (by decide +kernel) (by decide +kernel) (by decide +kernel) (c := "BadStore") (w := "late") (by kernel_rfl) (hst _ [] (shn_w (by simp)) ?_)⟩
      --heard
      refine ⟨3, _, rfl, szl (Nat.le_of_ble_eq_true rfl), ?_⟩
      refine sw_freeze 3 7 rfl rfl ?_
      -- if _law_heard_here != [('store', repr('late'))] * 2 or Look(1, 2) != Look(life=0, tally=2, moment=1) or Look(1, 2) == Look(1, 2, 1):
      refine sw_cons (s1_if ?_)
      refine tw_w ?_
      refine ww_or ?_
      refine tw_cmp ?_
      refine ew_name 7 rfl (.inl rfl) rfl ?_
      refine ew_bin ?_
      refine ew_lst ?_
      refine aw_cons ?_
      refine ew_tup ?_
      refine aw_cons ?_
      refine ew_str ?_
      refine aw_cons ?_
      refine ew_repr T.f_repr ?_
      refine aw_cons ?_
      refine ew_str ?_
      refine aw_nil (cl_shn hr still (shn_w (by simp)) ?_)
      refine aw_nil ⟨szl (Nat.le_of_ble_eq_true rfl), ?_⟩
      refine aw_nil ⟨szl (Nat.le_of_ble_eq_true rfl), ?_⟩
      refine ew_int ?_
      refine od_rep (by decide) (by decide) (by decide) ?_
      refine od_neB hr.units ok_late ok_late (eqv_self ok_late) ?_
      refine isB ?_
      refine br_f ?_ --br
      refine ww_or ?_
      refine tw_cmp ?_
      refine ew_makeD (dds := [.int 0]) (.none fun _ _ _ => False) T.k_Look Fl (hr.mono (by decide)) (by rfl) T.g_Look Bl2 Hl (fun _ _ => .cons (.int _) .nil) pF ?_
      refine aw_cons ?_
      refine ew_int ?_
      refine aw_cons ?_
      refine ew_int ?_
      refine aw_nil (fun z => ⟨z, _, _, _, _, rfl, rfl, rfl, _, _, rfl, ?_⟩)
      refine ew_makeK0 (.none fun _ _ _ => False) T.k_Look Fl (hr.mono (by decide)) (by rfl) T.g_Look Bk pF ?_
      refine kw_cons ?_
      refine ew_int ?_
      refine kw_cons ?_
      refine ew_int ?_
      refine kw_cons ?_
      refine ew_int ?_
      refine kw_nil ⟨rfl, ?_⟩
      refine (fun z => ⟨z, _, _, _, _, rfl, rfl, rfl, _, _, rfl, ?_⟩)
      refine od_neO (.none fun _ _ _ => False) T.m_Look_eq Fe Be (hr.mono (by decide)) pF T.ne_Look T.is_Look.o .obj (.obj T.is_Look T.c_Look) T.nf_Look ⟨⟨1, 2, 0⟩, _, rfl, .inl ⟨⟨1, 2, 0⟩, rfl, isB ?_⟩⟩
      rw [show lkEq ⟨1, 2, 0⟩ ⟨1, 2, 0⟩ = true by kernel_rfl]
      refine isB ?_
      refine br_f ?_ --br
      refine ww_or1 ?_
      refine tw_cmp ?_
      refine ew_makeD (dds := [.int 0]) (.none fun _ _ _ => False) T.k_Look Fl (hr.mono (by decide)) (by rfl) T.g_Look Bl2 Hl (fun _ _ => .cons (.int _) .nil) pF ?_
      refine aw_cons ?_
      refine ew_int ?_
      refine aw_cons ?_
      refine ew_int ?_
      refine aw_nil (fun z => ⟨z, _, _, _, _, rfl, rfl, rfl, _, _, rfl, ?_⟩)
      refine ew_make (.none fun _ _ _ => False) T.k_Look Fl (hr.mono (by decide)) (by rfl) T.g_Look Bl3 pF ?_
      refine aw_cons ?_
      refine ew_int ?_
      refine aw_cons ?_
      refine ew_int ?_
      refine aw_cons ?_
      refine ew_int ?_
      refine aw_nil (fun z => ⟨z, _, _, _, _, rfl, rfl, rfl, _, _, rfl, ?_⟩)
      refine od_eqO (.none fun _ _ _ => False) T.m_Look_eq Fe Be (hr.mono (by decide)) pF .obj (.obj T.is_Look T.c_Look) T.nf_Look ⟨⟨1, 2, 0⟩, _, rfl, .inl ⟨⟨1, 2, 1⟩, rfl, isB ?_⟩⟩
      rw [show lkEq ⟨1, 2, 0⟩ ⟨1, 2, 1⟩ = false by kernel_rfl]
      refine isB ?_
      refine br_f (sw_nil ?_)
      -- if Look(1, 2) == Look(1, 3) or Look(1, 2) == Look(2, 2) or Look(1, 2) == (1, 2, 0) or ([_law_look.moment for _law_look in _law_store] != _law_then):
      refine sw_cons (s1_if ?_)
      refine tw_w ?_
      refine ww_or ?_
      refine tw_cmp ?_
      refine ew_makeD (dds := [.int 0]) (.none fun _ _ _ => False) T.k_Look Fl (hr.mono (by decide)) (by rfl) T.g_Look Bl2 Hl (fun _ _ => .cons (.int _) .nil) pF ?_
      refine aw_cons ?_
      refine ew_int ?_
      refine aw_cons ?_
      refine ew_int ?_
      refine aw_nil (fun z => ⟨z, _, _, _, _, rfl, rfl, rfl, _, _, rfl, ?_⟩)
      refine ew_makeD (dds := [.int 0]) (.none fun _ _ _ => False) T.k_Look Fl (hr.mono (by decide)) (by rfl) T.g_Look Bl2 Hl (fun _ _ => .cons (.int _) .nil) pF ?_
      refine aw_cons ?_
      refine ew_int ?_
      refine aw_cons ?_
      refine ew_int ?_
      refine aw_nil (fun z => ⟨z, _, _, _, _, rfl, rfl, rfl, _, _, rfl, ?_⟩)
      refine od_eqO (.none fun _ _ _ => False) T.m_Look_eq Fe Be (hr.mono (by decide)) pF .obj (.obj T.is_Look T.c_Look) T.nf_Look ⟨⟨1, 2, 0⟩, _, rfl, .inl ⟨⟨1, 3, 0⟩, rfl, isB ?_⟩⟩
      rw [show lkEq ⟨1, 2, 0⟩ ⟨1, 3, 0⟩ = false by kernel_rfl]
      refine isB ?_
      refine br_f ?_ --br
      refine ww_or ?_
      refine tw_cmp ?_
      refine ew_makeD (dds := [.int 0]) (.none fun _ _ _ => False) T.k_Look Fl (hr.mono (by decide)) (by rfl) T.g_Look Bl2 Hl (fun _ _ => .cons (.int _) .nil) pF ?_
      refine aw_cons ?_
      refine ew_int ?_
      refine aw_cons ?_
      refine ew_int ?_
      refine aw_nil (fun z => ⟨z, _, _, _, _, rfl, rfl, rfl, _, _, rfl, ?_⟩)
      refine ew_makeD (dds := [.int 0]) (.none fun _ _ _ => False) T.k_Look Fl (hr.mono (by decide)) (by rfl) T.g_Look Bl2 Hl (fun _ _ => .cons (.int _) .nil) pF ?_
      refine aw_cons ?_
      refine ew_int ?_
      refine aw_cons ?_
      refine ew_int ?_
      refine aw_nil (fun z => ⟨z, _, _, _, _, rfl, rfl, rfl, _, _, rfl, ?_⟩)
      refine od_eqO (.none fun _ _ _ => False) T.m_Look_eq Fe Be (hr.mono (by decide)) pF .obj (.obj T.is_Look T.c_Look) T.nf_Look ⟨⟨1, 2, 0⟩, _, rfl, .inl ⟨⟨2, 2, 0⟩, rfl, isB ?_⟩⟩
      rw [show lkEq ⟨1, 2, 0⟩ ⟨2, 2, 0⟩ = false by kernel_rfl]
      refine isB ?_
      refine br_f ?_ --br
      refine ww_or ?_
      refine tw_cmp ?_
      refine ew_makeD (dds := [.int 0]) (.none fun _ _ _ => False) T.k_Look Fl (hr.mono (by decide)) (by rfl) T.g_Look Bl2 Hl (fun _ _ => .cons (.int _) .nil) pF ?_
      refine aw_cons ?_
      refine ew_int ?_
      refine aw_cons ?_
      refine ew_int ?_
      refine aw_nil (fun z => ⟨z, _, _, _, _, rfl, rfl, rfl, _, _, rfl, ?_⟩)
      refine ew_tup ?_
      refine aw_cons ?_
      refine ew_int ?_
      refine aw_cons ?_
      refine ew_int ?_
      refine aw_cons ?_
      refine ew_int ?_
      refine aw_nil ⟨szl (Nat.le_of_ble_eq_true rfl), ?_⟩
      refine od_eqO (.none fun _ _ _ => False) T.m_Look_eq Fe Be (hr.mono (by decide)) pF .obj .tup T.nf_tuple ⟨⟨1, 2, 0⟩, _, rfl, .inr ⟨_, rfl, isB ?_⟩⟩
      refine isB ?_
      refine br_f ?_ --br
      refine ww_or1 ?_
      refine tw_cmp ?_
      refine ew_selI2 (lkD K) (fun x : Lk => .int x.m) (fun _ => true) [("_law_look", 8)] 0 rfl rfl ndR (Vls.blk_by (N := NR) (sc := scR) (by decide +kernel)) T.m_Store_iter Fi Bi (hr.mono (by decide)) pF ?_
      refine ew_name 1 rfl (.inr (.inl rfl)) rfl ?_
      refine ⟨y, _, _, staF K mk7, mk7.lk, rfl, hy3 _ _ _ _ _, rfl, lk7, szl (by decide +kernel), fun i z hz l acc => ?_, ?_⟩
      · intro _ _ _ _ _
        refine tg_name 8 ndR rfl (.inl rfl) ?_
        intro _ _ _ _ _
        refine ts_nil ⟨rfl, rfl, fun _ => ?_⟩
        intro _ _ _ _ _
        refine ew_fld T.c_Look T.n_Look_moment ?_
        refine ew_name 8 rfl (.inl rfl) rfl ?_
        refine ⟨_, .obj rfl, ?_⟩
        exact ⟨rfl, rfl⟩
      refine ew_name 6 rfl (.inl rfl) rfl ?_
      rw [selM_all]
      refine od_ne hr.units (by decide +kernel) (by decide +kernel) ?_
      rw [show D.eqv (.lst (mk7.lk.map fun x => .int x.m)) (.lst (mk6.lk.map fun x => .int x.m)) = true by kernel_rfl]
      refine isB ?_
      refine br_f (sw_nil ?_)
      -- return [_law_look.moment for _law_look in _law_store] == [92, 95, 96, 97, 99, 100]
      refine sw_cons (s1_ret ?_)
      refine ew_cmp ?_
      refine ew_selI2 (lkD K) (fun x : Lk => .int x.m) (fun _ => true) [("_law_look", 8)] 0 rfl rfl ndR (Vls.blk_by (N := NR) (sc := scR) (by decide +kernel)) T.m_Store_iter Fi Bi (hr.mono (by decide)) pF ?_
      refine ew_name 1 rfl (.inr (.inl rfl)) rfl ?_
      refine ⟨y, _, _, staF K mk7, mk7.lk, rfl, hy3 _ _ _ _ _, rfl, lk7, szl (by decide +kernel), fun i z hz l acc => ?_, ?_⟩
      · intro _ _ _ _ _
        refine tg_name 8 ndR rfl (.inl rfl) ?_
        intro _ _ _ _ _
        refine ts_nil ⟨rfl, rfl, fun _ => ?_⟩
        intro _ _ _ _ _
        refine ew_fld T.c_Look T.n_Look_moment ?_
        refine ew_name 8 rfl (.inl rfl) rfl ?_
        refine ⟨_, .obj rfl, ?_⟩
        exact ⟨rfl, rfl⟩
      refine ew_lst ?_
      refine aw_cons ?_
      refine ew_int ?_
      refine aw_cons ?_
      refine ew_int ?_
      refine aw_cons ?_
      refine ew_int ?_
      refine aw_cons ?_
      refine ew_int ?_
      refine aw_cons ?_
      refine ew_int ?_
      refine aw_cons ?_
      refine ew_int ?_
      refine aw_nil ⟨szl (Nat.le_of_ble_eq_true rfl), ?_⟩
      rw [selM_all]
      refine od_eq hr.units (by decide +kernel) (by decide +kernel) ?_
      rw [show D.eqv (.lst (mk7.lk.map fun x => .int x.m)) (.lst [.int 92, .int 95, .int 96, .int 97, .int 99, .int 100]) = true by kernel_rfl]
      have h := h [(y, Cell.ins (CSo K) (soF K l0 9 mk7))]
      rw [show z0 + 2 = z0 + 1 + 1 by omega] at h
      exact h
end
end K41
set_option Elab.async false
set_option linter.all false
set_option maxRecDepth 100000
set_option maxHeartbeats 4000000
namespace K41
open PySem PySem.Spec PyProof.Rows L2 Sx
local macro_rules | `(tactic| walk_at "c") => `(tactic| first
  | refine aw_cons ?_ | refine aw_nil ?_
  | refine ew_int ?_ | refine ew_non ?_ | refine ew_bl ?_ | refine ew_str ?_
  | refine ew_bin ?_ | refine ew_cmp ?_ | refine tw_cmp ?_ | refine tw_not ?_ | refine ew_chain ?_ | refine tw_chain ?_ | refine ew_and ?_ | refine ew_or ?_ | refine ew_one ?_ | refine ew_not ?_ | refine ew_neg ?_ | refine ew_if ?_
  | refine tw_w (ww_and ?_) | refine tw_w (ww_or ?_) | refine ww_and ?_ | refine ww_or ?_ | refine ww_and1 ?_ | refine ww_or1 ?_
  | refine tw_val (e := .Call _ _ _ _) ?_ | refine ew_tup ?_ | refine ew_ix ?_ | refine ew_lst ?_
  | refine sw_cons ?_ | refine s1_ret ?_ | refine s1_if ?_ | refine sw_nil ?_ | refine s1_expr ?_
  | refine od_add ?_ | refine od_sub ?_ | refine od_lt ?_ | refine od_le ?_ | refine od_gt ?_ | refine od_ge ?_
  | refine isB ?_ | refine intD ?_ | refine br_t ?_ | refine br_f ?_
  | refine ⟨szl (Nat.le_of_ble_eq_true rfl), ?_⟩)
local macro_rules | `(tactic| walk_at "n") => `(tactic| first
  | refine ew_name 0 rfl (by first | exact .inl rfl | exact .inr (.inl rfl) | exact .inr (.inr rfl)) rfl ?_
  | refine ew_name 1 rfl (by first | exact .inl rfl | exact .inr (.inl rfl) | exact .inr (.inr rfl)) rfl ?_
  | refine ew_name 2 rfl (by first | exact .inl rfl | exact .inr (.inl rfl) | exact .inr (.inr rfl)) rfl ?_
  | refine ew_name 3 rfl (by first | exact .inl rfl | exact .inr (.inl rfl) | exact .inr (.inr rfl)) rfl ?_
  | refine ew_name 4 rfl (by first | exact .inl rfl | exact .inr (.inl rfl) | exact .inr (.inr rfl)) rfl ?_
  | refine ew_name 5 rfl (by first | exact .inl rfl | exact .inr (.inl rfl) | exact .inr (.inr rfl)) rfl ?_
  | refine ew_name 6 rfl (by first | exact .inl rfl | exact .inr (.inl rfl) | exact .inr (.inr rfl)) rfl ?_
  | refine ew_name 7 rfl (by first | exact .inl rfl | exact .inr (.inl rfl) | exact .inr (.inr rfl)) rfl ?_
  | refine ew_name 8 rfl (by first | exact .inl rfl | exact .inr (.inl rfl) | exact .inr (.inr rfl)) rfl ?_
  | refine ew_name 9 rfl (by first | exact .inl rfl | exact .inr (.inl rfl) | exact .inr (.inr rfl)) rfl ?_
  | refine ew_name 10 rfl (by first | exact .inl rfl | exact .inr (.inl rfl) | exact .inr (.inr rfl)) rfl ?_
  | refine ew_name 11 rfl (by first | exact .inl rfl | exact .inr (.inl rfl) | exact .inr (.inr rfl)) rfl ?_
  | refine ew_name 12 rfl (by first | exact .inl rfl | exact .inr (.inl rfl) | exact .inr (.inr rfl)) rfl ?_)
local macro_rules | `(tactic| walk_at "i") => `(tactic| (refine' cl_isi (.ty _) ?a ?b ?_; (case a => constructor); (case b => with_reducible first | exact kit_int_int | exact kit_int_bool | exact kit_bool_int | exact kit_bool_bool | exact kit_NoneType_int | exact kit_str_int | exact kit_list_int | exact kit_tuple_int | exact kit_dict_int | exact kit_tuple_tuple | exact kit_int_tuple | exact kit_NoneType_tuple | exact kit_bool_tuple | exact kit_str_tuple | exact kit_list_tuple | exact kit_dict_tuple)))
local macro_rules | `(tactic| walk_at "l") => `(tactic| first
  | refine ew_isinstance (Tx.f_isinstance (by assumption)) ?_ | refine ew_len (Tx.f_len (by assumption)) ?_ | refine ew_vint (Tx.f_int (by assumption)) ?_ | refine ew_vbool (Tx.f_bool (by assumption)) ?_ | refine ew_vtuple (Tx.f_tuple (by assumption)) ?_ | refine ew_vstr (Tx.f_str (by assumption)) ?_
  | refine ew_gint (Tx.i_FAR (by assumption)) (by rfl) ?_ | refine ew_gint (Tx.i_FAR_TALLY (by assumption)) (by rfl) ?_ | refine ew_gint (Tx.i_MOST_PATIENCE (by assumption)) (by rfl) ?_ | refine ew_gint (Tx.i_MOST_LIFE (by assumption)) (by rfl) ?_ | refine ew_gint (Tx.i_MOST_PAIRS (by assumption)) (by rfl) ?_ | refine ew_gint (Tx.i_MOST_WIDTH (by assumption)) (by rfl) ?_ | refine ew_gint (Tx.i_MOST_KEEP (by assumption)) (by rfl) ?_
  | refine cl_len ?_ | refine cl_lenT ?_ | refine ix_tpl rfl ?_ | refine od_is (by intro _ h; cases h) ?_)
local macro_rules | `(tactic| walk_at "x") => `(tactic| repeat (first | walk_at "c" | walk_at "n" | walk_at "l" | walk_at "i"))
def P1 (K : PySem.W.Frag) : Addr := (He.cT K ("_law_kinds_right", none)).2
def P2 (K : PySem.W.Frag) : Addr := (He.cT K ("_law_looks_right", none)).2
def P3 (K : PySem.W.Frag) : Addr := (He.cT K ("_law_borders_right", none)).2
abbrev scL : Scope := defScope s_law
def NL : List Str := ["_law_script", "_law_pen_here", "_law_turn"]
theorem ndL : NL.Nodup := by decide +kernel
def bodyL (i : Nat) : List Stmt := (defBody s_law).drop i
theorem ne_of_none {H : Hp} {a b : Addr} {o : HO} (h : H a = some o) (n : H b = none) : a ≠ b := fun e => by
  rw [e, n] at h
  cases h
section
variable {P : Program} {w : World} {K : PySem.W.Frag} {mg : Str → Option Value} {base : Heap}
abbrev XL (P : Program) (w : World) (K : PySem.W.Frag) (mg : Str → Option Value) (base : Heap) (cdv : Value) (A : Around) (outer : List Env) (s : Shared) (H : Hp) (E : XK) : Cx := cxOf CX0 P w K mg base NL "law" scL (He.ga K "law") cdv A outer s H E
variable {cdv : Value} {A : Around} {outer : List Env} {s : Shared} {H : Hp} {E : XK} {B : Bs} {p : Addr} {ns : List Int} {k : Kt}
abbrev csL (K : PySem.W.Frag) (p : Addr) (ns : List Int) (z0 : Int) (r : Cs) : Cs := (p, Cell.pen ns z0) :: (P1 K, Cell.tab qK) :: (P2 K, Cell.tab qL) :: (P3 K, Cell.tab qB) :: r
theorem l_loop (T : Tx K mg) (TB1 : LamX.TabB base mg (He.codeOf K ("_law_kinds_right", none)) (P1 K)) (TB2 : LamX.TabB base mg (He.codeOf K ("_law_looks_right", none)) (P2 K)) (TB3 : LamX.TabB base mg (He.codeOf K ("_law_borders_right", none)) (P3 K)) (hr : Room 12 (XL P w K mg base cdv A outer s H E).A) (still : (XL P w K mg base cdv A outer s H E).A.guards = some []) {v : V} (h : ∀ ss', k.rt (.bl true) ss') :
    SW (XL P w K mg base cdv A outer s H E) B (bodyL 1) ⟨[some (.raw v), some (.own p), none], csL K p ns 0 []⟩ k := by
  refine sw_cons (s1_forR [2] (passes_of rfl) rfl (by rfl) T.f_range (ew_int ?_))
  refine ⟨3, rfl, by omega, fun i s => (i : Int) ≤ 3 ∧ ∃ x2 r, s = ⟨[some (.raw v), some (.own p), x2], csL K p ns (10 * i) r⟩, ⟨by omega, none, [], rfl⟩, fun i s' hi hI => ?_, fun s' hI => ?_⟩
  · obtain ⟨hi3, x2, r, rfl⟩ := hI
    refine tg_name 2 ndL rfl (.inl rfl) ?_
    refine sw_cons (s1_if (tw_w (ww_or (tw_not ?_))))
    refine tw_val (e := .Call _ _ _ _) ?_
    refine ew_callG (.none fun _ _ _ => False) (x_kinds T TB1) (hr.mono (by decide)) still (by rfl) pF (aw_cons ?_)
    refine ew_name 1 rfl (.inl rfl) rfl ?_
    refine aw_nil ⟨p, ns, _, _, rfl, rfl, by omega, fun ex => ?_⟩
    refine isB (br_f (ww_or (tw_not ?_)))
    refine tw_val (e := .Call _ _ _ _) ?_
    refine ew_callG (.none fun _ _ _ => False) (x_looks T TB2) (hr.mono (by decide)) still (by rfl) pF (aw_cons ?_)
    refine ew_name 1 rfl (.inl rfl) rfl ?_
    refine aw_nil ⟨p, ns, _, _, _, rfl, rfl, by omega, fun ex2 => ?_⟩
    refine isB (br_f (ww_or1 (tw_not ?_)))
    refine tw_val (e := .Call _ _ _ _) ?_
    refine ew_callG (.none fun _ _ _ => False) (x_borders T TB3) (hr.mono (by decide)) still (by rfl) pF (aw_cons ?_)
    refine ew_name 1 rfl (.inl rfl) rfl ?_
    refine aw_nil ⟨p, ns, _, _, _, _, rfl, rfl, by omega, fun e ex3 => ?_⟩
    refine isB (br_f (sw_nil (sw_drop (sw_nil ?_))))
    refine ⟨by omega, some (.int (0 + i)), r ++ ex ++ ex2 ++ ex3, ?_⟩
    rw [show 10 * ((i + 1 : Nat) : Int) = 10 * (i : Int) + 4 + 2 + 4 by omega]
    rfl
  · refine sw_cons (s1_ret (ew_bl ?_))
    exact h _
def spLaw (K : PySem.W.Frag) : Sp := fun vs H Q _ => ∃ (a : Addr) (ns : List Int), vs = [.ref a] ∧ SqL K H a (ns.map V.int) ∧ ns.length ≤ 63 ∧ H (P1 K) = some (.tbl #[]) ∧ H (P2 K) = some (.tbl #[]) ∧ H (P3 K) = some (.tbl #[]) ∧ ∀ H', Q (.bl true) H'
theorem ok_law (T : Tx K mg) {fd : FuncData} (F : FunD K "law" "law" (defArgs s_law) (defBody s_law) (defScope s_law) [] [] (He.ga K "law") fd)
    (TB1 : LamX.TabB base mg (He.codeOf K ("_law_kinds_right", none)) (P1 K)) (TB2 : LamX.TabB base mg (He.codeOf K ("_law_looks_right", none)) (P2 K)) (TB3 : LamX.TabB base mg (He.codeOf K ("_law_borders_right", none)) (P3 K)) : Shw.FnG P w K mg base CX0 13 (He.ga K "law") fd ["_law_script"] (spLaw K) := by
  refine Shw.okG F (N := NL) ⟨rfl, rfl, rfl, ndL, rfl, by decide +kernel, by decide +kernel⟩ (fun vs H Q E h => ?_) (fun cdv A outer s H vs Q E hr still h => ?_)
  · obtain ⟨_, _, rfl, _⟩ := h
    rfl
  · obtain ⟨a, ns, rfl, sq, hl, t1, t2, t3, q⟩ := h
    refine ⟨_, pss_cons (ps_set (i := 1) ndL rfl (Or.inl rfl) (Dfs.pe_d (d_pen T) (hr.mono (by decide)) (by rfl) (E := E) pass0 (pa_cons (pv 0) pa_nil))) (pss_any (sts := bodyL 1)), ?_⟩
    refine ⟨_, rfl, a, ns, rfl, sq, hl, fun H1 p c0 S1 hp hc R => ?_⟩
    have tab : ∀ b q, H b = some (.tbl #[]) → CellOk H1 (ow (csL K p ns 0 [])) b (.tab q) := fun b q e => ⟨#[], S1 _ _ e, True.intro, fun pos cv hc => by
      have z : codeAmong pos [] = some cv := hc
      simp [codeAmong] at z⟩
    have ok : CsOk H1 (csL K p ns 0 []) := ⟨fun b d hm => by
      simp only [csL, List.mem_cons, List.not_mem_nil, or_false, Prod.mk.injEq] at hm
      rcases hm with ⟨rfl, rfl⟩ | ⟨rfl, rfl⟩ | ⟨rfl, rfl⟩ | ⟨rfl, rfl⟩
      · refine ⟨c0, 0, 0, R.at_, R.cells, fun z => ?_, R.len, Int.le_refl _, Int.le_refl _, Int.le_refl _⟩
        simp only [ow, csL, List.map_cons, List.map_nil, List.mem_cons, List.not_mem_nil, or_false] at z
        rcases z with z | z | z | z
        · exact R.ne z
        · exact ne_of_none t1 hc z.symm
        · exact ne_of_none t2 hc z.symm
        · exact ne_of_none t3 hc z.symm
      · exact tab _ _ t1
      · exact tab _ _ t2
      · exact tab _ _ t3, by
      show [p, P1 K, P2 K, P3 K].Nodup
      simp only [List.nodup_cons, List.mem_cons, List.not_mem_nil, or_false, not_or, List.nodup_nil, and_true]
      exact ⟨⟨fun e => ne_of_none t1 hp e.symm, fun e => ne_of_none t2 hp e.symm, fun e => ne_of_none t3 hp e.symm⟩, ⟨T.apart0, T.apart1⟩, T.apart2, id⟩⟩
    refine ⟨_, (l_loop (B := ⟨H1, csL K p ns 0 [], E, fun _ _ _ => False⟩) (k := { nx := fun _ => False, rt := fun d _ => d = .bl true }) (v := .ref a) T TB1 TB2 TB3 hr still fun _ => rfl).p, ⟨rfl, fun i d e => ?_, ok, Ext.refl, fun _ _ _ _ _ _ z => z.elim⟩, fun _ _ _ z => z.elim, fun v d s1 σ1 H2 e sat x r => ?_, fun _ _ _ z => z.elim, fun _ _ _ z => z.elim⟩
    · match i, e with
      | 0, e => cases e; exact ⟨_, rfl, .raw _⟩
      | 1, e => cases e; exact ⟨_, rfl, .own _⟩
      | 2, e => cases e
      | n + 3, e => cases e
    · cases e
      cases r
      exact q _
end
end K41
set_option Elab.async false
set_option linter.all false
set_option maxRecDepth 100000
set_option maxHeartbeats 8000000
open PySem PySem.W PySem.Calls PyProof.Rows
theorem PySem.Challenge.cw_gaugeroad_k41_stores_refuse_looks_and_bo_holds : PySem.Challenge.rw_gaugeroad_k41_stores_refuse_looks_and_bo.Holds := by
  w_on; o_law
  refine HandSHeadRun.head_any (r := OpenLaw.row PySem.Challenge.rw_gaugeroad_k41_stores_refuse_looks_and_bo) (q := view (OpenLaw.row PySem.Challenge.rw_gaugeroad_k41_stores_refuse_looks_and_bo).prog [51]) (H := K41.hk) (ob := K41.ob) (M := 8000) (loose := K41.names)
    (d := HandSHeadRun.topDef (OpenLaw.row PySem.Challenge.rw_gaugeroad_k41_stores_refuse_looks_and_bo).prog 51) (kwd := []) K41.ob_eq (by kernel_rfl) (fun s => by kernel_rfl) K41.run
    (by kernel_rfl) (by kernel_rfl) (by kernel_rfl) (by rfl) (by first | assumption | decide +kernel) (by decide +kernel) ⟨rfl, rfl, rfl, rfl, rfl, by decide +kernel⟩ ?hw ?hc
  case hw => w_witness2
  case hc =>
    refine Shw.walkG (l := PySem.Challenge.rw_gaugeroad_k41_stores_refuse_looks_and_bo) (n := 63) (k := 13) (x := "_law_script") (CX := fun _ => L2.CX0) rfl (by decide) (by kernel_rfl) ⟨rfl, by decide, by decide⟩ ?F (fun _ _ _ _ _ z => z)
    intro w mg fa h Y G hmg0
    obtain ⟨K, KX, c⟩ := Y
    have hmg : mg ("law" : PySem.Str) = some (.ref fa) := by
      have e : (HandSHeadRun.topDef (OpenLaw.row PySem.Challenge.rw_gaugeroad_k41_stores_refuse_looks_and_bo).prog 51).name = ("law" : PySem.Str) := by kernel_rfl
      rw [← e]
      exact hmg0
    have T : K41.Tx K mg := ⟨c.x.t.d, c.x.more, c.m, h, KX, G⟩
    have ef : fa = He.ga K "law" := by
      have z := hmg.symm.trans T.g_law
      cases z
      rfl
    subst ef
    obtain ⟨fd, F⟩ := T.q_law
    have m0 : (("_law_kinds_right", none) : He.Defn) ∈ K41.tf := List.mem_cons_self
    have m1 : (("_law_looks_right", none) : He.Defn) ∈ K41.tf := List.mem_cons_of_mem _ List.mem_cons_self
    have m2 : (("_law_borders_right", none) : He.Defn) ∈ K41.tf := List.mem_cons_of_mem _ (List.mem_cons_of_mem _ List.mem_cons_self)
    refine ⟨K, KX, fd, [He.cT K ("_law_kinds_right", none), He.cT K ("_law_looks_right", none), He.cT K ("_law_borders_right", none)], K41.spLaw K, ?_⟩
    refine ⟨fun p hp => ?_, fun p hp => ?_, fun p hp => ?_, fun s u => F.bindsA (ps := ["_law_script"]) (fun kV doc pm an cdv ct => Vls.bind1 fun a => rfl) s [u] rfl, fun H a ns hl _ hT hS => ⟨a, ns, rfl, hS, hl, hT _ List.mem_cons_self, hT _ (List.mem_cons_of_mem _ List.mem_cons_self), hT _ (List.mem_cons_of_mem _ (List.mem_cons_of_mem _ List.mem_cons_self)), fun _ => rfl⟩,
      fun base KB NB TB => K41.ok_law T F (TB _ List.mem_cons_self) (TB _ (List.mem_cons_of_mem _ List.mem_cons_self)) (TB _ (List.mem_cons_of_mem _ (List.mem_cons_of_mem _ List.mem_cons_self)))⟩
    · simp only [List.mem_cons, List.not_mem_nil, or_false] at hp
      rcases hp with rfl | rfl | rfl
      · exact c.x.empty _ m0
      · exact c.x.empty _ m1
      · exact c.x.empty _ m2
    · simp only [List.mem_cons, List.not_mem_nil, or_false] at hp
      rcases hp with rfl | rfl | rfl
      · exact c.x.out _ m0
      · exact c.x.out _ m1
      · exact c.x.out _ m2
    · simp only [List.mem_cons, List.not_mem_nil, or_false] at hp
      rcases hp with rfl | rfl | rfl
      · exact c.x.hd _ m0
      · exact c.x.hd _ m1
      · exact c.x.hd _ m2
