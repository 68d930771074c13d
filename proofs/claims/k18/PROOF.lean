import PyProof.Rows.All
import Wide.All
import OpenK.AllK
import Wide.FinOn
import KE.KTryMore
import HandS.Base
import HandS.Call
import HandS.List
import HandS.Exc
import HandS.Text
import HandS.ForMost
import HandS.ForExc
import HandS.Defaults
import KE.KExcInit
import KE.KExcIs
import HandS.ExcIs
import HandS.IsInst
import HandS.Walk
import HandS.Dict
import HandS.Strs
import PyProof.StrLawsRepr
import HandS.Comp
import HandS.TupAny
import HandS.StrMore
import PyProof.Rows.StrCut
import PyProof.ExcClass
import HandS.ExcInit
import HandS.ExcValue
import PyProof.FString5
import KE.KCallOwn
import HandS.FStr
import HandS.OwnEq
import HandS.More
import PyProof.InstNe
import PyProof.ReprRoads
import PyProof.CallStr
import PyProof.CallFns
import KE.SortKeyHeap
import HandS.SortKw
import HandS.Deep
import PyProof.ReprDict
import PyProof.ReprReads
import KE.GoesEnum
import KE.GoesMore
import HandS.MakeKw
import HandS.MakeKwOnly
import HandS.TryOnly
import HandS.Style
import HandS.Lambda
import HandS.EndBits
import HandS.EndTab
import HandS.EndOwn
import KE.KNestM
import PyProof.FitsInt
import PySem.Challenge.RW_paperkin_k18_wishes_as_texts
set_option Elab.async false
set_option linter.all false
set_option maxRecDepth 100000
set_option maxHeartbeats 4000000
namespace Pk
open PySem PySem.Spec PyProof.Rows L2
open PySem.W (Looks Frag exmOne exmAny)
/-! ### a text, so many times -/
theorem op_times {X : Cx} : OpR X (binaryOp .Mult) (fun x y H Q => ∃ z n, x = .str z ∧ y = .int n ∧ MulOk z n ∧ Q (.str (Txt.mul z n)) H) := by
  rintro pins s σ H x y v u Q I rx ry ⟨z, n, ex, ey, ok, q⟩
  subst ex ey
  obtain ⟨t1, rfl⟩ := rx
  obtain ⟨t2, rfl⟩ := ry
  exact SB.mul ok fun t3 k => ⟨.str (Txt.mul z n), H, I.tok k, ⟨t3, rfl⟩, q⟩
/-! ### except (A, B, ..): the tuple's classes, one after the other -/
section
variable {M : Model} {K : Frag} {h : Heap}
theorem looks_every {β : Type} {cs : List Value} {b0 : β} {f : Value → β → Sem (ForInStep β)} (hf : ∀ c ∈ cs, Looks M h (f c b0) (.yield b0)) : Looks M h (forIn cs b0 f) b0 := by
  induction cs with
  | nil =>
    rw [List.forIn_nil]
    exact .now
  | cons c r ih =>
    rw [List.forIn_cons]
    exact (hf c List.mem_cons_self).andThen (ih fun d hd => hf d (List.mem_cons_of_mem _ hd))
theorem looks_first {β : Type} {b0 b1 : β} {f : Value → β → Sem (ForInStep β)} {g : Value → Bool} : ∀ {cs : List Value}, (∀ c ∈ cs, Looks M h (f c b0) (if g c = true then .done b1 else .yield b0)) → Looks M h (forIn cs b0 f) (if cs.any g = true then b1 else b0)
  | [], _ => by
    rw [List.forIn_nil]
    exact .now
  | c :: r, hf => by
    rw [List.forIn_cons]
    have h1 := hf c List.mem_cons_self
    have h2 := looks_first (cs := r) fun d hd => hf d (List.mem_cons_of_mem _ hd)
    rw [List.any_cons]
    cases hg : g c with
    | true =>
      rw [hg] at h1
      exact h1.andThen .now
    | false =>
      rw [hg] at h1
      rw [Bool.false_or]
      exact h1.andThen h2
theorem exm_all {cls : Value} : ∀ {cs : List Value} {b : Bool}, exmAny K cls cs = some b → ∀ c ∈ cs, exmOne K cls c = some ((exmOne K cls c).getD false)
  | [], _, _, _, hc => by cases hc
  | d :: r, b, e, c, hc => by
    obtain ⟨b1, d1, x1, y1, _⟩ := PySem.W.exmAny_cons e
    rcases List.mem_cons.mp hc with q | q
    · subst q
      rw [x1]
      rfl
    · exact exm_all y1 c q
theorem exm_any {cls : Value} : ∀ {cs : List Value} {b : Bool}, exmAny K cls cs = some b → b = cs.any fun c => (exmOne K cls c).getD false
  | [], b, e => (Option.some.inj e).symm
  | d :: r, b, e => by
    obtain ⟨b1, d1, x1, y1, z⟩ := PySem.W.exmAny_cons e
    rw [List.any_cons, x1, ← exm_any y1, z]
    rfl
/-- an exception held against a tuple of classes, however many -/
theorem exm_tuple {cls : Value} {cs : List Value} {tp e : Addr} {b : Bool} {n : Nat} {ot : Obj} (X : K.In h) (LT : Looks M h (typeOf (.ref e)) cls) (hp : h.get? tp = some ot) (hc : ot.cls = .type "tuple") (hd : ot.data = .seq cs.toArray n) (hx : exmAny K cls cs = some b) :
    Looks M h (excMatches (.ref e) (.ref tp)) b := by
  have LT0 : Looks M h (isInstance (.ref tp) (.type "tuple")) true := ((Looks.ld hp).andThen (by rw [hc]; exact .now)).andThen (Looks.of_pure isSubtype_tuple_tuple)
  have LS : Looks M h (seqItems? (.ref tp)) (some cs.toArray) := fun A Q E s k q => wpAny_seqItems (k _ _ hp) hd q
  have hall := exm_all hx
  have hany := exm_any hx
  unfold excMatches
  refine LT0.andThen ?_
  dsimp only
  rw [if_pos rfl]
  refine LS.andThen (Looks.andThen (a := cs) (by rw [Option.getD_some, List.toList_toArray]; exact .now) ?_)
  refine (looks_every (b0 := PUnit.unit) fun c hc => ?_).andThen ?_
  · refine (PySem.W.exm_cls X (hall c hc)).1.andThen ?_
    exact .now
  · refine LT.andThen ?_
    refine (looks_first (b0 := ((none, ()) : Option Bool × Unit)) (b1 := (some true, ())) (g := fun c => (exmOne K cls c).getD false) fun c hc => ?_).andThen ?_
    · refine (PySem.W.exm_cls X (hall c hc)).2.andThen ?_
      cases (exmOne K cls c).getD false with
      | true => exact .now
      | false => exact .now
    · rw [← hany]
      cases b with
      | true => exact .now
      | false => exact .now
end

/-! ### a caught exception that is kept -/
/-- an exception that was caught and is held as a value at a: its class, its own dict -/
def ExH (cls : Value) (d : Option Addr) (a : Addr) : HO := .ext fun h => ∃ (oe : Obj) (vs : Array Value), h.get? a = some oe ∧ Zc cls d oe ∧ oe.data = .fields vs
section
variable {X : Cx} {pins : List (Addr × Obj)} {σ : L2.St} {H : Hp} {s : Shared}
theorem held_ok {P : Program} {w : World} {h : Heap} {a : Addr} {cls : Value} {d : Option Addr} {oe : Obj} {vs : Array Value} (e : h.get? a = some oe) (z : Zc cls d oe) (hv : oe.data = .fields vs) : ObjOk P w H h a (ExH cls d a) :=
  ⟨⟨oe, vs, e, z, hv⟩, ⟨oe, e⟩, fun _ _ ⟨o, v, q, r⟩ k => ⟨o, v, k o q, r⟩⟩
/-- what was pinned is tracked -/
theorem inv_hold {a : Addr} {oe : Obj} {vs : Array Value} {cls : Value} {d : Option Addr} (J : Inv X ((a, oe) :: pins) σ H s) (z : Zc cls d oe) (hv : oe.data = .fields vs)
    (n0 : ∀ b o, X.s_0.heap.get? b = some o → b ∉ X.ex → b ≠ a) (nc : ∀ x c, X.env.cells.lookup x = some c → c ≠ a) (np : ∀ p ∈ X.pn ++ pins, p.1 ≠ a) : Inv X pins σ (upd H a (ExH cls d a)) s := by
  obtain ⟨ea, na, aL, aF, _⟩ := J.pin (a, oe) (List.mem_append_right _ List.mem_cons_self)
  have ne : ∀ {b : Addr} {o : HO}, H b = some o → b ≠ a := fun {b o} q => ne_of_none q na
  refine ⟨J.ok, J.os, J.bare, ⟨J.base.keep, J.base.slot, ?_, J.base.there, ?_, ?_, ?_⟩, J.loc, J.cell, ?_, ?_, ?_, ?_, J.len⟩
  · intro b o e n hx
    rw [upd_ne (n0 b o e hx)]
    exact J.base.free b o e n hx
  · intro b xs e
    have q := J.base.tups b xs e
    rw [upd_ne (ne q)]
    exact q
  · intro b o u e
    have q := J.base.frzs b o u e
    rw [upd_ne (ne q)]
    exact q
  · intro b ps e
    obtain ⟨m, q⟩ := J.base.tbls b ps e
    exact ⟨m, by rw [upd_ne (ne q)]; exact q⟩
  · rw [upd_ne (Ne.symm aL)]
    exact J.free
  · intro x c e
    rw [upd_ne (nc x c e)]
    exact J.freeC x c e
  · intro p hp
    have hq : p ∈ X.pn ++ (a, oe) :: pins := by
      rcases List.mem_append.mp hp with q | q
      · exact List.mem_append_left _ q
      · exact List.mem_append_right _ (List.mem_cons_of_mem _ q)
    obtain ⟨e, n, r⟩ := J.pin p hq
    exact ⟨e, by rw [upd_ne (np p hp)]; exact n, r⟩
  · intro b u e
    by_cases hb : b = a
    · subst hb
      rw [upd_same] at e
      cases e
      exact held_ok ea z hv
    · rw [upd_ne hb] at e
      exact (J.hok b u e).stay (fun _ _ _ q => q) (fun c q => by rw [upd_ne (ne q)]; exact q) fun c xs q => by rw [upd_ne (ne q)]; exact q
end
/-- what 'except (A, B, ..) as n: suite' wishes of an exception of the body, where the suite may keep it: behind the suite it is tracked -/
def wHeld (K : Frag) (cs : List Value) (i : Nat) (ts : Addr → Value → Option Addr → TS) (Wout : WX) (D : Ends) : WX := fun cls d σ H =>
  ∃ b, exmAny K cls cs = some b ∧
    (b = true → ∀ a, H a = none → ts a cls d { nx := fun σ' H' => H' a = none → D.nx (σ'.set i none) (upd H' a (ExH cls d a)), rt := fun _ _ => False, bk := fun _ _ => False, ct := fun _ _ => False } (σ.set i (some (.ref a))) H) ∧
    (b = false → Wout cls d σ H)
/-- the names of a written tuple of classes -/
inductive NamesAll (X : Cx) : List Expr → List Value → Prop
  | nil : NamesAll X [] []
  | cons {x : Str} {c : Value} {np : Pos} {es : List Expr} {cs : List Value} (hg : Gl X x) (hd : (x == ("__debug__" : Str)) = false) (hm : X.mg x = some c) (r : NamesAll X es cs) : NamesAll X (.Name x np :: es) (c :: cs)
section
variable {X : Cx} {n : Str} {cs : List Value} {es : List Expr} {i kk : Nat} {body suite : List Stmt} {b₀ : Stmt} {tpos pos pos' : Pos} {tb : WX → TS} {ts : Addr → Value → Option Addr → TS} {Wout : WX}
/-- the tuple of the clause is laid, nothing else is done -/
theorem names_run {a : Addr} {pn : List (Addr × Obj)} {σ : L2.St} {H : Hp} {s : Shared} {pins : List (Addr × Obj)} {E : Value → Shared → Prop} (S : Inv (X.suite a pn) pins σ H s) : ∀ {es : List Expr} {cs : List Value}, NamesAll X es cs → ∀ {Q : List Value → Shared → Prop}, Q cs s →
    wpAny (model X.prog X.w) (X.A.mark (some (.ref a))) (spliced (backTo tpos (starEach es X.env))) Q E s
  | _, _, .nil, Q, q => wpAny_items_nil q
  | _, _, .cons hg hd hm r, Q, q => wpAny_items_cons (ld_glob (X := X.suite a pn) S hg hm (names_run S r q) hd)
theorem names_len : ∀ {es : List Expr} {cs : List Value}, NamesAll X es cs → cs.length = es.length
  | _, _, .nil => rfl
  | _, _, .cons _ _ _ r => by rw [List.length_cons, List.length_cons, names_len r]
theorem flying_more {B : Heap} {l : List Env} {a : Addr} {Z : Obj → Prop} {h h' : Heap} (k : ∀ b o, h.get? b = some o → h'.get? b = some o) (f : HandSPX.FlyingZ B l a Z h) : HandSPX.FlyingZ B l a Z h' := by
  obtain ⟨f1, f2, f3, oe, vs, T, oT, tts, e1, e2, e3, e4, e5, e6, e7, e8⟩ := f
  exact ⟨fun b o q => k b o (f1 b o q), f2, f3.of_keeps fun b o q _ => ⟨o, k b o q, rfl⟩, oe, vs, T, oT, tts, k _ _ e1, e2, e3, e4, e5, e6, k _ _ e7, e8⟩
theorem ps_try_held (hs : X.stack = X.env :: X.outer) (hf : X.env.frame = some X.env.locals) (hN : X.N.Nodup) (hi : X.N[i]? = some n) (hln : X.env.kindOf n = some .local) (hc : NamesAll X es cs) (hz : es.length ≤ 1000) (tk : Takes X Wout)
    (hb : ∀ (W : WX) (pn : List (Addr × Obj)) (xe : Value → Shared → Prop), Takes (X.tr pn xe) W → PassesOwn (model X.prog X.w) X.A X.env xe → PSs (X.tr pn xe) body (tb W))
    (hsu : ∀ (a : Addr) (oe : Obj) (cls : Value) (d : Option Addr) (pn : List (Addr × Obj)), Zc cls d oe → (∃ vs, oe.data = .fields vs) → PSs (X.suite a ((a, oe) :: pn)) (b₀ :: suite) (ts a cls d)) :
    PS X (.Try body [.ExceptHandler (some (.Tuple es kk tpos)) (some n) (b₀ :: suite) pos'] [] [] pos) (fun D σ H => tb (wHeld X.K cs i ts Wout D) D σ H) := by
  constructor
  intro pins s σ H D I h
  have ok := I.ok
  have hfr : X.A.frames = some (X.env :: X.outer) := ok.frames.trans (congrArg some hs)
  refine wpAny_Try_except ?_
  have body_ := hb (wHeld X.K cs i ts Wout D) (X.pn ++ pins) (fun e s₁ => wpAny (model X.prog X.w) X.A (noteFrame e X.env) (fun _ s₂ => wpAny (model X.prog X.w) X.A (setFlight e none)
    (fun _ s₃ => wpAny (model X.prog X.w) X.A (handleBy e X.env [.ExceptHandler (some (.Tuple es kk tpos)) (some n) (b₀ :: suite) pos']) (SP X pins D) X.xe s₃) X.xe s₂) X.xe s₁) ?caught PassesOwn.looking
  refine wpAny_mono (body_.run [] s σ H D (I.toTry _) h) ?through fun e s1 he => he
  case through =>
    intro f s1 hsp
    cases f with
    | next =>
      obtain ⟨σ', H', J', q⟩ := hsp
      exact wpAny_execs_nil ⟨σ', H', J'.ofTry ok, q⟩
    | brk =>
      obtain ⟨σ', H', J', q⟩ := hsp
      exact ⟨σ', H', J'.ofTry ok, q⟩
    | cont =>
      obtain ⟨σ', H', J', q⟩ := hsp
      exact ⟨σ', H', J'.ofTry ok, q⟩
    | ret u =>
      obtain ⟨v, σ', H', J', r, q⟩ := hsp
      exact ⟨v, σ', H', J'.ofTry ok, r, q⟩
  case caught =>
    rintro u s' ⟨a, B, sI, pins', σ', H', cls, d, rfl, J', nb, up, sky, na, os, ag, b, hb1, hyes, hno⟩
    have J : Inv X pins σ' H' sI := J'.ofTry ok
    rw [hs] at sky
    show wpAny (model X.prog X.w) X.A (noteFrame (.ref a) X.env) _ _ _
    refine Sky.land Zc.steady hfr hf sky fun h3 fl3 up3 => ?_
    obtain ⟨oe3, vs3, he3, hz3, hd3⟩ := fl3.there
    -- where the exception stands: in no frame, new
    have nfr : a ∉ frs (X.env :: X.outer) := fun hm => by
      obtain ⟨_, o', e', hnf⟩ := fl3.2.2.1.mem hm
      rw [he3] at e'
      cases e'
      exact hnf _ hd3
    have nL : a ≠ X.env.locals := fun z => nfr (List.mem_filterMap.mpr ⟨X.env, List.mem_cons_self, by rw [hf, z]⟩)
    have nF : a ∉ X.fs := fun hm => by
      obtain ⟨e, he, q⟩ := List.mem_filterMap.mp hm
      exact nfr (List.mem_filterMap.mpr ⟨e, List.mem_cons_of_mem _ he, q⟩)
    have new : sI.heap.get? a = none := by
      cases q : sI.heap.get? a with
      | none => rfl
      | some o =>
        have z := nb a o q (by rw [hs]; exact nfr)
        rw [fl3.2.1] at z
        cases z
    have ne_ : ∀ {b : Addr} {o : Obj}, sI.heap.get? b = some o → b ≠ a := fun {b o} q z => by
      rw [z, new] at q
      cases q
    have n0 : ∀ b o, X.s_0.heap.get? b = some o → b ∉ X.ex → b ≠ a := fun b o e hx => by
      obtain ⟨o', q⟩ := J.base.there b o e hx
      exact ne_ q
    have nc : ∀ x c, X.env.cells.lookup x = some c → c ≠ a := fun x c e => by
      obtain ⟨v, o, q, _⟩ := J.cell x c e
      exact ne_ q
    have np : ∀ p ∈ X.pn ++ pins, p.1 ≠ a := fun p hp => ne_ (J.pin p hp).1
    have J3 : Inv X pins σ' H' { s' with heap := h3 } := J.landed nb fl3.1 (up.trans up3) os ag
    have S3 := J3.suite he3 hd3 na nL nF
    refine wpAny_handleBy_cons (codeAny_handlers_test ?_) (by intro q; cases q)
    -- the tuple
    refine wpAny_Tuple (names_run S3 hc ⟨by rw [names_len hc]; exact Nat.le_trans hz (by decide), ?_⟩)
    have kp : ∀ q o, h3.get? q = some o → (h3.push { cls := .type "tuple", data := .seq cs.toArray }).get? q = some o := fun _ _ z => Heap.get?_push_of_some _ z
    have fl5 := flying_more kp fl3
    have up5 : sI.heap.UpToSlots (h3.push { cls := .type "tuple", data := .seq cs.toArray }) := (up.trans up3).trans (.of_keeps kp)
    generalize hh5 : h3.push { cls := .type "tuple", data := .seq cs.toArray } = h5 at kp fl5 up5
    have htp : h5.get? h3.objs.size = some { cls := .type "tuple", data := .seq cs.toArray } := by
      rw [← hh5]
      exact Heap.get?_push_size h3 rfl
    have J5 : Inv X pins σ' H' { s' with heap := h5 } := J.landed nb fl5.1 up5 os ag
    have LT : Looks (model X.prog X.w) h5 (typeOf (.ref a)) cls := fun A Q E s k q => wpAny_typeOf_ref (k _ _ (kp _ _ he3)) (by rw [hz3.1]; exact q)
    refine (exm_tuple J5.kIn LT htp rfl rfl hb1).here ?_
    cases b with
    | true =>
      refine codeAny_handlers_suite_as ?_
      refine HandSPX.lands_againZ fl5 fun h4 fl4 up4 => ?_
      have J4 : Inv X pins σ' H' { s' with heap := h4 } := J.landed nb fl4.1 (up5.trans up4) os ag
      obtain ⟨oe4, vs4, he4, hz4, hd4⟩ := fl4.there
      have S4 := J4.suite he4 hd4 na nL nF
      refine store_ok (X := X.suite a ((a, oe4) :: (X.pn ++ pins))) (v := .ref a) S4 hN hi (.inl hln) rfl (fun s5 S5 => ?_) (.inr hln)
      refine wpAny_mono ((hsu a oe4 cls d (X.pn ++ pins) hz4 ⟨_, hd4⟩).run [] s5 _ H' _ S5 (hyes rfl a na)) (fun f s6 hsp => ?_) fun _ _ z => False.elim z
      cases f with
      | next =>
        obtain ⟨σ6, H6, S6, q6⟩ := hsp
        have U6 : Inv X ((a, oe4) :: pins) σ6 H6 s6 := ⟨ok, S6.os, S6.bare, S6.base, S6.loc, S6.cell, S6.free, S6.freeC, fun p hp => S6.pin p (by
          rw [List.append_nil]
          rcases List.mem_append.mp hp with q | q
          · exact List.mem_cons_of_mem _ (List.mem_append_left _ q)
          · rcases List.mem_cons.mp q with q | q
            · rw [q]
              exact List.mem_cons_self
            · exact List.mem_cons_of_mem _ (List.mem_append_right _ q)), S6.hok, S6.len⟩
        refine gone_ok U6 hN hi hln fun s7 J7 => ?_
        have na7 := (J7.pin (a, oe4) (List.mem_append_right _ List.mem_cons_self)).2.1
        exact ⟨_, _, inv_hold J7 hz4 hd4 n0 nc np, q6 na7⟩
      | brk =>
        obtain ⟨σ6, H6, S6, q6⟩ := hsp
        exact q6.elim
      | cont =>
        obtain ⟨σ6, H6, S6, q6⟩ := hsp
        exact q6.elim
      | ret u =>
        obtain ⟨v6, σ6, H6, S6, r6, q6⟩ := hsp
        exact q6.elim
    | false =>
      show wpAny _ X.A (handleBy (.ref a) X.env []) _ _ _
      refine wpAny_handleBy_nil ?_
      obtain ⟨k1, k2, k3, oe, vs, T, oT, tts, he, hz, hd, h1, hr⟩ := id fl5
      unfold PySem.passOn
      refine wpAny_bind (wpAny_field he hd h1 ?_)
      rw [if_neg (show ¬ ((Value.ref T == Value.none) = true) from by simp)]
      have fin : wpAny (model X.prog X.w) X.A (setFlight (.ref a) X.env.frame) (fun _ s4 => wpAny (model X.prog X.w) X.A (throw (.ref a) : Sem Flow) (SP X pins D) X.xe s4) X.xe { s' with heap := h5 } := by
        rw [hf]
        refine HandSPX.setFlight_upZ fl5 fun h4 hh4 up4 => wpAny_throw (tk _ _ ?_)
        exact ⟨a, B, sI, pins, σ', H', cls, d, rfl, J, nb, up5.trans up4, .inr (.inr (by rw [hs]; exact hh4)), na, os, ag, hno rfl⟩
      first
        | exact wpAny_bind (wpAny_pure (wpAny_bind fin))
        | exact wpAny_bind fin
end
end Pk
/-! Defs that are called while nothing is being shown (no repr runs around them): for repr of lists. -/
namespace Pk
open PySem PySem.Spec PyProof.Rows L2
/-- nothing is being shown around -/
def Calm (A : Around) : Prop := A.guards = some []
/-- a def's promise, where nothing is being shown around its call -/
structure FnG (P : Program) (w : World) (K : PySem.W.Frag) (mg : Str → Option Value) (base : Heap) (CX : CXT) (k : Nat) (f : Addr) (fd : FuncData) (ps : List Str) (sp : Sp) : Prop where
  size : ∀ vs H Q E, sp vs H Q E → vs.length = ps.length
  go : ∀ (A : Around), Calm A → Room k A → ∀ (outer : List Env) (s : Shared) (H : Hp) (args : Args) (us : List Value) (vs : List V) (Q : VK) (E : XK), Env0 P w K mg base A outer s H →
    BindsTo s fd args (ps.zip us) → Vals vs us → sp vs H Q E → codeAny (model P w) A (.call (.ref f) args) (CR CX outer P w H s Q E) s
section
variable {P : Program} {w : World} {K : PySem.W.Frag} {mg : Str → Option Value} {base : Heap} {CX : CXT} {k : Nat} {f : Addr} {fd : FuncData} {ps : List Str} {sp : Sp}
theorem FnG.of (F : FnOk P w K mg base CX k f fd ps sp) : FnG P w K mg base CX k f fd ps sp := ⟨F.len, fun A _ hr outer s H args us vs Q E e0 hb r h => F.run A outer s H args us vs Q E hr e0 hb r h⟩
/-- a def by its body -/
theorem fnG_of {name qual : Str} {params : Arguments} {body : List Stmt} {scope : Scope} {dV kV doc pm cdv ct oc : Value} {an od : Option Addr} {osl : Array (Option Value)} {N : List Str}
    (lk : K.lookup f = some ⟨oc, od, .func (PySem.W.fnOf name qual params body scope dV kV doc pm an cdv ct), osl⟩) (hcd : PySem.W.codeIn K cdv qual = true) (S : FnScope N ps scope) (size : ∀ vs H Q E, sp vs H Q E → vs.length = ps.length)
    (hbody : ∀ (A : Around), Calm A → ∀ (outer : List Env) (s : Shared) (H : Hp) (vs : List V) (Q : VK) (E : XK), Room k (A.deeper (envOfC qual scope s.heap.objs.size f cdv)) → sp vs H Q E →
      ∃ t, PSs (cxOf CX P w K mg base N qual scope f cdv A outer s H E) body t ∧ t { nx := fun _ H' => Q .non H', rt := Q } (start N vs) H) :
    FnG P w K mg base CX (k + 1) f (PySem.W.fnOf name qual params body scope dV kV doc pm an cdv ct) ps sp := by
  refine ⟨size, ?_⟩
  intro A calm hr outer s H args us vs Q E e0 hb r hsp
  have keep := fun b o e => (e0.bs b o e).1
  have KX := e0.mod.kin.keeps keep
  obtain ⟨t, ht, hq⟩ := hbody A calm outer s H vs Q E (hr.deeper _) hsp
  refine codeAny_call_function hr.depth (KX _ _ lk) rfl S.co S.gen rfl (PySem.W.codeRec_of KX hcd) (hb _ _ _ _ (wpAny_newFunctionEnv_cells S.kind ?kinds ?inside))
  case kinds =>
    rintro ⟨n, v⟩ hy
    rcases S.par n (List.of_mem_zip hy).1 with q | q
    · exact .inl q
    · exact .inr ⟨q, PySem.W.cellsFrom_some _ _ _ (.inl q)⟩
  case inside =>
    rintro env rfl s1 x
    refine ⟨(e0.mod.nolimit.keeps keep).keeps x.toInCall.keep, codeAny_func ?_⟩
    have I := inv_start (CX := CX) (E := E) S hr.hd e0 (size _ _ _ _ hsp) r x
    refine wpAny_mono (ht.run [] s1 (start N vs) H _ I hq) ?_ fun e s' hs => hs
    intro fl s' hs
    cases fl with
    | ret u =>
      obtain ⟨v, σ', H', J, rv, q⟩ := hs
      exact ⟨v, H', J.os, J.bare, J.base, J.hok, rv, q⟩
    | next =>
      obtain ⟨σ', H', J, q⟩ := hs
      exact ⟨.non, H', J.os, J.bare, J.base, J.hok, rfl, q⟩
    | brk =>
      obtain ⟨_, _, _, q⟩ := hs
      exact q.elim
    | cont =>
      obtain ⟨_, _, _, q⟩ := hs
      exact q.elim
/-- as Fun.ok -/
theorem okG {x qual : Str} {st : Stmt} {N : List Str} (F : Fun K x qual st f fd) (S : FnScope N ps (defScope st)) (size : ∀ vs H Q E, sp vs H Q E → vs.length = ps.length)
    (hbody : ∀ (cdv : Value) (A : Around), Calm A → ∀ (outer : List Env) (s : Shared) (H : Hp) (vs : List V) (Q : VK) (E : XK), Room k (A.deeper (envOfC qual (defScope st) s.heap.objs.size f cdv)) → sp vs H Q E →
      ∃ t, PSs (cxOf CX0 P w K mg base N qual (defScope st) f cdv A outer s H E).nox (defBody st) t ∧ t { nx := fun _ H' => Q .non H', rt := Q } (start N vs) H) : FnG P w K mg base CX0 (k + 1) f fd ps sp := by
  obtain ⟨oc, od, kV, doc, pm, an, cdv, ct, osl, rfl, lk, hcd⟩ := F.ex
  refine fnG_of lk hcd S size ?_
  intro A calm outer s H vs Q E hr hsp
  obtain ⟨t, h, q⟩ := hbody cdv A calm outer s H vs Q E hr hsp
  exact ⟨t, h.nox, q⟩
end
/-! ### calls of such defs -/
section
variable {X : Cx} {CX : CXT} {k : Nat} {f : Addr} {fd : FuncData} {ps ks : List Str} {sp : Sp} {E : XK} {x : Str} {p pos : Pos} {e : Expr} {es : List Expr} {t tk : TA} {ds : List Value} {dvs : List V}
theorem runG {pins : List (Addr × Obj)} {σ : L2.St} {H : Hp} {s : Shared} {Q : VK} {us : List Value} {vs : List V} (F : FnG X.prog X.w X.K X.mg X.base CX k f fd ps sp) (calm : Calm X.A) (hr : Room k X.A) (hb : Binds X.K fd ps ds) (hd : Vals dvs ds) (hx : Passes CX X E)
    (I : L2.Inv X pins σ H s) (r : Vals vs us) (h : sp (vs ++ dvs) H Q E) : wpAny (model X.prog X.w) X.A (call (.ref f) us) (EP X pins σ Q) X.xe s := by
  have r2 := r.append hd
  have hl : (us ++ ds).length = ps.length := r2.length.symm.trans (F.size _ _ _ _ h)
  refine wpAny_call (codeAny_mono (F.go X.A calm hr X.stack s H ⟨us, []⟩ (us ++ ds) (vs ++ dvs) Q E I.env0 (hb s us I.kIn hl) r2 h) ?_)
  intro r s' hq
  match r, hq with
  | .error e, hq => exact hx pins σ H s e s' I hq
  | .ok (.ret u), hq => exact I.after hq
  | .ok .next, hq => exact hq.elim
  | .ok .brk, hq => exact hq.elim
  | .ok .cont, hq => exact hq.elim
theorem pe_callG (F : FnG X.prog X.w X.K X.mg X.base CX k f fd ps sp) (calm : Calm X.A) (hr : Room k X.A) (hg : Gl X x) (hm : X.mg x = some (.ref f)) (hk : PySem.W.keepIn X.K (.ref f) = true) (hb : Binds X.K fd ps ds) (hd : Vals dvs ds) (hx : Passes CX X E)
    (ha : PA X (e :: es) t) (hdb : (x == ("__debug__" : Str)) = false := by decide) (he : starEach (e :: es) X.env = (false, eval e X.env) :: starEach es X.env := by rfl) (hpl : (backTo pos (starEach es X.env)).any (·.1) = false := by rfl) :
    PE X (.Call (.Name x p) (e :: es) [] pos) (tCall sp dvs E t) := by
  constructor
  intro pins s σ H Q I h
  refine wpAny_Call_Name_kw (ld_glob I hg hm (PySem.W.callWith_K (h₀ := X.base) I.ok.mod.kin hk (thn (ha.run pos pins s σ H _ I h) ?_) he hpl) hdb)
  rintro us s1 ⟨vs, H1, I1, r, q⟩
  exact ⟨I1.kIn, runG F calm hr hb hd hx I1 r q⟩
theorem pe_call0G (F : FnG X.prog X.w X.K X.mg X.base CX k f fd ps sp) (calm : Calm X.A) (hr : Room k X.A) (hg : Gl X x) (hm : X.mg x = some (.ref f)) (hk : PySem.W.keepIn X.K (.ref f) = true) (hb : Binds X.K fd ps ds) (hd : Vals dvs ds) (hx : Passes CX X E)
    (hdb : (x == ("__debug__" : Str)) = false := by decide) : PE X (.Call (.Name x p) [] [] pos) (tCall sp dvs E tNil) := by
  constructor
  intro pins s σ H Q I h
  refine wpAny_Call_Name_kw (ld_glob I hg hm ?_ hdb)
  exact PySem.W.callWith_K0 I.kIn hk (runG (us := []) (vs := []) F calm hr hb hd hx I .nil h)
end
/-! ### repr -/
section
variable {X : Cx}
/-- data as it is shown: of texts, numbers, truths, None, lists and tuples; or an empty dict -/
inductive Dq (K : PySem.W.Frag) (H : Hp) : V → PyData → Prop
  | of {v : V} {d : PyData} (h : Dp K H v d) (n : d.hasDict = false) : Dq K H v d
  | emp {a : Addr} (h : H a = some (.dK [])) : Dq K H (.ref a) (.dict [])
/-- repr(x) -/
def rShow (K : PySem.W.Frag) : List V → Hp → VK → Prop := fun xs H Q => ∃ x d, xs = [x] ∧ Dq K H x d ∧ d.showable = true ∧ d.depth ≤ 64 ∧ d.shown.length ≤ sizeLine ∧ Q (.str d.shown) H
theorem call_show (calm : Calm X.A) (hu : X.A.units + 70 < cLine) : CallR X (.builtin "repr") (rShow X.K) := by
  rintro pins s σ H xs us Q I r ⟨x, d, rfl, hd, hs, hdep, hsz, q⟩
  obtain ⟨u, rfl, rx⟩ := vals1 r
  have leaf : ∀ {t k : Nat}, EP X pins σ Q (.str d.shown t) { s with toks := k } := fun {t k} => ⟨.str d.shown, H, I.tok _, ⟨_, rfl⟩, q⟩
  have big : ∀ {a : Addr} {as : List Addr}, u = .ref a → Reads s.heap (.ref a) d as → (d.hasDict = true → sysModules ∉ as) → wpAny (model X.prog X.w) X.A (call (.builtin "repr") [u]) (EP X pins σ Q) X.xe s := by
    intro a as e rd nd
    subst e
    exact repr_of_reads' rd hs nd calm (by omega) (fun _ _ z => z) (fun h' t tk keep => ⟨.str d.shown, H, I.kept keep, ⟨_, rfl⟩, q⟩) hsz
  cases hd with
  | of h n =>
    obtain ⟨as, rd⟩ := Dp.reads I d x u h rx
    cases h with
    | non =>
      cases rx
      exact P.repr_of_none leaf
    | bl b =>
      cases rx
      exact P.repr_of_bool leaf
    | int i =>
      obtain ⟨t, rfl⟩ := rx
      exact P.repr_of_int (of_decide_eq_true hs) leaf
    | str y =>
      obtain ⟨t, rfl⟩ := rx
      exact P.repr_of_str leaf hsz
    | lst h1 h2 =>
      cases rx
      exact big rfl rd fun z => by rw [n] at z; cases z
    | tup h1 h2 =>
      cases rx
      exact big rfl rd fun z => by rw [n] at z; cases z
  | @emp a h =>
    cases rx
    obtain ⟨_, ns, vs, kv, o, es, ep, h1, h2, h3, h4⟩ := I.hok a _ h
    cases kv
    have e0 : es.toList = [] := by
      have z := h4.2.1
      cases hes : es.toList with
      | nil => rfl
      | cons e r =>
        rw [hes] at z
        cases z
    have rd : Reads s.heap (.ref a) (.dict []) (a :: [] ++ []) := .dict h1 h2.1 h3 (by rw [e0]; exact .nil) (by rw [e0]; exact .nil)
    refine big rfl rd fun _ hm => ?_
    rw [List.append_nil, List.mem_singleton] at hm
    rw [hm, beq_self_eq_true] at ns
    cases ns
end
/-! ### the end: the law is called while nothing is being shown -/
section
variable {P : Program} {w : World} {K : PySem.W.Frag} {mg mb : Str → Option Value} {k : Nat} {fa a : Addr} {fd : FuncData} {x : Str} {sp : Sp} {s : Shared} {vs : List Value} {ns : List Int}
/-- at the law's call at most the script is tracked -/
theorem lawG_at (H : Hp) (only : Only H) (just : ∀ b, H b ≠ none → b = a) (apart : H a ≠ none → K.lookup a = none) (hok : HOk P w H s.heap) (kin : K.In s.heap) (gl : s.heap.Ns mainGlobals mg) (bl : s.heap.Ns builtinsNs mb) (bb : ∀ x : Str, x ≠ "__name__" → mb x = bootBuiltins x)
    (lim : s.heap.NoLimit) (gens : s.gens = #[]) (obj : s.heap.get? a = some { cls := .type "list", data := .seq vs.toArray }) (room : Room k callerA) (F : ∀ base : Heap, K.In base → base.Ns mainGlobals mg → FnG P w K mg base CX0 k fa fd [x] sp)
    (bind : ∀ (s : Shared) (u : Value), BindsTo s fd ⟨[u], []⟩ [(x, u)]) (hsp : sp [.ref a] H (fun v _ => v = .bl true) fun _ _ _ => False) :
    codeAny (model P w) callerA (.call (.ref fa) ⟨[.ref a], []⟩) (fun r s' => r = .ok (.ret (.bool true)) ∧ OldK s.heap s'.heap ∧ s'.os = s.os ∧ AllBare s'.gens) s := by
  have at_a : ∀ {b : Addr} {u : HO}, H b = some u → b = a := fun {b u} q => just b (by rw [q]; exact fun z => nomatch z)
  have untracked : ∀ {b : Addr} {o : Obj} {es : Array DictEntry} {n : Nat}, s.heap.get? b = some o → o.data = .dict es n → H b = none := by
    intro b o es n e d
    cases q : H b with
    | none => rfl
    | some u =>
      rw [at_a q, obj] at e
      cases e
      cases d
  have names : ∀ {b : Addr} {m : Str → Option Value}, s.heap.Ns b m → (hidT s.heap H).Ns b m := by
    rintro b m ⟨o, es, n, e, d, r⟩
    exact ⟨o, es, n, hidT_get e (untracked e d), d, r⟩
  have kin' : K.In (hidT s.heap H) := by
    intro b o e
    refine hidT_get (kin b o e) ?_
    cases q : H b with
    | none => rfl
    | some u =>
      have z := apart (by rw [← at_a q, q]; exact fun z => nomatch z)
      rw [at_a q, z] at e
      cases e
  obtain ⟨mc, lm, lv⟩ := lim
  have md : Mod K mg (hidT s.heap H) := ⟨kin', names gl, ⟨mb, names bl, bb⟩, ⟨mc, names lm, lv⟩⟩
  have env : Env0 P w K mg (hidT s.heap H) callerA [] s H := ⟨rfl, md, fun b o e => of_hidT e, Nat.le_of_eq (hidT_size _ _), trivial, (fun b hb => by cases hb), hok, AllBare.of_eq gens⟩
  refine codeAny_mono ((F _ kin' (names gl)).go callerA rfl room [] s H ⟨[.ref a], []⟩ [.ref a] [.ref a] _ _ env (bind s (.ref a)) (.cons rfl .nil) hsp) ?_
  intro r s' h
  match r, h with
  | .error e, h => exact h.elim
  | .ok .next, h => exact h.elim
  | .ok .brk, h => exact h.elim
  | .ok .cont, h => exact h.elim
  | .ok (.ret u), ⟨v, H', os, bare, un, hok', rv, q⟩ =>
    have q' : v = .bl true := q
    subst q'
    cases (show u = Value.bool true from rv)
    refine ⟨rfl, OldK.of_keep fun b o e => ?_, os, bare⟩
    rcases only b with z | ⟨ob, xs, z⟩
    · exact un.keep b o e z (fun m => by cases m) (fun m => by cases m)
    · have e1 := (hok b _ z).1
      have e2 := (hok' b _ (un.frzs b ob _ z)).1
      rw [e] at e1
      cases e1
      exact e2
theorem lawG_call (kin : K.In s.heap) (gl : s.heap.Ns mainGlobals mg) (bl : s.heap.Ns builtinsNs mb) (bb : ∀ x : Str, x ≠ "__name__" → mb x = bootBuiltins x) (lim : s.heap.NoLimit) (gens : s.gens = #[]) (obj : s.heap.get? a = some { cls := .type "list", data := .seq vs.toArray })
    (hin : IntsAre vs ns) (short : ns.length ≤ sizeLine) (room : Room k callerA) (F : ∀ base : Heap, K.In base → base.Ns mainGlobals mg → FnG P w K mg base CX0 k fa fd [x] sp) (bind : ∀ (s : Shared) (u : Value), BindsTo s fd ⟨[u], []⟩ [(x, u)])
    (hsp : ∀ H : Hp, SqL K H a (ns.map V.int) → sp [.ref a] H (fun v _ => v = .bl true) fun _ _ _ => False) :
    codeAny (model P w) callerA (.call (.ref fa) ⟨[.ref a], []⟩) (fun r s' => r = .ok (.ret (.bool true)) ∧ OldK s.heap s'.heap ∧ s'.os = s.os ∧ AllBare s'.gens) s := by
  have rv := vals_ints hin
  have len := hin.length
  cases hk : K.lookup a with
  | some o =>
    have e := kin a o hk
    rw [obj] at e
    cases e
    refine lawG_at (fun _ => none) (fun _ => .inl rfl) (fun b z => absurd rfl z) (fun z => absurd rfl z) (fun b u z => by cases z) kin gl bl bb lim gens obj room F bind (hsp _ (.inr ?_))
    exact ⟨_, vs.toArray, _, hk, rfl, rfl, rfl, by rw [List.size_toArray, len]; exact short, by simpa using rv⟩
  | none =>
    let ob : Obj := { cls := .type "list", data := .seq vs.toArray }
    have at_ : ∀ {b : Addr} {u : HO}, upd (fun _ => none) a (.frz ob (.lst (ns.map V.int))) b = some u → b = a ∧ u = .frz ob (.lst (ns.map V.int)) := by
      intro b u e
      by_cases hb : b = a
      · subst hb
        rw [upd_same] at e
        cases e
        exact ⟨rfl, rfl⟩
      · rw [upd_ne hb] at e
        cases e
    refine lawG_at (upd (fun _ => none) a (.frz ob (.lst (ns.map V.int)))) (fun b => ?_) (fun b z => ?_) (fun _ => hk) (fun b u e => ?_) kin gl bl bb lim gens obj room F bind (hsp _ (.inl (.inr ⟨ob, upd_same⟩)))
    · by_cases hb : b = a
      · rw [hb]
        exact .inr ⟨ob, ns.map V.int, upd_same⟩
      · exact .inl (upd_ne hb)
    · cases q : upd (fun _ => none) a (.frz ob (.lst (ns.map V.int))) b with
      | none => exact absurd q z
      | some u => exact (at_ q).1
    · obtain ⟨rfl, rfl⟩ := at_ e
      exact ⟨obj, by rw [List.length_map]; exact short, vs, _, rv, obj⟩
end
theorem walkG {l : PySem.W.OpenLaw} {n k : Nat} {q : Program} {loose : List Str} {XP : (Str → Option Value) → Heap → Prop} {YP : World → Heap → Prop} {d : DefRec} {K : Params → PySem.W.Frag} {sp : PySem.W.Frag → Sp} {x : Str} (hn : l.most = some n) (hn2 : n ≤ sizeLine) (hdf : d.params.defaults = []) (hr : Room k callerA)
    (hY : ∀ (w : World) (h : Heap), YP w h → (K w.params).In h)
    (F : ∀ (w : World) (mg : Str → Option Value) (fa : Addr) (h : Heap), (K w.params).In h → h.Ns mainGlobals mg → mg d.name = some (.ref fa) →
      ∃ fd : FuncData, (∀ (s : Shared) (u : Value), BindsTo s fd ⟨[u], []⟩ [(x, u)]) ∧ ∀ base : Heap, (K w.params).In base → base.Ns mainGlobals mg → FnG l.prog w (K w.params) mg base CX0 k fa fd [x] (sp (K w.params)))
    (hsp : ∀ (K : PySem.W.Frag) (H : Hp) (a : Addr) (ns : List Int), ns.length ≤ n → SqL K H a (ns.map V.int) → sp K [.ref a] H (fun v _ => v = .bl true) fun _ _ _ => False) :
    PySem.W.WalkO q loose XP YP l.row.toRowW d [] (fun f vs => PySem.call f vs) := by
  refine Att.attach_call hn hdf ?_
  intro w s₀ s₁ mg mb fa o pm cd doc a vs ns G Y ho hd hcd hmg hobj hints hlen hg
  obtain ⟨fd, hb, hF⟩ := F w mg fa _ (hY w _ Y) G.T.g hmg
  exact lawG_call (hY w _ Y) G.T.g G.T.b G.T.builtins G.T.nolimit hg hobj hints (Nat.le_trans hlen hn2) hr hF hb fun H hS => hsp _ H a ns hlen hS
end Pk
/-! Own errors that keep what they are made of in one field: made, raised, caught, kept, read. -/
namespace Pk
open PySem PySem.Spec PySem.W PySem.Calls PyProof.Rows PySem.HandSPX
open Builtin Builtin.ObjectAttr
/-- what a class's line of ancestors must bear, so that its errors are made and their fields stored -/
structure Line (bm bmB : List Value) : Prop where
  has : ∀ X : String, bm.contains (.type X) = bmB.contains (.type X)
  pass : ∀ self : Value, refuseLoop self "__setattr__" bm = pure ()
  obj : bmB.contains (.type "object") = true
theorem Line.own {bm bmB : List Value} {c : Addr} (l : Line bm bmB) : Line (.ref c :: bm) bmB where
  has := fun X => by
    rw [List.contains_cons, l.has X]
    rfl
  pass := fun self => by
    rw [refuseLoop_ref]
    exact l.pass self
  obj := l.obj
section
variable {prog : Program} {w : World} {A : Around} {E : Value → Shared → Prop} {R : Result → Shared → Prop} {hp : Heap} {g : Array GenState} {d : Drawn} {t : Nat} {os : OsState}
/-- self.name = v on an error that has no dict yet, whatever its built-in base -/
theorem store_err {K : Frag} {name : Str} {tk : Tok} {v : Value} {x C : Addr} {fv : Array Value} {cd : ClassData} {bmB : List Value} (X : K.In hp) (hx : hp.get? x = some { cls := .ref C, data := .fields fv }) (hcd : clsIn K C = some cd) (ln : Line cd.mro bmB) (ne : cd.mro.isEmpty = false)
    (hh : cd.hasDict = true) (ha : findIn K (.ref C) name = some none)
    (hq : ∀ h' tk' dx, (∀ b o, b ≠ x → hp.get? b = some o → h'.get? b = some o) → hp.objs.size ≤ dx → dx ≠ x → h'.get? x = some { cls := .ref C, dict := some dx, data := .fields fv } → h'.Ns1 dx (fun y => if y = name then some v else none) → R (.ok (.ret .none)) ⟨h', g, d, tk', os⟩) :
    codeAny (model prog w) A (.call (.builtin "object.__setattr__") ⟨[.ref x, .str name tk, v], []⟩) R ⟨hp, g, d, t, os⟩ := by
  have I : InstAt hp x { cls := .ref C, data := .fields fv } C none := ⟨hx, rfl, rfl, trivial⟩
  have hob : cd.mro.contains (.type "object") = true := (ln.has "object").trans ln.obj
  have hxs : x ≠ hp.objs.size := Nat.ne_of_lt (Heap.lt_size hx)
  have mro_ : mroIn K C (.type "object") = some true := by
    unfold mroIn
    rw [hcd, Option.bind_some, if_neg (by rw [ne]; exact Bool.false_ne_true), hob]
  have isObj : Looks (model prog w) hp (isInstance (.ref x) (.type "object")) true := I.type.andThen (looks_mroIn X mro_)
  refine codeAny_call_builtin F.store_object.slot.plain F.store_object.entry (@check_slot (model prog w) _ _ ⟨hp, g, d, t, os⟩ "object.__setattr__" "object" "__setattr__" (.ref x) [.str name tk, v] [] _ F.store_object.kind F.store_object.split isObj (F.store_object.args (.ref x) (.str name tk) v) ?_)
  have Lm : Looks (model prog w) hp (mroOf (.ref C)) cd.mro := (looks_clsIn X hcd).andThen .now
  have Lt : Looks (model prog w) hp (storeTaker? none) none := .now
  have Lc : Looks (model prog w) hp (classData C) cd := looks_clsIn X hcd
  rw [osa_eq, refuse_eq]
  refine wpAny_bind (wpAny_bind (I.type.at (wpAny_bind (Lm.at ?_))))
  rw [ln.pass]
  refine wpAny_pure (wpAny_bind (I.type.at (wpAny_bind ((looks_findIn X ha).at (wpAny_bind (Lt.at ?_))))))
  show wpAny _ _ (storeInOwnDict (.ref x) (.ref C) (.str name tk) name v false) _ _ _
  obtain ⟨nm, bs, mro, ns, qn, hd, sn, sb, ab, col, del⟩ := cd
  dsimp only at hh
  subst hh
  unfold storeInOwnDict ownDictForStores
  repeat (first | with_reducible refine store_in_new ?_ ?_ | with_reducible refine wpAny_loadPart_at hx ?_ | with_reducible refine Lc.at ?_ | wp_step)
  · exact ⟨_, #[], _, (Heap.get?_update_ne _ _ _ _ hxs.symm).trans (Heap.get?_push_at rfl rfl), rfl, fun e he => absurd he (by simp), fun _ => rfl⟩
  · intro h' tk' hn' hs
    refine hq h' tk' hp.objs.size ?_ (Nat.le_refl _) hxs.symm ?_ hn'
    · intro b o hb ho
      exact (hs.2 b (Nat.ne_of_lt (Heap.lt_size ho))).trans ((Heap.get?_update_ne _ _ _ _ hb).trans (Heap.get?_push_of_some _ ho))
    · exact (hs.2 x hxs).trans (Heap.get?_update_self _ (Heap.get?_push_of_some _ hx) rfl)
end
theorem one_size (v : Value) : [v].length ≤ sizeLine := by
  rw [sizeLine_eq]
  exact (by decide : 1 ≤ 16777216)
theorem ldC {M : Model} {s : Shared} {name : Str} {scope : Scope} {L a : Addr} {cd : Value} {m : Str → Option Value} {x : Str} {pos : Pos} {v : Value} {Q : Value → Shared → Prop} {A : Around} {E : Value → Shared → Prop} (hn : s.heap.Ns L m) (hv : m x = some v) (h : Q v s)
    (hk : scope.kind = .function := by rfl) (hl : (envOfC name scope L a cd).kindOf x = some .local := by rfl) (hd : (x == ("__debug__" : Str)) = false := by decide) :
    wpAny M A (eval (.Name x pos) (envOfC name scope L a cd)) Q E s := wpAny_Name (wpAny_loadName_local hk hl hn hv h) hd
end Pk
namespace Pk
open PySem PySem.Spec PyProof.Rows L2
/-! ### isinstance of an error that is kept, with a dict of its own or without -/
/-- where the dict of a kept error is tracked, if it has one -/
def DictOk (H : Hp) (d : Option Addr) : Prop := d = none ∨ ∃ (dd : Addr) (fs : List (Str × V)), d = some dd ∧ H dd = some (.xd fs)
def rIsK (K : PySem.W.Frag) : List V → Hp → VK → Prop := fun xs H Q => ∃ (a D : Addr) (d : Option Addr) (c : V) (cv : Value) (b : Bool), xs = [.ref a, c] ∧ H a = some (ExH (.ref D) d a) ∧ DictOk H d ∧ ExcC K D ∧ ClsV c cv ∧ PySem.W.kitOne K (.ref D) cv = some b ∧ Q (.bl b) H
theorem held_at {X : Cx} {pins : List (Addr × Obj)} {σ : L2.St} {H : Hp} {s : Shared} {a D : Addr} {d : Option Addr} (I : L2.Inv X pins σ H s) (hH : H a = some (ExH (.ref D) d a)) (hd : DictOk H d) : ∃ oe od, PySem.W.InstAt s.heap a oe D od ∧ (∀ dd fs, d = some dd → H dd = some (.xd fs) → ∃ o, od = some o ∧ s.heap.get? dd = some o) := by
  obtain ⟨⟨oe, vs, hget, hz, hv⟩, _, _⟩ := I.hok a _ hH
  obtain ⟨oc, odt, oda, osl⟩ := oe
  obtain ⟨h1, h2⟩ := hz
  dsimp only at h1 h2 hv
  subst h1 h2 hv
  rcases hd with rfl | ⟨dd, fs, rfl, hdd⟩
  · exact ⟨_, none, ⟨hget, rfl, rfl, trivial⟩, fun _ _ z => nomatch z⟩
  · obtain ⟨mA, hns, hr⟩ := I.hok dd _ hdd
    obtain ⟨o, ho, _⟩ := lookIn_ns hns
    refine ⟨_, some o, ⟨hget, rfl, rfl, ho⟩, fun dd' fs' e _ => ?_⟩
    cases e
    exact ⟨o, rfl, ho⟩
theorem call_isK {X : Cx} : CallR X (.builtin "isinstance") (rIsK X.K) := by
  rintro pins s σ H xs us Q I r ⟨a, D, d, c, cv, b, rfl, hH, hd, C, hc, e, q⟩
  obtain ⟨u1, u2, rfl, r1, r2⟩ := vals2 r
  cases (show u1 = Value.ref a from r1)
  have ec := hc.eq r2
  subst ec
  obtain ⟨oe, od, J, _⟩ := held_at I hH hd
  have hcl : (PySem.W.clsIn X.K D).isSome = true := by
    have z := C.hd
    unfold PySem.W.hasDictIn at z
    cases hq : PySem.W.clsIn X.K D with
    | none =>
      rw [hq] at z
      cases z
    | some c => rfl
  exact PySem.W.kia_one (PySem.W.kitx_exc hcl C.hg C.hk C.hs C.ha C.hn C.ht C.hm) I.kIn J e (fun z => nomatch z) fun tk => ⟨.bl b, H, I.tok tk, rfl, q⟩
/-! ### errors of the field part -/
namespace Of_part
open PySem.W PySem.Calls PySem.HandSPX
def iA (p1 p2 : Pos) : Arguments := { posonlyargs := [], args := [{ arg := "self", annotation := none, pos := p1 }, { arg := "part", annotation := none, pos := p2 }], vararg := none, kwonlyargs := [], kw_defaults := [], kwarg := none, defaults := [] }
def iB (q1 q2 q3 q4 : Pos) : List Stmt := [.Assign [.Attribute (.Name "self" q1) "part" q2] (.Name "part" q3) q4]
def iS : Scope := { kind := .function, names := [(PySem.Str.ofString "self", .local), (PySem.Str.ofString "part", .local)], isGenerator := false, isCoroutine := false, more := [] }
/-- the class called nm, at C, and its __init__, at fI, as the top has left them -/
structure Tx (K : Frag) (mg : Str → Option Value) (nm ql : Str) (C fI : Addr) (B newId initId : String) (bmB : List Value) : Prop where
  base : ExcBaseFacts B newId initId bmB
  gC : mg nm = some (.ref C)
  cls : ∃ n1 q N bs bm sn sub ab col dd k0 k1 k2 k3 k5, K.lookup C = some (excClassObj n1 q C N bs bm true sn sub ab col dd k0 k1 k2 k3 k5 newId) ∧ Line bm bmB
  sa : findIn K (.ref C) "__setattr__" = some (some (.builtin "object.__setattr__"))
  ex : ExcC K C
  noN : findIn K (.ref C) "part" = some none
  iC : findIn K (.ref C) "__init__" = some (some (.ref fI))
  tC : typeIn K (.ref fI) = some (.type "function")
  kC : keepIn K (.ref C) = true
  tyC : typeIn K (.ref C) = some (.type "type")
  fn : ∃ (oc : Value) (od : Option Addr) (doc pm : Value) (an : Option Addr) (cdv ct : Value) (osl : Array (Option Value)) (p1 p2 q1 q2 q3 q4 : Pos),
    K.lookup fI = some ⟨oc, od, .func (fnOf "__init__" ql (iA p1 p2) (iB q1 q2 q3 q4) iS .none .none doc pm an cdv ct), osl⟩ ∧ codeIn K cdv ql = true
/-- an error made of v, at e, its own dict at d -/
structure Made (h h' : Heap) (e C d : Addr) (v : Value) : Prop where
  keep : ∀ b o, h.get? b = some o → h'.get? b = some o
  new : h.objs.size ≤ e
  obj : ∃ oe vs, h'.get? e = some oe ∧ oe.cls = .ref C ∧ oe.dict = some d ∧ oe.data = .fields vs ∧ vs[1]? = some .none
  dbig : h.objs.size ≤ d
  dne : d ≠ e
  ns : h'.Ns1 d (fun y => if y = "part" then some v else none)
section
variable {prog : Program} {w : World} {A : Around} {E : Value → Shared → Prop} {R : Result → Shared → Prop} {s : Shared} {K : Frag} {mg : Str → Option Value} {nm ql : Str} {C fI : Addr} {B newId initId : String} {bmB : List Value}
theorem made (T : Tx K mg nm ql C fI B newId initId bmB) {v : Value} (X : K.In s.heap) (hlim : s.heap.NoLimit) (hroom : A.depth + 1 < recursionLimit) (hq : ∀ h' tk e d, Made s.heap h' e C d v → R (.ok (.ret (.ref e))) { s with heap := h', toks := tk }) :
    codeAny (model prog w) A (.call (.ref C) ⟨[v], []⟩) R s := by
  obtain ⟨n1, q, N, bs, bm, sn, sub, ab, col, dd, k0, k1, k2, k3, k5, hC, ln⟩ := T.cls
  obtain ⟨oc, od, doc, pm, an, cdv, ct, osl, p1, p2, q1, q2, q3, q4, ho, hcd⟩ := T.fn
  have hcl : clsIn K C = some { name := n1, bases := bs, mro := .ref C :: bm, ns := N, qualname := q, hasDict := true, slotNames := sn, subclasses := sub, abstract := ab, collection := col, hasDel := false } := by
    unfold clsIn
    rw [hC]
  obtain ⟨hp, g, dr, tk, os⟩ := s
  have k : ∀ b o, hp.get? b = some o → ((hp.push (kdv_tup [v])).push (excO C hp.objs.size)).get? b = some o := fun b o e => Heap.get?_push_of_some _ (Heap.get?_push_of_some _ e)
  have hx : ((hp.push (kdv_tup [v])).push (excO C hp.objs.size)).get? (hp.objs.size + 1) = some (excO C hp.objs.size) := by heap_get
  refine call_own T.base ln.has (X _ _ hC) (looks_findIn X T.iC) (fun self => bind_fn X self T.tC) (one_size v) ?_
  have X1 := X.keeps k
  have lim1 : ((hp.push (kdv_tup [v])).push (excO C hp.objs.size)).NoLimit := hlim.keeps k
  have size1 : ((hp.push (kdv_tup [v])).push (excO C hp.objs.size)).objs.size = hp.objs.size + 1 + 1 := by rw [Heap.size_push, Heap.size_push]
  generalize (hp.push (kdv_tup [v])).push (excO C hp.objs.size) = h1 at k hx X1 lim1 size1 ⊢
  refine Att.call_fn (binds := [("self", .ref (hp.objs.size + 1)), ("part", v)]) X1 lim1 ho hcd hroom (BindsTo.of_eq (by first | rfl | with_unfolding_all rfl)) (by first | rfl | decide | with_unfolding_all rfl) (fun s₁ IC => ?_) rfl rfl rfl
  obtain ⟨h₁, tk₁, rfl⟩ := IC.toInCall.same
  have k1' : ∀ b o, h1.get? b = some o → h₁.get? b = some o := IC.toInCall.keep
  have hn := IC.toInCall.ns
  show wpAny _ _ (execs _ _) _ _ _
  refine wpAny_execs_cons (plainObj_wpAny_Assign_Attribute ?_)
  refine ldC (v := v) hn (by first | rfl | with_unfolding_all rfl | kernel_rfl) (ldC (v := .ref (hp.objs.size + 1)) hn (by first | rfl | with_unfolding_all rfl | kernel_rfl) ?_)
  refine set_plain (X1.keeps k1') (ox := excO C hp.objs.size) (od := none) ⟨k1' _ _ hx, rfl, rfl, trivial⟩ T.sa ?_
  refine store_err (X1.keeps k1') (k1' _ _ hx) hcl (bmB := bmB) ln.own rfl rfl T.noN (fun h₃ tk₃ dx k₃ dn dne hx₃ hn₃ => ?_)
  show wpAny _ _ (execs _ _) _ _ _
  have z : h1.objs.size < h₁.objs.size := hn.lt
  have lt_ : ∀ {b : Addr} {o : Obj}, hp.get? b = some o → b ≠ hp.objs.size + 1 := fun {b o} e => Nat.ne_of_lt (Nat.lt_succ_of_lt (Heap.lt_size e))
  refine wpAny_execs_nil ⟨rfl, hq h₃ tk₃ (hp.objs.size + 1) dx ⟨fun b o e => k₃ b o (lt_ e) (k1' b o (k b o e)), Nat.le_succ _, ⟨_, _, hx₃, rfl, rfl, rfl, rfl⟩, ?_, dne, hn₃⟩⟩
  have dn' : h₁.objs.size ≤ dx := dn
  show hp.objs.size ≤ dx
  omega
end
end Of_part
section
variable {X : Cx} {nm ql : Str} {C fI : Addr} {B newId initId : String} {bmB : List Value}
theorem relO_part {v : V} {v' : Value} (r : RelV v v') (f : Str) : RelO (List.lookup f [(("part" : Str), v)]) (if f = "part" then some v' else none) := by
  by_cases hw : f = "part"
  · subst hw
    rw [if_pos rfl]
    have q : List.lookup ("part" : Str) [(("part" : Str), v)] = some v := by simp [List.lookup]
    rw [q]
    exact r
  · rw [if_neg hw]
    have qw : (f == ("part" : Str)) = false := by simpa using hw
    have q2 : List.lookup f [(("part" : Str), v)] = none := by simp [List.lookup, qw]
    rw [q2]
    trivial
/-- nm(e) -/
def tMk_part (C : Addr) (ta : TA) : L2.St → Hp → XK → Prop := fun σ H Q => ta σ H fun vs H1 => ∃ v, vs = [v] ∧ ∀ d, H1 d = none → Q (.ref C) (some d) (upd H1 d (.xd [(("part" : Str), v)]))
theorem pmk_part {a : Expr} {ta : TA} {p pos : Pos} {k : Nat} (T : Of_part.Tx X.K X.mg nm ql C fI B newId initId bmB) (hr : Room k X.A) (ha : PA X [a] ta) (hg : Gl X nm := by rfl) (hdb : (nm == ("__debug__" : Str)) = false := by decide)
    (he : starEach (a :: []) X.env = (false, eval a X.env) :: starEach [] X.env := by rfl) (hpl : (backTo pos (starEach [] X.env)).any (·.1) = false := by rfl) :
    PMk X (.Call (.Name nm p) [a] [] pos) (tMk_part C ta) := by
  intro pins s σ H Q I h
  refine wpAny_Call_Name_kw (ld_glob I hg T.gC ?_ hdb)
  refine PySem.W.callWith_K (h₀ := X.base) I.ok.mod.kin T.kC (thn (ha.run pos pins s σ H _ I h) fun us s1 hh => ?_) he hpl
  obtain ⟨vs, H1, I1, r1, v, ev, q1⟩ := hh
  subst ev
  refine ⟨I1.kIn, ?_⟩
  cases r1 with
  | cons rv rn =>
    rename_i v' us'
    cases rn
    show wpAny _ _ (call (.ref C) [v']) _ _ _
    have hlim := I1.nolimit
    obtain ⟨hp, g, dr, tk, os⟩ := s1
    refine wpAny_call (Of_part.made T I1.kIn hlim (by have := hr.dp; omega) fun h' tk' e d M => ?_)
    show MkP X pins σ Q (.ref e) ⟨h', g, dr, tk', os⟩
    obtain ⟨oe, fv, hoe, hc, hd, hdat, h1⟩ := M.obj
    have hns := M.ns
    obtain ⟨G', g1, g2⟩ := restrict h' fun b => decide (b ≠ e)
    have gk : ∀ b, b ≠ e → G'.get? b = h'.get? b := fun b hb => g1 b (decide_eq_true hb)
    have ge : G'.get? e = none := g2 e (by simp)
    have old : ∀ b o, hp.get? b = some o → G'.get? b = some o := fun b o q => (gk b (Nat.ne_of_lt (Nat.lt_of_lt_of_le (Heap.lt_size q) M.new))).trans (M.keep b o q)
    have ob : ObjOk X.prog X.w (upd H1 d (.xd [(("part" : Str), v)])) G' d (.xd [(("part" : Str), v)]) :=
      ⟨_, hns.at (fun o q => (gk d M.dne).trans q), fun f => relO_part rv f⟩
    have J : L2.Inv X pins σ (upd H1 d (.xd [(("part" : Str), v)])) ⟨G', g, dr, tk', os⟩ := I1.laid (t' := tk') old M.dbig ob
    refine ⟨e, oe, fv, ⟨G', g, dr, tk', os⟩, _, .ref C, some d, rfl, J, fun b o q => ?_, ge, hoe, ⟨hc, hd⟩, hdat, h1, ?_, rfl, I1.bare, raises_own T.ex.hs T.tyC, q1 d (I1.hok.fresh M.dbig)⟩
    · by_cases hb : b = e
      · have q' : G'.get? b = some o := q
        rw [hb, ge] at q'
        cases q'
      · exact (gk b hb).symm.trans q
    · rw [upd_ne (Ne.symm M.dne)]
      exact I1.hok.fresh M.new
/-- raise nm(e) -/
def tRaise_part (C : Addr) (W : WX) (ta : TA) : TS := fun _ σ H => tMk_part C ta σ H fun cls d H' => W cls d σ H'
theorem ps_raise_part {a : Expr} {ta : TA} {W : WX} {p pos pos2 : Pos} {k : Nat} (hc : X.calm = true) (T : Of_part.Tx X.K X.mg nm ql C fI B newId initId bmB) (hr : Room k X.A) (tk : Takes X W) (ha : PA X [a] ta) (hg : Gl X nm := by rfl) (hdb : (nm == ("__debug__" : Str)) = false := by decide)
    (he : starEach (a :: []) X.env = (false, eval a X.env) :: starEach [] X.env := by rfl) (hpl : (backTo pos (starEach [] X.env)).any (·.1) = false := by rfl) :
    PS X (.Raise (some (.Call (.Name nm p) [a] [] pos)) none pos2) (tRaise_part C W ta) := ps_raise hc tk (pmk_part T hr ha hg hdb he hpl)
/-- e.part, e a kept error -/
def tGet_part (K : PySem.W.Frag) (te : TE) : TE := fun σ H Q => te σ H fun x H1 => ∃ (a C dd : Addr) (v : V), x = .ref a ∧ H1 a = some (ExH (.ref C) (some dd) a) ∧ ExcC K C ∧ PySem.W.findIn K (.ref C) "part" = some none ∧ H1 dd = some (.xd [(("part" : Str), v)]) ∧ Q v H1
theorem pe_get_part {e : Expr} {te : TE} {pos : Pos} (he : PE X e te) (hb : attributeBase e "part" X.env (eval e X.env) = eval e X.env := by rfl) : PE X (.Attribute e "part" pos) (tGet_part X.K te) := by
  constructor
  intro pins s σ H Q I h
  refine attr_of hb (thn (he.run pins s σ H _ I h) ?_)
  rintro u s1 ⟨x, H1, I1, rx, a, C, dd, v, rfl, ha, EC, noN, hdd, q⟩
  cases (show u = Value.ref a from rx)
  obtain ⟨oe, od, J, hod⟩ := held_at I1 ha (.inr ⟨dd, _, rfl, hdd⟩)
  obtain ⟨mA, hns, hr⟩ := I1.hok dd _ hdd
  obtain ⟨o, ho, hl⟩ := lookIn_ns hns
  obtain ⟨o', eo, ho'⟩ := hod dd _ rfl hdd
  rw [ho] at ho'
  cases ho'
  subst eo
  have l : List.lookup ("part" : Str) [(("part" : Str), v)] = some v := by simp [List.lookup]
  obtain ⟨u, hu, ru⟩ := RelO.some_of (v := v) (o := mA "part") (by rw [← l]; exact hr "part")
  exact HandSPX.exc_get I1.kIn J EC.hg EC.hk EC.hs (PySem.W.findObj_own EC.hd noN rfl (by rw [hl, hu])) (handed_of ru) ⟨v, H1, I1.tok _, ru, q⟩
end
/-! ### errors of the field wanted -/
namespace Of_wanted
open PySem.W PySem.Calls PySem.HandSPX
def iA (p1 p2 : Pos) : Arguments := { posonlyargs := [], args := [{ arg := "self", annotation := none, pos := p1 }, { arg := "wanted", annotation := none, pos := p2 }], vararg := none, kwonlyargs := [], kw_defaults := [], kwarg := none, defaults := [] }
def iB (q1 q2 q3 q4 : Pos) : List Stmt := [.Assign [.Attribute (.Name "self" q1) "wanted" q2] (.Name "wanted" q3) q4]
def iS : Scope := { kind := .function, names := [(PySem.Str.ofString "self", .local), (PySem.Str.ofString "wanted", .local)], isGenerator := false, isCoroutine := false, more := [] }
/-- the class called nm, at C, and its __init__, at fI, as the top has left them -/
structure Tx (K : Frag) (mg : Str → Option Value) (nm ql : Str) (C fI : Addr) (B newId initId : String) (bmB : List Value) : Prop where
  base : ExcBaseFacts B newId initId bmB
  gC : mg nm = some (.ref C)
  cls : ∃ n1 q N bs bm sn sub ab col dd k0 k1 k2 k3 k5, K.lookup C = some (excClassObj n1 q C N bs bm true sn sub ab col dd k0 k1 k2 k3 k5 newId) ∧ Line bm bmB
  sa : findIn K (.ref C) "__setattr__" = some (some (.builtin "object.__setattr__"))
  ex : ExcC K C
  noN : findIn K (.ref C) "wanted" = some none
  iC : findIn K (.ref C) "__init__" = some (some (.ref fI))
  tC : typeIn K (.ref fI) = some (.type "function")
  kC : keepIn K (.ref C) = true
  tyC : typeIn K (.ref C) = some (.type "type")
  fn : ∃ (oc : Value) (od : Option Addr) (doc pm : Value) (an : Option Addr) (cdv ct : Value) (osl : Array (Option Value)) (p1 p2 q1 q2 q3 q4 : Pos),
    K.lookup fI = some ⟨oc, od, .func (fnOf "__init__" ql (iA p1 p2) (iB q1 q2 q3 q4) iS .none .none doc pm an cdv ct), osl⟩ ∧ codeIn K cdv ql = true
/-- an error made of v, at e, its own dict at d -/
structure Made (h h' : Heap) (e C d : Addr) (v : Value) : Prop where
  keep : ∀ b o, h.get? b = some o → h'.get? b = some o
  new : h.objs.size ≤ e
  obj : ∃ oe vs, h'.get? e = some oe ∧ oe.cls = .ref C ∧ oe.dict = some d ∧ oe.data = .fields vs ∧ vs[1]? = some .none
  dbig : h.objs.size ≤ d
  dne : d ≠ e
  ns : h'.Ns1 d (fun y => if y = "wanted" then some v else none)
section
variable {prog : Program} {w : World} {A : Around} {E : Value → Shared → Prop} {R : Result → Shared → Prop} {s : Shared} {K : Frag} {mg : Str → Option Value} {nm ql : Str} {C fI : Addr} {B newId initId : String} {bmB : List Value}
theorem made (T : Tx K mg nm ql C fI B newId initId bmB) {v : Value} (X : K.In s.heap) (hlim : s.heap.NoLimit) (hroom : A.depth + 1 < recursionLimit) (hq : ∀ h' tk e d, Made s.heap h' e C d v → R (.ok (.ret (.ref e))) { s with heap := h', toks := tk }) :
    codeAny (model prog w) A (.call (.ref C) ⟨[v], []⟩) R s := by
  obtain ⟨n1, q, N, bs, bm, sn, sub, ab, col, dd, k0, k1, k2, k3, k5, hC, ln⟩ := T.cls
  obtain ⟨oc, od, doc, pm, an, cdv, ct, osl, p1, p2, q1, q2, q3, q4, ho, hcd⟩ := T.fn
  have hcl : clsIn K C = some { name := n1, bases := bs, mro := .ref C :: bm, ns := N, qualname := q, hasDict := true, slotNames := sn, subclasses := sub, abstract := ab, collection := col, hasDel := false } := by
    unfold clsIn
    rw [hC]
  obtain ⟨hp, g, dr, tk, os⟩ := s
  have k : ∀ b o, hp.get? b = some o → ((hp.push (kdv_tup [v])).push (excO C hp.objs.size)).get? b = some o := fun b o e => Heap.get?_push_of_some _ (Heap.get?_push_of_some _ e)
  have hx : ((hp.push (kdv_tup [v])).push (excO C hp.objs.size)).get? (hp.objs.size + 1) = some (excO C hp.objs.size) := by heap_get
  refine call_own T.base ln.has (X _ _ hC) (looks_findIn X T.iC) (fun self => bind_fn X self T.tC) (one_size v) ?_
  have X1 := X.keeps k
  have lim1 : ((hp.push (kdv_tup [v])).push (excO C hp.objs.size)).NoLimit := hlim.keeps k
  have size1 : ((hp.push (kdv_tup [v])).push (excO C hp.objs.size)).objs.size = hp.objs.size + 1 + 1 := by rw [Heap.size_push, Heap.size_push]
  generalize (hp.push (kdv_tup [v])).push (excO C hp.objs.size) = h1 at k hx X1 lim1 size1 ⊢
  refine Att.call_fn (binds := [("self", .ref (hp.objs.size + 1)), ("wanted", v)]) X1 lim1 ho hcd hroom (BindsTo.of_eq (by first | rfl | with_unfolding_all rfl)) (by first | rfl | decide | with_unfolding_all rfl) (fun s₁ IC => ?_) rfl rfl rfl
  obtain ⟨h₁, tk₁, rfl⟩ := IC.toInCall.same
  have k1' : ∀ b o, h1.get? b = some o → h₁.get? b = some o := IC.toInCall.keep
  have hn := IC.toInCall.ns
  show wpAny _ _ (execs _ _) _ _ _
  refine wpAny_execs_cons (plainObj_wpAny_Assign_Attribute ?_)
  refine ldC (v := v) hn (by first | rfl | with_unfolding_all rfl | kernel_rfl) (ldC (v := .ref (hp.objs.size + 1)) hn (by first | rfl | with_unfolding_all rfl | kernel_rfl) ?_)
  refine set_plain (X1.keeps k1') (ox := excO C hp.objs.size) (od := none) ⟨k1' _ _ hx, rfl, rfl, trivial⟩ T.sa ?_
  refine store_err (X1.keeps k1') (k1' _ _ hx) hcl (bmB := bmB) ln.own rfl rfl T.noN (fun h₃ tk₃ dx k₃ dn dne hx₃ hn₃ => ?_)
  show wpAny _ _ (execs _ _) _ _ _
  have z : h1.objs.size < h₁.objs.size := hn.lt
  have lt_ : ∀ {b : Addr} {o : Obj}, hp.get? b = some o → b ≠ hp.objs.size + 1 := fun {b o} e => Nat.ne_of_lt (Nat.lt_succ_of_lt (Heap.lt_size e))
  refine wpAny_execs_nil ⟨rfl, hq h₃ tk₃ (hp.objs.size + 1) dx ⟨fun b o e => k₃ b o (lt_ e) (k1' b o (k b o e)), Nat.le_succ _, ⟨_, _, hx₃, rfl, rfl, rfl, rfl⟩, ?_, dne, hn₃⟩⟩
  have dn' : h₁.objs.size ≤ dx := dn
  show hp.objs.size ≤ dx
  omega
end
end Of_wanted
section
variable {X : Cx} {nm ql : Str} {C fI : Addr} {B newId initId : String} {bmB : List Value}
theorem relO_wanted {v : V} {v' : Value} (r : RelV v v') (f : Str) : RelO (List.lookup f [(("wanted" : Str), v)]) (if f = "wanted" then some v' else none) := by
  by_cases hw : f = "wanted"
  · subst hw
    rw [if_pos rfl]
    have q : List.lookup ("wanted" : Str) [(("wanted" : Str), v)] = some v := by simp [List.lookup]
    rw [q]
    exact r
  · rw [if_neg hw]
    have qw : (f == ("wanted" : Str)) = false := by simpa using hw
    have q2 : List.lookup f [(("wanted" : Str), v)] = none := by simp [List.lookup, qw]
    rw [q2]
    trivial
/-- nm(e) -/
def tMk_wanted (C : Addr) (ta : TA) : L2.St → Hp → XK → Prop := fun σ H Q => ta σ H fun vs H1 => ∃ v, vs = [v] ∧ ∀ d, H1 d = none → Q (.ref C) (some d) (upd H1 d (.xd [(("wanted" : Str), v)]))
theorem pmk_wanted {a : Expr} {ta : TA} {p pos : Pos} {k : Nat} (T : Of_wanted.Tx X.K X.mg nm ql C fI B newId initId bmB) (hr : Room k X.A) (ha : PA X [a] ta) (hg : Gl X nm := by rfl) (hdb : (nm == ("__debug__" : Str)) = false := by decide)
    (he : starEach (a :: []) X.env = (false, eval a X.env) :: starEach [] X.env := by rfl) (hpl : (backTo pos (starEach [] X.env)).any (·.1) = false := by rfl) :
    PMk X (.Call (.Name nm p) [a] [] pos) (tMk_wanted C ta) := by
  intro pins s σ H Q I h
  refine wpAny_Call_Name_kw (ld_glob I hg T.gC ?_ hdb)
  refine PySem.W.callWith_K (h₀ := X.base) I.ok.mod.kin T.kC (thn (ha.run pos pins s σ H _ I h) fun us s1 hh => ?_) he hpl
  obtain ⟨vs, H1, I1, r1, v, ev, q1⟩ := hh
  subst ev
  refine ⟨I1.kIn, ?_⟩
  cases r1 with
  | cons rv rn =>
    rename_i v' us'
    cases rn
    show wpAny _ _ (call (.ref C) [v']) _ _ _
    have hlim := I1.nolimit
    obtain ⟨hp, g, dr, tk, os⟩ := s1
    refine wpAny_call (Of_wanted.made T I1.kIn hlim (by have := hr.dp; omega) fun h' tk' e d M => ?_)
    show MkP X pins σ Q (.ref e) ⟨h', g, dr, tk', os⟩
    obtain ⟨oe, fv, hoe, hc, hd, hdat, h1⟩ := M.obj
    have hns := M.ns
    obtain ⟨G', g1, g2⟩ := restrict h' fun b => decide (b ≠ e)
    have gk : ∀ b, b ≠ e → G'.get? b = h'.get? b := fun b hb => g1 b (decide_eq_true hb)
    have ge : G'.get? e = none := g2 e (by simp)
    have old : ∀ b o, hp.get? b = some o → G'.get? b = some o := fun b o q => (gk b (Nat.ne_of_lt (Nat.lt_of_lt_of_le (Heap.lt_size q) M.new))).trans (M.keep b o q)
    have ob : ObjOk X.prog X.w (upd H1 d (.xd [(("wanted" : Str), v)])) G' d (.xd [(("wanted" : Str), v)]) :=
      ⟨_, hns.at (fun o q => (gk d M.dne).trans q), fun f => relO_wanted rv f⟩
    have J : L2.Inv X pins σ (upd H1 d (.xd [(("wanted" : Str), v)])) ⟨G', g, dr, tk', os⟩ := I1.laid (t' := tk') old M.dbig ob
    refine ⟨e, oe, fv, ⟨G', g, dr, tk', os⟩, _, .ref C, some d, rfl, J, fun b o q => ?_, ge, hoe, ⟨hc, hd⟩, hdat, h1, ?_, rfl, I1.bare, raises_own T.ex.hs T.tyC, q1 d (I1.hok.fresh M.dbig)⟩
    · by_cases hb : b = e
      · have q' : G'.get? b = some o := q
        rw [hb, ge] at q'
        cases q'
      · exact (gk b hb).symm.trans q
    · rw [upd_ne (Ne.symm M.dne)]
      exact I1.hok.fresh M.new
/-- raise nm(e) -/
def tRaise_wanted (C : Addr) (W : WX) (ta : TA) : TS := fun _ σ H => tMk_wanted C ta σ H fun cls d H' => W cls d σ H'
theorem ps_raise_wanted {a : Expr} {ta : TA} {W : WX} {p pos pos2 : Pos} {k : Nat} (hc : X.calm = true) (T : Of_wanted.Tx X.K X.mg nm ql C fI B newId initId bmB) (hr : Room k X.A) (tk : Takes X W) (ha : PA X [a] ta) (hg : Gl X nm := by rfl) (hdb : (nm == ("__debug__" : Str)) = false := by decide)
    (he : starEach (a :: []) X.env = (false, eval a X.env) :: starEach [] X.env := by rfl) (hpl : (backTo pos (starEach [] X.env)).any (·.1) = false := by rfl) :
    PS X (.Raise (some (.Call (.Name nm p) [a] [] pos)) none pos2) (tRaise_wanted C W ta) := ps_raise hc tk (pmk_wanted T hr ha hg hdb he hpl)
/-- e.wanted, e a kept error -/
def tGet_wanted (K : PySem.W.Frag) (te : TE) : TE := fun σ H Q => te σ H fun x H1 => ∃ (a C dd : Addr) (v : V), x = .ref a ∧ H1 a = some (ExH (.ref C) (some dd) a) ∧ ExcC K C ∧ PySem.W.findIn K (.ref C) "wanted" = some none ∧ H1 dd = some (.xd [(("wanted" : Str), v)]) ∧ Q v H1
theorem pe_get_wanted {e : Expr} {te : TE} {pos : Pos} (he : PE X e te) (hb : attributeBase e "wanted" X.env (eval e X.env) = eval e X.env := by rfl) : PE X (.Attribute e "wanted" pos) (tGet_wanted X.K te) := by
  constructor
  intro pins s σ H Q I h
  refine attr_of hb (thn (he.run pins s σ H _ I h) ?_)
  rintro u s1 ⟨x, H1, I1, rx, a, C, dd, v, rfl, ha, EC, noN, hdd, q⟩
  cases (show u = Value.ref a from rx)
  obtain ⟨oe, od, J, hod⟩ := held_at I1 ha (.inr ⟨dd, _, rfl, hdd⟩)
  obtain ⟨mA, hns, hr⟩ := I1.hok dd _ hdd
  obtain ⟨o, ho, hl⟩ := lookIn_ns hns
  obtain ⟨o', eo, ho'⟩ := hod dd _ rfl hdd
  rw [ho] at ho'
  cases ho'
  subst eo
  have l : List.lookup ("wanted" : Str) [(("wanted" : Str), v)] = some v := by simp [List.lookup]
  obtain ⟨u, hu, ru⟩ := RelO.some_of (v := v) (o := mA "wanted") (by rw [← l]; exact hr "wanted")
  exact HandSPX.exc_get I1.kIn J EC.hg EC.hk EC.hs (PySem.W.findObj_own EC.hd noN rfl (by rw [hl, hu])) (handed_of ru) ⟨v, H1, I1.tok _, ru, q⟩
end
/-! ### errors of the field at -/
namespace Of_at
open PySem.W PySem.Calls PySem.HandSPX
def iA (p1 p2 : Pos) : Arguments := { posonlyargs := [], args := [{ arg := "self", annotation := none, pos := p1 }, { arg := "at", annotation := none, pos := p2 }], vararg := none, kwonlyargs := [], kw_defaults := [], kwarg := none, defaults := [] }
def iB (q1 q2 q3 q4 : Pos) : List Stmt := [.Assign [.Attribute (.Name "self" q1) "at" q2] (.Name "at" q3) q4]
def iS : Scope := { kind := .function, names := [(PySem.Str.ofString "self", .local), (PySem.Str.ofString "at", .local)], isGenerator := false, isCoroutine := false, more := [] }
/-- the class called nm, at C, and its __init__, at fI, as the top has left them -/
structure Tx (K : Frag) (mg : Str → Option Value) (nm ql : Str) (C fI : Addr) (B newId initId : String) (bmB : List Value) : Prop where
  base : ExcBaseFacts B newId initId bmB
  gC : mg nm = some (.ref C)
  cls : ∃ n1 q N bs bm sn sub ab col dd k0 k1 k2 k3 k5, K.lookup C = some (excClassObj n1 q C N bs bm true sn sub ab col dd k0 k1 k2 k3 k5 newId) ∧ Line bm bmB
  sa : findIn K (.ref C) "__setattr__" = some (some (.builtin "object.__setattr__"))
  ex : ExcC K C
  noN : findIn K (.ref C) "at" = some none
  iC : findIn K (.ref C) "__init__" = some (some (.ref fI))
  tC : typeIn K (.ref fI) = some (.type "function")
  kC : keepIn K (.ref C) = true
  tyC : typeIn K (.ref C) = some (.type "type")
  fn : ∃ (oc : Value) (od : Option Addr) (doc pm : Value) (an : Option Addr) (cdv ct : Value) (osl : Array (Option Value)) (p1 p2 q1 q2 q3 q4 : Pos),
    K.lookup fI = some ⟨oc, od, .func (fnOf "__init__" ql (iA p1 p2) (iB q1 q2 q3 q4) iS .none .none doc pm an cdv ct), osl⟩ ∧ codeIn K cdv ql = true
/-- an error made of v, at e, its own dict at d -/
structure Made (h h' : Heap) (e C d : Addr) (v : Value) : Prop where
  keep : ∀ b o, h.get? b = some o → h'.get? b = some o
  new : h.objs.size ≤ e
  obj : ∃ oe vs, h'.get? e = some oe ∧ oe.cls = .ref C ∧ oe.dict = some d ∧ oe.data = .fields vs ∧ vs[1]? = some .none
  dbig : h.objs.size ≤ d
  dne : d ≠ e
  ns : h'.Ns1 d (fun y => if y = "at" then some v else none)
section
variable {prog : Program} {w : World} {A : Around} {E : Value → Shared → Prop} {R : Result → Shared → Prop} {s : Shared} {K : Frag} {mg : Str → Option Value} {nm ql : Str} {C fI : Addr} {B newId initId : String} {bmB : List Value}
theorem made (T : Tx K mg nm ql C fI B newId initId bmB) {v : Value} (X : K.In s.heap) (hlim : s.heap.NoLimit) (hroom : A.depth + 1 < recursionLimit) (hq : ∀ h' tk e d, Made s.heap h' e C d v → R (.ok (.ret (.ref e))) { s with heap := h', toks := tk }) :
    codeAny (model prog w) A (.call (.ref C) ⟨[v], []⟩) R s := by
  obtain ⟨n1, q, N, bs, bm, sn, sub, ab, col, dd, k0, k1, k2, k3, k5, hC, ln⟩ := T.cls
  obtain ⟨oc, od, doc, pm, an, cdv, ct, osl, p1, p2, q1, q2, q3, q4, ho, hcd⟩ := T.fn
  have hcl : clsIn K C = some { name := n1, bases := bs, mro := .ref C :: bm, ns := N, qualname := q, hasDict := true, slotNames := sn, subclasses := sub, abstract := ab, collection := col, hasDel := false } := by
    unfold clsIn
    rw [hC]
  obtain ⟨hp, g, dr, tk, os⟩ := s
  have k : ∀ b o, hp.get? b = some o → ((hp.push (kdv_tup [v])).push (excO C hp.objs.size)).get? b = some o := fun b o e => Heap.get?_push_of_some _ (Heap.get?_push_of_some _ e)
  have hx : ((hp.push (kdv_tup [v])).push (excO C hp.objs.size)).get? (hp.objs.size + 1) = some (excO C hp.objs.size) := by heap_get
  refine call_own T.base ln.has (X _ _ hC) (looks_findIn X T.iC) (fun self => bind_fn X self T.tC) (one_size v) ?_
  have X1 := X.keeps k
  have lim1 : ((hp.push (kdv_tup [v])).push (excO C hp.objs.size)).NoLimit := hlim.keeps k
  have size1 : ((hp.push (kdv_tup [v])).push (excO C hp.objs.size)).objs.size = hp.objs.size + 1 + 1 := by rw [Heap.size_push, Heap.size_push]
  generalize (hp.push (kdv_tup [v])).push (excO C hp.objs.size) = h1 at k hx X1 lim1 size1 ⊢
  refine Att.call_fn (binds := [("self", .ref (hp.objs.size + 1)), ("at", v)]) X1 lim1 ho hcd hroom (BindsTo.of_eq (by first | rfl | with_unfolding_all rfl)) (by first | rfl | decide | with_unfolding_all rfl) (fun s₁ IC => ?_) rfl rfl rfl
  obtain ⟨h₁, tk₁, rfl⟩ := IC.toInCall.same
  have k1' : ∀ b o, h1.get? b = some o → h₁.get? b = some o := IC.toInCall.keep
  have hn := IC.toInCall.ns
  show wpAny _ _ (execs _ _) _ _ _
  refine wpAny_execs_cons (plainObj_wpAny_Assign_Attribute ?_)
  refine ldC (v := v) hn (by first | rfl | with_unfolding_all rfl | kernel_rfl) (ldC (v := .ref (hp.objs.size + 1)) hn (by first | rfl | with_unfolding_all rfl | kernel_rfl) ?_)
  refine set_plain (X1.keeps k1') (ox := excO C hp.objs.size) (od := none) ⟨k1' _ _ hx, rfl, rfl, trivial⟩ T.sa ?_
  refine store_err (X1.keeps k1') (k1' _ _ hx) hcl (bmB := bmB) ln.own rfl rfl T.noN (fun h₃ tk₃ dx k₃ dn dne hx₃ hn₃ => ?_)
  show wpAny _ _ (execs _ _) _ _ _
  have z : h1.objs.size < h₁.objs.size := hn.lt
  have lt_ : ∀ {b : Addr} {o : Obj}, hp.get? b = some o → b ≠ hp.objs.size + 1 := fun {b o} e => Nat.ne_of_lt (Nat.lt_succ_of_lt (Heap.lt_size e))
  refine wpAny_execs_nil ⟨rfl, hq h₃ tk₃ (hp.objs.size + 1) dx ⟨fun b o e => k₃ b o (lt_ e) (k1' b o (k b o e)), Nat.le_succ _, ⟨_, _, hx₃, rfl, rfl, rfl, rfl⟩, ?_, dne, hn₃⟩⟩
  have dn' : h₁.objs.size ≤ dx := dn
  show hp.objs.size ≤ dx
  omega
end
end Of_at
section
variable {X : Cx} {nm ql : Str} {C fI : Addr} {B newId initId : String} {bmB : List Value}
theorem relO_at {v : V} {v' : Value} (r : RelV v v') (f : Str) : RelO (List.lookup f [(("at" : Str), v)]) (if f = "at" then some v' else none) := by
  by_cases hw : f = "at"
  · subst hw
    rw [if_pos rfl]
    have q : List.lookup ("at" : Str) [(("at" : Str), v)] = some v := by simp [List.lookup]
    rw [q]
    exact r
  · rw [if_neg hw]
    have qw : (f == ("at" : Str)) = false := by simpa using hw
    have q2 : List.lookup f [(("at" : Str), v)] = none := by simp [List.lookup, qw]
    rw [q2]
    trivial
/-- nm(e) -/
def tMk_at (C : Addr) (ta : TA) : L2.St → Hp → XK → Prop := fun σ H Q => ta σ H fun vs H1 => ∃ v, vs = [v] ∧ ∀ d, H1 d = none → Q (.ref C) (some d) (upd H1 d (.xd [(("at" : Str), v)]))
theorem pmk_at {a : Expr} {ta : TA} {p pos : Pos} {k : Nat} (T : Of_at.Tx X.K X.mg nm ql C fI B newId initId bmB) (hr : Room k X.A) (ha : PA X [a] ta) (hg : Gl X nm := by rfl) (hdb : (nm == ("__debug__" : Str)) = false := by decide)
    (he : starEach (a :: []) X.env = (false, eval a X.env) :: starEach [] X.env := by rfl) (hpl : (backTo pos (starEach [] X.env)).any (·.1) = false := by rfl) :
    PMk X (.Call (.Name nm p) [a] [] pos) (tMk_at C ta) := by
  intro pins s σ H Q I h
  refine wpAny_Call_Name_kw (ld_glob I hg T.gC ?_ hdb)
  refine PySem.W.callWith_K (h₀ := X.base) I.ok.mod.kin T.kC (thn (ha.run pos pins s σ H _ I h) fun us s1 hh => ?_) he hpl
  obtain ⟨vs, H1, I1, r1, v, ev, q1⟩ := hh
  subst ev
  refine ⟨I1.kIn, ?_⟩
  cases r1 with
  | cons rv rn =>
    rename_i v' us'
    cases rn
    show wpAny _ _ (call (.ref C) [v']) _ _ _
    have hlim := I1.nolimit
    obtain ⟨hp, g, dr, tk, os⟩ := s1
    refine wpAny_call (Of_at.made T I1.kIn hlim (by have := hr.dp; omega) fun h' tk' e d M => ?_)
    show MkP X pins σ Q (.ref e) ⟨h', g, dr, tk', os⟩
    obtain ⟨oe, fv, hoe, hc, hd, hdat, h1⟩ := M.obj
    have hns := M.ns
    obtain ⟨G', g1, g2⟩ := restrict h' fun b => decide (b ≠ e)
    have gk : ∀ b, b ≠ e → G'.get? b = h'.get? b := fun b hb => g1 b (decide_eq_true hb)
    have ge : G'.get? e = none := g2 e (by simp)
    have old : ∀ b o, hp.get? b = some o → G'.get? b = some o := fun b o q => (gk b (Nat.ne_of_lt (Nat.lt_of_lt_of_le (Heap.lt_size q) M.new))).trans (M.keep b o q)
    have ob : ObjOk X.prog X.w (upd H1 d (.xd [(("at" : Str), v)])) G' d (.xd [(("at" : Str), v)]) :=
      ⟨_, hns.at (fun o q => (gk d M.dne).trans q), fun f => relO_at rv f⟩
    have J : L2.Inv X pins σ (upd H1 d (.xd [(("at" : Str), v)])) ⟨G', g, dr, tk', os⟩ := I1.laid (t' := tk') old M.dbig ob
    refine ⟨e, oe, fv, ⟨G', g, dr, tk', os⟩, _, .ref C, some d, rfl, J, fun b o q => ?_, ge, hoe, ⟨hc, hd⟩, hdat, h1, ?_, rfl, I1.bare, raises_own T.ex.hs T.tyC, q1 d (I1.hok.fresh M.dbig)⟩
    · by_cases hb : b = e
      · have q' : G'.get? b = some o := q
        rw [hb, ge] at q'
        cases q'
      · exact (gk b hb).symm.trans q
    · rw [upd_ne (Ne.symm M.dne)]
      exact I1.hok.fresh M.new
/-- raise nm(e) -/
def tRaise_at (C : Addr) (W : WX) (ta : TA) : TS := fun _ σ H => tMk_at C ta σ H fun cls d H' => W cls d σ H'
theorem ps_raise_at {a : Expr} {ta : TA} {W : WX} {p pos pos2 : Pos} {k : Nat} (hc : X.calm = true) (T : Of_at.Tx X.K X.mg nm ql C fI B newId initId bmB) (hr : Room k X.A) (tk : Takes X W) (ha : PA X [a] ta) (hg : Gl X nm := by rfl) (hdb : (nm == ("__debug__" : Str)) = false := by decide)
    (he : starEach (a :: []) X.env = (false, eval a X.env) :: starEach [] X.env := by rfl) (hpl : (backTo pos (starEach [] X.env)).any (·.1) = false := by rfl) :
    PS X (.Raise (some (.Call (.Name nm p) [a] [] pos)) none pos2) (tRaise_at C W ta) := ps_raise hc tk (pmk_at T hr ha hg hdb he hpl)
/-- e.at, e a kept error -/
def tGet_at (K : PySem.W.Frag) (te : TE) : TE := fun σ H Q => te σ H fun x H1 => ∃ (a C dd : Addr) (v : V), x = .ref a ∧ H1 a = some (ExH (.ref C) (some dd) a) ∧ ExcC K C ∧ PySem.W.findIn K (.ref C) "at" = some none ∧ H1 dd = some (.xd [(("at" : Str), v)]) ∧ Q v H1
theorem pe_get_at {e : Expr} {te : TE} {pos : Pos} (he : PE X e te) (hb : attributeBase e "at" X.env (eval e X.env) = eval e X.env := by rfl) : PE X (.Attribute e "at" pos) (tGet_at X.K te) := by
  constructor
  intro pins s σ H Q I h
  refine attr_of hb (thn (he.run pins s σ H _ I h) ?_)
  rintro u s1 ⟨x, H1, I1, rx, a, C, dd, v, rfl, ha, EC, noN, hdd, q⟩
  cases (show u = Value.ref a from rx)
  obtain ⟨oe, od, J, hod⟩ := held_at I1 ha (.inr ⟨dd, _, rfl, hdd⟩)
  obtain ⟨mA, hns, hr⟩ := I1.hok dd _ hdd
  obtain ⟨o, ho, hl⟩ := lookIn_ns hns
  obtain ⟨o', eo, ho'⟩ := hod dd _ rfl hdd
  rw [ho] at ho'
  cases ho'
  subst eo
  have l : List.lookup ("at" : Str) [(("at" : Str), v)] = some v := by simp [List.lookup]
  obtain ⟨u, hu, ru⟩ := RelO.some_of (v := v) (o := mA "at") (by rw [← l]; exact hr "at")
  exact HandSPX.exc_get I1.kIn J EC.hg EC.hk EC.hs (PySem.W.findObj_own EC.hd noN rfl (by rw [hl, hu])) (handed_of ru) ⟨v, H1, I1.tok _, ru, q⟩
end
/-! ### errors of the field name -/
namespace Of_name
open PySem.W PySem.Calls PySem.HandSPX
def iA (p1 p2 : Pos) : Arguments := { posonlyargs := [], args := [{ arg := "self", annotation := none, pos := p1 }, { arg := "name", annotation := none, pos := p2 }], vararg := none, kwonlyargs := [], kw_defaults := [], kwarg := none, defaults := [] }
def iB (q1 q2 q3 q4 : Pos) : List Stmt := [.Assign [.Attribute (.Name "self" q1) "name" q2] (.Name "name" q3) q4]
def iS : Scope := { kind := .function, names := [(PySem.Str.ofString "self", .local), (PySem.Str.ofString "name", .local)], isGenerator := false, isCoroutine := false, more := [] }
/-- the class called nm, at C, and its __init__, at fI, as the top has left them -/
structure Tx (K : Frag) (mg : Str → Option Value) (nm ql : Str) (C fI : Addr) (B newId initId : String) (bmB : List Value) : Prop where
  base : ExcBaseFacts B newId initId bmB
  gC : mg nm = some (.ref C)
  cls : ∃ n1 q N bs bm sn sub ab col dd k0 k1 k2 k3 k5, K.lookup C = some (excClassObj n1 q C N bs bm true sn sub ab col dd k0 k1 k2 k3 k5 newId) ∧ Line bm bmB
  sa : findIn K (.ref C) "__setattr__" = some (some (.builtin "object.__setattr__"))
  ex : ExcC K C
  noN : findIn K (.ref C) "name" = some none
  iC : findIn K (.ref C) "__init__" = some (some (.ref fI))
  tC : typeIn K (.ref fI) = some (.type "function")
  kC : keepIn K (.ref C) = true
  tyC : typeIn K (.ref C) = some (.type "type")
  fn : ∃ (oc : Value) (od : Option Addr) (doc pm : Value) (an : Option Addr) (cdv ct : Value) (osl : Array (Option Value)) (p1 p2 q1 q2 q3 q4 : Pos),
    K.lookup fI = some ⟨oc, od, .func (fnOf "__init__" ql (iA p1 p2) (iB q1 q2 q3 q4) iS .none .none doc pm an cdv ct), osl⟩ ∧ codeIn K cdv ql = true
/-- an error made of v, at e, its own dict at d -/
structure Made (h h' : Heap) (e C d : Addr) (v : Value) : Prop where
  keep : ∀ b o, h.get? b = some o → h'.get? b = some o
  new : h.objs.size ≤ e
  obj : ∃ oe vs, h'.get? e = some oe ∧ oe.cls = .ref C ∧ oe.dict = some d ∧ oe.data = .fields vs ∧ vs[1]? = some .none
  dbig : h.objs.size ≤ d
  dne : d ≠ e
  ns : h'.Ns1 d (fun y => if y = "name" then some v else none)
section
variable {prog : Program} {w : World} {A : Around} {E : Value → Shared → Prop} {R : Result → Shared → Prop} {s : Shared} {K : Frag} {mg : Str → Option Value} {nm ql : Str} {C fI : Addr} {B newId initId : String} {bmB : List Value}
theorem made (T : Tx K mg nm ql C fI B newId initId bmB) {v : Value} (X : K.In s.heap) (hlim : s.heap.NoLimit) (hroom : A.depth + 1 < recursionLimit) (hq : ∀ h' tk e d, Made s.heap h' e C d v → R (.ok (.ret (.ref e))) { s with heap := h', toks := tk }) :
    codeAny (model prog w) A (.call (.ref C) ⟨[v], []⟩) R s := by
  obtain ⟨n1, q, N, bs, bm, sn, sub, ab, col, dd, k0, k1, k2, k3, k5, hC, ln⟩ := T.cls
  obtain ⟨oc, od, doc, pm, an, cdv, ct, osl, p1, p2, q1, q2, q3, q4, ho, hcd⟩ := T.fn
  have hcl : clsIn K C = some { name := n1, bases := bs, mro := .ref C :: bm, ns := N, qualname := q, hasDict := true, slotNames := sn, subclasses := sub, abstract := ab, collection := col, hasDel := false } := by
    unfold clsIn
    rw [hC]
  obtain ⟨hp, g, dr, tk, os⟩ := s
  have k : ∀ b o, hp.get? b = some o → ((hp.push (kdv_tup [v])).push (excO C hp.objs.size)).get? b = some o := fun b o e => Heap.get?_push_of_some _ (Heap.get?_push_of_some _ e)
  have hx : ((hp.push (kdv_tup [v])).push (excO C hp.objs.size)).get? (hp.objs.size + 1) = some (excO C hp.objs.size) := by heap_get
  refine call_own T.base ln.has (X _ _ hC) (looks_findIn X T.iC) (fun self => bind_fn X self T.tC) (one_size v) ?_
  have X1 := X.keeps k
  have lim1 : ((hp.push (kdv_tup [v])).push (excO C hp.objs.size)).NoLimit := hlim.keeps k
  have size1 : ((hp.push (kdv_tup [v])).push (excO C hp.objs.size)).objs.size = hp.objs.size + 1 + 1 := by rw [Heap.size_push, Heap.size_push]
  generalize (hp.push (kdv_tup [v])).push (excO C hp.objs.size) = h1 at k hx X1 lim1 size1 ⊢
  refine Att.call_fn (binds := [("self", .ref (hp.objs.size + 1)), ("name", v)]) X1 lim1 ho hcd hroom (BindsTo.of_eq (by first | rfl | with_unfolding_all rfl)) (by first | rfl | decide | with_unfolding_all rfl) (fun s₁ IC => ?_) rfl rfl rfl
  obtain ⟨h₁, tk₁, rfl⟩ := IC.toInCall.same
  have k1' : ∀ b o, h1.get? b = some o → h₁.get? b = some o := IC.toInCall.keep
  have hn := IC.toInCall.ns
  show wpAny _ _ (execs _ _) _ _ _
  refine wpAny_execs_cons (plainObj_wpAny_Assign_Attribute ?_)
  refine ldC (v := v) hn (by first | rfl | with_unfolding_all rfl | kernel_rfl) (ldC (v := .ref (hp.objs.size + 1)) hn (by first | rfl | with_unfolding_all rfl | kernel_rfl) ?_)
  refine set_plain (X1.keeps k1') (ox := excO C hp.objs.size) (od := none) ⟨k1' _ _ hx, rfl, rfl, trivial⟩ T.sa ?_
  refine store_err (X1.keeps k1') (k1' _ _ hx) hcl (bmB := bmB) ln.own rfl rfl T.noN (fun h₃ tk₃ dx k₃ dn dne hx₃ hn₃ => ?_)
  show wpAny _ _ (execs _ _) _ _ _
  have z : h1.objs.size < h₁.objs.size := hn.lt
  have lt_ : ∀ {b : Addr} {o : Obj}, hp.get? b = some o → b ≠ hp.objs.size + 1 := fun {b o} e => Nat.ne_of_lt (Nat.lt_succ_of_lt (Heap.lt_size e))
  refine wpAny_execs_nil ⟨rfl, hq h₃ tk₃ (hp.objs.size + 1) dx ⟨fun b o e => k₃ b o (lt_ e) (k1' b o (k b o e)), Nat.le_succ _, ⟨_, _, hx₃, rfl, rfl, rfl, rfl⟩, ?_, dne, hn₃⟩⟩
  have dn' : h₁.objs.size ≤ dx := dn
  show hp.objs.size ≤ dx
  omega
end
end Of_name
section
variable {X : Cx} {nm ql : Str} {C fI : Addr} {B newId initId : String} {bmB : List Value}
theorem relO_name {v : V} {v' : Value} (r : RelV v v') (f : Str) : RelO (List.lookup f [(("name" : Str), v)]) (if f = "name" then some v' else none) := by
  by_cases hw : f = "name"
  · subst hw
    rw [if_pos rfl]
    have q : List.lookup ("name" : Str) [(("name" : Str), v)] = some v := by simp [List.lookup]
    rw [q]
    exact r
  · rw [if_neg hw]
    have qw : (f == ("name" : Str)) = false := by simpa using hw
    have q2 : List.lookup f [(("name" : Str), v)] = none := by simp [List.lookup, qw]
    rw [q2]
    trivial
/-- nm(e) -/
def tMk_name (C : Addr) (ta : TA) : L2.St → Hp → XK → Prop := fun σ H Q => ta σ H fun vs H1 => ∃ v, vs = [v] ∧ ∀ d, H1 d = none → Q (.ref C) (some d) (upd H1 d (.xd [(("name" : Str), v)]))
theorem pmk_name {a : Expr} {ta : TA} {p pos : Pos} {k : Nat} (T : Of_name.Tx X.K X.mg nm ql C fI B newId initId bmB) (hr : Room k X.A) (ha : PA X [a] ta) (hg : Gl X nm := by rfl) (hdb : (nm == ("__debug__" : Str)) = false := by decide)
    (he : starEach (a :: []) X.env = (false, eval a X.env) :: starEach [] X.env := by rfl) (hpl : (backTo pos (starEach [] X.env)).any (·.1) = false := by rfl) :
    PMk X (.Call (.Name nm p) [a] [] pos) (tMk_name C ta) := by
  intro pins s σ H Q I h
  refine wpAny_Call_Name_kw (ld_glob I hg T.gC ?_ hdb)
  refine PySem.W.callWith_K (h₀ := X.base) I.ok.mod.kin T.kC (thn (ha.run pos pins s σ H _ I h) fun us s1 hh => ?_) he hpl
  obtain ⟨vs, H1, I1, r1, v, ev, q1⟩ := hh
  subst ev
  refine ⟨I1.kIn, ?_⟩
  cases r1 with
  | cons rv rn =>
    rename_i v' us'
    cases rn
    show wpAny _ _ (call (.ref C) [v']) _ _ _
    have hlim := I1.nolimit
    obtain ⟨hp, g, dr, tk, os⟩ := s1
    refine wpAny_call (Of_name.made T I1.kIn hlim (by have := hr.dp; omega) fun h' tk' e d M => ?_)
    show MkP X pins σ Q (.ref e) ⟨h', g, dr, tk', os⟩
    obtain ⟨oe, fv, hoe, hc, hd, hdat, h1⟩ := M.obj
    have hns := M.ns
    obtain ⟨G', g1, g2⟩ := restrict h' fun b => decide (b ≠ e)
    have gk : ∀ b, b ≠ e → G'.get? b = h'.get? b := fun b hb => g1 b (decide_eq_true hb)
    have ge : G'.get? e = none := g2 e (by simp)
    have old : ∀ b o, hp.get? b = some o → G'.get? b = some o := fun b o q => (gk b (Nat.ne_of_lt (Nat.lt_of_lt_of_le (Heap.lt_size q) M.new))).trans (M.keep b o q)
    have ob : ObjOk X.prog X.w (upd H1 d (.xd [(("name" : Str), v)])) G' d (.xd [(("name" : Str), v)]) :=
      ⟨_, hns.at (fun o q => (gk d M.dne).trans q), fun f => relO_name rv f⟩
    have J : L2.Inv X pins σ (upd H1 d (.xd [(("name" : Str), v)])) ⟨G', g, dr, tk', os⟩ := I1.laid (t' := tk') old M.dbig ob
    refine ⟨e, oe, fv, ⟨G', g, dr, tk', os⟩, _, .ref C, some d, rfl, J, fun b o q => ?_, ge, hoe, ⟨hc, hd⟩, hdat, h1, ?_, rfl, I1.bare, raises_own T.ex.hs T.tyC, q1 d (I1.hok.fresh M.dbig)⟩
    · by_cases hb : b = e
      · have q' : G'.get? b = some o := q
        rw [hb, ge] at q'
        cases q'
      · exact (gk b hb).symm.trans q
    · rw [upd_ne (Ne.symm M.dne)]
      exact I1.hok.fresh M.new
/-- raise nm(e) -/
def tRaise_name (C : Addr) (W : WX) (ta : TA) : TS := fun _ σ H => tMk_name C ta σ H fun cls d H' => W cls d σ H'
theorem ps_raise_name {a : Expr} {ta : TA} {W : WX} {p pos pos2 : Pos} {k : Nat} (hc : X.calm = true) (T : Of_name.Tx X.K X.mg nm ql C fI B newId initId bmB) (hr : Room k X.A) (tk : Takes X W) (ha : PA X [a] ta) (hg : Gl X nm := by rfl) (hdb : (nm == ("__debug__" : Str)) = false := by decide)
    (he : starEach (a :: []) X.env = (false, eval a X.env) :: starEach [] X.env := by rfl) (hpl : (backTo pos (starEach [] X.env)).any (·.1) = false := by rfl) :
    PS X (.Raise (some (.Call (.Name nm p) [a] [] pos)) none pos2) (tRaise_name C W ta) := ps_raise hc tk (pmk_name T hr ha hg hdb he hpl)
/-- e.name, e a kept error -/
def tGet_name (K : PySem.W.Frag) (te : TE) : TE := fun σ H Q => te σ H fun x H1 => ∃ (a C dd : Addr) (v : V), x = .ref a ∧ H1 a = some (ExH (.ref C) (some dd) a) ∧ ExcC K C ∧ PySem.W.findIn K (.ref C) "name" = some none ∧ H1 dd = some (.xd [(("name" : Str), v)]) ∧ Q v H1
theorem pe_get_name {e : Expr} {te : TE} {pos : Pos} (he : PE X e te) (hb : attributeBase e "name" X.env (eval e X.env) = eval e X.env := by rfl) : PE X (.Attribute e "name" pos) (tGet_name X.K te) := by
  constructor
  intro pins s σ H Q I h
  refine attr_of hb (thn (he.run pins s σ H _ I h) ?_)
  rintro u s1 ⟨x, H1, I1, rx, a, C, dd, v, rfl, ha, EC, noN, hdd, q⟩
  cases (show u = Value.ref a from rx)
  obtain ⟨oe, od, J, hod⟩ := held_at I1 ha (.inr ⟨dd, _, rfl, hdd⟩)
  obtain ⟨mA, hns, hr⟩ := I1.hok dd _ hdd
  obtain ⟨o, ho, hl⟩ := lookIn_ns hns
  obtain ⟨o', eo, ho'⟩ := hod dd _ rfl hdd
  rw [ho] at ho'
  cases ho'
  subst eo
  have l : List.lookup ("name" : Str) [(("name" : Str), v)] = some v := by simp [List.lookup]
  obtain ⟨u, hu, ru⟩ := RelO.some_of (v := v) (o := mA "name") (by rw [← l]; exact hr "name")
  exact HandSPX.exc_get I1.kIn J EC.hg EC.hk EC.hs (PySem.W.findObj_own EC.hd noN rfl (by rw [hl, hu])) (handed_of ru) ⟨v, H1, I1.tok _, ru, q⟩
end
/-! ### errors of the field most -/
namespace Of_most
open PySem.W PySem.Calls PySem.HandSPX
def iA (p1 p2 : Pos) : Arguments := { posonlyargs := [], args := [{ arg := "self", annotation := none, pos := p1 }, { arg := "most", annotation := none, pos := p2 }], vararg := none, kwonlyargs := [], kw_defaults := [], kwarg := none, defaults := [] }
def iB (q1 q2 q3 q4 : Pos) : List Stmt := [.Assign [.Attribute (.Name "self" q1) "most" q2] (.Name "most" q3) q4]
def iS : Scope := { kind := .function, names := [(PySem.Str.ofString "self", .local), (PySem.Str.ofString "most", .local)], isGenerator := false, isCoroutine := false, more := [] }
/-- the class called nm, at C, and its __init__, at fI, as the top has left them -/
structure Tx (K : Frag) (mg : Str → Option Value) (nm ql : Str) (C fI : Addr) (B newId initId : String) (bmB : List Value) : Prop where
  base : ExcBaseFacts B newId initId bmB
  gC : mg nm = some (.ref C)
  cls : ∃ n1 q N bs bm sn sub ab col dd k0 k1 k2 k3 k5, K.lookup C = some (excClassObj n1 q C N bs bm true sn sub ab col dd k0 k1 k2 k3 k5 newId) ∧ Line bm bmB
  sa : findIn K (.ref C) "__setattr__" = some (some (.builtin "object.__setattr__"))
  ex : ExcC K C
  noN : findIn K (.ref C) "most" = some none
  iC : findIn K (.ref C) "__init__" = some (some (.ref fI))
  tC : typeIn K (.ref fI) = some (.type "function")
  kC : keepIn K (.ref C) = true
  tyC : typeIn K (.ref C) = some (.type "type")
  fn : ∃ (oc : Value) (od : Option Addr) (doc pm : Value) (an : Option Addr) (cdv ct : Value) (osl : Array (Option Value)) (p1 p2 q1 q2 q3 q4 : Pos),
    K.lookup fI = some ⟨oc, od, .func (fnOf "__init__" ql (iA p1 p2) (iB q1 q2 q3 q4) iS .none .none doc pm an cdv ct), osl⟩ ∧ codeIn K cdv ql = true
/-- an error made of v, at e, its own dict at d -/
structure Made (h h' : Heap) (e C d : Addr) (v : Value) : Prop where
  keep : ∀ b o, h.get? b = some o → h'.get? b = some o
  new : h.objs.size ≤ e
  obj : ∃ oe vs, h'.get? e = some oe ∧ oe.cls = .ref C ∧ oe.dict = some d ∧ oe.data = .fields vs ∧ vs[1]? = some .none
  dbig : h.objs.size ≤ d
  dne : d ≠ e
  ns : h'.Ns1 d (fun y => if y = "most" then some v else none)
section
variable {prog : Program} {w : World} {A : Around} {E : Value → Shared → Prop} {R : Result → Shared → Prop} {s : Shared} {K : Frag} {mg : Str → Option Value} {nm ql : Str} {C fI : Addr} {B newId initId : String} {bmB : List Value}
theorem made (T : Tx K mg nm ql C fI B newId initId bmB) {v : Value} (X : K.In s.heap) (hlim : s.heap.NoLimit) (hroom : A.depth + 1 < recursionLimit) (hq : ∀ h' tk e d, Made s.heap h' e C d v → R (.ok (.ret (.ref e))) { s with heap := h', toks := tk }) :
    codeAny (model prog w) A (.call (.ref C) ⟨[v], []⟩) R s := by
  obtain ⟨n1, q, N, bs, bm, sn, sub, ab, col, dd, k0, k1, k2, k3, k5, hC, ln⟩ := T.cls
  obtain ⟨oc, od, doc, pm, an, cdv, ct, osl, p1, p2, q1, q2, q3, q4, ho, hcd⟩ := T.fn
  have hcl : clsIn K C = some { name := n1, bases := bs, mro := .ref C :: bm, ns := N, qualname := q, hasDict := true, slotNames := sn, subclasses := sub, abstract := ab, collection := col, hasDel := false } := by
    unfold clsIn
    rw [hC]
  obtain ⟨hp, g, dr, tk, os⟩ := s
  have k : ∀ b o, hp.get? b = some o → ((hp.push (kdv_tup [v])).push (excO C hp.objs.size)).get? b = some o := fun b o e => Heap.get?_push_of_some _ (Heap.get?_push_of_some _ e)
  have hx : ((hp.push (kdv_tup [v])).push (excO C hp.objs.size)).get? (hp.objs.size + 1) = some (excO C hp.objs.size) := by heap_get
  refine call_own T.base ln.has (X _ _ hC) (looks_findIn X T.iC) (fun self => bind_fn X self T.tC) (one_size v) ?_
  have X1 := X.keeps k
  have lim1 : ((hp.push (kdv_tup [v])).push (excO C hp.objs.size)).NoLimit := hlim.keeps k
  have size1 : ((hp.push (kdv_tup [v])).push (excO C hp.objs.size)).objs.size = hp.objs.size + 1 + 1 := by rw [Heap.size_push, Heap.size_push]
  generalize (hp.push (kdv_tup [v])).push (excO C hp.objs.size) = h1 at k hx X1 lim1 size1 ⊢
  refine Att.call_fn (binds := [("self", .ref (hp.objs.size + 1)), ("most", v)]) X1 lim1 ho hcd hroom (BindsTo.of_eq (by first | rfl | with_unfolding_all rfl)) (by first | rfl | decide | with_unfolding_all rfl) (fun s₁ IC => ?_) rfl rfl rfl
  obtain ⟨h₁, tk₁, rfl⟩ := IC.toInCall.same
  have k1' : ∀ b o, h1.get? b = some o → h₁.get? b = some o := IC.toInCall.keep
  have hn := IC.toInCall.ns
  show wpAny _ _ (execs _ _) _ _ _
  refine wpAny_execs_cons (plainObj_wpAny_Assign_Attribute ?_)
  refine ldC (v := v) hn (by first | rfl | with_unfolding_all rfl | kernel_rfl) (ldC (v := .ref (hp.objs.size + 1)) hn (by first | rfl | with_unfolding_all rfl | kernel_rfl) ?_)
  refine set_plain (X1.keeps k1') (ox := excO C hp.objs.size) (od := none) ⟨k1' _ _ hx, rfl, rfl, trivial⟩ T.sa ?_
  refine store_err (X1.keeps k1') (k1' _ _ hx) hcl (bmB := bmB) ln.own rfl rfl T.noN (fun h₃ tk₃ dx k₃ dn dne hx₃ hn₃ => ?_)
  show wpAny _ _ (execs _ _) _ _ _
  have z : h1.objs.size < h₁.objs.size := hn.lt
  have lt_ : ∀ {b : Addr} {o : Obj}, hp.get? b = some o → b ≠ hp.objs.size + 1 := fun {b o} e => Nat.ne_of_lt (Nat.lt_succ_of_lt (Heap.lt_size e))
  refine wpAny_execs_nil ⟨rfl, hq h₃ tk₃ (hp.objs.size + 1) dx ⟨fun b o e => k₃ b o (lt_ e) (k1' b o (k b o e)), Nat.le_succ _, ⟨_, _, hx₃, rfl, rfl, rfl, rfl⟩, ?_, dne, hn₃⟩⟩
  have dn' : h₁.objs.size ≤ dx := dn
  show hp.objs.size ≤ dx
  omega
end
end Of_most
section
variable {X : Cx} {nm ql : Str} {C fI : Addr} {B newId initId : String} {bmB : List Value}
theorem relO_most {v : V} {v' : Value} (r : RelV v v') (f : Str) : RelO (List.lookup f [(("most" : Str), v)]) (if f = "most" then some v' else none) := by
  by_cases hw : f = "most"
  · subst hw
    rw [if_pos rfl]
    have q : List.lookup ("most" : Str) [(("most" : Str), v)] = some v := by simp [List.lookup]
    rw [q]
    exact r
  · rw [if_neg hw]
    have qw : (f == ("most" : Str)) = false := by simpa using hw
    have q2 : List.lookup f [(("most" : Str), v)] = none := by simp [List.lookup, qw]
    rw [q2]
    trivial
/-- nm(e) -/
def tMk_most (C : Addr) (ta : TA) : L2.St → Hp → XK → Prop := fun σ H Q => ta σ H fun vs H1 => ∃ v, vs = [v] ∧ ∀ d, H1 d = none → Q (.ref C) (some d) (upd H1 d (.xd [(("most" : Str), v)]))
theorem pmk_most {a : Expr} {ta : TA} {p pos : Pos} {k : Nat} (T : Of_most.Tx X.K X.mg nm ql C fI B newId initId bmB) (hr : Room k X.A) (ha : PA X [a] ta) (hg : Gl X nm := by rfl) (hdb : (nm == ("__debug__" : Str)) = false := by decide)
    (he : starEach (a :: []) X.env = (false, eval a X.env) :: starEach [] X.env := by rfl) (hpl : (backTo pos (starEach [] X.env)).any (·.1) = false := by rfl) :
    PMk X (.Call (.Name nm p) [a] [] pos) (tMk_most C ta) := by
  intro pins s σ H Q I h
  refine wpAny_Call_Name_kw (ld_glob I hg T.gC ?_ hdb)
  refine PySem.W.callWith_K (h₀ := X.base) I.ok.mod.kin T.kC (thn (ha.run pos pins s σ H _ I h) fun us s1 hh => ?_) he hpl
  obtain ⟨vs, H1, I1, r1, v, ev, q1⟩ := hh
  subst ev
  refine ⟨I1.kIn, ?_⟩
  cases r1 with
  | cons rv rn =>
    rename_i v' us'
    cases rn
    show wpAny _ _ (call (.ref C) [v']) _ _ _
    have hlim := I1.nolimit
    obtain ⟨hp, g, dr, tk, os⟩ := s1
    refine wpAny_call (Of_most.made T I1.kIn hlim (by have := hr.dp; omega) fun h' tk' e d M => ?_)
    show MkP X pins σ Q (.ref e) ⟨h', g, dr, tk', os⟩
    obtain ⟨oe, fv, hoe, hc, hd, hdat, h1⟩ := M.obj
    have hns := M.ns
    obtain ⟨G', g1, g2⟩ := restrict h' fun b => decide (b ≠ e)
    have gk : ∀ b, b ≠ e → G'.get? b = h'.get? b := fun b hb => g1 b (decide_eq_true hb)
    have ge : G'.get? e = none := g2 e (by simp)
    have old : ∀ b o, hp.get? b = some o → G'.get? b = some o := fun b o q => (gk b (Nat.ne_of_lt (Nat.lt_of_lt_of_le (Heap.lt_size q) M.new))).trans (M.keep b o q)
    have ob : ObjOk X.prog X.w (upd H1 d (.xd [(("most" : Str), v)])) G' d (.xd [(("most" : Str), v)]) :=
      ⟨_, hns.at (fun o q => (gk d M.dne).trans q), fun f => relO_most rv f⟩
    have J : L2.Inv X pins σ (upd H1 d (.xd [(("most" : Str), v)])) ⟨G', g, dr, tk', os⟩ := I1.laid (t' := tk') old M.dbig ob
    refine ⟨e, oe, fv, ⟨G', g, dr, tk', os⟩, _, .ref C, some d, rfl, J, fun b o q => ?_, ge, hoe, ⟨hc, hd⟩, hdat, h1, ?_, rfl, I1.bare, raises_own T.ex.hs T.tyC, q1 d (I1.hok.fresh M.dbig)⟩
    · by_cases hb : b = e
      · have q' : G'.get? b = some o := q
        rw [hb, ge] at q'
        cases q'
      · exact (gk b hb).symm.trans q
    · rw [upd_ne (Ne.symm M.dne)]
      exact I1.hok.fresh M.new
/-- raise nm(e) -/
def tRaise_most (C : Addr) (W : WX) (ta : TA) : TS := fun _ σ H => tMk_most C ta σ H fun cls d H' => W cls d σ H'
theorem ps_raise_most {a : Expr} {ta : TA} {W : WX} {p pos pos2 : Pos} {k : Nat} (hc : X.calm = true) (T : Of_most.Tx X.K X.mg nm ql C fI B newId initId bmB) (hr : Room k X.A) (tk : Takes X W) (ha : PA X [a] ta) (hg : Gl X nm := by rfl) (hdb : (nm == ("__debug__" : Str)) = false := by decide)
    (he : starEach (a :: []) X.env = (false, eval a X.env) :: starEach [] X.env := by rfl) (hpl : (backTo pos (starEach [] X.env)).any (·.1) = false := by rfl) :
    PS X (.Raise (some (.Call (.Name nm p) [a] [] pos)) none pos2) (tRaise_most C W ta) := ps_raise hc tk (pmk_most T hr ha hg hdb he hpl)
/-- e.most, e a kept error -/
def tGet_most (K : PySem.W.Frag) (te : TE) : TE := fun σ H Q => te σ H fun x H1 => ∃ (a C dd : Addr) (v : V), x = .ref a ∧ H1 a = some (ExH (.ref C) (some dd) a) ∧ ExcC K C ∧ PySem.W.findIn K (.ref C) "most" = some none ∧ H1 dd = some (.xd [(("most" : Str), v)]) ∧ Q v H1
theorem pe_get_most {e : Expr} {te : TE} {pos : Pos} (he : PE X e te) (hb : attributeBase e "most" X.env (eval e X.env) = eval e X.env := by rfl) : PE X (.Attribute e "most" pos) (tGet_most X.K te) := by
  constructor
  intro pins s σ H Q I h
  refine attr_of hb (thn (he.run pins s σ H _ I h) ?_)
  rintro u s1 ⟨x, H1, I1, rx, a, C, dd, v, rfl, ha, EC, noN, hdd, q⟩
  cases (show u = Value.ref a from rx)
  obtain ⟨oe, od, J, hod⟩ := held_at I1 ha (.inr ⟨dd, _, rfl, hdd⟩)
  obtain ⟨mA, hns, hr⟩ := I1.hok dd _ hdd
  obtain ⟨o, ho, hl⟩ := lookIn_ns hns
  obtain ⟨o', eo, ho'⟩ := hod dd _ rfl hdd
  rw [ho] at ho'
  cases ho'
  subst eo
  have l : List.lookup ("most" : Str) [(("most" : Str), v)] = some v := by simp [List.lookup]
  obtain ⟨u, hu, ru⟩ := RelO.some_of (v := v) (o := mA "most") (by rw [← l]; exact hr "most")
  exact HandSPX.exc_get I1.kIn J EC.hg EC.hk EC.hs (PySem.W.findObj_own EC.hd noN rfl (by rw [hl, hu])) (handed_of ru) ⟨v, H1, I1.tok _, ru, q⟩
end
end Pk
namespace Pk
open PySem L2
theorem same_upd {H : Hp} {p : Addr} {o : HO} (h : H p = none) : Same H (upd H p o) := fun b x e => by
  rw [upd_ne (ne_of_none e h)]
  exact e
end Pk
namespace Pk
open PySem L2
def top (i : Nat) : Stmt := PySem.Challenge.pw_paperkin_k18_wishes_as_texts.main.body.getD i (.Pass ⟨0, 0, 0, 0⟩)
abbrev sIsNumber : Stmt := top 18
abbrev sIsWhole : Stmt := top 19
abbrev sIsName : Stmt := top 20
abbrev sIsNameE : Stmt := top 21
abbrev sNeedAny : Stmt := top 22
abbrev sWordsIn : Stmt := top 23
abbrev sNumberBy : Stmt := top 24
abbrev sCanBe : Stmt := top 31
abbrev sCut : Stmt := top 32
abbrev sWishBy : Stmt := top 33
abbrev sDraws : Stmt := top 35
abbrev sTake : Stmt := top 36
abbrev sNames : Stmt := top 37
abbrev sSaid : Stmt := top 38
abbrev sMade : Stmt := top 39
abbrev sWords : Stmt := top 40
abbrev sSpaced : Stmt := top 41
abbrev sBent : Stmt := top 42
abbrev sDue : Stmt := top 43
abbrev sReadR : Stmt := top 44
abbrev sMovedR : Stmt := top 45
abbrev sLaw : Stmt := top 46
def inCls (st : Stmt) (i : Nat) : Stmt := match st with
  | .ClassDef (body := b) .. => b.getD i (.Pass ⟨0, 0, 0, 0⟩)
  | _ => st
abbrev sWInit : Stmt := inCls (top 30) 0
abbrev sWEq : Stmt := inCls (top 30) 1
abbrev sWLen : Stmt := inCls (top 30) 2
abbrev sWStr : Stmt := inCls (top 30) 3
abbrev sWRepr : Stmt := inCls (top 30) 4
abbrev sWMoved : Stmt := inCls (top 30) 5
end Pk
namespace Pk
open PySem L2
theorem len_is (z : Str) : z.length = z.cps.toList.length := TL.len_tl z
theorem blank_tl : TL.tl (" " : Str) = [32] := by decide +kernel
theorem empty_tl : TL.tl ("" : Str) = [] := by decide +kernel
/-! ### a text so many times -/
theorem mul_ok {z : Str} {n : Int} (hz : z.length ≤ 100000) (n0 : 0 ≤ n) (n1 : n ≤ 100) : MulOk z n := by
  refine ⟨?_, fun h1 _ h3 => ?_, fun h1 _ => ?_⟩
  · rw [Bool.or_eq_false_iff]
    exact ⟨decide_eq_false (by omega), decide_eq_false (by omega)⟩
  · have : (100000 : Int) ≤ (2 ^ 63 - 1 : Int) / n := Int.le_ediv_of_mul_le (by omega) (by omega)
    omega
  · have h : z.length * n.toNat ≤ 100000 * 100 := Nat.mul_le_mul hz (by omega)
    show decide (z.length * n.toNat > sizeLine) = false
    refine decide_eq_false ?_
    rw [sizeLine_eq]
    omega
theorem fold_app : ∀ (n : Nat) (x : Array Nat) (a : Array Nat), ((List.replicate n x).foldl (· ++ ·) a).toList = a.toList ++ (List.replicate n x.toList).flatten
  | 0, x, a => by simp
  | n + 1, x, a => by
    rw [List.replicate_succ, List.foldl_cons, fold_app n x (a ++ x), Array.toList_append, List.replicate_succ, List.flatten_cons, List.append_assoc]
theorem mul_tl (z : Str) {n : Int} (n0 : 0 ≤ n) : TL.tl (Txt.mul z n) = (List.replicate n.toNat (TL.tl z)).flatten := by
  unfold Txt.mul
  by_cases h1 : n < 1
  · have e : n = 0 := by omega
    subst e
    rw [if_pos h1]
    rfl
  · rw [if_neg h1]
    by_cases h2 : n = 1
    · subst h2
      show z.cps.toList = _
      simp
    · by_cases h3 : z.length = 0
      · rw [if_pos (by simp [h3])]
        have e : TL.tl z = [] := List.length_eq_zero_iff.mp (by rw [← TL.len_tl]; exact h3)
        rw [e]
        simp
      · rw [if_neg (by simp [h2, h3])]
        show ((List.replicate n.toNat z.cps).foldl (· ++ ·) #[]).toList = _
        rw [fold_app]
        rfl
theorem mul_len (z : Str) {n : Int} (n0 : 0 ≤ n) : (Txt.mul z n).length = n.toNat * z.length := by
  rw [TL.len_tl, mul_tl z n0, TL.len_tl]
  simp
/-- all signs are code points -/
def SOk (z : Str) : Prop := ∀ c ∈ z.cps.toList, c < 0x110000
theorem sok_iff (z : Str) : PyData.strOk z = true ↔ SOk z := by
  unfold PyData.strOk SOk
  rw [← Array.all_toList, List.all_eq_true]
  exact ⟨fun h c hc => of_decide_eq_true (h c hc), fun h c hc => decide_eq_true (h c hc)⟩
theorem sok_app {x y : Str} (hx : SOk x) (hy : SOk y) : SOk (x ++ y) := fun c hc => by
  rw [show (x ++ y).cps.toList = x.cps.toList ++ y.cps.toList from TL.tl_append x y] at hc
  rcases List.mem_append.mp hc with h | h
  · exact hx c h
  · exact hy c h
theorem sok_mul {x : Str} (hx : SOk x) {n : Int} (n0 : 0 ≤ n) : SOk (Txt.mul x n) := fun c hc => by
  rw [show (Txt.mul x n).cps.toList = _ from mul_tl x n0] at hc
  obtain ⟨l, hl, h⟩ := List.mem_flatten.mp hc
  rw [(List.mem_replicate.mp hl).2] at h
  exact hx c h
theorem joinL_mem {c : Nat} : ∀ l : List (List Nat), c ∈ TL.joinL [] l → ∃ p ∈ l, c ∈ p
  | [], h => by cases h
  | [p], h => ⟨p, List.mem_cons_self, h⟩
  | p :: q :: r, h => by
    have h' : c ∈ p ++ ([] ++ TL.joinL [] (q :: r)) := h
    rcases List.mem_append.mp h' with h | h
    · exact ⟨p, List.mem_cons_self, h⟩
    · obtain ⟨x, hx, hc⟩ := joinL_mem (q :: r) h
      exact ⟨x, List.mem_cons_of_mem _ hx, hc⟩
theorem sok_join {ys : List Str} (h : ∀ y ∈ ys, SOk y) : SOk (Txt.join "" ys) := fun c hc => by
  rw [show (Txt.join "" ys).cps.toList = TL.joinL (TL.tl "") (ys.map TL.tl) from by rw [TL.join_eq]; exact TL.tl_join "" ys, empty_tl] at hc
  obtain ⟨p, hp, hm⟩ := joinL_mem _ hc
  obtain ⟨y, hy, rfl⟩ := List.mem_map.mp hp
  exact h y hy c hm
theorem sok_blank : SOk " " := fun c hc => by
  rw [show (" " : Str).cps.toList = [32] from blank_tl, List.mem_singleton] at hc
  rw [hc]
  decide
theorem at_some {α : Type} {l : List α} {i : Int} (h0 : 0 ≤ i) (h1 : i < l.length) : ∃ c, atI l i = some c ∧ c ∈ l := by
  obtain ⟨j, rfl⟩ := Int.eq_ofNat_of_zero_le h0
  have hj : j < l.length := by omega
  exact ⟨l[j], atI_nat (List.getElem?_eq_getElem hj), List.getElem_mem hj⟩
theorem joinL_len : ∀ l : List (List Nat), (TL.joinL [] l).length = (l.map List.length).sum
  | [] => rfl
  | [p] => by simp [TL.joinL]
  | p :: q :: r => by
    have ih := joinL_len (q :: r)
    show (p ++ ([] ++ TL.joinL [] (q :: r))).length = _
    rw [List.nil_append, List.length_append, ih]
    simp
theorem join0_len (ys : List Str) : (Txt.join "" ys).length = (ys.map (·.length)).sum := by
  rw [TL.len_tl, TL.join_eq, TL.tl_join, empty_tl, joinL_len, List.map_map]
  exact congrArg List.sum (List.map_congr_left fun p _ => (TL.len_tl p).symm)
theorem app_len (x y : Str) : (x ++ y).length = x.length + y.length := by
  rw [TL.len_tl, TL.tl_append, List.length_append, ← TL.len_tl, ← TL.len_tl]
def S (l : List Nat) : Str := ⟨l.toArray⟩
theorem S_tl (l : List Nat) : TL.tl (S l) = l := rfl
theorem S_len (l : List Nat) : (S l).length = l.length := TL.len_tl _
end Pk
namespace Pk
open PySem L2
/-! ### draws -/
abbrev drawKv (c : Addr) (t l : Int) : List (Key × V) := [(.inr "cells", .ref c), (.inr "at", .int t), (.inr "left", .int l)]
theorem val_cells (c : Addr) (t l : Int) : valV (drawKv c t l) (.inr "cells") = some (.ref c) := by kernel_rfl
theorem val_at (c : Addr) (t l : Int) : valV (drawKv c t l) (.inr "at") = some (.int t) := by kernel_rfl
theorem val_left (c : Addr) (t l : Int) : valV (drawKv c t l) (.inr "left") = some (.int l) := by kernel_rfl
theorem put_at (c : Addr) (t l u : Int) : putK (drawKv c t l) (.inr "at") (.int u) = drawKv c u l := by kernel_rfl
theorem put_left (c : Addr) (t l u : Int) : putK (drawKv c t l) (.inr "left") (.int u) = drawKv c t u := by kernel_rfl
/-- a draw's dict, t numbers taken -/
def DrawAt (H : Hp) (d : Addr) (t : Int) : Prop := ∃ (c : Addr) (ns : List Int) (l : Int), H d = some (.dK (drawKv c t l)) ∧ H c = some (.lst (ns.map V.int)) ∧ 0 < ns.length ∧ ns.length ≤ 100
/-- all but what stands at d is as it was, and a draw there keeps its cells -/
structure But (s : Addr) (H H' : Hp) : Prop where
  all : ∀ q o, q ≠ s → H q = some o → H' q = some o
  cells : ∀ c t l, H s = some (.dK (drawKv c t l)) → ∃ t' l', H' s = some (.dK (drawKv c t' l'))
instance {s : Addr} {H H' : Hp} : CoeFun (But s H H') (fun _ => ∀ q o, q ≠ s → H q = some o → H' q = some o) := ⟨But.all⟩
theorem But.refl {s : Addr} {H : Hp} : But s H H := ⟨fun _ _ _ h => h, fun _ t l h => ⟨t, l, h⟩⟩
theorem But.trans {s : Addr} {H H1 H2 : Hp} (a : But s H H1) (b : But s H1 H2) : But s H H2 := ⟨fun q o n h => b.all q o n (a.all q o n h), fun c t l h => by
  obtain ⟨t1, l1, h1⟩ := a.cells c t l h
  exact b.cells c t1 l1 h1⟩
theorem But.same {s : Addr} {H H' : Hp} (a : Same H H') : But s H H' := ⟨fun q o _ e => a q o e, fun c t l e => ⟨t, l, a _ _ e⟩⟩
theorem But.new {s p : Addr} {H : Hp} {o : HO} (h : H p = none) : But s H (upd H p o) := But.same (same_upd h)
theorem But.at {s c : Addr} {H : Hp} {t l t' l' : Int} (h : H s = some (.dK (drawKv c t l))) : But s H (upd H s (.dK (drawKv c t' l'))) := ⟨fun q u n e => by
  rw [upd_ne n]
  exact e, fun c1 t1 l1 h1 => by
  rw [h] at h1
  have hc : c = c1 := by injection h1 with h1; injection h1 with h1; injection h1 with h1 _; injection h1 with _ h1; injection h1
  subst hc
  exact ⟨t', l', upd_same⟩⟩
def Cells (d : Addr) (H G : Hp) : Prop := ∀ c t l, H d = some (.dK (drawKv c t l)) → ∃ t' l', G d = some (.dK (drawKv c t' l'))
theorem Cells.trans {d : Addr} {H H1 H2 : Hp} (a : Cells d H H1) (b : Cells d H1 H2) : Cells d H H2 := fun c t l h => by
  obtain ⟨t1, l1, h1⟩ := a c t l h
  exact b c t1 l1 h1
theorem Cells.put {d b : Addr} {H G : Hp} {o : HO} (a : Cells d H G) (n : b ≠ d) : Cells d H (upd G b o) := fun c t l h => by
  obtain ⟨t1, l1, h1⟩ := a c t l h
  exact ⟨t1, l1, by rw [upd_ne (Ne.symm n)]; exact h1⟩
theorem Cells.refl {d : Addr} {H : Hp} : Cells d H H := fun _ t l h => ⟨t, l, h⟩
theorem But.cells' {d : Addr} {H H1 H2 : Hp} (a : But d H H1) (b : Cells d H1 H2) : Cells d H H2 := Cells.trans a.cells b
/-- the cells of the draw at d are not at b -/
def Off (H : Hp) (d b : Addr) : Prop := ∀ c t l, H d = some (.dK (drawKv c t l)) → c ≠ b
theorem Off.new {H : Hp} {d b : Addr} {t : Int} (D : DrawAt H d t) (n : H b = none) : Off H d b := fun c t1 l1 h => by
  obtain ⟨c2, ns, l, h1, h2, h3⟩ := D
  rw [h] at h1
  have hc : c = c2 := by injection h1 with h1; injection h1 with h1; injection h1 with h1 _; injection h1 with _ h1; injection h1
  subst hc
  exact ne_of_none h2 n
theorem Off.but {H H' : Hp} {d b : Addr} {t : Int} (h : Off H d b) (D : DrawAt H d t) (u : But d H H') : Off H' d b := fun c t1 l1 e => by
  obtain ⟨c2, ns, l, h1, h2, h3⟩ := D
  obtain ⟨t3, l3, e3⟩ := u.cells _ _ _ h1
  rw [e] at e3
  have hc : c = c2 := by injection e3 with e3; injection e3 with e3; injection e3 with e3 _; injection e3 with _ e3; injection e3
  subst hc
  exact h _ _ _ h1
theorem Off.put {H : Hp} {d b : Addr} {o : HO} (h : Off H d b) (n : b ≠ d) : Off (upd H b o) d b := fun c t l e => by
  rw [upd_ne (Ne.symm n)] at e
  exact h _ _ _ e
theorem DrawAt.off {H : Hp} {d b : Addr} {t : Int} {o : HO} (D : DrawAt H d t) (h : Off H d b) (n : b ≠ d) : DrawAt (upd H b o) d t := by
  obtain ⟨c, ns, l, h1, h2, h3⟩ := D
  exact ⟨c, ns, l, by rw [upd_ne (Ne.symm n)]; exact h1, by rw [upd_ne (h _ _ _ h1)]; exact h2, h3⟩
theorem DrawAt.same {H H' : Hp} {d : Addr} {t : Int} (h : DrawAt H d t) (s : Same H H') : DrawAt H' d t := by
  obtain ⟨c, ns, l, h1, h2, h3⟩ := h
  exact ⟨c, ns, l, s _ _ h1, s _ _ h2, h3⟩
theorem DrawAt.isD {H : Hp} {d : Addr} {t : Int} (h : DrawAt H d t) : ∃ kvs, H d = some (.dK kvs) := by
  obtain ⟨c, ns, l, h1, _⟩ := h
  exact ⟨_, h1⟩
theorem DrawAt.but {H H' : Hp} {d e : Addr} {t : Int} (h : DrawAt H d t) (b : But e H H') (n : d ≠ e) (he : ∃ kvs, H e = some (.dK kvs)) : DrawAt H' d t := by
  obtain ⟨c, ns, l, h1, h2, h3⟩ := h
  obtain ⟨kvs, he⟩ := he
  exact ⟨c, ns, l, b _ _ n h1, b _ _ (fun z => by rw [z, he] at h2; cases h2) h2, h3⟩
/-- what is at the place of no dict is no draw's -/
theorem DrawAt.ne {H : Hp} {d p : Addr} {t : Int} {o : HO} (h : DrawAt H d t) (e : H p = some o) (n : ∀ kvs, o ≠ .dK kvs) : p ≠ d := fun z => by
  obtain ⟨kvs, hd⟩ := h.isD
  rw [z, hd] at e
  cases e
  exact n _ rfl
theorem DrawAt.new {H : Hp} {d p : Addr} {t : Int} (h : DrawAt H d t) (n : H p = none) : p ≠ d := fun z => by
  obtain ⟨kvs, hd⟩ := h.isD
  rw [z, hd] at n
  cases n
def spTake : Sp := fun vs H Q _ => ∃ (d : Addr) (t many : Int), vs = [.ref d, .int many] ∧ DrawAt H d t ∧ 0 ≤ t ∧ t < 100000 ∧ 0 < many ∧ many < 1000000 ∧
  ∀ (v : Int) (H' : Hp), 0 ≤ v → v < many → But d H H' → DrawAt H' d (t + 1) → Q (.int v) H'
theorem at_int {ns : List Int} {i : Int} (h0 : 0 ≤ i) (h1 : i < ns.length) : ∃ x : Int, atI (ns.map V.int) i = some (.int x) := by
  obtain ⟨j, rfl⟩ : ∃ j : Nat, i = j := ⟨i.toNat, by omega⟩
  have hj : j < ns.length := by omega
  exact ⟨ns[j], atI_nat (by rw [List.getElem?_map, List.getElem?_eq_getElem hj]; rfl)⟩
section
variable {P : Program} {w : World} {K : PySem.W.Frag} {mg : Str → Option Value} {base : Heap}
abbrev NTake : List Str := ["_law_draw", "_law_many", "_law_found", "_law_at", "_law_cells", "_law_number"]
theorem scTake : FnScope NTake ["_law_draw", "_law_many"] (defScope sTake) := ⟨rfl, rfl, rfl, by decide +kernel, rfl, by decide +kernel, by decide +kernel⟩
theorem ok_take {f : Addr} {fd : FuncData} (F : Fun K "_law_take" "_law_take" sTake f fd) (ml : mg "len" = none) : FnOk P w K mg base CX0 1 f fd ["_law_draw", "_law_many"] spTake := by
  refine F.ok scTake (fun vs H Q E h => ?_) (fun cdv A outer s H vs Q E hr h => ?_)
  · obtain ⟨d, t, m, rfl, _⟩ := h
    rfl
  · obtain ⟨d, t, many, rfl, ⟨c, ns, l, hd, hc, n0, n1⟩, t0, t1, m0, m1, q⟩ := h
    have hu := hu_of hr
    refine ⟨_, pss_cons (ps_dput hu (pv 0) pe_str (pe_op op_add (pe_dget hu (pv 0) pe_str (fun _ _ => rfl)) pe_int) rfl)
      (pss_cons (ps_if (pt_cmpR op_gt (pe_dget hu (pv 0) pe_str (fun _ _ => rfl)) pe_int (nomark _))
        (pss_cons (ps_set (i := 2) scTake.nd rfl (.inl rfl) (pe_op op_mod (pe_dget hu (pv 0) pe_str (fun _ _ => rfl)) (pv 1)))
        (pss_cons (ps_dput hu (pv 0) pe_str (pe_op op_fdiv (pe_dget hu (pv 0) pe_str (fun _ _ => rfl)) (pv 1)) rfl)
        (pss_one (ps_ret (pv 2))))) pss_nil)
      (pss_cons (ps_par (i := 3) (j := 4) (by rfl) scTake.nd rfl rfl (by decide) rfl rfl (pa_cons (pe_dget hu (pv 0) pe_str (fun _ _ => rfl)) (pa_cons (pe_dget hu (pv 0) pe_str (fun _ _ => rfl)) pa_nil)) (by rfl))
      (pss_cons (ps_set (i := 5) scTake.nd rfl (.inl rfl) (pe_op op_add (pe_op op_add (pe_op op_add (pe_op op_mod (pe_ix ix_list (pv 4) (pe_op op_mod (pv 3) (pe_callB call_len_seq (by rfl) ml PySem.boot_len (pa_cons (pv 4) pa_nil))) (fun _ _ => rfl)) pe_int) (pe_op op_mul (pe_op op_mul pe_int (pv 3)) (pv 3))) (pe_op op_mul pe_int (pv 3))) pe_int))
      (pss_cons (ps_set (i := 5) scTake.nd rfl (.inl rfl) (pe_op op_mod (pe_op op_pow (pv 5) pe_int) pe_int))
      (pss_one (ps_ret (pe_op op_mod (pe_op op_fdiv (pe_op op_mod (pe_op op_mul (pv 5) pe_int) pe_int) pe_int) (pv 1)))))))), ?_⟩
    have cd : c ≠ d := fun z => by rw [z, hd] at hc; cases hc
    have ga : ∀ {G : Hp} {t l : Int}, G d = some (.dK (drawKv c t l)) → DGet G d (.str "at") (some (.int t)) := fun {G t l} h => by
      have z := DGet.k (k := .inr "at") h
      rw [val_at] at z
      exact z
    have gl : ∀ {G : Hp} {t l : Int}, G d = some (.dK (drawKv c t l)) → DGet G d (.str "left") (some (.int l)) := fun {G t l} h => by
      have z := DGet.k (k := .inr "left") h
      rw [val_left] at z
      exact z
    have gc : ∀ {G : Hp} {t l : Int}, G d = some (.dK (drawKv c t l)) → DGet G d (.str "cells") (some (.ref c)) := fun {G t l} h => by
      have z := DGet.k (k := .inr "cells") h
      rw [val_cells] at z
      exact z
    have sl : (3 : Nat) < sizeLine := by decide
    refine ⟨_, rfl, d, .int t, rfl, ga hd, t, 1, rfl, rfl, _, rfl, d, _, rfl, DPut.k (k := .inr "at") hd sl, ?_⟩
    rw [put_at]
    have h1 : upd H d (.dK (drawKv c (t + 1) l)) d = some (.dK (drawKv c (t + 1) l)) := upd_same
    have c1 : upd H d (.dK (drawKv c (t + 1) l)) c = some (.lst (ns.map V.int)) := by
      rw [upd_ne cd]
      exact hc
    have u1 : But d H (upd H d (.dK (drawKv c (t + 1) l))) := But.at hd
    show tSeq _ _ _ _ (upd H d (.dK (drawKv c (t + 1) l)))
    generalize upd H d (.dK (drawKv c (t + 1) l)) = H1 at h1 c1 u1
    refine ⟨_, rfl, d, .int l, rfl, gl h1, l, 0, rfl, rfl, _, rfl, ite2 (fun hl => ?_) (fun _ => ?_)⟩
    · refine ⟨_, rfl, d, .int l, rfl, gl h1, _, rfl, l, many, rfl, rfl, m0, ?_⟩
      refine ⟨_, rfl, d, .int l, rfl, gl h1, _, rfl, l, many, rfl, rfl, ⟨m0, by omega⟩, _, rfl, d, _, rfl, DPut.k (k := .inr "left") h1 sl, _, rfl, ?_⟩
      rw [put_left]
      exact q _ _ (Int.emod_nonneg _ (by omega)) (Int.emod_lt_of_pos _ m0) (u1.trans (But.at h1)) ⟨c, ns, _, upd_same, by rw [upd_ne cd]; exact c1, n0, n1⟩
    · refine ⟨_, rfl, d, .int (t + 1), rfl, ga h1, _, rfl, d, .ref c, rfl, gc h1, _, _, rfl, ?_⟩
      have i0 : 0 ≤ (t + 1) % (ns.length : Int) := Int.emod_nonneg _ (by omega)
      have i1 : (t + 1) % (ns.length : Int) < ns.length := Int.emod_lt_of_pos _ (by omega)
      obtain ⟨x, hx⟩ := at_int i0 i1
      have b1 : x % 2147483629 < 2147483629 := Int.emod_lt_of_pos _ (by decide)
      have b0 : 0 ≤ x % 2147483629 := Int.emod_nonneg _ (by decide)
      have kk : 7919 * (t + 1) * (t + 1) ≤ 7919 * 100000 * 100000 := Int.mul_le_mul (by omega) (by omega) (by omega) (by decide)
      have kk0 : 0 ≤ 7919 * (t + 1) * (t + 1) := Int.mul_nonneg (by omega) (by omega)
      refine ⟨_, rfl, _, rfl, _, rfl, c, _, rfl, .inl (SqL.of c1), t + 1, ((ns.map V.int).length : Int), rfl, rfl, by rw [List.length_map]; show (0 : Int) < _; omega, c, _, _, .int x, rfl, rfl, SqL.of c1, by rw [List.length_map]; exact hx, ?_⟩
      refine ⟨x, 2147483629, rfl, rfl, (by show (0 : Int) < 2147483629; decide), _, rfl, _, _, rfl, rfl, .inl ⟨by decide, by decide⟩, _, rfl, _, _, rfl, rfl, .inl ⟨by omega, by omega⟩, _, _, rfl, rfl, _, rfl, _, _, rfl, rfl, .inl ⟨by decide, by decide⟩, _, _, rfl, rfl, _, _, rfl, rfl, ?_⟩
      refine ⟨_, rfl, _, _, rfl, rfl, ⟨by decide, by decide, by omega⟩, _, _, rfl, rfl, (by show (0 : Int) < 2147483647; decide), ?_⟩
      generalize hz : (x % 2147483629 + 7919 * (t + 1) * (t + 1) + 104729 * (t + 1) + 5) ^ (Int.toNat 5) % 2147483647 = z
      refine ⟨_, rfl, _, _, rfl, rfl, .inr ⟨by decide, by decide⟩, _, _, rfl, rfl, (by show (0 : Int) < 2147483629; decide), _, _, rfl, rfl, ⟨by decide, by decide⟩, _, rfl, _, _, rfl, rfl, m0, ?_⟩
      exact q _ _ (Int.emod_nonneg _ (by omega)) (Int.emod_lt_of_pos _ m0) u1 ⟨c, ns, _, h1, c1, n0, n1⟩
end
end Pk
namespace Pk
open PySem L2
/-! ### things that are handed in -/
/-- signs that the texts have: from the blank to ~ but the percent sign, and line ends -/
def Sgn (z : Str) : Prop := ∀ c ∈ z.cps.toList, (32 ≤ c ∧ c ≤ 126 ∧ c ≠ 37) ∨ c = 10
theorem Sgn.ok {z : Str} (h : Sgn z) : SOk z := fun c hc => by
  rcases h c hc with q | q
  · omega
  · rw [q]
    decide
inductive Itm (H : Hp) : V → Prop
  | non : Itm H .non
  | bl (b : Bool) : Itm H (.bl b)
  | int (i : Int) (h : i.natAbs.log2 < 300) : Itm H (.int i)
  | str (z : Str) (hl : z.length ≤ 100) (ho : Sgn z) : Itm H (.str z)
  | lst {a : Addr} {v : V} (h : H a = some (.lst [v])) (hv : v = .int 1 ∨ ∃ z, v = .str z ∧ z.length ≤ 100 ∧ Sgn z) : Itm H (.ref a)
  | tup {a : Addr} (h : H a = some (.tup [.int 1])) : Itm H (.ref a)
  | dct {a : Addr} (h : H a = some (.dK [])) : Itm H (.ref a)
theorem Itm.same {H H' : Hp} {x : V} (h : Itm H x) (s : Same H H') : Itm H' x := by
  cases h with
  | non => exact .non
  | bl b => exact .bl b
  | int i h => exact .int i h
  | str z hl ho => exact .str z hl ho
  | lst h hv => exact .lst (s _ _ h) hv
  | tup h => exact .tup (s _ _ h)
  | dct h => exact .dct (s _ _ h)
def vInt : V → Bool
  | .int _ => true
  | _ => false
def vBool : V → Bool
  | .bl _ => true
  | _ => false
def vStr : V → Bool
  | .str _ => true
  | _ => false
theorem Itm.ty {K : PySem.W.Frag} {H : Hp} {x : V} (h : Itm H x) : ∃ t : String, TyX K H x (.type t) ∧ kitB t "int" = some (vInt x || vBool x) ∧ kitB t "bool" = some (vBool x) ∧ kitB t "str" = some (vStr x) := by
  cases h with
  | non => exact ⟨_, .base .non, by decide +kernel, by decide +kernel, by decide +kernel⟩
  | bl b => exact ⟨_, .base (.bl b), (by decide +kernel : kitB "bool" "int" = some true), (by decide +kernel : kitB "bool" "bool" = some true), (by decide +kernel : kitB "bool" "str" = some false)⟩
  | int i h => exact ⟨_, .base (.int i), (by decide +kernel : kitB "int" "int" = some true), (by decide +kernel : kitB "int" "bool" = some false), (by decide +kernel : kitB "int" "str" = some false)⟩
  | str z hl ho => exact ⟨_, .base (.str z), (by decide +kernel : kitB "str" "int" = some false), (by decide +kernel : kitB "str" "bool" = some false), (by decide +kernel : kitB "str" "str" = some true)⟩
  | lst h hv => exact ⟨_, .base (.lst h), (by decide +kernel : kitB "list" "int" = some false), (by decide +kernel : kitB "list" "bool" = some false), (by decide +kernel : kitB "list" "str" = some false)⟩
  | tup h => exact ⟨_, .base (.tup h), (by decide +kernel : kitB "tuple" "int" = some false), (by decide +kernel : kitB "tuple" "bool" = some false), (by decide +kernel : kitB "tuple" "str" = some false)⟩
  | dct h => exact ⟨_, .base (.dK h), (by decide +kernel : kitB "dict" "int" = some false), (by decide +kernel : kitB "dict" "bool" = some false), (by decide +kernel : kitB "dict" "str" = some false)⟩
/-- whether it is a whole number from lo to hi -/
def whole (x : V) (lo hi : Int) : Bool := match x with
  | .int i => decide (lo ≤ i) && decide (i ≤ hi)
  | _ => false
def letters : Str := "abcdefghijklmnopqrstuvwxyz"
def nameT (z : Str) : Bool := decide (1 ≤ z.length) && decide (z.length ≤ 8) && z.cps.toList.all fun c => decide (c ∈ letters.cps.toList)
def nameV : V → Bool
  | .str z => nameT z
  | _ => false
def signOk (c : Nat) : Bool := decide (32 ≤ c) && decide (c ≤ 126) && !decide (c = 37)
def textT (z : Str) : Bool := decide (1 ≤ z.length) && decide (z.length ≤ 30) && !decide (z.cps.toList[0]? = some 32) && !decide (z.cps.toList.getLast? = some 32) && z.cps.toList.all signOk
def textV : V → Bool
  | .str z => textT z
  | _ => false
end Pk
/-! ### how many texts of a tuple are unlike: len(set(texts)) -/
namespace Pk
open PySem PyProof.Rows
/-- which of the first i there are, and how many unlike ones -/
def seen (zs : List Str) (i : Nat) (k : Str) : Bool := (zs.take i).any (· == k)
def unlike (zs : List Str) : Nat → Nat
  | 0 => 0
  | i + 1 => if seen zs i (zs.getD i Str.empty) = true then unlike zs i else unlike zs i + 1
theorem unlike_le (zs : List Str) : ∀ i, unlike zs i ≤ i
  | 0 => Nat.le_refl _
  | i + 1 => by
    have := unlike_le zs i
    unfold unlike
    split <;> omega
theorem seen_next {zs : List Str} {i : Nat} (h : i < zs.length) (k : Str) : (seen zs i k || decide (k = zs.getD i Str.empty)) = seen zs (i + 1) k := by
  unfold seen
  have e1 : zs.getD i Str.empty = zs[i] := by rw [List.getD_eq_getElem?_getD, List.getElem?_eq_getElem h]; rfl
  rw [List.take_add_one, List.getElem?_eq_getElem h, List.any_append, e1]
  show _ = (_ || ((zs[i] == k) || false))
  rw [Bool.or_false]
  congr 1
  by_cases e : k = zs[i]
  · rw [decide_eq_true e, e]
    exact (beq_self_eq_true _).symm
  · rw [decide_eq_false e]
    exact (beq_eq_false_iff_ne.mpr (fun q => e q.symm)).symm
section
variable {prog : Program} {w : World} {A : Around} {R : Result → Shared → Prop} {it : Addr} {fp wr : List Addr} {G : Array GenState → Array GenState → Prop} {n : Nat} {Pv : Nat → Value → Prop} {St : Nat → Shared → Prop}
theorem fill_texts (W : WalksS prog w A.in1 it fp wr G n Pv St) (b : Addr) (hb : b ∉ fp) (zs : List Str) (hz : zs.length = n) (room : n + 1 < scanBound)
    (hv : ∀ i v, Pv i v → ∃ t, v = .str (zs.getD i Str.empty) t) :
    ∀ (m i : Nat) (s : Shared), n - i = m → i ≤ n → St i s → s.heap.SetOf (PySem.strKind prog w) b (seen zs i) (unlike zs i) →
      (∀ s', Moved (b :: wr) G s s' → s'.heap.SetOf (PySem.strKind prog w) b (seen zs n) (unlike zs n) → R (.ok (.ret .none)) s') →
      codeAny (model prog w) A (.builtin "set.update.loop" ⟨[.ref b, .ref it], []⟩) R s := by
  have nw : b ∉ wr := fun h => hb (W.sub _ h)
  have up : ∀ c ∈ wr, c ∈ b :: wr := fun c hc => List.mem_cons_of_mem _ hc
  have keepS : ∀ {s s' : Shared} {i : Nat}, Moved wr G s s' → s.heap.SetOf (PySem.strKind prog w) b (seen zs i) (unlike zs i) → s'.heap.SetOf (PySem.strKind prog w) b (seen zs i) (unlike zs i) := fun mv hS => by
    obtain ⟨o, es, ep, t, ho, rest⟩ := hS
    exact ⟨o, es, ep, t, mv.heap b _ nw ho, rest⟩
  intro m
  induction m with
  | zero =>
    intro i s e1 e2 e3 e4 e5
    have e6 : i = n := by omega
    subst e6
    refine codeAny_builtin F.entry_set_update_loop ?_
    rw [Around.under_plainId F.plain_set_update_loop _]
    show wpAny _ A.in1 (pyNext (.ref it) >>= _) _ _ s
    refine wpAny_bind (W.done s _ _ e3 fun s' mv => ?_)
    show wpAny _ A.in1 (ret Value.none) _ _ s'
    exact wpAny_pure (e5 s' (mv.mono up) (keepS mv e4))
  | succ m ih =>
    intro i s e1 e2 e3 e4 e5
    have lt : i < n := by omega
    have li := unlike_le zs i
    refine codeAny_builtin F.entry_set_update_loop ?_
    rw [Around.under_plainId F.plain_set_update_loop _]
    show wpAny _ A.in1 (pyNext (.ref it) >>= _) _ _ s
    refine wpAny_bind (W.item i s _ _ lt e3 fun v s' pv st' mv => ?_)
    obtain ⟨t, rfl⟩ := hv i v pv
    have e7 : s'.heap.SetOf (PySem.strKind prog w) b (seen zs i) (unlike zs i) := keepS mv e4
    show wpAny _ A.in1 (holding [Value.str (zs.getD i Str.empty) t] (setAdd b (.str (zs.getD i Str.empty) t)) >>= _) _ _ s'
    refine wpAny_bind (wpAny_holding ?_)
    unfold setAdd
    refine wpAny_holding (wpAny_bind ((PySem.strKind prog w).pyHash (k := zs.getD i Str.empty) (strKind_is _ _ _ _) ?_))
    refine wpAny_setAddHashed_of (knd := PySem.strKind prog w) (s := { s' with toks := s'.toks + 1 }) (strKind_is _ _ _ _) rfl e7 (by omega) fun h' hsb hS2 => ?_
    have hSi : h'.SetOf (PySem.strKind prog w) b (seen zs (i + 1)) (unlike zs (i + 1)) :=
      SetOf_congr hS2 (fun k => seen_next (by omega) k) rfl
    refine wpAny_pure ⟨plainId_quiet F.plain_set_update_loop _, ih (i + 1) _ (by omega) lt (W.frame _ s' _ _ st' (Nat.le_succ _) fun c hc o e => ?_) hSi fun s'' mv2 hS3 => ?_⟩
    · rw [hsb.2 c (fun h : c = b => hb (h ▸ hc))]
      exact e
    · refine e5 s'' (Moved.trans W.gtrans ((mv.mono up).then_heap (Nat.le_succ _) fun c o hc e => ?_) mv2) hS3
      rw [hsb.2 c (fun h : c = b => hc (by rw [h]; exact List.mem_cons_self))]
      exact e
end

section
variable {prog : Program} {w : World} {A : Around} {E : Value → Shared → Prop} {s : Shared}
abbrev bare (d : Bool) : Obj := { cls := .type "set", dict := none, data := .set #[] 0 (.fresh 0 0 d) }
/-- set(texts), of a tuple of texts -/
theorem set_of_texts {l : Addr} {its : Array Value} {zs : List Str} {Q : Value → Shared → Prop} (hh : A.handled = none) (hl : s.heap.IsTuple l its) (hi : StrsAre its.toList zs) (room : zs.length + 1 < scanBound)
    (h : ∀ (h' : Heap) (tk : Nat), h'.SetOf (PySem.strKind prog w) s.heap.objs.size (seen zs zs.length) (unlike zs zs.length) →
      (∀ c o, c < s.heap.objs.size → s.heap.get? c = some o → h'.get? c = some o) → Q (.ref s.heap.objs.size) { s with heap := h', toks := tk }) :
    wpAny (model prog w) A (call (.type "set") [.ref l]) Q E s := by
  have hsz : zs.length = its.size := by rw [← StrsAre.len_eq hi, Array.length_toList]
  obtain ⟨c0, tl0, m0⟩ := PySem.F.called_set.mro
  have m1 := PySem.F.called_set.made
  have m2 := PySem.F.called_set.sub
  refine wpAny_call (codeAny_of_tree ?_)
  show wpAny _ _ (callAny (.type "set") _) _ _ _
  refine wpAny_pure ⟨Code.quiet_builtin _ (by decide +kernel), codeAny_builtin PySem.F.entry_type_call ?_⟩
  rw [Around.under_plain (weight_type_call_type "set" [.ref l] []) rfl]
  have m3 := PySem.F.called_set.notType
  have m4 := PySem.F.called_set.canCreate
  have m5 := PySem.F.typeCall_set_1 (.ref l)
  repeat (any_goals (first | assumption | wp_step))
  refine codeAny_mono (code_set_new_1 (.ref l) (E := E) (Q₁ := fun x s₁ => ∃ d : Bool, x = .ref s.heap.objs.size ∧ s₁ = { s with heap := s.heap.push (bare d) }) fun d => ⟨d, rfl, rfl⟩) fun r s₁ hr => ?_
  cases r with
  | error e => exact hr
  | ok fl =>
    cases fl with
    | ret x =>
      obtain ⟨d, rfl, rfl⟩ := hr
      have n1 : (s.heap.push (bare d)).get? s.heap.objs.size = some (bare d) := Heap.get?_push_size _ rfl
      have n2 : Shared.TypeIs { s with heap := s.heap.push (bare d) } (.ref s.heap.objs.size) "set" := ⟨_, n1, rfl⟩
      have n3 := PySem.F.called_set.init.lookup
      have n4 := PySem.F.called_set.init.bind (.ref s.heap.objs.size)
      repeat (any_goals (first | assumption | wp_step))
      refine codeAny_mono (codeAny_call_builtin (R := wants (fun r s₂ => r = .none ∧ ∃ h' tk, s₂ = { s with heap := h', toks := tk } ∧
          h'.SetOf (PySem.strKind prog w) s.heap.objs.size (seen zs zs.length) (unlike zs zs.length) ∧
          (∀ c o, c < s.heap.objs.size → s.heap.get? c = some o → h'.get? c = some o)) E) PySem.F.called_set.init.plain PySem.F.entry_set_init (check_set_init_1 n2 ?_)) fun r₂ s₂ hr₂ => ?_
      · obtain ⟨⟨oc, od, odt, osl⟩, hol, hcl, nl, hdl⟩ := hl
        simp only at hcl hdl
        subst hcl; subst hdl
        have k1 : (s.heap.push (bare d)).get? l = some { cls := .type "tuple", dict := od, data := .seq its nl, slots := osl } := Heap.get?_push_of_some _ hol
        have k2 := PySem.F.sub_tuple_set
        have k3 := PySem.F.sub_tuple_frozenset
        have k4 : (Value.type "tuple" == Value.type "dict") = false := by decide
        have k5 : (s.heap.push (bare d)).IsTuple l its := ⟨_, k1, rfl, nl, rfl⟩
        have k6 : l < s.heap.objs.size := Heap.lt_size hol
        unfold Builtin.«set.__init__» noKeywords Builtin.Frozenset.updateFrom
        generalize hPI : pyIter = PI
        wp_walk
        subst hPI
        refine wpAny_pyIter_tuple k5 ?_
        refine wpAny_bind (wpAny_runValue ?_)
        have k7 : l ≠ (s.heap.push (bare d)).objs.size := by
          rw [Heap.size_push]
          exact Nat.ne_of_lt (Nat.lt_succ_of_lt k6)
        have k8 : s.heap.objs.size ∉ [(s.heap.push (bare d)).objs.size, l] := by
          rw [Heap.size_push]
          intro q
          rcases List.mem_cons.mp q with q | q
          · exact absurd q (Nat.ne_of_lt (Nat.lt_succ_self _))
          · exact absurd (List.mem_singleton.mp q) (Nat.ne_of_gt k6)
        refine fill_texts ((Walks.tuple (by simp [hh]) _ l k7 its).toS) s.heap.objs.size k8 zs hsz (by omega)
          (fun i v hv => SS.strs_at hi i v (by rw [Array.getElem?_toList]; exact hv)) (its.size - 0) 0 _ (by omega) (Nat.zero_le _)
          ⟨⟨_, Heap.get?_push_size _ rfl, rfl, rfl⟩, k5.push _⟩ ?pk_s0 ?pk_s1
        case pk_s0 =>
          exact SetOf_congr ((setObjOf_fresh (knd := PySem.strKind prog w) d).setOf (Heap.get?_push_of_some _ n1) (by unfold scanBound; omega)) (fun _ => rfl) rfl
        case pk_s1 =>
          rintro ⟨h', g', d', tk', os'⟩ mv hS'
          obtain rfl : g' = s.gens := mv.gens
          obtain rfl : d' = s.drawn := mv.drawn
          obtain rfl : os' = s.os := mv.os
          show wpAny _ _ _ _ _ _
          refine wpAny_pure ?_
          show wpAny _ _ (ret Value.none) _ _ _
          refine wpAny_pure ⟨rfl, h', tk', rfl, by rw [hsz]; exact hS', fun c o hc e => ?_⟩
          refine mv.heap c o (fun q => ?_) (Heap.get?_push_of_some _ (Heap.get?_push_of_some _ e))
          rw [Heap.size_push] at q
          rcases List.mem_cons.mp q with q | q
          · exact absurd q (Nat.ne_of_lt hc)
          · exact absurd (List.mem_singleton.mp q) (Nat.ne_of_lt (Nat.lt_succ_of_lt hc))
      · cases r₂ with
        | error e => exact hr₂
        | ok fl₂ =>
          cases fl₂ with
          | ret r =>
            obtain ⟨rfl, h', tk, rfl, hS', hk'⟩ := hr₂
            repeat (any_goals (first | assumption | wp_step))
            exact h _ _ hS' hk'
          | _ => exact hr₂.elim
    | _ => exact hr.elim
end
end Pk
namespace Pk
open PySem PySem.Spec L2
/-- len(set(texts)) -/
def tLenTexts (K : PySem.W.Frag) (ta : TE) : TE := fun σ H Q => ta σ H fun x H1 => ∃ (l : Addr) (zs : List Str), x = .ref l ∧ SqT K H1 l (zs.map V.str) ∧ zs.length ≤ 1000 ∧ Q (.int (unlike zs zs.length : Nat)) H1
theorem pe_lenTexts {X : Cx} {a : Expr} {ta : TE} {p p2 q pos : Pos} (hg : Gl X "len") (hm : X.mg "len" = none) (hg2 : Gl X "set") (hm2 : X.mg "set" = none) (ha : PE X a ta) (hc : X.calm = true := by rfl)
    (na : starEach [a] X.env = (false, eval a X.env) :: starEach [] X.env := by rfl) : PE X (.Call (.Name "len" p) [.Call (.Name "set" p2) [a] [] q] [] pos) (tLenTexts X.K ta) := by
  constructor
  intro pins s σ H Q I h
  refine PyProof.Rows.Call_ (ld_blt I hg hm boot_len (PyProof.Rows.callWith_builtin1 (PyProof.Rows.args_cons ?_ rfl) rfl rfl))
  refine PyProof.Rows.Call_ (ld_blt I hg2 hm2 PyProof.Rows.boot_set ?_)
  refine PyProof.Rows.callWith_type1 (PyProof.Rows.args_cons (thn (ha.run pins s σ H _ I h) ?_) na) na rfl
  rintro v s1 ⟨x, H1, I1, r1, l, zs, rfl, hq, hl, q1⟩
  cases r1
  obtain ⟨its, r, pl, hz⟩ := I1.tuple hq
  refine PyProof.Rows.args_nil (set_of_texts (I1.ok.hd hc) pl (by simpa using strsAre_of r) (by unfold scanBound; omega) fun h' tk hS hk => PyProof.Rows.args_nil ?_)
  obtain ⟨o, es, ep, t, ho, hex, hd, _, _, _, hf, hn⟩ := hS
  have hu := unlike_le zs zs.length
  refine call_len_set ho hex hd hf (by rw [hn]; omega) ⟨.int (unlike zs zs.length : Nat), H1, (I1.kept fun c o e => hk c o (Heap.lt_size e) e).tok _, ⟨_, by rw [hn]⟩, q1⟩
end Pk
namespace Pk
open PySem L2
/-! ### things of any of the plain kinds -/
inductive Thg (H : Hp) : V → Prop
  | non : Thg H .non
  | bl (b : Bool) : Thg H (.bl b)
  | int (i : Int) : Thg H (.int i)
  | str (z : Str) (hl : z.length ≤ 1000) (ho : Sgn z) : Thg H (.str z)
  | lst {a : Addr} {vs : List V} (h : H a = some (.lst vs)) : Thg H (.ref a)
  | tup {a : Addr} {vs : List V} (h : H a = some (.tup vs)) : Thg H (.ref a)
  | dct {a : Addr} {kvs : List (Key × V)} (h : H a = some (.dK kvs)) : Thg H (.ref a)
theorem Thg.same {H H' : Hp} {x : V} (h : Thg H x) (s : Same H H') : Thg H' x := by
  cases h with
  | non => exact .non
  | bl b => exact .bl b
  | int i => exact .int i
  | str z hl ho => exact .str z hl ho
  | lst h => exact .lst (s _ _ h)
  | tup h => exact .tup (s _ _ h)
  | dct h => exact .dct (s _ _ h)
/-- the things of a tuple -/
def tupO : Option HO → Option (List V)
  | some (.tup vs) => some vs
  | _ => none
def tupV (H : Hp) : V → Option (List V)
  | .ref a => tupO (H a)
  | _ => none
theorem tupV_ref (H : Hp) (a : Addr) : tupV H (.ref a) = tupO (H a) := rfl
theorem tupV_at {H : Hp} {a : Addr} {vs : List V} (h : H a = some (.tup vs)) : tupV H (.ref a) = some vs := by
  rw [tupV_ref, h]
  rfl
theorem tupV_of {H : Hp} {x : V} {vs : List V} (h : tupV H x = some vs) : ∃ a, x = .ref a ∧ H a = some (.tup vs) := by
  cases x with
  | ref a =>
    rw [tupV_ref] at h
    refine ⟨a, rfl, ?_⟩
    generalize H a = o at h
    cases o with
    | none => cases h
    | some o =>
      cases o with
      | tup ws =>
        cases h
        rfl
      | _ => cases h
  | _ => cases h
theorem Thg.tupS {H H' : Hp} {x : V} (h : Thg H x) (s : Same H H') : tupV H' x = tupV H x := by
  cases h with
  | non => rfl
  | bl b => rfl
  | int i => rfl
  | str z hl ho => rfl
  | lst h =>
    have e := s _ _ h
    rw [tupV_ref, tupV_ref, h, e]
  | tup h => rw [tupV_at h, tupV_at (s _ _ h)]
  | dct h =>
    have e := s _ _ h
    rw [tupV_ref, tupV_ref, h, e]
theorem Thg.ty {K : PySem.W.Frag} {H : Hp} {x : V} (h : Thg H x) : ∃ t : String, TyX K H x (.type t) ∧ kitB t "int" = some (vInt x || vBool x) ∧ kitB t "bool" = some (vBool x) ∧ kitB t "str" = some (vStr x) ∧ kitB t "tuple" = some (tupV H x).isSome := by
  cases h with
  | non => exact ⟨_, .base .non, by decide +kernel, by decide +kernel, by decide +kernel, (by decide +kernel : kitB "NoneType" "tuple" = some false)⟩
  | bl b => exact ⟨_, .base (.bl b), (by decide +kernel : kitB "bool" "int" = some true), (by decide +kernel : kitB "bool" "bool" = some true), (by decide +kernel : kitB "bool" "str" = some false), (by decide +kernel : kitB "bool" "tuple" = some false)⟩
  | int i => exact ⟨_, .base (.int i), (by decide +kernel : kitB "int" "int" = some true), (by decide +kernel : kitB "int" "bool" = some false), (by decide +kernel : kitB "int" "str" = some false), (by decide +kernel : kitB "int" "tuple" = some false)⟩
  | str z hl ho => exact ⟨_, .base (.str z), (by decide +kernel : kitB "str" "int" = some false), (by decide +kernel : kitB "str" "bool" = some false), (by decide +kernel : kitB "str" "str" = some true), (by decide +kernel : kitB "str" "tuple" = some false)⟩
  | lst h =>
    refine ⟨_, .base (.lst h), (by decide +kernel : kitB "list" "int" = some false), (by decide +kernel : kitB "list" "bool" = some false), (by decide +kernel : kitB "list" "str" = some false), ?_⟩
    rw [tupV_ref, h]
    exact (by decide +kernel : kitB "list" "tuple" = some false)
  | tup h =>
    refine ⟨_, .base (.tup h), (by decide +kernel : kitB "tuple" "int" = some false), (by decide +kernel : kitB "tuple" "bool" = some false), (by decide +kernel : kitB "tuple" "str" = some false), ?_⟩
    rw [tupV_at h]
    exact (by decide +kernel : kitB "tuple" "tuple" = some true)
  | dct h =>
    refine ⟨_, .base (.dK h), (by decide +kernel : kitB "dict" "int" = some false), (by decide +kernel : kitB "dict" "bool" = some false), (by decide +kernel : kitB "dict" "str" = some false), ?_⟩
    rw [tupV_ref, h]
    exact (by decide +kernel : kitB "dict" "tuple" = some false)
def nameE (x : V) : Bool := nameV x || decide (x = .str "")
def strV : V → Str
  | .str z => z
  | _ => ""
/-- whether these things are two to six unlike texts -/
def answersL (vs : List V) : Bool := decide (2 ≤ vs.length) && decide (vs.length ≤ 6) && vs.all textV && decide (unlike (vs.map strV) vs.length = vs.length)
def answersV (H : Hp) (x : V) : Bool := match tupV H x with
  | some vs => answersL vs
  | none => false
theorem strs_of : ∀ {vs : List V}, vs.all textV = true → vs = (vs.map strV).map V.str
  | [], _ => rfl
  | v :: vs, h => by
    rw [List.all_cons, Bool.and_eq_true] at h
    obtain ⟨h1, h2⟩ := h
    rw [List.map_cons, List.map_cons, ← strs_of h2]
    congr 1
    cases v with
    | str z => rfl
    | _ => cases h1
end Pk
namespace Pk
open PySem L2
/-! ### how things are shown -/
theorem from_le : ∀ (ts : List Str) (k : Nat) (acc : Str), (textFrom k acc ts).length ≤ acc.length + (ts.map fun t => t.length + 2).sum
  | [], k, acc => by
    show acc.length ≤ _
    omega
  | t :: r, k, acc => by
    have h := from_le r (k + 1) (acc ++ (if k > 0 then ", " else "" : String) ++ t)
    rw [app_len, app_len] at h
    have h2 : ((if k > 0 then ", " else "" : String) : Str).length ≤ 2 := by
      split <;> decide +kernel
    rw [List.map_cons, List.sum_cons]
    have h3 : textFrom k acc (t :: r) = textFrom (k + 1) (acc ++ (if k > 0 then ", " else "" : String) ++ t) r := rfl
    rw [h3]
    omega
theorem list_le (ts : List Str) : (listText ts).length ≤ 2 + (ts.map fun t => t.length + 2).sum := by
  unfold listText
  rw [app_len, show ("]" : Str).length = 1 by decide +kernel]
  have := from_le ts 0 "["
  rw [show ("[" : Str).length = 1 by decide +kernel] at this
  omega
/-- fit to be shown -/
structure Shows (K : PySem.W.Frag) (H : Hp) (x : V) (d : PyData) : Prop where
  dq : Dq K H x d
  sh : d.showable = true
  dp : d.depth ≤ 64
  sz : d.shown.length ≤ sizeLine
theorem repr_le {z : Str} (hl : z.length ≤ 100) (ho : Sgn z) : (reprText z).length ≤ 1002 := by
  have h := StrLaws.reprText_len z fun c hc => by
    have := ho.ok c hc
    omega
  omega
theorem bools_le : ∀ bs : List Bool, ((PyData.shownAll (bs.map .bool)).map fun t => t.length + 2).sum ≤ 7 * bs.length
  | [] => Nat.le_refl _
  | b :: r => by
    have ih := bools_le r
    show ((PyData.shown (.bool b)).length + 2) + ((PyData.shownAll (r.map .bool)).map fun t => t.length + 2).sum ≤ 7 * (r.length + 1)
    have : (PyData.shown (.bool b)).length ≤ 5 := by
      cases b <;> decide +kernel
    omega
theorem bools_show : ∀ bs : List Bool, PyData.showableAll (bs.map .bool) = true
  | [] => by simp [PyData.showableAll]
  | b :: r => by simp [PyData.showableAll, PyData.showable, bools_show r]
theorem bools_depth : ∀ bs : List Bool, PyData.depthAll (bs.map .bool) = 0
  | [] => by simp [PyData.depthAll]
  | b :: r => by simp [PyData.depthAll, PyData.depth, bools_depth r]
theorem bools_dict : ∀ bs : List Bool, PyData.hasDictAll (bs.map .bool) = false
  | [] => by simp [PyData.hasDictAll]
  | b :: r => by simp [PyData.hasDictAll, PyData.hasDict, bools_dict r]
theorem bools_dp {K : PySem.W.Frag} {H : Hp} : ∀ bs : List Bool, DpAll K H (bs.map V.bl) (bs.map .bool)
  | [] => .nil
  | b :: r => .cons (.bl b) (bools_dp r)
/-- a list of truths -/
theorem shows_bools {K : PySem.W.Frag} {H : Hp} {p : Addr} (bs : List Bool) (h : H p = some (.lst (bs.map V.bl))) (n : bs.length ≤ 100) : Shows K H (.ref p) (.list (bs.map .bool)) where
  dq := .of (.lst (SqL.of h) (bools_dp bs)) (by simp [PyData.hasDict, bools_dict])
  sh := by simp [PyData.showable, bools_show]
  dp := by simp [PyData.depth, bools_depth]
  sz := by
    have h1 := list_le (PyData.shownAll (bs.map .bool))
    have h2 := bools_le bs
    have e : (PyData.list (bs.map .bool)).shown = listText (PyData.shownAll (bs.map .bool)) := by simp [PyData.shown]
    rw [e, sizeLine_eq]
    omega
theorem Itm.shows {K : PySem.W.Frag} {H : Hp} {x : V} (h : Itm H x) : ∃ d, Shows K H x d := by
  cases h with
  | non => exact ⟨.none, .of .non rfl, rfl, by decide, by decide +kernel⟩
  | bl b => exact ⟨.bool b, .of (.bl b) (by simp [PyData.hasDict]), by simp [PyData.showable], by simp [PyData.depth], by cases b <;> decide +kernel⟩
  | int i h =>
    refine ⟨.int i, .of (.int i) (by simp [PyData.hasDict]), decide_eq_true (by omega), by simp [PyData.depth], ?_⟩
    have e : (PyData.int i).shown = Str.ofString (toString i) := by simp [PyData.shown]
    rw [e]
    exact int_text_fits (by omega)
  | str z hl ho =>
    refine ⟨.str z, .of (.str z) (by simp [PyData.hasDict]), by simp [PyData.showable], by simp [PyData.depth], ?_⟩
    have e : (PyData.str z).shown = reprText z := by simp [PyData.shown]
    have := repr_le hl ho
    rw [e, sizeLine_eq]
    omega
  | @lst a v h hv =>
    rcases hv with rfl | ⟨z, rfl, hl, ho⟩
    · refine ⟨.list [.int 1], .of (.lst (SqL.of h) (.cons (.int 1) .nil)) (by simp [PyData.hasDict, PyData.hasDictAll]), by decide +kernel, by decide +kernel, by decide +kernel⟩
    · refine ⟨.list [.str z], .of (.lst (SqL.of h) (.cons (.str z) .nil)) (by simp [PyData.hasDict, PyData.hasDictAll]), by simp [PyData.showable, PyData.showableAll], by simp [PyData.depth, PyData.depthAll], ?_⟩
      have e : (PyData.list [.str z]).shown = listText [reprText z] := by simp [PyData.shown, PyData.shownAll]
      have h1 := list_le [reprText z]
      have h2 := repr_le hl ho
      rw [e, sizeLine_eq]
      simp at h1
      omega
  | tup h => exact ⟨.tuple [.int 1], .of (.tup (SqT.of h) (.cons (.int 1) .nil)) (by simp [PyData.hasDict, PyData.hasDictAll]), by decide +kernel, by decide +kernel, by decide +kernel⟩
  | dct h => exact ⟨.dict [], .emp h, by decide +kernel, by decide +kernel, by decide +kernel⟩
theorem Dq.same {K : PySem.W.Frag} {H H' : Hp} {x : V} {d : PyData} (s : Same H H') (h : Itm H x) (g : Shows K H x d) : True := trivial
end Pk
namespace Pk
open PySem L2
theorem room_show {k : Nat} {A : Around} (hr : Room k A) : A.units + 70 < cLine := by
  have := hr.un
  omega
/-- a reading that asks for more -/
theorem pe_imp {X : Cx} {e : Expr} {t : TE} (t' : TE) (h : PE X e t) (k : ∀ σ H Q, t' σ H Q → t σ H Q) : PE X e t' := ⟨fun pins s σ H Q I w => h.run pins s σ H Q I (k σ H Q w)⟩
/-- signs as texts -/
def sgnD (l : List Nat) : PyData := .list (l.map fun c => .str ⟨#[c]⟩)
theorem sgn_lay : ∀ l : List Nat, (∀ c ∈ l, c < 0x110000) → PyData.canLayAll0 (l.map fun c => .str ⟨#[c]⟩) = true
  | [], _ => by simp [PyData.canLayAll0]
  | c :: r, h => by
    have h1 : PyData.strOk ⟨#[c]⟩ = true := (sok_iff _).mpr fun d hd => by
      rw [List.mem_singleton.mp hd]
      exact h c List.mem_cons_self
    have h2 := sgn_lay r fun d hd => h d (List.mem_cons_of_mem _ hd)
    simp [PyData.canLayAll0, PyData.canLay0, h1, h2]
theorem sgn_depth : ∀ l : List Nat, PyData.depthAll (l.map fun c => .str ⟨#[c]⟩) = 0
  | [] => by simp [PyData.depthAll]
  | c :: r => by simp [PyData.depthAll, PyData.depth, sgn_depth r]
theorem sgn_shaped (l : List Nat) (h : ∀ c ∈ l, c < 0x110000) : SeqAt.shaped (sgnD l) = true := by
  unfold sgnD
  simp [SeqAt.shaped, PyData.canLay0, PyData.depth, sgn_lay l h, sgn_depth]
theorem sgn_dp {K : PySem.W.Frag} {H : Hp} {p : Addr} {l : List Nat} (h : H p = some (.lst (l.map fun c => V.str ⟨#[c]⟩))) : Dp K H (.ref p) (sgnD l) := by
  refine .lst (SqL.of h) ?_
  clear h
  induction l with
  | nil => exact .nil
  | cons c r ih => exact .cons (.str _) ih
theorem sgn_nil (l : List Nat) : PyData.eqv (sgnD l) (sgnD []) = decide (l = []) := by
  cases l with
  | nil => simp [sgnD, PyData.eqv, PyData.eqvAll]
  | cons c r => simp [sgnD, PyData.eqv, PyData.eqvAll]
theorem name_filter (z : Str) : nameT z = (decide (0 < z.length) && (decide (z.length < 9) && decide (z.cps.toList.filter (fun c => !decide (c ∈ letters.cps.toList)) = []))) := by
  unfold nameT
  have e : (z.cps.toList.all fun c => decide (c ∈ letters.cps.toList)) = decide (z.cps.toList.filter (fun c => !decide (c ∈ letters.cps.toList)) = []) := by
    rw [Bool.eq_iff_iff, List.all_eq_true, decide_eq_true_iff, List.filter_eq_nil_iff]
    constructor
    · intro h c hc
      rw [h c hc]
      decide
    · intro h c hc
      have := h c hc
      simpa using this
  rw [e]
  have e1 : decide (1 ≤ z.length) = decide (0 < z.length) := decide_eq_decide.mpr (by omega)
  have e2 : decide (z.length ≤ 8) = decide (z.length < 9) := decide_eq_decide.mpr (by omega)
  rw [e1, e2, Bool.and_assoc]
theorem sign_ten {z : Str} (ho : Sgn z) : z.cps.toList.all signOk = !decide (10 ∈ z.cps.toList) := by
  rw [Bool.eq_iff_iff, List.all_eq_true]
  constructor
  · intro h
    have : ¬ (10 ∈ z.cps.toList) := fun hm => by
      have := h 10 hm
      revert this
      decide
    rw [decide_eq_false this]
    rfl
  · intro h c hc
    have hn : ¬ (10 ∈ z.cps.toList) := by
      intro hm
      rw [decide_eq_true hm] at h
      cases h
    rcases ho c hc with q | q
    · unfold signOk
      rw [decide_eq_true q.1, decide_eq_true q.2.1, decide_eq_false q.2.2]
      rfl
    · rw [q] at hc
      exact absurd hc hn
theorem text_law {z : Str} (ho : Sgn z) : textT z = ((decide (0 < z.length) && (decide (z.length < 31) && !decide (10 ∈ z.cps.toList))) && (!decide (z.cps.toList[0]? = some 32) && !decide (z.cps.toList.getLast? = some 32))) := by
  unfold textT
  rw [sign_ten ho]
  have e1 : decide (1 ≤ z.length) = decide (0 < z.length) := decide_eq_decide.mpr (by omega)
  have e2 : decide (z.length ≤ 30) = decide (z.length < 31) := decide_eq_decide.mpr (by omega)
  rw [e1, e2]
  cases decide (0 < z.length) <;> cases decide (z.length < 31) <;> cases decide (10 ∈ z.cps.toList) <;> cases decide (z.cps.toList[0]? = some 32) <;> cases decide (z.cps.toList.getLast? = some 32) <;> rfl

theorem one_blank (c : Nat) : decide (V.str ⟨#[c]⟩ = V.str " ") = decide (c = 32) := decide_eq_decide.mpr ⟨fun z => by
  have e := congrArg TL.tl (V.str.inj z)
  rw [blank_tl] at e
  exact (List.cons.inj e).1, fun z => by rw [z]; exact congrArg V.str (by decide +kernel)⟩
theorem last_at {l : List Nat} (h : l ≠ []) : atI l (-1) = some (l.getLast h) :=
  (congrArg (fun x => atI x (-1)) (List.dropLast_concat_getLast h).symm).trans (atI_last _ _)
end Pk
namespace Pk
open PySem L2
theorem iteF' {p : Prop} [Decidable p] {a b : Prop} (h : ¬ p) (k : b) : if p then a else b := by
  rw [if_neg h]
  exact k
theorem iteT' {p : Prop} [Decidable p] {a b : Prop} (h : p) (k : a) : if p then a else b := by
  rw [if_pos h]
  exact k
theorem upd_upd {H : Hp} {a : Addr} {o o' : HO} : upd (upd H a o) a o' = upd H a o' := by
  funext b
  unfold upd
  by_cases h : b = a
  · rw [if_pos h, if_pos h]
  · rw [if_neg h, if_neg h, if_neg h]
theorem wipe1 {σ : St} {j : Nat} : wipe σ [j] = σ.set j none := by
  first | rfl | simp [wipe]
theorem wipe_set {σ : St} {j : Nat} {v : Option V} : wipe ((wipe σ [j]).set j v) [j] = wipe σ [j] := by
  rw [wipe1, wipe1, List.set_set, List.set_set]
theorem set_at {σ : St} {j : Nat} {v : Option V} (h : j < σ.length) : ((wipe σ [j]).set j v)[j]? = some v := by
  rw [wipe1, List.set_set]
  exact List.getElem?_set_self h
theorem ps_imp {X : Cx} {st : Stmt} {t : TS} (t' : TS) (h : PS X st t) (k : ∀ D σ H, t' D σ H → t D σ H) : PS X st t' := ⟨fun pins s σ H D I w => h.run pins s σ H D I (k D σ H w)⟩
theorem pss_imp {X : Cx} {st : List Stmt} {t : TS} (t' : TS) (h : PSs X st t) (k : ∀ D σ H, t' D σ H → t D σ H) : PSs X st t' := ⟨fun pins s σ H D I w => h.run pins s σ H D I (k D σ H w)⟩
theorem pt_imp {X : Cx} {e : Expr} {t : TT} (t' : TT) (h : PT X e t) (k : ∀ σ H Q, t' σ H Q → t σ H Q) : PT X e t' := ⟨fun pins s σ H Q I w => h.run pins s σ H Q I (k σ H Q w)⟩
/-- len of any list or tuple that is read, its question by name -/
def rLenQ (K : PySem.W.Frag) : List V → Hp → VK → Prop := fun xs H Q => ∃ p ys, xs = [.ref p] ∧ (SqL K H p ys ∨ SqT K H p ys) ∧ Q (.int ys.length) H
theorem call_lenQ {X : Cx} : CallR X (.builtin "len") (rLenQ X.K) := call_len_seq
/-- two objects of unlike kinds stand apart -/
theorem apart {H : Hp} {p q : Addr} {o u : HO} (h1 : H p = some o) (h2 : H q = some u) (n : o ≠ u) : p ≠ q := fun e => by
  rw [e, h2] at h1
  exact n (Option.some.inj h1).symm
theorem getD_map {α β : Type} {f : α → β} {l : List α} {i : Nat} {y : β} (h : (l.map f)[i]? = some y) : ∃ x, l[i]? = some x ∧ y = f x := by
  rw [List.getElem?_map] at h
  cases e : l[i]? with
  | none => rw [e] at h; cases h
  | some x => rw [e] at h; exact ⟨x, rfl, (Option.some.inj h).symm⟩
end Pk
namespace Pk
open PySem L2
theorem cut_lo {L : List V} {i : Int} (i0 : 0 ≤ i) : cutV L none (some i) = L.take i.toNat := by
  obtain ⟨k, rfl⟩ := Int.eq_ofNat_of_zero_le i0
  unfold cutV
  rw [show HT.sIx L.length L.length (some (k : Int)) = min k L.length from HT.sIx_nat _ _ _]
  show (L.drop 0).take (min k L.length - 0) = _
  rw [List.drop_zero, Nat.sub_zero, Int.toNat_natCast, List.take_eq_take_iff]
  omega
theorem cut_hi {L : List V} {i : Int} (i0 : 0 ≤ i) : cutV L (some i) none = L.drop i.toNat := by
  obtain ⟨k, rfl⟩ := Int.eq_ofNat_of_zero_le i0
  unfold cutV
  rw [show HT.sIx L.length 0 (some (k : Int)) = min k L.length from HT.sIx_nat _ _ _]
  show (L.drop (min k L.length)).take (L.length - min k L.length) = _
  rw [List.take_of_length_le (by rw [List.length_drop]; omega), Int.toNat_natCast]
  by_cases h : k ≤ L.length
  · rw [Nat.min_eq_left h]
  · rw [Nat.min_eq_right (by omega), List.drop_of_length_le (Nat.le_refl _), List.drop_of_length_le (by omega)]
end Pk
namespace Pk
open PySem L2
/-! ### list + list, whatever they are read from -/
def rCatS (K : PySem.W.Frag) : R2 := fun x y H Q => ∃ l b xs zs, x = .ref l ∧ y = .ref b ∧ SqL K H l xs ∧ SqL K H b zs ∧ xs.length + zs.length ≤ sizeLine ∧ ∀ p, H p = none → Q (.ref p) (upd H p (.lst (xs ++ zs)))
theorem op_catS {X : Cx} : OpR X (binaryOp .Add) (rCatS X.K) := by
  rintro pins s σ H x y v u Q I rx ry ⟨l, b, xs, zs, ex, ey, hl, hb, hz, q⟩
  subst ex ey
  cases rx
  cases ry
  obtain ⟨its, r, ⟨⟨c1, d1, dt1, sl1⟩, n1, e1, ec1, ed1, et1⟩, _⟩ := I.list hl
  obtain ⟨its2, r2, ⟨⟨c2, d2, dt2, sl2⟩, n2, e2, ec2, ed2, et2⟩, _⟩ := I.list hb
  dsimp only at ec1 ed1 et1 ec2 ed2 et2
  subst ec1 ed1 et1 ec2 ed2 et2
  have k1 := r.length
  have k2 := r2.length
  refine concat_meets ⟨_, e1, rfl⟩ ⟨_, e2, rfl⟩ noFill_list_add seq_list_add PySem.F.slot_list_add PySem.F.entry_list_add (PySem.F.args_list_add_2 _ _)
    (PyProof.Rows.list_addW l b its.toArray its2.toArray n1 n2 none none sl1 sl2 (by rw [List.size_toArray, List.size_toArray]; omega)) ⟨e1, e2, ?_⟩
  rw [show its.toArray ++ its2.toArray = (its ++ its2).toArray by simp]
  exact ⟨.ref _, _, I.lnew (t' := s.toks) (r.append r2) (by rw [List.length_append]; omega), rfl, q _ I.fresh⟩
theorem cut_int {ns : List Int} {lo hi : Option Int} {x : V} (h : x ∈ cutV (ns.map V.int ++ [V.int 0]) lo hi) : ∃ i : Int, x = V.int i := by
  unfold cutV at h
  have h2 := List.mem_of_mem_drop (List.mem_of_mem_take h)
  rcases List.mem_append.mp h2 with h | h
  · obtain ⟨i, _, rfl⟩ := List.mem_map.mp h
    exact ⟨i, rfl⟩
  · exact ⟨0, List.mem_singleton.mp h⟩
end Pk
namespace Pk
open PySem L2
/-! ### the draws of a script -/
theorem ints_dpA {K : PySem.W.Frag} {H : Hp} : ∀ ns : List Int, DpAll K H (ns.map V.int) (ns.map .int)
  | [] => .nil
  | n :: r => .cons (.int n) (ints_dpA r)
theorem ints_layA : ∀ ns : List Int, PyData.canLayAll0 (ns.map .int) = true
  | [] => by simp [PyData.canLayAll0]
  | n :: r => by simp [PyData.canLayAll0, PyData.canLay0, ints_layA r]
theorem ints_depthA : ∀ ns : List Int, PyData.depthAll (ns.map .int) = 0
  | [] => by simp [PyData.depthAll]
  | n :: r => by simp [PyData.depthAll, PyData.depth, ints_depthA r]
theorem ints_shaped (ns : List Int) : SeqAt.shaped (.list (ns.map .int)) = true := by
  simp [SeqAt.shaped, PyData.canLay0, PyData.depth, ints_layA, ints_depthA]
theorem ints_nil (ns : List Int) : PyData.eqv (.list (ns.map .int)) (.list []) = decide (ns = []) := by
  cases ns with
  | nil => simp [PyData.eqv, PyData.eqvAll]
  | cons n r => simp [PyData.eqv, PyData.eqvAll]
theorem merge_draw (c : Addr) (t l : Int) : mergeK [] (drawKv c t l) = drawKv c t l := by kernel_rfl
/-- a list of draws, all of them apart, those from the j-th on untouched -/
structure Draws (H : Hp) (l : Addr) (ds : List Addr) (j : Nat) : Prop where
  at_ : H l = some (.lst (ds.map V.ref))
  nd : ds.Nodup
  all : ∀ (i : Nat) (d : Addr), j ≤ i → ds[i]? = some d → DrawAt H d (97 * i)
  len : ds.length ≤ 8
theorem Draws.same {H H' : Hp} {l : Addr} {ds : List Addr} {j : Nat} (h : Draws H l ds j) (s : Same H H') : Draws H' l ds j := ⟨s _ _ h.at_, h.nd, fun i d hi e => (h.all i d hi e).same s, h.len⟩
def spDraws (K : PySem.W.Frag) : Sp := fun vs H Q _ => ∃ (a : Addr) (ns : List Int), vs = [.ref a] ∧ SqL K H a (ns.map V.int) ∧ ns.length ≤ 63 ∧ ∀ (l : Addr) (ds : List Addr) (H' : Hp), Same H H' → Draws H' l ds 0 → Q (.ref l) H'
def tCells (K : PySem.W.Frag) : TE := fun σ H Q => ∃ (a : Addr) (ns : List Int), σ[0]? = some (some (.ref a)) ∧ SqL K H a (ns.map V.int) ∧ ns.length ≤ 63 ∧ ∀ (c : Addr) (ms : List Int) (H' : Hp), Same H H' → H' c = some (.lst (ms.map V.int)) → 0 < ms.length → ms.length ≤ 63 → Q (.ref c) H'
section
variable {P : Program} {w : World} {K : PySem.W.Frag} {mg : Str → Option Value} {base : Heap}
abbrev NDraws : List Str := ["_law_script", "_law_cells", "_law_found", "_law_k", "_law_cell"]
theorem scDraws : FnScope NDraws ["_law_script"] (defScope sDraws) := ⟨rfl, rfl, rfl, by decide +kernel, rfl, by decide +kernel, by decide +kernel⟩
theorem ok_draws {f : Addr} {fd : FuncData} (F : Fun K "_law_draws" "_law_draws" sDraws f fd) (mli : mg "list" = none) (me : mg "enumerate" = none) : FnOk P w K mg base CX0 1 f fd ["_law_script"] (spDraws K) := by
  refine F.ok scDraws (fun vs H Q E h => ?_) (fun cdv A outer s H vs Q E hr h => ?_)
  · obtain ⟨a, ns, rfl, _⟩ := h
    rfl
  · obtain ⟨a, ns, rfl, hS, hlen, q⟩ := h
    have hu64 : _ + 64 < cLine := Nat.lt_of_le_of_lt (Nat.add_le_add_left (by decide) _) (room_show hr)
    refine ⟨_, pss_cons (ps_set (i := 1) scDraws.nd rfl (.inl rfl) (pe_imp (tCells K) (pe_ifExp (pt_cmpR (op_neD hu64) (pv 0) (pe_lst pa_nil) (nomark _)) (pe_callTy call_list_of (by rfl) mli PyProof.Rows.boot_list (pa_cons (pv 0) pa_nil)) (pe_lst (pa_cons pe_int pa_nil))) (by
          rintro σ H Q ⟨a, ns, e0, hS, hlen, fin⟩
          refine ⟨_, e0, by show 0 ≤ sizeLine; decide, fun l nl => ?_⟩
          have s1 := same_upd (o := .lst []) nl
          refine ⟨.list (ns.map .int), .list [], .lst (s1.seq hS) (ints_dpA ns), .lst (SqL.of upd_same) .nil, ints_shaped ns, ints_shaped [], _, rfl, ?_⟩
          rw [ints_nil]
          have hS1 := s1.seq hS
          generalize upd H l (.lst []) = H1 at s1 hS1 ⊢
          by_cases hn : ns = []
          · refine iteF' (by simp [hn]) ⟨by show 1 ≤ sizeLine; decide, fun c nc => ?_⟩
            exact fin c [0] _ (s1.trans (same_upd nc)) upd_same (by decide) (by decide)
          · refine iteT' (by simp [hn]) ⟨_, e0, a, _, rfl, .inl hS1, fun c nc => ?_⟩
            exact fin c ns _ (s1.trans (same_upd nc)) upd_same (by cases ns with | nil => exact absurd rfl hn | cons _ _ => exact Nat.succ_pos _) hlen)))
      (pss_cons (ps_set (i := 2) scDraws.nd rfl (.inl rfl) (pe_lst pa_nil))
      (pss_cons (ps_for PassesOwn.never rfl (pi_enum (by rfl) me (pa_cons (pe_slice sl_list (pv 1) po_none (po_some pe_int)) pa_nil)) (pg_tup rfl (pgs_cons (pg_name (i := 3) scDraws.nd rfl (.inl rfl)) (pgs_cons (pg_name (i := 4) scDraws.nd rfl (.inl rfl)) pgs_nil)))
        (pss_one (ps_expr (pe_bm PySem.F.plainAttrs_list PySem.F.slot_list_append PySem.F.type_list_append mt_append (pv 2) (pa_cons (pe_disp (pps_cons pe_str (pe_op op_catS (pe_slice sl_list (pv 1) (po_some (pv 3)) po_none) (pe_slice sl_list (pv 1) po_none (po_some (pv 3)))) (pps_cons pe_str (pe_op op_mul pe_int (pv 3)) (pps_cons pe_str (pe_ifExp (pt_cmpR op_ge (pv 4) (pe_op op_pow pe_int pe_int) (nomark _)) (pv 4) pe_int) pps_nil))) rfl rfl (by decide) (by decide)) pa_nil)))))
      (pss_one (ps_ret (pv 2))))), ?_⟩
    refine ⟨a, ns, rfl, hS, hlen, fun c ms H1 s1 hc m0 m1 => ?_⟩
    refine ⟨by show 0 ≤ sizeLine; decide, fun l nl => ?_⟩
    have s2 := same_upd (o := .lst []) nl
    have hc2 := s2 _ _ hc
    have hl2 : upd H1 l (.lst []) l = some (.lst []) := upd_same
    have cl : c ≠ l := ne_of_none hc nl
    show tSeq _ _ _ _ (upd H1 l (.lst []))
    generalize upd H1 l (.lst []) = H2 at s2 hc2 hl2 ⊢
    refine ⟨_, rfl, 8, rfl, c, _, rfl, SqL.of hc2, fun n hn => ?_⟩
    rw [cut_lo (by decide), ← List.map_take]
    refine ⟨n, _, rfl, SqL.of upd_same, ?_⟩
    have s3 := same_upd (o := .lst ((ms.take (8 : Int).toNat).map V.int)) hn
    have l8 : (ms.take (8 : Int).toNat).length ≤ 8 := by
      rw [List.length_take]
      exact Nat.min_le_left _ _
    have lm : (ms.take (8 : Int).toNat).length ≤ ms.length := by
      rw [List.length_take]
      exact Nat.min_le_right _ _
    have nl' : n ≠ l := fun z => by rw [z, hl2] at hn; cases hn
    have s02 : Same H H2 := s1.trans s2
    have h3 : upd H2 n (.lst ((ms.take (8 : Int).toNat).map V.int)) n = some (.lst ((ms.take (8 : Int).toNat).map V.int)) := upd_same
    have hc3 := s3 _ _ hc2
    have hl3 := s3 _ _ hl2
    generalize upd H2 n (.lst ((ms.take (8 : Int).toNat).map V.int)) = H3 at s3 h3 hc3 hl3 ⊢
    generalize hms : ms.take (8 : Int).toNat = es at h3 l8 lm ⊢
    have nL : ∀ {b : Addr} {o : HO}, H b = some o → b ≠ l := fun {b o} e => ne_of_none (s1 _ _ e) nl
    have len_e : (es.map V.int).length = es.length := List.length_map _
    refine for_it (walk_enum (K := K) (a := n) (xs := es.map V.int)) (fun i σ G => ∃ v3 v4 ds, σ = [some (.ref a), some (.ref c), some (.ref l), v3, v4] ∧ (∀ b o, b ≠ l → H3 b = some o → G b = some o) ∧ Draws G l ds 0 ∧ ds.length = i) ⟨_, _, [], rfl, fun _ _ _ e => e, ⟨hl3, List.nodup_nil, fun i d _ e => by simp at e, by decide⟩, rfl⟩ (fun i σ G _ ⟨_, _, _, _, kp, _⟩ => SqL.of (kp _ _ nl' h3)) ?_ ?_
    · rintro i x σ G G' hi ⟨v3, v4, ds, rfl, kp, D, li⟩ ⟨T0, x1, x2, rfl, nT, rfl, f1, f2⟩
      dsimp only at f1 f2
      obtain rfl := Option.some.inj f1
      rw [List.getElem?_map] at f2
      obtain ⟨cell, rfl⟩ : ∃ y : Int, x2 = V.int y := by
        cases e : es[i]? with
        | none => rw [e] at f2; cases f2
        | some y => rw [e] at f2; exact ⟨y, (Option.some.inj f2).symm⟩
      have sT := same_upd (o := .tup [.int (i : Nat), .int cell]) nT
      refine ⟨T0, _, rfl, SqT.of upd_same, rfl, _, _, rfl, _, _, rfl, rfl, ?_⟩
      have DT := D.same sT
      have cT := sT _ _ (kp _ _ cl hc3)
      have kT : ∀ b o, b ≠ l → H3 b = some o → upd G T0 (.tup [.int (i : Nat), .int cell]) b = some o := fun b o nb e => sT _ _ (kp b o nb e)
      generalize upd G T0 (.tup [.int (i : Nat), .int cell]) = G1 at sT DT cT kT ⊢
      have i8 : i < 8 := by omega
      have im : i ≤ ms.length := by omega
      refine ⟨_, rfl, .inl ⟨rfl, _, SqL.of DT.at_⟩, fun d hd => ?_⟩
      have s5 := same_upd (o := .dK []) hd
      have dd : upd G1 d (.dK []) d = some (.dK []) := upd_same
      have D5 := DT.same s5
      have c5 := s5 _ _ cT
      have dl : d ≠ l := fun z => by rw [z, DT.at_] at hd; cases hd
      have dds : d ∉ ds := fun z => by
        obtain ⟨j, hj, ej⟩ := List.getElem_of_mem z
        obtain ⟨kvs, e⟩ := (DT.all j d (Nat.zero_le _) (by rw [List.getElem?_eq_getElem hj, ej])).isD
        rw [e] at hd
        cases hd
      have k5 : ∀ b o, b ≠ l → H3 b = some o → upd G1 d (.dK []) b = some o := fun b o nb e => s5 _ _ (kT b o nb e)
      have ds5 : ∀ {b o}, H3 b = some o → b ≠ l → b ≠ d := fun {b o} e nb => ne_of_none (kT b o nb e) hd
      generalize upd G1 d (.dK []) = G2 at s5 dd D5 c5 k5 ⊢
      refine ⟨_, rfl, _, rfl, (i : Int), rfl, c, _, rfl, SqL.of c5, fun p1 n1 => ⟨_, rfl, _, rfl, (i : Int), rfl, c, _, rfl, SqL.of (same_upd n1 _ _ c5), fun p2 n2 => ?_⟩⟩
      rw [cut_hi (by omega), cut_lo (by omega), Int.toNat_natCast, ← List.map_drop, ← List.map_take] at *
      have s6 := same_upd (o := .lst ((ms.drop i).map V.int)) n1
      have e1 : upd (upd G2 p1 (.lst ((ms.drop i).map V.int))) p2 (.lst ((ms.take i).map V.int)) p1 = some (.lst ((ms.drop i).map V.int)) := same_upd n2 _ _ upd_same
      have s7 := s6.trans (same_upd (o := .lst ((ms.take i).map V.int)) n2)
      refine ⟨p1, p2, _, _, rfl, rfl, SqL.of e1, SqL.of upd_same, by simp only [List.length_map, List.length_drop, List.length_take, sizeLine_eq]; omega, fun p3 n3 => ?_⟩
      rw [← List.map_append] at *
      have s8 := s7.trans (same_upd (o := .lst ((ms.drop i ++ ms.take i).map V.int)) n3)
      have e3 : upd (upd (upd G2 p1 (.lst ((ms.drop i).map V.int))) p2 (.lst ((ms.take i).map V.int))) p3 (.lst ((ms.drop i ++ ms.take i).map V.int)) p3 = some (.lst ((ms.drop i ++ ms.take i).map V.int)) := upd_same
      generalize upd (upd (upd G2 p1 (.lst ((ms.drop i).map V.int))) p2 (.lst ((ms.take i).map V.int))) p3 (.lst ((ms.drop i ++ ms.take i).map V.int)) = G3 at s8 e3 ⊢
      have lr : (ms.drop i ++ ms.take i).length = ms.length := by
        simp only [List.length_append, List.length_drop, List.length_take]
        omega
      refine ⟨_, rfl, _, _, rfl, rfl, .inl ⟨by decide, by decide⟩, _, rfl, _, _, rfl, rfl, ⟨by decide, by decide, by decide⟩, _, _, rfl, rfl, _, rfl, ?_⟩
      have hl3' : G3 l = some (.lst (ds.map V.ref)) := s8 _ _ D5.at_
      have inv : ∀ left : Int, upd G3 d (.dK (mergeK [] (drawKv p3 (97 * (i : Int)) left))) l = some (.lst (ds.map V.ref)) ∧ (∀ b o, b ≠ l → H3 b = some o → upd (upd G3 d (.dK (mergeK [] (drawKv p3 (97 * (i : Int)) left)))) l (.lst (ds.map V.ref ++ [.ref d])) b = some o) ∧ Draws (upd (upd G3 d (.dK (mergeK [] (drawKv p3 (97 * (i : Int)) left)))) l (.lst (ds.map V.ref ++ [.ref d]))) l (ds ++ [d]) 0 := by
        intro left
        rw [merge_draw]
        have p3l : p3 ≠ l := apart e3 hl3' (fun z => by
          have z' := congrArg List.length (HO.lst.inj z)
          rw [List.length_map, List.length_map, lr, li] at z'
          have e := HO.lst.inj z
          cases hds : ds with
          | nil => rw [hds] at li; have li' : 0 = i := li; omega
          | cons y r =>
            rw [hds] at e
            cases hmm : (ms.drop i ++ ms.take i) with
            | nil => rw [hmm] at e; cases e
            | cons u v => rw [hmm] at e; cases e)
        have p3d : p3 ≠ d := apart e3 (s8 _ _ dd) (fun z => by cases z)
        refine ⟨by rw [upd_ne dl.symm]; exact hl3', fun b o nb e => ?_, by rw [upd_same, List.map_append]; rfl, ?_, fun j y _ e => ?_, by rw [List.length_append, li]; show i + 1 ≤ 8; omega⟩
        · rw [upd_ne nb, upd_ne (ds5 e nb)]
          exact s8 _ _ (k5 b o nb e)
        · rw [List.nodup_append]
          exact ⟨D.nd, List.pairwise_singleton _ _, fun x hx y hy z => dds (by rw [← List.mem_singleton.mp hy, ← z]; exact hx)⟩
        · by_cases hj : j < ds.length
          · rw [List.getElem?_append_left hj] at e
            obtain ⟨c9, ns9, l9, g1, g2, g3⟩ := (D5.all j y (Nat.zero_le _) e).same s8
            have yd : y ≠ d := fun z => dds (by rw [← z]; exact List.mem_of_getElem? e)
            refine ⟨c9, ns9, l9, ?_, ?_, g3⟩
            · rw [upd_ne (apart g1 hl3' (fun z => by cases z)), upd_ne yd]
              exact g1
            · have c9l : c9 ≠ l := fun z => by
                rw [z, hl3'] at g2
                have e9 := HO.lst.inj (Option.some.inj g2)
                cases hds : ds with
                | nil => rw [hds] at hj; exact absurd hj (Nat.not_lt_zero _)
                | cons y r =>
                  rw [hds] at e9
                  cases hmm : ns9 with
                  | nil => rw [hmm] at e9; cases e9
                  | cons u v => rw [hmm] at e9; cases e9
              rw [upd_ne c9l, upd_ne (apart g2 (s8 _ _ dd) (fun z => by cases z))]
              exact g2
          · have ej : j = ds.length := by
              have := (List.getElem?_eq_some_iff.mp e).1
              rw [List.length_append] at this
              have h1 : ([d] : List Addr).length = 1 := rfl
              omega
            subst ej
            rw [List.getElem?_append_right (Nat.le_refl _), Nat.sub_self] at e
            cases e
            refine ⟨p3, ms.drop i ++ ms.take i, left, ?_, ?_, by rw [lr]; omega, by rw [lr]; omega⟩
            · rw [upd_ne dl, upd_same, li]
            · rw [upd_ne p3l, upd_ne p3d]
              exact e3
      have szl : (ds.map V.ref).length < sizeLine := by
        rw [List.length_map, li, sizeLine_eq]
        omega
      refine ite2 (fun _ => ?_) (fun _ => ?_)
      · obtain ⟨i1, i2, i3⟩ := inv cell
        exact ⟨_, rfl, s8 _ _ dd, drawKv p3 (97 * (i : Int)) cell, rfl, by show 3 ≤ 15; decide, l, _, _, rfl, rfl, i1, szl, _, _, ds ++ [d], rfl, i2, i3, by rw [List.length_append, li]; rfl⟩
      · obtain ⟨i1, i2, i3⟩ := inv 0
        exact ⟨s8 _ _ dd, drawKv p3 (97 * (i : Int)) 0, rfl, by show 3 ≤ 15; decide, l, _, _, rfl, rfl, i1, szl, _, _, ds ++ [d], rfl, i2, i3, by rw [List.length_append, li]; rfl⟩
    · rintro σ G ⟨v3, v4, ds, rfl, kp, D, li⟩
      exact ⟨_, rfl, q l ds G (fun b o e => kp b o (nL e) (s3 _ _ (s02 _ _ e))) D⟩
end
end Pk
namespace Pk
open PySem L2
/-! ### a text without blanks at its ends -/
theorem strip_is (x : Str) : ∃ lo hi, lo ≤ hi ∧ hi ≤ x.length ∧ (Txt.stripChars x " ").cps.toList = (x.cps.toList.drop lo).take (hi - lo) ∧ (lo = hi ∨ (x.cps.getD lo 0 ≠ 32 ∧ x.cps.getD (hi - 1) 0 ≠ 32)) := by
  have e : Txt.stripChars x " " = Txt.stripBy (" " : Str).cps.contains true true x := rfl
  obtain ⟨a1, a2, a3⟩ := PyProof.Rows.lo_facts (" " : Str).cps.contains x
  obtain ⟨b1, b2, b3, b4⟩ := PyProof.Rows.hi_facts (" " : Str).cps.contains x _ a1
  have no : ∀ c : Nat, (" " : Str).cps.contains c = false → c ≠ 32 := fun c h z => by
    rw [z] at h
    revert h
    decide +kernel
  rw [PyProof.Rows.stripBy_eq] at e
  refine ⟨_, _, b1, b2, ?_, ?_⟩
  · rw [e]
    show (x.cps.extract _ _).toList = _
    rw [Array.toList_extract]
  · rcases b4 with h | h
    · exact .inl h.symm
    · rcases a3 with g | g
      · exact .inl (by omega)
      · exact .inr ⟨no _ g, no _ h⟩
theorem getD_at {x : Str} {k : Nat} (h : k < x.length) : x.cps.toList[k]? = some (x.cps.getD k 0) := by
  have h' : k < x.cps.toList.length := by rw [← len_is]; exact h
  rw [← PyProof.Rows.getD_list, List.getD_eq_getElem?_getD, List.getElem?_eq_getElem h']
  rfl
/-- such a text of good signs is a TEXT, unless nothing is left -/
theorem strip_text {x : Str} (hl : x.length ≤ 30) (hs : ∀ c ∈ x.cps.toList, signOk c = true) (hn : Txt.stripChars x " " ≠ "") : textT (Txt.stripChars x " ") = true := by
  obtain ⟨lo, hi, h1, h2, e, h3⟩ := strip_is x
  have ll : x.cps.toList.length = x.length := (len_is x).symm
  have hlen : (Txt.stripChars x " ").length = hi - lo := by
    rw [len_is, e, List.length_take, List.length_drop, ll]
    omega
  have ne : lo ≠ hi := fun z => hn (TL.ext_tl (by
    rw [empty_tl]
    show (Txt.stripChars x " ").cps.toList = []
    rw [e, z, Nat.sub_self, List.take_zero]))
  obtain ⟨c1, c2⟩ := h3.resolve_left ne
  have g0 : (Txt.stripChars x " ").cps.toList[0]? = some (x.cps.getD lo 0) := by
    rw [e, List.getElem?_take, if_pos (by omega), List.getElem?_drop, Nat.add_zero]
    exact getD_at (by omega)
  have gl : (Txt.stripChars x " ").cps.toList.getLast? = some (x.cps.getD (hi - 1) 0) := by
    rw [List.getLast?_eq_getElem?, ← len_is, hlen, e, List.getElem?_take, if_pos (by omega), List.getElem?_drop, show lo + (hi - lo - 1) = hi - 1 by omega]
    exact getD_at (by omega)
  have al : (Txt.stripChars x " ").cps.toList.all signOk = true := List.all_eq_true.mpr fun c hc => by
    rw [e] at hc
    exact hs c (List.mem_of_mem_drop (List.mem_of_mem_take hc))
  unfold textT
  rw [g0, gl, al, hlen, decide_eq_true (show 1 ≤ hi - lo by omega), decide_eq_true (show hi - lo ≤ 30 by omega), decide_eq_false (fun z => c1 (Option.some.inj z)), decide_eq_false (fun z => c2 (Option.some.inj z))]
  rfl
/-- signs one by one, put together -/
theorem joins_of {p : Nat → Prop} {ys : List Str} (h : ∀ y ∈ ys, ∃ c, y = ⟨#[c]⟩ ∧ p c) : (Txt.join "" ys).length = ys.length ∧ ∀ c ∈ (Txt.join "" ys).cps.toList, p c := by
  constructor
  · rw [join0_len]
    induction ys with
    | nil => rfl
    | cons y r ih =>
      obtain ⟨c, rfl, _⟩ := h y List.mem_cons_self
      rw [List.map_cons, List.sum_cons, ih fun x hx => h x (List.mem_cons_of_mem _ hx), List.length_cons]
      show 1 + _ = _
      omega
  · intro c hc
    rw [show (Txt.join "" ys).cps.toList = TL.joinL (TL.tl "") (ys.map TL.tl) from by rw [TL.join_eq]; exact TL.tl_join "" ys, empty_tl] at hc
    obtain ⟨q, hq, hm⟩ := joinL_mem _ hc
    obtain ⟨y, hy, rfl⟩ := List.mem_map.mp hq
    obtain ⟨d, rfl, hd⟩ := h y hy
    have : c = d := List.mem_singleton.mp hm
    rw [this]
    exact hd
end Pk
namespace Pk
open PySem L2
/-! ### names, of letters -/
theorem letters_len : letters.cps.toList.length = 26 := by decide +kernel
theorem letters_sign : ∀ c ∈ letters.cps.toList, signOk c = true := fun c hc => List.all_eq_true.mp (by decide +kernel : letters.cps.toList.all signOk = true) c hc
theorem letters_nd : letters.cps.toList.Nodup := by decide +kernel
theorem sign_sgn {c : Nat} (h : signOk c = true) : 32 ≤ c ∧ c ≤ 126 ∧ c ≠ 37 := by
  unfold signOk at h
  simp at h
  omega
theorem name_len {z : Str} (h : nameT z = true) : 1 ≤ z.length ∧ z.length ≤ 8 := by
  unfold nameT at h
  simp only [Bool.and_eq_true, decide_eq_true_iff] at h
  exact h.1
theorem name_sgn {z : Str} (h : nameT z = true) : Sgn z := by
  unfold nameT at h
  simp only [Bool.and_eq_true, decide_eq_true_iff, List.all_eq_true] at h
  exact fun c hc => .inl (sign_sgn (letters_sign c (h.2 c hc)))
theorem name_thg {H : Hp} {z : Str} (h : nameT z = true) : Thg H (.str z) := .str z (by have := (name_len h).2; omega) (name_sgn h)
theorem name_of {z : Str} (h1 : 1 ≤ z.length) (h8 : z.length ≤ 8) (h : ∀ c ∈ z.cps.toList, c ∈ letters.cps.toList) : nameT z = true := by
  unfold nameT
  simp only [Bool.and_eq_true, decide_eq_true_iff, List.all_eq_true]
  exact ⟨⟨h1, h8⟩, h⟩
theorem cutS_lo {z : Str} {i : Int} (i0 : 0 ≤ i) : TL.tl (cutS z none (some i)) = (TL.tl z).take i.toNat := by
  obtain ⟨k, rfl⟩ := Int.eq_ofNat_of_zero_le i0
  show ((z.cps.toList.drop 0).take (HT.sIx z.length z.length (some (k : Int)) - 0)) = _
  rw [show HT.sIx z.length z.length (some (k : Int)) = min k z.length from HT.sIx_nat _ _ _, List.drop_zero, Nat.sub_zero, Int.toNat_natCast, List.take_eq_take_iff, ← len_is]
  omega
theorem cutS_hi {z : Str} {i : Int} (i0 : 0 ≤ i) : TL.tl (cutS z (some i) none) = (TL.tl z).drop i.toNat := by
  obtain ⟨k, rfl⟩ := Int.eq_ofNat_of_zero_le i0
  have e : z.length = (TL.tl z).length := TL.len_tl z
  show ((z.cps.toList.drop (HT.sIx z.length 0 (some (k : Int)))).take (z.length - HT.sIx z.length 0 (some (k : Int)))) = _
  rw [show HT.sIx z.length 0 (some (k : Int)) = min k z.length from HT.sIx_nat _ _ _, Int.toNat_natCast]
  show ((TL.tl z).drop (min k z.length)).take (z.length - min k z.length) = _
  rw [List.take_of_length_le (by rw [List.length_drop]; omega)]
  by_cases h : k ≤ z.length
  · rw [Nat.min_eq_left h]
  · rw [Nat.min_eq_right (by omega), List.drop_of_length_le (by omega), List.drop_of_length_le (by omega)]
end Pk
namespace Pk
open PySem L2
/-! ### names of a draw -/
def words10 : List Str := ["many", "toil", "marks", "rest", "kin", "with", "sums", "wish", "of", "paper"]
def words5 : List Str := ["bank", "name", "right", "matter", "answers"]
theorem words_nd : (words10 ++ words5).Nodup := by decide +kernel
theorem words_name : ∀ z ∈ words10 ++ words5, nameT z = true := by decide +kernel
/-- the k-th name: a letter put within a word -/
def nameK (word : Str) (at_ first step : Int) (k : Nat) : Str := (cutS word none (some at_) ++ S [(letters.cps.toList)[((first + step * k) % 26).toNat]?.getD 97]) ++ cutS word (some at_) none
theorem idx26 (n : Int) : (n % 26).toNat < 26 := by omega
theorem letter_at (n : Int) : (letters.cps.toList)[(n % 26).toNat]? = some (letters.cps.toList[(n % 26).toNat]'(by rw [letters_len]; exact idx26 n)) := List.getElem?_eq_getElem _
theorem nameK_tl (word : Str) {at_ : Int} (a0 : 0 ≤ at_) (first step : Int) (k : Nat) : TL.tl (nameK word at_ first step k) = (TL.tl word).take at_.toNat ++ (letters.cps.toList[((first + step * k) % 26).toNat]'(by rw [letters_len]; exact idx26 _)) :: (TL.tl word).drop at_.toNat := by
  unfold nameK
  rw [TL.tl_append, TL.tl_append, cutS_lo a0, cutS_hi a0, letter_at, S_tl, List.append_assoc]
  rfl
theorem nameK_eq (word : Str) (at_ first step : Int) (k : Nat) : nameK word at_ first step k = (cutS word none (some at_) ++ ⟨#[letters.cps.toList[((first + step * k) % 26).toNat]'(by rw [letters_len]; exact idx26 _)]⟩) ++ cutS word (some at_) none := by
  unfold nameK
  rw [letter_at]
  rfl
theorem nameK_name {word : Str} {at_ : Int} (a0 : 0 ≤ at_) (h7 : word.length ≤ 7) (hw : ∀ c ∈ word.cps.toList, c ∈ letters.cps.toList) (first step : Int) (k : Nat) : nameT (nameK word at_ first step k) = true := by
  have e := nameK_tl word a0 first step k
  have l : (nameK word at_ first step k).length = word.length + 1 := by
    rw [TL.len_tl, e, List.length_append, List.length_cons, List.length_take, List.length_drop, TL.len_tl]
    omega
  refine name_of (by omega) (by omega) fun c hc => ?_
  have hc : c ∈ TL.tl (nameK word at_ first step k) := hc
  rw [e] at hc
  rcases List.mem_append.mp hc with h | h
  · exact hw c (List.mem_of_mem_take h)
  · rcases List.mem_cons.mp h with h | h
    · rw [h]
      exact List.getElem_mem _
    · exact hw c (List.mem_of_mem_drop h)
def steps12 : List Int := [1, 3, 5, 7, 9, 11, 15, 17, 19, 21, 23, 25]
theorem step_inj {first step : Int} (hs : step ∈ steps12) {j k : Nat} (hj : j < 26) (hk : k < 26) (e : (first + step * j) % 26 = (first + step * k) % 26) : j = k := by
  simp only [steps12, List.mem_cons, List.not_mem_nil, or_false] at hs
  rcases hs with rfl | rfl | rfl | rfl | rfl | rfl | rfl | rfl | rfl | rfl | rfl | rfl <;> omega
theorem nameK_inj {word : Str} {at_ : Int} (a0 : 0 ≤ at_) {first step : Int} (hs : step ∈ steps12) {j k : Nat} (hj : j < 26) (hk : k < 26) (e : nameK word at_ first step j = nameK word at_ first step k) : j = k := by
  have e2 := congrArg TL.tl e
  rw [nameK_tl word a0, nameK_tl word a0] at e2
  have e3 := List.append_cancel_left e2
  have e4 := (List.cons.inj e3).1
  have e5 := (List.getElem_inj (letters_nd)).mp e4
  exact step_inj (first := first) hs hj hk (by omega)
theorem names_nd {word : Str} {at_ : Int} (a0 : 0 ≤ at_) {first step : Int} (hs : step ∈ steps12) {m : Nat} (hm : m ≤ 26) : ((List.range m).map (nameK word at_ first step)).Nodup := by
  rw [List.nodup_iff_pairwise_ne, List.pairwise_map]
  refine (List.pairwise_iff_getElem.mpr fun i j hi hj hij e => ?_)
  rw [List.length_range] at hi hj
  rw [List.getElem_range, List.getElem_range] at e
  exact absurd (nameK_inj a0 hs (by omega) (by omega) e) (by omega)
theorem DrawAt.putS {H : Hp} {d D : Addr} {t : Int} {ys : List Str} {M : List V} (h : DrawAt H d t) (e : H D = some (.lst (ys.map V.str))) (n : D ≠ d) : DrawAt (upd H D (.lst M)) d t := by
  obtain ⟨c, ns, l, h1, h2, h3⟩ := h
  have cD : c ≠ D := fun z => by
    rw [z, e] at h2
    have e9 := HO.lst.inj (Option.some.inj h2)
    cases hmm : ns with
    | nil => rw [hmm] at h3; exact absurd h3.1 (Nat.lt_irrefl _)
    | cons u r =>
      rw [hmm] at e9
      cases hrr : ys with
      | nil => rw [hrr] at e9; cases e9
      | cons _ _ => rw [hrr] at e9; cases e9
  exact ⟨c, ns, l, by rw [upd_ne n.symm]; exact h1, by rw [upd_ne cD]; exact h2, h3⟩
def spNames : Sp := fun vs H Q _ => ∃ (d : Addr) (t : Int) (m : Nat), vs = [.ref d, .int m] ∧ DrawAt H d t ∧ 0 ≤ t ∧ t ≤ 60000 ∧ m ≤ 15 ∧
  ∀ (l : Addr) (zs : List Str) (H' : Hp) (t' : Int), But d H H' → H l = none → H' l = some (.lst (zs.map V.str)) → zs.length = m → (∀ z ∈ zs, nameT z = true) → zs.Nodup → DrawAt H' d t' → t ≤ t' → t' ≤ t + 40 → Q (.ref l) H'
theorem erase_map {l : List Str} {k : Nat} : (l.map V.str).eraseIdx k = (l.eraseIdx k).map V.str := by
  rw [List.eraseIdx_eq_take_drop_succ, List.eraseIdx_eq_take_drop_succ, List.map_append, List.map_take, List.map_drop]
theorem erase_perm {zs rest : List Str} {k : Nat} {y : Str} (h : rest[k]? = some y) : ((zs ++ [y]) ++ rest.eraseIdx k).Perm (zs ++ rest) := by
  obtain ⟨hk, rfl⟩ := List.getElem?_eq_some_iff.mp h
  rw [List.append_assoc, List.eraseIdx_eq_take_drop_succ]
  refine List.Perm.append_left _ ?_
  have e : rest = rest.take k ++ rest[k] :: rest.drop (k + 1) := by
    rw [← List.drop_eq_getElem_cons hk, List.take_append_drop]
  conv => rhs; rw [e]
  rw [List.singleton_append]
  exact (List.perm_middle (a := rest[k])).symm
section
variable {P : Program} {w : World} {K : PySem.W.Frag} {mg : Str → Option Value} {base : Heap}
abbrev NNames : List Str := ["_law_draw", "_law_many", "_law_letters", "_law_words_here", "_law_size", "_law_at", "_law_word", "_law_first", "_law_step", "_law_k"]
theorem scNames : FnScope NNames ["_law_draw", "_law_many"] (defScope sNames) := ⟨rfl, rfl, rfl, by decide +kernel, rfl, by decide +kernel, by decide +kernel⟩
theorem ok_names {f fT : Addr} {fd fdT : FuncData} (F : Fun K "_law_names" "_law_names" sNames f fd) (ml : mg "len" = none) (mr : mg "range" = none)
    (GT : FnOk P w K mg base CX0 1 fT fdT ["_law_draw", "_law_many"] spTake) (kT : PySem.W.keepIn K (.ref fT) = true) (bT : Binds K fdT ["_law_draw", "_law_many"] []) (gT : mg "_law_take" = some (.ref fT)) :
    FnOk P w K mg base CX0 2 f fd ["_law_draw", "_law_many"] spNames := by
  refine F.ok scNames (fun vs H Q E h => ?_) (fun cdv A outer s H vs Q E hr h => ?_)
  · obtain ⟨d, t, m, rfl, _⟩ := h
    rfl
  · obtain ⟨d, t, m, rfl, D, t0, t1, m15, q⟩ := h
    refine ⟨_, pss_cons (ps_set (i := 2) scNames.nd rfl (.inr rfl) pe_str)
      (pss_cons (ps_if (pt_cmpR op_eq (pe_call GT hr (by rfl) gT kT bT .nil pass0 (pa_cons (pv 0) (pa_cons pe_int pa_nil))) pe_int (nomark _))
        (pss_cons (ps_set (i := 3) scNames.nd rfl (.inr rfl) (pe_lst (pa_cons pe_str (pa_cons pe_str (pa_cons pe_str (pa_cons pe_str (pa_cons pe_str (pa_cons pe_str (pa_cons pe_str (pa_cons pe_str (pa_cons pe_str (pa_cons pe_str pa_nil))))))))))))
        (pss_cons (ps_set (i := 3) scNames.nd rfl (.inr rfl) (pe_op op_cat (pv 3) (pe_lst (pa_cons pe_str (pa_cons pe_str (pa_cons pe_str (pa_cons pe_str (pa_cons pe_str pa_nil))))))))
        (pss_one (ps_ret (pe_lc (own := [("_law_k", 9)]) (g := gName 9) (te := tBM K "list" rPopAt (tVar 3) (tCons (tCall spTake [] E0 (tCons (tVar 0) (tCons (tCB (rLenQ K) (tCons (tVar 3) tNil)) tNil))) tNil)) rfl scNames.nd (pi_range1 (by rfl) mr (pa_cons (pv 1) pa_nil)) (blkOk_by (N := NNames) (sc := defScope sNames) (by decide +kernel))
          (fun _ _ _ _ _ => pg_name (i := 9) scNames.nd rfl (Or.inl rfl)) (fun _ _ _ _ _ => pts_nil)
          (fun _ _ _ _ _ => by exact pe_bm PySem.F.plainAttrs_list PySem.F.slot_list_pop PySem.F.type_list_pop mt_popAt (pv 3) (pa_cons (pe_call (E := E0) GT hr (by rfl) gT kT bT .nil pass0 (pa_cons (pv 0) (pa_cons (pe_callB call_lenQ (by rfl) ml PySem.boot_len (pa_cons (pv 3) pa_nil)) pa_nil))) pa_nil))))))) pss_nil)
      (pss_cons (ps_set (i := 4) scNames.nd rfl (.inl rfl) (pe_call GT hr (by rfl) gT kT bT .nil pass0 (pa_cons (pv 0) (pa_cons pe_int pa_nil))))
      (pss_cons (ps_set (i := 5) scNames.nd rfl (.inr rfl) (pe_call GT hr (by rfl) gT kT bT .nil pass0 (pa_cons (pv 0) (pa_cons (pe_op op_add (pv 4) pe_int) pa_nil))))
      (pss_cons (ps_set (i := 6) scNames.nd rfl (.inr rfl) (pe_join pe_str (pe_lc (own := [("_law_k", 9)]) (g := gName 9) rfl scNames.nd (pi_range1 (by rfl) mr (pa_cons (pv 4) pa_nil)) (blkOk_by (N := NNames) (sc := defScope sNames) (by decide +kernel))
          (fun _ _ _ _ _ => pg_name (i := 9) scNames.nd rfl (Or.inl rfl)) (fun _ _ _ _ _ => pts_nil) (fun _ _ _ _ _ => pe_ix ix_str (pv 2) (pe_call (E := E0) GT hr (by rfl) gT kT bT .nil pass0 (pa_cons (pv 0) (pa_cons pe_int pa_nil))) (fun _ _ => rfl)))))
      (pss_cons (ps_asg (pe_tup (pa_cons (pe_call GT hr (by rfl) gT kT bT .nil pass0 (pa_cons (pv 0) (pa_cons pe_int pa_nil))) (pa_cons (pe_ix ix_list (pe_lst (pa_cons pe_int (pa_cons pe_int (pa_cons pe_int (pa_cons pe_int (pa_cons pe_int (pa_cons pe_int (pa_cons pe_int (pa_cons pe_int (pa_cons pe_int (pa_cons pe_int (pa_cons pe_int (pa_cons pe_int pa_nil))))))))))))) (pe_call GT hr (by rfl) gT kT bT .nil pass0 (pa_cons (pv 0) (pa_cons pe_int pa_nil))) (fun _ _ => rfl)) pa_nil)))
          (pg_tup rfl (pgs_cons (pg_name (i := 7) scNames.nd rfl (.inr rfl)) (pgs_cons (pg_name (i := 8) scNames.nd rfl (.inr rfl)) pgs_nil))))
      (pss_one (ps_ret (pe_lc (own := [("_law_k", 9)]) (g := gName 9) rfl scNames.nd (pi_range1 (by rfl) mr (pa_cons (pv 1) pa_nil)) (blkOk_by (N := NNames) (sc := defScope sNames) (by decide +kernel))
          (fun _ _ _ _ _ => pg_name (i := 9) scNames.nd rfl (Or.inl rfl)) (fun _ _ _ _ _ => pts_nil)
          (fun _ _ _ _ _ => pe_op op_add_str (pe_op op_add_str (pe_slice sl_str (pv 6) po_none (po_some (pv 5))) (pe_ix ix_str (pv 2) (pe_op op_mod (pe_op op_add (pv 7) (pe_op op_mul (pv 8) (pv 9))) pe_int) (fun _ _ => rfl))) (pe_slice sl_str (pv 6) (po_some (pv 5)) po_none)))))))))), ?_⟩
    refine ⟨_, rfl, d, t, 4, rfl, D, t0, by omega, by decide, by decide, fun v1 H1 v10 v14 u1 D1 => ⟨rfl, _, rfl, ite2 (fun _ => ?_) (fun _ => ?_)⟩⟩
    · -- the system's own words
      refine ⟨by show 10 ≤ sizeLine; decide, fun p1 n1 => ⟨_, rfl, by show 5 ≤ sizeLine; decide, fun p2 n2 => ⟨p1, p2, words10.map V.str, words5.map V.str, rfl, rfl, same_upd n2 _ _ upd_same, upd_same, by show 15 ≤ sizeLine; decide, fun p3 n3 => ?_⟩⟩⟩
      have b3 : But d H1 (upd (upd (upd H1 p1 (.lst (words10.map V.str))) p2 (.lst (words5.map V.str))) p3 (.lst (words10.map V.str ++ words5.map V.str))) := ((But.new n1).trans (But.new n2)).trans (But.new n3)
      have s3 := ((same_upd (o := .lst (words10.map V.str)) n1).trans (same_upd (o := .lst (words5.map V.str)) n2)).trans (same_upd (o := .lst (words10.map V.str ++ words5.map V.str)) n3)
      have h3 : upd (upd (upd H1 p1 (.lst (words10.map V.str))) p2 (.lst (words5.map V.str))) p3 (.lst (words10.map V.str ++ words5.map V.str)) p3 = some (.lst ((words10 ++ words5).map V.str)) := by
        rw [upd_same, List.map_append]
      have D3 := D1.same s3
      dsimp only [gName]
      show tRet _ _ _ (upd (upd (upd H1 p1 (.lst (words10.map V.str))) p2 (.lst (words5.map V.str))) p3 (.lst (words10.map V.str ++ words5.map V.str)))
      generalize upd (upd (upd H1 p1 (.lst (words10.map V.str))) p2 (.lst (words5.map V.str))) p3 (.lst (words10.map V.str ++ words5.map V.str)) = H3 at b3 s3 h3 D3 ⊢
      have n3' : H p3 = none := by
        cases e : H p3 with
        | none => rfl
        | some o =>
          have pd : p3 ≠ d := D3.ne h3 (fun _ z => by cases z)
          have e2 := same_upd (o := .lst (words5.map V.str)) n2 _ _ (same_upd (o := .lst (words10.map V.str)) n1 _ _ (u1 _ _ pd e))
          exact absurd (e2.symm.trans n3) (fun z => nomatch z)
      refine ⟨_, rfl, (m : Int), rfl, by omega, by omega, fun Dl hD => ?_⟩
      have pd : p3 ≠ d := D3.ne h3 (fun _ z => by cases z)
      have Dd : Dl ≠ d := D3.new hD
      have Dp : Dl ≠ p3 := fun z => by rw [z, h3] at hD; cases hD
      have sD := same_upd (o := .lst []) hD
      rw [Int.toNat_natCast]
      refine lc_it walk_range (fun j G => (∀ b o, b ≠ d → b ≠ Dl → b ≠ p3 → H3 b = some o → G b = some o) ∧ Cells d H3 G ∧ DrawAt G d (t + 1 + j) ∧ ∃ zs rest : List Str, zs.length = j ∧ G Dl = some (.lst (zs.map V.str)) ∧ G p3 = some (.lst (rest.map V.str)) ∧ (zs ++ rest).Perm (words10 ++ words5)) ⟨fun b o _ nb _ e => by rw [upd_ne nb]; exact e, Cells.refl.put Dd, by simpa using D3.same sD, [], words10 ++ words5, rfl, upd_same, sD _ _ h3, List.Perm.refl _⟩ (fun _ _ _ _ => trivial) ?_ ?_
      · rintro j x G G' hj ⟨kp, kc, DG, zs, rest, lz, hz, hr3, pm⟩ ⟨rfl, rfl⟩
        have l15 := pm.length_eq
        rw [List.length_append, lz, show (words10 ++ words5).length = 15 from rfl] at l15
        refine ⟨rfl, _, rfl, .inl ⟨rfl, _, SqL.of hr3⟩, _, rfl, _, rfl, p3, _, rfl, .inl (SqL.of hr3), d, _, _, rfl, DG, by omega, by omega, by rw [List.length_map]; omega, by rw [List.length_map]; omega, fun v G2 v0 v1 u2 D2 => ?_⟩
        rw [List.length_map] at v1
        have hr3' := u2 _ _ pd hr3
        have hz' := u2 _ _ Dd hz
        have vi : v.toNat < rest.length := by omega
        refine ⟨p3, _, v, v.toNat, .str rest[v.toNat], rfl, rfl, hr3', by omega, by omega, by rw [List.length_map]; exact seqIndex_of v0 v1, by rw [List.getElem?_map, List.getElem?_eq_getElem vi]; rfl, ?_⟩
        have e1 : upd G2 p3 (.lst ((rest.map V.str).eraseIdx v.toNat)) Dl = some (.lst (zs.map V.str)) := by
          rw [upd_ne Dp]
          exact hz'
        refine ⟨_, e1, by rw [List.length_map, lz, sizeLine_eq]; omega, fun b o n1 n2 n3 e => ?_, ((kc.trans u2.cells).put pd).put Dd, ?_, zs ++ [rest[v.toNat]], rest.eraseIdx v.toNat, by rw [List.length_append, lz]; rfl, by rw [upd_same, List.map_append]; rfl, ?_, (erase_perm (List.getElem?_eq_getElem vi)).trans pm⟩
        · rw [upd_ne n2, upd_ne n3]
          exact u2 _ _ n1 (kp b o n1 n2 n3 e)
        · rw [show t + 1 + ((j + 1 : Nat) : Int) = t + 1 + (j : Int) + 1 by omega]
          exact (D2.putS hr3' pd).putS e1 Dd
        · rw [upd_ne Dp.symm, upd_same, erase_map]
      · rintro G ⟨kp, kc, DG, zs, rest, lz, hz, hr3, pm⟩
        have nd : (zs ++ rest).Nodup := pm.nodup_iff.mpr words_nd
        refine q Dl zs G _ ⟨fun b o nb e => ?_, (u1.trans b3).cells' kc⟩ ?_ hz lz (fun z hz => words_name z (pm.mem_iff.mp (List.mem_append_left _ hz))) (List.nodup_append.mp nd).1 DG (by omega) (by omega)
        · have e1 := b3 _ _ nb (u1 _ _ nb e)
          exact kp b o nb (ne_of_none e1 hD) (fun z => by rw [z, n3'] at e; cases e) e1
        · cases e : H Dl with
          | none => rfl
          | some o =>
            have e1 := b3 _ _ Dd (u1 _ _ Dd e)
            rw [e1] at hD
            cases hD
    · -- a word with a letter put in
      refine ⟨_, rfl, d, _, 8, rfl, D1, by omega, by omega, by decide, by decide, fun sz H2 z0 z8 u2 D2 => ?_⟩
      refine ⟨_, rfl, _, rfl, _, _, rfl, rfl, d, _, _, rfl, D2, by omega, by omega, by omega, by omega, fun at_ H3 a0 a1 u3 D3 => ?_⟩
      refine ⟨⟨_, rfl⟩, _, rfl, sz, rfl, by omega, by omega, fun Dl hD => ?_⟩
      have Dd : Dl ≠ d := D3.new hD
      have sD := same_upd (o := .lst []) hD
      refine lc_it walk_range (fun j G => (∀ b o, b ≠ d → b ≠ Dl → H3 b = some o → G b = some o) ∧ Cells d H3 G ∧ DrawAt G d (t + 3 + j) ∧ ∃ ys : List Str, ys.length = j ∧ (∀ y ∈ ys, ∃ c, y = ⟨#[c]⟩ ∧ c ∈ letters.cps.toList) ∧ G Dl = some (.lst (ys.map V.str))) ⟨fun b o _ nb e => by rw [upd_ne nb]; exact e, Cells.refl.put Dd, by rw [show t + 3 + ((0 : Nat) : Int) = t + 1 + 1 + 1 by omega]; exact D3.same sD, [], rfl, (fun _ h => by cases h), upd_same⟩ (fun _ _ _ _ => trivial) ?_ ?_
      · rintro j x G G' hj ⟨kp, kc, DG, ys, ly, oy, hz⟩ ⟨rfl, rfl⟩
        refine ⟨rfl, _, rfl, _, rfl, d, _, 26, rfl, DG, by omega, by omega, by decide, by decide, fun v G2 v0 v1 u4 D4 => ?_⟩
        obtain ⟨c6, hc6, mc6⟩ := at_some (l := letters.cps.toList) v0 (by rw [letters_len]; exact v1)
        have hz' := u4 _ _ Dd hz
        refine ⟨_, v, c6, rfl, rfl, by decide +kernel, hc6, _, hz', by rw [List.length_map, ly, sizeLine_eq]; omega, fun b o n1 n2 e => by rw [upd_ne n2]; exact u4 _ _ n1 (kp b o n1 n2 e), (kc.trans u4.cells).put Dd, ?_, ys ++ [⟨#[c6]⟩], by rw [List.length_append, ly]; rfl, fun y hy => ?_, by rw [upd_same, List.map_append]; rfl⟩
        · rw [show t + 3 + ((j + 1 : Nat) : Int) = t + 3 + (j : Int) + 1 by omega]
          exact D4.putS hz' Dd
        · rcases List.mem_append.mp hy with h | h
          · exact oy y h
          · rw [List.mem_singleton.mp h]
            exact ⟨c6, rfl, mc6⟩
      · rintro G ⟨kp, kc, DG, ys, ly, oy, hz⟩
        have sm : (ys.map (·.length)).sum = ys.length := (join0_len ys).symm.trans (joins_of oy).1
        refine ⟨_, Dl, ys, rfl, rfl, .inl (SqL.of hz), by rw [sm, show ("" : Str).length = 0 by decide +kernel]; omega, ?_⟩
        obtain ⟨lw, aw⟩ := joins_of oy
        generalize hw : Txt.join "" ys = word at lw aw ⊢
        rw [ly] at lw
        refine ⟨_, rfl, d, _, 26, rfl, DG, by omega, by omega, by decide, by decide, fun fi H4 f0 f1 u4 D4 => ?_⟩
        refine ⟨by show 12 ≤ sizeLine; decide, fun q1 m1 => ?_⟩
        have s5 := same_upd (o := .lst (steps12.map V.int)) m1
        have h5 : upd H4 q1 (.lst (steps12.map V.int)) q1 = some (.lst (steps12.map V.int)) := upd_same
        have qd : q1 ≠ d := D4.new m1
        refine ⟨_, rfl, d, _, 12, rfl, D4.same s5, by omega, by omega, by decide, by decide, fun si H6 s0 s1 u6 D6 => ?_⟩
        have h6 := u6 _ _ qd h5
        obtain ⟨st, hst, mst⟩ := at_some (l := steps12) s0 s1
        have hst' : atI (steps12.map V.int) si = some (.int st) := by
          obtain ⟨k, rfl⟩ := Int.eq_ofNat_of_zero_le s0
          have hk : k < steps12.length := by show k < 12; omega
          have e := atI_nat (j := k) (List.getElem?_eq_getElem hk)
          rw [hst] at e
          refine atI_nat ?_
          rw [List.getElem?_map, List.getElem?_eq_getElem hk, Option.some.inj e]
          rfl
        refine ⟨q1, _, si, .int st, rfl, rfl, SqL.of h6, hst', by show 2 ≤ sizeLine; decide, fun q2 m2 => ?_⟩
        have s7 := same_upd (o := .tup [.int fi, .int st]) m2
        have D7 := D6.same s7
        refine ⟨q2, _, rfl, SqT.of upd_same, rfl, _, _, rfl, _, _, rfl, rfl, ?_⟩
        have kp7 : ∀ b o, b ≠ d → H b = some o → upd H6 q2 (.tup [.int fi, .int st]) b = some o := fun b o nb e => by
          have e3 := u3 _ _ nb (u2 _ _ nb (u1 _ _ nb e))
          exact s7 _ _ (u6 _ _ nb (s5 _ _ (u4 _ _ nb (kp b o nb (ne_of_none e3 hD) e3))))
        have kc7 : Cells d H (upd H6 q2 (.tup [.int fi, .int st])) := (((u1.trans u2).trans u3).cells' kc).trans ((u4.trans (But.same s5)).trans (u6.trans (But.same s7))).cells
        dsimp only [gName]
        show tRet _ _ _ (upd H6 q2 (.tup [.int fi, .int st]))
        generalize upd H6 q2 (.tup [.int fi, .int st]) = H7 at s7 D7 kp7 kc7 ⊢
        refine ⟨_, rfl, (m : Int), rfl, by omega, by omega, fun D2 hD2 => ?_⟩
        have Dd2 : D2 ≠ d := D7.new hD2
        have sD2 := same_upd (o := .lst []) hD2
        rw [Int.toNat_natCast]
        refine lc_it walk_range (fun j G => (∀ b o, b ≠ D2 → H7 b = some o → G b = some o) ∧ G D2 = some (.lst (((List.range j).map (nameK word at_ fi st)).map V.str))) ⟨fun b o nb e => by rw [upd_ne nb]; exact e, upd_same⟩ (fun _ _ _ _ => trivial) ?_ ?_
        · rintro j x G1 G' hj ⟨kp1, hz1⟩ ⟨rfl, rfl⟩
          have lc := cutS_length word none (some at_)
          have lc2 := cutS_length word (some at_) none
          refine ⟨rfl, _, rfl, _, rfl, at_, rfl, word, rfl, by rw [sizeLine_eq]; omega, _, rfl, _, rfl, _, rfl, _, rfl, _, _, rfl, rfl, .inr ⟨by omega, by omega⟩, _, _, rfl, rfl, _, _, rfl, rfl, (by show (0 : Int) < 26; decide), ?_⟩
          rw [Int.zero_add]
          have i0 : 0 ≤ (fi + st * (j : Int)) % 26 := Int.emod_nonneg _ (by decide)
          refine ⟨_, _, letters.cps.toList[((fi + st * (j : Int)) % 26).toNat]'(by rw [letters_len]; exact idx26 _), rfl, rfl, by decide +kernel, ?_, ?_⟩
          · obtain ⟨k, hk⟩ := Int.eq_ofNat_of_zero_le i0
            have := atI_nat (letter_at (fi + st * (j : Int)))
            rw [Int.toNat_of_nonneg i0] at this
            exact this
          refine ⟨_, _, rfl, rfl, by show _ + 1 ≤ sizeLine; rw [sizeLine_eq]; omega, _, rfl, _, rfl, at_, rfl, word, rfl, by rw [sizeLine_eq]; omega, _, _, rfl, rfl, by rw [app_len]; show _ + 1 + _ ≤ sizeLine; rw [sizeLine_eq]; omega, ?_⟩
          refine ⟨_, hz1, by simp only [List.length_map, List.length_range, sizeLine_eq]; omega, fun b o nb e => by rw [upd_ne nb]; exact kp1 b o nb e, ?_⟩
          rw [upd_same, List.range_succ, List.map_append, List.map_append]
          show some (HO.lst (_ ++ [V.str _])) = some (HO.lst (_ ++ [V.str (nameK word at_ fi st j)]))
          rw [nameK_eq]
        · rintro G1 ⟨kp1, hz1⟩
          refine q D2 _ G1 _ ⟨fun b o nb e => ?_, fun c t1 l1 e => (fun ⟨t2, l2, e2⟩ => ⟨t2, l2, kp1 _ _ (Ne.symm Dd2) e2⟩) (kc7 c t1 l1 e)⟩ ?_ hz1 (by rw [List.length_map, List.length_range]) (fun z hz => ?_) (names_nd a0 mst (by omega)) (D7.same fun b o e => kp1 b o (ne_of_none e hD2) e) (by omega) (by omega)
          · have e7 := kp7 _ _ nb e
            exact kp1 b o (ne_of_none e7 hD2) e7
          · cases e : H D2 with
            | none => rfl
            | some o =>
              have e1 := kp7 _ _ Dd2 e
              rw [e1] at hD2
              cases hD2
          · obtain ⟨k, _, rfl⟩ := List.mem_map.mp hz
            exact nameK_name a0 (by omega) aw fi st k
end
end Pk
namespace Pk
open PySem L2
/-! ### signs of names and texts, by str's own looks -/
theorem low_alpha : ∀ c < 128, (Unicode.isAlpha c && !(Unicode.isUpper c || Unicode.isTitle c)) = decide (c ∈ letters.cps.toList) := by decide +kernel
theorem low_lower : ∀ c < 128, decide (c ∈ letters.cps.toList) = Unicode.isLower c := by decide +kernel
theorem low_print : ∀ c < 128, (Unicode.isPrintable c && !decide (c = 37)) = signOk c := by decide +kernel
theorem letters_low : ∀ c ∈ letters.cps.toList, c < 128 := by decide +kernel
theorem name_signs (z : Str) (h : 1 ≤ z.length) : (Txt.isascii z && (Txt.isalpha z && Txt.islower z)) = z.cps.toList.all fun c => decide (c ∈ letters.cps.toList) := by
  unfold Txt.isascii Txt.isalpha Txt.islower
  rw [← Array.all_toList, ← Array.all_toList, ← Array.any_toList, ← Array.any_toList]
  have hl : z.cps.toList.length = z.length := rfl
  rw [show decide (z.length > 0) = true from decide_eq_true h, Bool.true_and]
  generalize z.cps.toList = l at hl ⊢
  rw [← hl] at h
  rw [Bool.eq_iff_iff]
  simp only [Bool.and_eq_true, List.all_eq_true, List.any_eq_true, Bool.not_eq_true', decide_eq_true_eq]
  constructor
  · rintro ⟨h1, h2, _, h4⟩ c hc
    have e := low_alpha c (h1 c hc)
    rw [h2 c hc, Bool.true_and] at e
    have n : (Unicode.isUpper c || Unicode.isTitle c) = false := by
      cases hh : (Unicode.isUpper c || Unicode.isTitle c) with
      | false => rfl
      | true => exact absurd (List.any_eq_true.mpr ⟨c, hc, hh⟩) (by rw [h4]; exact Bool.false_ne_true)
    rw [n] at e
    exact of_decide_eq_true e.symm
  · intro hh
    have lo : ∀ c ∈ l, c < 128 := fun c hc => letters_low c (hh c hc)
    have e : ∀ c ∈ l, (Unicode.isAlpha c && !(Unicode.isUpper c || Unicode.isTitle c)) = true := fun c hc => (low_alpha c (lo c hc)).trans (decide_eq_true (hh c hc))
    refine ⟨lo, fun c hc => (Bool.and_eq_true_iff.mp (e c hc)).1, ?_, ?_⟩
    · cases l with
      | nil => exact absurd h (by decide)
      | cons c r => exact ⟨c, List.mem_cons_self, (low_lower c (lo c List.mem_cons_self)).symm.trans (decide_eq_true (hh c List.mem_cons_self))⟩
    · rw [Bool.eq_false_iff]
      intro a
      obtain ⟨c, hc, a⟩ := List.any_eq_true.mp a
      have := (Bool.and_eq_true_iff.mp (e c hc)).2
      rw [a] at this
      exact absurd this (by decide)
theorem text_signs (z : Str) : (Txt.isascii z && (Txt.isprintable z && z.cps.toList.all fun c => !decide (c = 37))) = z.cps.toList.all signOk := by
  unfold Txt.isascii Txt.isprintable
  rw [← Array.all_toList, ← Array.all_toList]
  generalize z.cps.toList = l
  rw [Bool.eq_iff_iff]
  simp only [Bool.and_eq_true, List.all_eq_true, decide_eq_true_eq]
  constructor
  · rintro ⟨h1, h2, h3⟩ c hc
    rw [← low_print c (h1 c hc), h2 c hc, h3 c hc]
    rfl
  · intro hh
    have lo : ∀ c ∈ l, c < 128 := fun c hc => by
      have := hh c hc
      unfold signOk at this
      rw [Bool.and_eq_true, Bool.and_eq_true] at this
      have := of_decide_eq_true this.1.2
      omega
    have e : ∀ c ∈ l, (Unicode.isPrintable c && !decide (c = 37)) = true := fun c hc => (low_print c (lo c hc)).trans (hh c hc)
    exact ⟨lo, fun c hc => (Bool.and_eq_true_iff.mp (e c hc)).1, fun c hc => (Bool.and_eq_true_iff.mp (e c hc)).2⟩
end Pk
namespace Pk
open PySem L2
/-! ### words.py -/
def spIsNumber : Sp := fun vs H Q _ => ∃ x, vs = [x] ∧ Thg H x ∧ Q (.bl (vInt x)) H
def spIsWhole : Sp := fun vs H Q _ => ∃ (x : V) (lo hi : Int), vs = [x, .int lo, .int hi] ∧ Thg H x ∧ Q (.bl (whole x lo hi)) H
def spIsName : Sp := fun vs H Q _ => ∃ x, vs = [x] ∧ Thg H x ∧ ∀ H', Same H H' → Q (.bl (nameV x)) H'
section
variable {P : Program} {w : World} {K : PySem.W.Frag} {mg : Str → Option Value} {base : Heap}
theorem isb {X : Cx} {i : Nat} {v : Str} {y : Str} {T : String} {p p1 p2 pos : Pos} (mi : X.mg "isinstance" = none) (my : X.mg y = none) (by_ : bootBuiltins y = some (.type T)) (hi : Gl X "isinstance" := by rfl) (hg : Gl X y := by rfl) (hN : X.N[i]? = some v := by rfl) (hv : Vis X.env.scope v := by first | exact Or.inl rfl | exact Or.inr (Or.inl rfl)) (hd : (y == ("__debug__" : Str)) = false := by decide) (hd2 : (v == ("__debug__" : Str)) = false := by decide) (hd3 : (v == ("__classdict__" : Str)) = false := by decide) (hn : y ≠ "__name__" := by decide) :
    PE X (.Call (.Name "isinstance" p) [.Name v p1, .Name y p2] [] pos) (tCB (rIsi X.K) (tCons (tVar i) (tCons (tC (.ty T)) tNil))) :=
  pe_callB call_isi hi mi (by decide +kernel) (pa_cons (pe_var hN hv hd2 hd3) (pa_cons (pe_bltn (v := .ty T) hg my by_ rfl hn hd) pa_nil))
theorem scIsNumber : FnScope ["thing"] ["thing"] (defScope sIsNumber) := ⟨rfl, rfl, rfl, by decide +kernel, rfl, by decide +kernel, by decide +kernel⟩
theorem ok_isNumber {f : Addr} {fd : FuncData} (F : Fun K "is_number" "is_number" sIsNumber f fd) (mi : mg "isinstance" = none) (mn : mg "int" = none) (mb : mg "bool" = none) : FnOk P w K mg base CX0 1 f fd ["thing"] spIsNumber := by
  refine F.ok scIsNumber (fun vs H Q E h => ?_) (fun cdv A outer s H vs Q E hr h => ?_)
  · obtain ⟨x, rfl, _⟩ := h
    rfl
  · obtain ⟨x, rfl, hx, q⟩ := h
    obtain ⟨t, ty, k1, k2, _, _⟩ := hx.ty (K := K)
    refine ⟨_, pss_one (ps_ret (pe_and (isb (i := 0) mi mn PyProof.Rows.boot_int) (pe_one (pe_not (isb (i := 0) (T := "bool") mi mb (by decide +kernel)))))), ?_⟩
    refine ⟨_, rfl, _, _, _, _, _, rfl, .ty "int", ty, kit_ty k1, _, rfl, ?_⟩
    cases hv : vInt x with
    | true =>
      rw [hv] at q
      refine iteT ⟨_, rfl, _, _, _, _, _, rfl, .ty "bool", ty, kit_ty k2, _, rfl, ?_⟩
      have : vBool x = false := by
        cases x <;> first | rfl | cases hv
      rw [this]
      exact q
    | false =>
      rw [hv] at q
      cases hb : vBool x with
      | true =>
        rw [hb] at k2
        exact iteT ⟨_, rfl, _, _, _, _, _, rfl, .ty "bool", ty, kit_ty k2, _, rfl, q⟩
      | false => exact iteF q
theorem scIsWhole : FnScope ["thing", "least", "most"] ["thing", "least", "most"] (defScope sIsWhole) := ⟨rfl, rfl, rfl, by decide +kernel, rfl, by decide +kernel, by decide +kernel⟩
abbrev FunDf (K : PySem.W.Frag) (x : Str) (st : Stmt) (dvs : List V) (f : Addr) (fd : FuncData) : Prop := FunD K x x (defArgs st) (defBody st) (defScope st) dvs [] f fd
theorem ok_isWhole {f fN : Addr} {fd fdN : FuncData} (F : FunDf K "is_whole" sIsWhole [.int 0, .int 9999] f fd) (FN : Fun K "is_number" "is_number" sIsNumber fN fdN) (bN : Binds K fdN ["thing"] []) (gN : mg "is_number" = some (.ref fN))
    (mi : mg "isinstance" = none) (mn : mg "int" = none) (mb : mg "bool" = none) : FnOk P w K mg base CX0 2 f fd ["thing", "least", "most"] spIsWhole := by
  have GN : FnOk P w K mg base CX0 1 fN fdN ["thing"] spIsNumber := ok_isNumber FN mi mn mb
  refine F.ok scIsWhole (fun vs H Q E h => ?_) (fun cdv A outer s H vs Q E hr h => ?_)
  · obtain ⟨x, lo, hi, rfl, _⟩ := h
    rfl
  · obtain ⟨x, lo, hi, rfl, hx, q⟩ := h
    refine ⟨_, pss_one (ps_ret (pe_and (pe_call GN hr (by rfl) gN FN.kp bN .nil pass0 (pa_cons (pv 0) pa_nil)) (pe_one (pe_chain op_le op_le (pv 1) (pv 0) (pv 2))))), ?_⟩
    refine ⟨_, rfl, x, rfl, hx, _, rfl, ?_⟩
    cases hx with
    | int i =>
      have q' : Q (.bl (decide (lo ≤ i) && decide (i ≤ hi))) H := q
      refine iteT ⟨_, rfl, _, rfl, _, _, rfl, rfl, _, rfl, ?_⟩
      cases hd : decide (lo ≤ i) with
      | true =>
        rw [hd, Bool.true_and] at q'
        exact iteT ⟨_, rfl, _, _, rfl, rfl, q'⟩
      | false =>
        rw [hd, Bool.false_and] at q'
        exact iteF q'
    | non => exact iteF q
    | bl b => exact iteF q
    | str z hl ho => exact iteF q
    | lst h => exact iteF q
    | tup h => exact iteF q
    | dct h => exact iteF q
theorem scIsName : FnScope ["thing"] ["thing"] (defScope sIsName) := ⟨rfl, rfl, rfl, by decide +kernel, rfl, by decide +kernel, by decide +kernel⟩
theorem ok_isName {f : Addr} {fd : FuncData} (F : Fun K "is_name" "is_name" sIsName f fd) (mi : mg "isinstance" = none) (ms : mg "str" = none) (ml : mg "len" = none) (gM : ∃ t, mg "MOST_LETTERS" = some (.int 8 t)) :
    FnOk P w K mg base CX0 1 f fd ["thing"] spIsName := by
  obtain ⟨tM, gM⟩ := gM
  refine F.ok scIsName (fun vs H Q E h => ?_) (fun cdv A outer s H vs Q E hr h => ?_)
  · obtain ⟨x, rfl, _⟩ := h
    rfl
  · obtain ⟨x, rfl, hx, q⟩ := h
    obtain ⟨t, ty, _, _, k3, _⟩ := hx.ty (K := K)
    refine ⟨_, pss_cons (ps_if (PW.pt (pw_or (pt_not (pt_val (isb (i := 0) mi ms PyProof.Rows.boot_str))) (pw_or1 (pt_not (pt_chain op_le op_le pe_int (pe_callB call_len_str (by rfl) ml PySem.boot_len (pa_cons (pv 0) pa_nil)) (pe_glob (v := .int 8) (by rfl) gM ⟨_, rfl⟩)))))) (pss_one (ps_ret pe_bl)) pss_nil)
      (pss_one (ps_ret (pe_and (pe_m0 PySem.F.slot_str_isascii PySem.F.type_str_isascii mt_isascii (pv 0)) (pe_and (pe_m0 PySem.F.slot_str_isalpha PySem.F.type_str_isalpha mt_isalpha (pv 0)) (pe_one (pe_m0 PySem.F.slot_str_islower PySem.F.type_str_islower mt_islower (pv 0))))))), ?_⟩
    refine ⟨_, rfl, _, _, _, _, _, rfl, .ty "str", ty, kit_ty k3, _, rfl, ?_⟩
    have q := q H (Same.refl H)
    cases hx with
    | non => exact iteT q
    | bl b => exact iteT q
    | int i => exact iteT q
    | lst h => exact iteT q
    | tup h => exact iteT q
    | dct h => exact iteT q
    | str z hl ho =>
      refine iteF ⟨_, rfl, z, rfl, by rw [sizeLine_eq]; omega, _, _, rfl, rfl, _, rfl, ?_⟩
      have q' : Q (.bl (decide (1 ≤ z.length) && decide (z.length ≤ 8) && z.cps.toList.all fun c => decide (c ∈ letters.cps.toList))) H := q
      cases h1 : decide (1 ≤ z.length) with
      | false =>
        rw [h1, Bool.false_and, Bool.false_and] at q'
        have e1 : decide ((1 : Int) ≤ z.length) = false := by
          have := of_decide_eq_false h1
          exact decide_eq_false (by omega)
        rw [e1]
        exact iteF ⟨_, rfl, iteT q'⟩
      | true =>
        have e1 : decide ((1 : Int) ≤ z.length) = true := by
          have := of_decide_eq_true h1
          exact decide_eq_true (by omega)
        rw [e1]
        refine iteT ⟨_, _, rfl, rfl, _, rfl, ?_⟩
        cases h2 : decide (z.length ≤ 8) with
        | false =>
          rw [h1, h2, Bool.and_false, Bool.false_and] at q'
          have e2 : decide ((z.length : Int) ≤ 8) = false := by
            have := of_decide_eq_false h2
            exact decide_eq_false (by omega)
          rw [e2]
          exact iteT q'
        | true =>
          rw [h1, h2, Bool.and_true, Bool.true_and, ← name_signs z (of_decide_eq_true h1)] at q'
          have e2 : decide ((z.length : Int) ≤ 8) = true := by
            have := of_decide_eq_true h2
            exact decide_eq_true (by omega)
          rw [e2]
          refine iteF ⟨_, rfl, ⟨z, rfl⟩, z, rfl, rfl, trivial, _, rfl, ?_⟩
          cases h3 : Txt.isascii z with
          | false =>
            rw [h3, Bool.false_and] at q'
            exact iteF q'
          | true =>
            rw [h3, Bool.true_and] at q'
            refine iteT ⟨_, rfl, ⟨z, rfl⟩, z, rfl, rfl, trivial, _, rfl, ?_⟩
            cases h4 : Txt.isalpha z with
            | false =>
              rw [h4, Bool.false_and] at q'
              exact iteF q'
            | true =>
              rw [h4, Bool.true_and] at q'
              exact iteT ⟨_, rfl, ⟨z, rfl⟩, z, rfl, rfl, trivial, q'⟩
end
section
variable {P : Program} {w : World} {K : PySem.W.Frag} {mg : Str → Option Value} {base : Heap}
end
end Pk
namespace Pk
open PySem L2
def spIsNameE : Sp := fun vs H Q _ => ∃ x, vs = [x] ∧ Thg H x ∧ ∀ H', Same H H' → Q (.bl (nameE x)) H'
section
variable {P : Program} {w : World} {K : PySem.W.Frag} {mg : Str → Option Value} {base : Heap}
theorem scIsNameE : FnScope ["thing"] ["thing"] (defScope sIsNameE) := ⟨rfl, rfl, rfl, by decide +kernel, rfl, by decide +kernel, by decide +kernel⟩
theorem ok_isNameE {f fN : Addr} {fd fdN : FuncData} (F : Fun K "is_name_or_empty" "is_name_or_empty" sIsNameE f fd) (FN : Fun K "is_name" "is_name" sIsName fN fdN) (bN : Binds K fdN ["thing"] []) (gN : mg "is_name" = some (.ref fN))
    (mi : mg "isinstance" = none) (ms : mg "str" = none) (ml : mg "len" = none) (gM : ∃ t, mg "MOST_LETTERS" = some (.int 8 t)) : FnOk P w K mg base CX0 2 f fd ["thing"] spIsNameE := by
  have GN : FnOk P w K mg base CX0 1 fN fdN ["thing"] spIsName := ok_isName FN mi ms ml gM
  refine F.ok scIsNameE (fun vs H Q E h => ?_) (fun cdv A outer s H vs Q E hr h => ?_)
  · obtain ⟨x, rfl, _⟩ := h
    rfl
  · obtain ⟨x, rfl, hx, q⟩ := h
    refine ⟨_, pss_one (ps_ret (pe_or (pe_call GN hr (by rfl) gN FN.kp bN .nil pass0 (pa_cons (pv 0) pa_nil)) (pe_one (pe_and (isb (i := 0) mi ms PyProof.Rows.boot_str) (pe_one (pe_cmpR op_eq (pv 0) pe_str (nomark _))))))), ?_⟩
    refine ⟨_, rfl, x, rfl, hx, fun H1 s1 => ⟨_, rfl, ?_⟩⟩
    obtain ⟨t, ty, _, _, k3, _⟩ := (hx.same s1).ty (K := K)
    have q1 := q H1 s1
    unfold nameE at q1
    cases hn : nameV x with
    | true =>
      rw [hn, Bool.true_or] at q1
      exact iteT q1
    | false =>
      rw [hn, Bool.false_or] at q1
      refine iteF ⟨_, rfl, _, _, _, _, _, rfl, .ty "str", ty, kit_ty k3, _, rfl, ?_⟩
      cases hx with
      | str z hl ho => exact iteT ⟨_, rfl, rfl, q1⟩
      | _ => exact iteF q1
end
end Pk
/-! Own errors whose built-in base makes its objects by another one's making (KeyError by LookupError's). -/
namespace Pk
open PySem PySem.Spec PySem.W PySem.Calls PyProof.Rows PySem.HandSPX
open Builtin Builtin.ObjectAttr
abbrev KyLine : List Value := [.type "KeyError", .type "LookupError", .type "Exception", .type "BaseException", .type "object"]
/-- what the making asks of a line of ancestors -/
structure MkLine (B : String) (line : List Value) : Prop where
  hb : line.contains (.type B) = true
  ha : line.contains (.type "AttributeError") = false
  hn : line.contains (.type "NameError") = false
section
variable {P : Program} {w : World} {M : Model} {Ar : Around} {Ex : Value → Shared → Prop} {Rs : Result → Shared → Prop} {hp : Heap} {gs : Array GenState} {dr : Drawn} {tk : Nat} {oo : OsState}
variable {c1 c2 : Str} {C ns : Addr} {bases line lineB : List Value} {dct : Bool} {slots : List Str} {subs : List Value} {abs : Bool} {coll : Option Bool} {del : Option Addr} {a0 a1 a2 a3 a5 : Option Value} {B newB iniB : String}
theorem mk_check (F : ExcBaseFacts B newB iniB lineB) (L : MkLine B line) {args : List Value} {Q : Unit → Shared → Prop} (cl : hp.get? C = some (excClassObj c1 c2 C ns bases line dct slots subs abs coll del a0 a1 a2 a3 a5 newB)) (q : Q () ⟨hp, gs, dr, tk, oo⟩) :
    wpAny M Ar (checkBuiltinCall newB ⟨.ref C :: args, []⟩) Q Ex ⟨hp, gs, dr, tk, oo⟩ := by
  have in_ : (Value.ref C :: line).contains (.type B) = true := by
    rw [List.contains_cons, L.hb]
    exact Bool.or_true _
  have star := F.noStar
  simp only [checkBuiltinCall, F.newRow, F.newKind, F.newSplit]
  repeat (first
    | refine wpAny_loadPart_at cl ?_
    | (refine wpAny_isSubtype_exc cl ?_; rw [in_])
    | refine wpAny_staticBase_exc cl ?_
    | refine wpAny_madeBy_exc cl ?_
    | simp only [bne_self_eq_false, if_false, Bool.false_eq_true]
    | wp_step)
  exact q
theorem mk_new (F : ExcBaseFacts B newB iniB lineB) (L : MkLine B line) {args : List Value} (cl : hp.get? C = some (excClassObj c1 c2 C ns bases line dct slots subs abs coll del a0 a1 a2 a3 a5 newB)) (size : args.length ≤ sizeLine)
    (q : Rs (.ok (.ret (.ref (hp.objs.size + 1)))) ⟨(hp.push (kdv_tup args)).push (excO C hp.objs.size), gs, dr, tk, oo⟩) : codeAny (model P w) Ar (.builtin newB ⟨.ref C :: args, []⟩) Rs ⟨hp, gs, dr, tk, oo⟩ := by
  have en := F.ends
  have iB : (Value.ref C :: line).contains (.type B) = true := by
    rw [List.contains_cons, L.hb]
    exact Bool.or_true _
  have iA : (Value.ref C :: line).contains (.type "AttributeError") = false := by
    rw [List.contains_cons, L.ha]
    rfl
  have iN : (Value.ref C :: line).contains (.type "NameError") = false := by
    rw [List.contains_cons, L.hn]
    rfl
  refine codeAny_builtinAt F.entry ?_
  unfold Builtin.«BaseException.__new__»
  refine PySem.wpAt_bind ?_
  show PySem.wpAt _ _ _ (stack >>= _) _ _ _
  refine PySem.wpAt_bind (PySem.wpAt_stack fun p below => PySem.wpAt_of_wpAny ?_)
  wp_walk
  refine PySem.wpAt_of_wpAny ?_
  rw [F.owner]
  repeat (first
    | with_reducible refine wpAny_madeHere_exc F.canon cl ?_
    | with_reducible refine wpAny_loadPart_at cl ?_
    | (with_reducible refine wpAny_isSubtype_exc cl ?_; first | rw [iB] | rw [iA] | rw [iN])
    | wp_step)
  show Rs _ _
  rw [Heap.size_push]
  exact q
theorem mk_type (F : ExcBaseFacts B newB iniB lineB) (L : MkLine B line) {args : List Value} {fn : Addr} {Q : Fin → Shared → Prop} (cl : hp.get? C = some (excClassObj c1 c2 C ns bases line dct slots subs abs coll del a0 a1 a2 a3 a5 newB))
    (li : Looks (model P w) hp (typeLookup (.ref C) "__init__") (some (.ref fn))) (lb : ∀ self, Looks (model P w) hp (bindSpecial (.ref fn) self) (.ref fn, [self])) (size : args.length ≤ sizeLine)
    (q : codeAny (model P w) Ar (.call (.ref fn) ⟨.ref (hp.objs.size + 1) :: args, []⟩) (fun r s' => match r with | .ok (.ret v) => v = .none ∧ Q (.done (.ret (.ref (hp.objs.size + 1)))) s' | .ok _ => False | .error e => Ex e s') ⟨(hp.push (kdv_tup args)).push (excO C hp.objs.size), gs, dr, tk, oo⟩) :
    wpAny (model P w) Ar (Builtin.«type.__call__» ⟨.ref C :: args, []⟩) Q Ex ⟨hp, gs, dr, tk, oo⟩ := by
  repeat (first
    | with_reducible refine wpAny_loadPart_at cl ?_
    | with_reducible refine wpAny_madeBy_exc cl ?_
    | wp_step)
  refine codeAny_call_builtin_code (Code.quiet_builtin _ F.quiet) (mk_check F L cl (mk_new F L cl size ?_))
  show wpAny _ _ _ _ _ _
  have kp : ∀ b o, hp.get? b = some o → ((hp.push (kdv_tup args)).push (excO C hp.objs.size)).get? b = some o := fun b o e => Heap.get?_push_of_some _ (Heap.get?_push_of_some _ e)
  have cl1 := kp _ _ cl
  have at_ : ((hp.push (kdv_tup args)).push (excO C hp.objs.size)).get? (hp.objs.size + 1) = some (excO C hp.objs.size) := by heap_get
  have own : (Value.ref C :: line).contains (.ref C) = true := by simp
  have li1 := li.keeps kp
  have lb1 := (lb (.ref (hp.objs.size + 1))).keeps kp
  unfold isInstance
  repeat (first
    | with_reducible refine wpAny_loadPart_at at_ ?_
    | (with_reducible refine wpAny_isSubtype_exc cl1 ?_; rw [own])
    | wp_step)
  show wpAny _ _ (typeLookup (.ref C) _) _ _ _
  refine li1.at (wpAny_holding (wpAny_bind (lb1.at (wpAny_bind (wpAny_call (codeAny_mono q fun r s' z => ?_))))))
  rcases r with e | (v | _ | _ | _) <;> first | exact z | exact z.elim | skip
  obtain ⟨rfl, z⟩ := z
  first
    | exact wpAny_pure (wpAny_pure z)
    | (wp_walk; exact z)
theorem mk_call (F : ExcBaseFacts B newB iniB lineB) (L : MkLine B line) {args : List Value} {fn : Addr} (cl : hp.get? C = some (excClassObj c1 c2 C ns bases line dct slots subs abs coll del a0 a1 a2 a3 a5 newB))
    (li : Looks (model P w) hp (typeLookup (.ref C) "__init__") (some (.ref fn))) (lb : ∀ self, Looks (model P w) hp (bindSpecial (.ref fn) self) (.ref fn, [self])) (size : args.length ≤ sizeLine)
    (q : codeAny (model P w) (Ar.under (.builtin "type.__call__" ⟨.ref C :: args, []⟩)) (.call (.ref fn) ⟨.ref (hp.objs.size + 1) :: args, []⟩) (InitBack (hp.objs.size + 1) Rs) ⟨(hp.push (kdv_tup args)).push (excO C hp.objs.size), gs, dr, tk, oo⟩) :
    codeAny (model P w) Ar (.call (.ref C) ⟨args, []⟩) Rs ⟨hp, gs, dr, tk, oo⟩ := by
  have t1 := tc_lookup
  have t2 := tc_bind (.ref C)
  have ty : (⟨hp, gs, dr, tk, oo⟩ : Shared).TypeIs (.ref C) "type" := ⟨_, cl, rfl⟩
  refine codeAny_of_tree (show wpAny _ _ (callAny (.ref C) _) _ _ _ from ?_)
  repeat (any_goals (first
    | assumption
    | with_reducible refine wpAny_loadPart_at cl ?_
    | wp_step))
  refine ⟨rfl, ?_⟩
  refine codeAny_call_builtin_at (Code.quiet_builtin _ (by decide +kernel)) entry_typeCall (wpAny_check_type_call_sub cl (mk_type F L cl li lb size ?_))
  refine codeAny_mono q fun r s' z => ?_
  rcases r with e | (v | _ | _ | _) <;> exact z
end
theorem ky_line : MkLine "LookupError" KyLine := ⟨by decide +kernel, by decide +kernel, by decide +kernel⟩
theorem MkLine.own {B : String} {line : List Value} {c : Addr} (l : MkLine B line) : MkLine B (.ref c :: line) := ⟨by rw [List.contains_cons, l.hb]; exact Bool.or_true _, by rw [List.contains_cons, l.ha]; rfl, by rw [List.contains_cons, l.hn]; rfl⟩
end Pk
namespace Pk
open PySem PySem.Spec PySem.W PySem.Calls PyProof.Rows PySem.HandSPX
open Builtin Builtin.ObjectAttr
/-- what a class's line of ancestors must bear: that its errors are made, and their fields stored -/
structure ErrLine (B : String) (line : List Value) : Prop where
  mkl : MkLine B line
  pass : ∀ self : Value, refuseLoop self "__setattr__" line = pure ()
  obj : line.contains (.type "object") = true
theorem ErrLine.own {B : String} {line : List Value} {c : Addr} (l : ErrLine B line) : ErrLine B (.ref c :: line) where
  mkl := l.mkl.own
  pass := fun self => by
    rw [refuseLoop_ref]
    exact l.pass self
  obj := by
    rw [List.contains_cons, l.obj]
    exact Bool.or_true _
section
variable {prog : Program} {w : World} {A : Around} {E : Value → Shared → Prop} {R : Result → Shared → Prop} {hp : Heap} {g : Array GenState} {d : Drawn} {t : Nat} {os : OsState}
/-- the first field of an error -/
theorem err_first {K : Frag} {name : Str} {tk : Tok} {v : Value} {x C : Addr} {fv : Array Value} {cd : ClassData} (X : K.In hp) (hx : hp.get? x = some { cls := .ref C, data := .fields fv }) (hcd : clsIn K C = some cd) (hob : cd.mro.contains (.type "object") = true) (pass : ∀ self : Value, refuseLoop self "__setattr__" cd.mro = pure ()) (ne : cd.mro.isEmpty = false)
    (hh : cd.hasDict = true) (ha : findIn K (.ref C) name = some none)
    (hq : ∀ h' tk' dx, (∀ b o, b ≠ x → hp.get? b = some o → h'.get? b = some o) → hp.objs.size ≤ dx → dx ≠ x → h'.get? x = some { cls := .ref C, dict := some dx, data := .fields fv } → h'.Ns1 dx (fun y => if y = name then some v else none) → R (.ok (.ret .none)) ⟨h', g, d, tk', os⟩) :
    codeAny (model prog w) A (.call (.builtin "object.__setattr__") ⟨[.ref x, .str name tk, v], []⟩) R ⟨hp, g, d, t, os⟩ := by
  have I : InstAt hp x { cls := .ref C, data := .fields fv } C none := ⟨hx, rfl, rfl, trivial⟩
  have hxs : x ≠ hp.objs.size := Nat.ne_of_lt (Heap.lt_size hx)
  have mro_ : mroIn K C (.type "object") = some true := by
    unfold mroIn
    rw [hcd, Option.bind_some, if_neg (by rw [ne]; exact Bool.false_ne_true), hob]
  have isObj : Looks (model prog w) hp (isInstance (.ref x) (.type "object")) true := I.type.andThen (looks_mroIn X mro_)
  refine codeAny_call_builtin F.store_object.slot.plain F.store_object.entry (@check_slot (model prog w) _ _ ⟨hp, g, d, t, os⟩ "object.__setattr__" "object" "__setattr__" (.ref x) [.str name tk, v] [] _ F.store_object.kind F.store_object.split isObj (F.store_object.args (.ref x) (.str name tk) v) ?_)
  have Lm : Looks (model prog w) hp (mroOf (.ref C)) cd.mro := (looks_clsIn X hcd).andThen .now
  have Lt : Looks (model prog w) hp (storeTaker? none) none := .now
  have Lc : Looks (model prog w) hp (classData C) cd := looks_clsIn X hcd
  rw [osa_eq, refuse_eq]
  refine wpAny_bind (wpAny_bind (I.type.at (wpAny_bind (Lm.at ?_))))
  rw [pass]
  refine wpAny_pure (wpAny_bind (I.type.at (wpAny_bind ((looks_findIn X ha).at (wpAny_bind (Lt.at ?_))))))
  show wpAny _ _ (storeInOwnDict (.ref x) (.ref C) (.str name tk) name v false) _ _ _
  obtain ⟨nm, bs, mro, ns, qn, hd, sn, sb, ab, col, del⟩ := cd
  dsimp only at hh
  subst hh
  unfold storeInOwnDict ownDictForStores
  repeat (first | with_reducible refine store_in_new ?_ ?_ | with_reducible refine wpAny_loadPart_at hx ?_ | with_reducible refine Lc.at ?_ | wp_step)
  · exact ⟨_, #[], _, (Heap.get?_update_ne _ _ _ _ hxs.symm).trans (Heap.get?_push_at rfl rfl), rfl, fun e he => absurd he (by simp), fun _ => rfl⟩
  · intro h' tk' hn' hs
    refine hq h' tk' hp.objs.size ?_ (Nat.le_refl _) hxs.symm ?_ hn'
    · intro b o hb ho
      exact (hs.2 b (Nat.ne_of_lt (Heap.lt_size ho))).trans ((Heap.get?_update_ne _ _ _ _ hb).trans (Heap.get?_push_of_some _ ho))
    · exact (hs.2 x hxs).trans (Heap.get?_update_self _ (Heap.get?_push_of_some _ hx) rfl)
/-- a further field -/
theorem err_next {K : Frag} {name : Str} {tk : Tok} {v : Value} {x C dx : Addr} {fv : Array Value} {cd : ClassData} {m0 : Str → Option Value} {nl : List Str} (X : K.In hp) (hx : hp.get? x = some { cls := .ref C, dict := some dx, data := .fields fv }) (hns : hp.Ns1 dx m0) (hw : Within m0 nl) (hz : nl.length ≤ 1000)
    (hcd : clsIn K C = some cd) (hob : cd.mro.contains (.type "object") = true) (pass : ∀ self : Value, refuseLoop self "__setattr__" cd.mro = pure ()) (ne : cd.mro.isEmpty = false) (hh : cd.hasDict = true) (ha : findIn K (.ref C) name = some none)
    (hq : ∀ h' tk', (∀ b o, b ≠ dx → hp.get? b = some o → h'.get? b = some o) → h'.Ns1 dx (fun y => if y = name then some v else m0 y) → R (.ok (.ret .none)) ⟨h', g, d, tk', os⟩) :
    codeAny (model prog w) A (.call (.builtin "object.__setattr__") ⟨[.ref x, .str name tk, v], []⟩) R ⟨hp, g, d, t, os⟩ := by
  obtain ⟨oD, eD, pD, gD, _, _⟩ := hns.count hw
  have I : InstAt hp x { cls := .ref C, dict := some dx, data := .fields fv } C (some oD) := ⟨hx, rfl, rfl, gD⟩
  have mro_ : mroIn K C (.type "object") = some true := by
    unfold mroIn
    rw [hcd, Option.bind_some, if_neg (by rw [ne]; exact Bool.false_ne_true), hob]
  have isObj : Looks (model prog w) hp (isInstance (.ref x) (.type "object")) true := I.type.andThen (looks_mroIn X mro_)
  refine codeAny_call_builtin F.store_object.slot.plain F.store_object.entry (@check_slot (model prog w) _ _ ⟨hp, g, d, t, os⟩ "object.__setattr__" "object" "__setattr__" (.ref x) [.str name tk, v] [] _ F.store_object.kind F.store_object.split isObj (F.store_object.args (.ref x) (.str name tk) v) ?_)
  have Lm : Looks (model prog w) hp (mroOf (.ref C)) cd.mro := (looks_clsIn X hcd).andThen .now
  have Lt : Looks (model prog w) hp (storeTaker? none) none := .now
  have Lc : Looks (model prog w) hp (classData C) cd := looks_clsIn X hcd
  rw [osa_eq, refuse_eq]
  refine wpAny_bind (wpAny_bind (I.type.at (wpAny_bind (Lm.at ?_))))
  rw [pass]
  refine wpAny_pure (wpAny_bind (I.type.at (wpAny_bind ((looks_findIn X ha).at (wpAny_bind (Lt.at ?_))))))
  show wpAny _ _ (storeInOwnDict (.ref x) (.ref C) (.str name tk) name v false) _ _ _
  obtain ⟨nm, bs, mro, ns, qn, hd, sn, sb, ab, col, del⟩ := cd
  dsimp only at hh
  subst hh
  unfold storeInOwnDict ownDictForStores
  repeat (first | with_reducible refine PySem.OEX.store_in_old hns hw hz ?_ | with_reducible refine wpAny_loadPart_at hx ?_ | with_reducible refine Lc.at ?_ | wp_step)
  intro h' tk' hn' hs
  exact hq h' tk' (fun b o hb ho => (hs.2 b hb).trans ho) hn'
end
end Pk
namespace Pk
open PySem PySem.Spec PyProof.Rows L2
/-! ### errors of the field part, over any base -/
namespace Er_part
open PySem.W PySem.Calls PySem.HandSPX
/-- the class called nm, at C, and its __init__, at fI, as the top has left them -/
structure Tx (K : Frag) (mg : Str → Option Value) (nm ql : Str) (C fI : Addr) (B newId initId : String) (bmB : List Value) : Prop where
  base : ExcBaseFacts B newId initId bmB
  gC : mg nm = some (.ref C)
  cls : ∃ n1 q N bs bm sn sub ab col dd k0 k1 k2 k3 k5, K.lookup C = some (excClassObj n1 q C N bs bm true sn sub ab col dd k0 k1 k2 k3 k5 newId) ∧ ErrLine B bm
  sa : findIn K (.ref C) "__setattr__" = some (some (.builtin "object.__setattr__"))
  ex : ExcC K C
  noN : findIn K (.ref C) "part" = some none
  iC : findIn K (.ref C) "__init__" = some (some (.ref fI))
  tC : typeIn K (.ref fI) = some (.type "function")
  kC : keepIn K (.ref C) = true
  tyC : typeIn K (.ref C) = some (.type "type")
  fn : ∃ (oc : Value) (od : Option Addr) (doc pm : Value) (an : Option Addr) (cdv ct : Value) (osl : Array (Option Value)) (p1 p2 q1 q2 q3 q4 : Pos),
    K.lookup fI = some ⟨oc, od, .func (fnOf "__init__" ql (Of_part.iA p1 p2) (Of_part.iB q1 q2 q3 q4) Of_part.iS .none .none doc pm an cdv ct), osl⟩ ∧ codeIn K cdv ql = true
section
variable {prog : Program} {w : World} {A : Around} {E : Value → Shared → Prop} {R : Result → Shared → Prop} {s : Shared} {K : Frag} {mg : Str → Option Value} {nm ql : Str} {C fI : Addr} {B newId initId : String} {bmB : List Value}
theorem made (T : Tx K mg nm ql C fI B newId initId bmB) {v : Value} (X : K.In s.heap) (hlim : s.heap.NoLimit) (hroom : A.depth + 1 < recursionLimit) (hq : ∀ h' tk e d, Of_part.Made s.heap h' e C d v → R (.ok (.ret (.ref e))) { s with heap := h', toks := tk }) :
    codeAny (model prog w) A (.call (.ref C) ⟨[v], []⟩) R s := by
  obtain ⟨n1, q, N, bs, bm, sn, sub, ab, col, dd, k0, k1, k2, k3, k5, hC, ln⟩ := T.cls
  obtain ⟨oc, od, doc, pm, an, cdv, ct, osl, p1, p2, q1, q2, q3, q4, ho, hcd⟩ := T.fn
  have hcl : clsIn K C = some { name := n1, bases := bs, mro := .ref C :: bm, ns := N, qualname := q, hasDict := true, slotNames := sn, subclasses := sub, abstract := ab, collection := col, hasDel := false } := by
    unfold clsIn
    rw [hC]
  obtain ⟨hp, g, dr, tk, os⟩ := s
  have k : ∀ b o, hp.get? b = some o → ((hp.push (kdv_tup [v])).push (excO C hp.objs.size)).get? b = some o := fun b o e => Heap.get?_push_of_some _ (Heap.get?_push_of_some _ e)
  have hx : ((hp.push (kdv_tup [v])).push (excO C hp.objs.size)).get? (hp.objs.size + 1) = some (excO C hp.objs.size) := by heap_get
  refine mk_call T.base ln.mkl (X _ _ hC) (looks_findIn X T.iC) (fun self => bind_fn X self T.tC) (one_size v) ?_
  have X1 := X.keeps k
  have lim1 : ((hp.push (kdv_tup [v])).push (excO C hp.objs.size)).NoLimit := hlim.keeps k
  have size1 : ((hp.push (kdv_tup [v])).push (excO C hp.objs.size)).objs.size = hp.objs.size + 1 + 1 := by rw [Heap.size_push, Heap.size_push]
  generalize (hp.push (kdv_tup [v])).push (excO C hp.objs.size) = h1 at k hx X1 lim1 size1 ⊢
  refine Att.call_fn (binds := [("self", .ref (hp.objs.size + 1)), ("part", v)]) X1 lim1 ho hcd hroom (BindsTo.of_eq (by first | rfl | with_unfolding_all rfl)) (by first | rfl | decide | with_unfolding_all rfl) (fun s₁ IC => ?_) rfl rfl rfl
  obtain ⟨h₁, tk₁, rfl⟩ := IC.toInCall.same
  have k1' : ∀ b o, h1.get? b = some o → h₁.get? b = some o := IC.toInCall.keep
  have hn := IC.toInCall.ns
  show wpAny _ _ (execs _ _) _ _ _
  refine wpAny_execs_cons (plainObj_wpAny_Assign_Attribute ?_)
  refine ldC (v := v) hn (by first | rfl | with_unfolding_all rfl | kernel_rfl) (ldC (v := .ref (hp.objs.size + 1)) hn (by first | rfl | with_unfolding_all rfl | kernel_rfl) ?_)
  refine set_plain (X1.keeps k1') (ox := excO C hp.objs.size) (od := none) ⟨k1' _ _ hx, rfl, rfl, trivial⟩ T.sa ?_
  refine err_first (X1.keeps k1') (k1' _ _ hx) hcl ln.own.obj ln.own.pass rfl rfl T.noN (fun h₃ tk₃ dx k₃ dn dne hx₃ hn₃ => ?_)
  show wpAny _ _ (execs _ _) _ _ _
  have z : h1.objs.size < h₁.objs.size := hn.lt
  have lt_ : ∀ {b : Addr} {o : Obj}, hp.get? b = some o → b ≠ hp.objs.size + 1 := fun {b o} e => Nat.ne_of_lt (Nat.lt_succ_of_lt (Heap.lt_size e))
  refine wpAny_execs_nil ⟨rfl, hq h₃ tk₃ (hp.objs.size + 1) dx ⟨fun b o e => k₃ b o (lt_ e) (k1' b o (k b o e)), Nat.le_succ _, ⟨_, _, hx₃, rfl, rfl, rfl, rfl⟩, ?_, dne, hn₃⟩⟩
  have dn' : h₁.objs.size ≤ dx := dn
  show hp.objs.size ≤ dx
  omega
end
end Er_part
section
variable {X : Cx} {nm ql : Str} {C fI : Addr} {B newId initId : String} {bmB : List Value}
/-- raise nm(e) -/
theorem pmkE_part {a : Expr} {ta : TA} {p pos : Pos} {k : Nat} (T : Er_part.Tx X.K X.mg nm ql C fI B newId initId bmB) (hr : Room k X.A) (ha : PA X [a] ta) (hg : Gl X nm := by rfl) (hdb : (nm == ("__debug__" : Str)) = false := by decide)
    (he : starEach (a :: []) X.env = (false, eval a X.env) :: starEach [] X.env := by rfl) (hpl : (backTo pos (starEach [] X.env)).any (·.1) = false := by rfl) :
    PMk X (.Call (.Name nm p) [a] [] pos) (tMk_part C ta) := by
  intro pins s σ H Q I h
  refine wpAny_Call_Name_kw (ld_glob I hg T.gC ?_ hdb)
  refine PySem.W.callWith_K (h₀ := X.base) I.ok.mod.kin T.kC (thn (ha.run pos pins s σ H _ I h) fun us s1 hh => ?_) he hpl
  obtain ⟨vs, H1, I1, r1, v, ev, q1⟩ := hh
  subst ev
  refine ⟨I1.kIn, ?_⟩
  cases r1 with
  | cons rv rn =>
    rename_i v' us'
    cases rn
    show wpAny _ _ (call (.ref C) [v']) _ _ _
    have hlim := I1.nolimit
    obtain ⟨hp, g, dr, tk, os⟩ := s1
    refine wpAny_call (Er_part.made T I1.kIn hlim (by have := hr.dp; omega) fun h' tk' e d M => ?_)
    show MkP X pins σ Q (.ref e) ⟨h', g, dr, tk', os⟩
    obtain ⟨oe, fv, hoe, hc, hd, hdat, h1⟩ := M.obj
    have hns := M.ns
    obtain ⟨G', g1, g2⟩ := restrict h' fun b => decide (b ≠ e)
    have gk : ∀ b, b ≠ e → G'.get? b = h'.get? b := fun b hb => g1 b (decide_eq_true hb)
    have ge : G'.get? e = none := g2 e (by simp)
    have old : ∀ b o, hp.get? b = some o → G'.get? b = some o := fun b o q => (gk b (Nat.ne_of_lt (Nat.lt_of_lt_of_le (Heap.lt_size q) M.new))).trans (M.keep b o q)
    have ob : ObjOk X.prog X.w (upd H1 d (.xd [(("part" : Str), v)])) G' d (.xd [(("part" : Str), v)]) :=
      ⟨_, hns.at (fun o q => (gk d M.dne).trans q), fun f => relO_part rv f⟩
    have J : L2.Inv X pins σ (upd H1 d (.xd [(("part" : Str), v)])) ⟨G', g, dr, tk', os⟩ := I1.laid (t' := tk') old M.dbig ob
    refine ⟨e, oe, fv, ⟨G', g, dr, tk', os⟩, _, .ref C, some d, rfl, J, fun b o q => ?_, ge, hoe, ⟨hc, hd⟩, hdat, h1, ?_, rfl, I1.bare, raises_own T.ex.hs T.tyC, q1 d (I1.hok.fresh M.dbig)⟩
    · by_cases hb : b = e
      · have q' : G'.get? b = some o := q
        rw [hb, ge] at q'
        cases q'
      · exact (gk b hb).symm.trans q
    · rw [upd_ne (Ne.symm M.dne)]
      exact I1.hok.fresh M.new
theorem ps_raiseE_part {a : Expr} {ta : TA} {W : WX} {p pos pos2 : Pos} {k : Nat} (hc : X.calm = true) (T : Er_part.Tx X.K X.mg nm ql C fI B newId initId bmB) (hr : Room k X.A) (tk : Takes X W) (ha : PA X [a] ta) (hg : Gl X nm := by rfl) (hdb : (nm == ("__debug__" : Str)) = false := by decide)
    (he : starEach (a :: []) X.env = (false, eval a X.env) :: starEach [] X.env := by rfl) (hpl : (backTo pos (starEach [] X.env)).any (·.1) = false := by rfl) :
    PS X (.Raise (some (.Call (.Name nm p) [a] [] pos)) none pos2) (tRaise_part C W ta) := ps_raise hc tk (pmkE_part T hr ha hg hdb he hpl)
/-- nm(e) as a value -/
def tVal_part (C : Addr) (ta : TA) : TE := fun σ H Q => ta σ H fun vs H1 => ∃ v, vs = [v] ∧ ∀ e d, H1 e = none → H1 d = none → d ≠ e → Q (.ref e) (upd (upd H1 d (.xd [(("part" : Str), v)])) e (ExH (.ref C) (some d) e))
theorem pe_val_part {a : Expr} {ta : TA} {p pos : Pos} {k : Nat} (T : Er_part.Tx X.K X.mg nm ql C fI B newId initId bmB) (hr : Room k X.A) (ha : PA X [a] ta) (hg : Gl X nm := by rfl) (hdb : (nm == ("__debug__" : Str)) = false := by decide)
    (he : starEach (a :: []) X.env = (false, eval a X.env) :: starEach [] X.env := by rfl) (hpl : (backTo pos (starEach [] X.env)).any (·.1) = false := by rfl) :
    PE X (.Call (.Name nm p) [a] [] pos) (tVal_part C ta) := by
  constructor
  intro pins s σ H Q I h
  refine wpAny_Call_Name_kw (ld_glob I hg T.gC ?_ hdb)
  refine PySem.W.callWith_K (h₀ := X.base) I.ok.mod.kin T.kC (thn (ha.run pos pins s σ H _ I h) fun us s1 hh => ?_) he hpl
  obtain ⟨vs, H1, I1, r1, v, ev, q1⟩ := hh
  subst ev
  refine ⟨I1.kIn, ?_⟩
  cases r1 with
  | cons rv rn =>
    rename_i v' us'
    cases rn
    show wpAny _ _ (call (.ref C) [v']) _ _ _
    have hlim := I1.nolimit
    obtain ⟨hp, g, dr, tk, os⟩ := s1
    refine wpAny_call (Er_part.made T I1.kIn hlim (by have := hr.dp; omega) fun h' tk' e d M => ?_)
    obtain ⟨oe, fv, hoe, hc, hd, hdat, h1⟩ := M.obj
    have hns := M.ns
    obtain ⟨G', g1, g2⟩ := restrict h' fun b => decide (b ≠ e)
    have gk : ∀ b, b ≠ e → G'.get? b = h'.get? b := fun b hb => g1 b (decide_eq_true hb)
    have ge : G'.get? e = none := g2 e (by simp)
    have old : ∀ b o, hp.get? b = some o → G'.get? b = some o := fun b o q => (gk b (Nat.ne_of_lt (Nat.lt_of_lt_of_le (Heap.lt_size q) M.new))).trans (M.keep b o q)
    have ob : ObjOk X.prog X.w (upd H1 d (.xd [(("part" : Str), v)])) G' d (.xd [(("part" : Str), v)]) :=
      ⟨_, hns.at (fun o q => (gk d M.dne).trans q), fun f => relO_part rv f⟩
    have J : L2.Inv X pins σ (upd H1 d (.xd [(("part" : Str), v)])) ⟨G', g, dr, tk', os⟩ := I1.laid (t' := tk') old M.dbig ob
    have fe : H1 e = none := I1.hok.fresh M.new
    have fd : H1 d = none := I1.hok.fresh M.dbig
    have J2 : L2.Inv X pins σ (upd (upd H1 d (.xd [(("part" : Str), v)])) e (ExH (.ref C) (some d) e)) ⟨h', g, dr, tk', os⟩ := J.laidN (h' := h') (t' := tk') (fun b u q => by
      by_cases hb : b = e
      · have q' : G'.get? b = some u := q
        rw [hb, ge] at q'
        cases q'
      · exact (gk b hb).symm.trans q) ge (by rw [upd_ne (Ne.symm M.dne)]; exact fe) (held_ok hoe ⟨hc, hd⟩ hdat)
    exact ⟨.ref e, _, J2, rfl, q1 e d fe fd M.dne⟩
end
/-! ### errors of the field wanted, over any base -/
namespace Er_wanted
open PySem.W PySem.Calls PySem.HandSPX
/-- the class called nm, at C, and its __init__, at fI, as the top has left them -/
structure Tx (K : Frag) (mg : Str → Option Value) (nm ql : Str) (C fI : Addr) (B newId initId : String) (bmB : List Value) : Prop where
  base : ExcBaseFacts B newId initId bmB
  gC : mg nm = some (.ref C)
  cls : ∃ n1 q N bs bm sn sub ab col dd k0 k1 k2 k3 k5, K.lookup C = some (excClassObj n1 q C N bs bm true sn sub ab col dd k0 k1 k2 k3 k5 newId) ∧ ErrLine B bm
  sa : findIn K (.ref C) "__setattr__" = some (some (.builtin "object.__setattr__"))
  ex : ExcC K C
  noN : findIn K (.ref C) "wanted" = some none
  iC : findIn K (.ref C) "__init__" = some (some (.ref fI))
  tC : typeIn K (.ref fI) = some (.type "function")
  kC : keepIn K (.ref C) = true
  tyC : typeIn K (.ref C) = some (.type "type")
  fn : ∃ (oc : Value) (od : Option Addr) (doc pm : Value) (an : Option Addr) (cdv ct : Value) (osl : Array (Option Value)) (p1 p2 q1 q2 q3 q4 : Pos),
    K.lookup fI = some ⟨oc, od, .func (fnOf "__init__" ql (Of_wanted.iA p1 p2) (Of_wanted.iB q1 q2 q3 q4) Of_wanted.iS .none .none doc pm an cdv ct), osl⟩ ∧ codeIn K cdv ql = true
section
variable {prog : Program} {w : World} {A : Around} {E : Value → Shared → Prop} {R : Result → Shared → Prop} {s : Shared} {K : Frag} {mg : Str → Option Value} {nm ql : Str} {C fI : Addr} {B newId initId : String} {bmB : List Value}
theorem made (T : Tx K mg nm ql C fI B newId initId bmB) {v : Value} (X : K.In s.heap) (hlim : s.heap.NoLimit) (hroom : A.depth + 1 < recursionLimit) (hq : ∀ h' tk e d, Of_wanted.Made s.heap h' e C d v → R (.ok (.ret (.ref e))) { s with heap := h', toks := tk }) :
    codeAny (model prog w) A (.call (.ref C) ⟨[v], []⟩) R s := by
  obtain ⟨n1, q, N, bs, bm, sn, sub, ab, col, dd, k0, k1, k2, k3, k5, hC, ln⟩ := T.cls
  obtain ⟨oc, od, doc, pm, an, cdv, ct, osl, p1, p2, q1, q2, q3, q4, ho, hcd⟩ := T.fn
  have hcl : clsIn K C = some { name := n1, bases := bs, mro := .ref C :: bm, ns := N, qualname := q, hasDict := true, slotNames := sn, subclasses := sub, abstract := ab, collection := col, hasDel := false } := by
    unfold clsIn
    rw [hC]
  obtain ⟨hp, g, dr, tk, os⟩ := s
  have k : ∀ b o, hp.get? b = some o → ((hp.push (kdv_tup [v])).push (excO C hp.objs.size)).get? b = some o := fun b o e => Heap.get?_push_of_some _ (Heap.get?_push_of_some _ e)
  have hx : ((hp.push (kdv_tup [v])).push (excO C hp.objs.size)).get? (hp.objs.size + 1) = some (excO C hp.objs.size) := by heap_get
  refine mk_call T.base ln.mkl (X _ _ hC) (looks_findIn X T.iC) (fun self => bind_fn X self T.tC) (one_size v) ?_
  have X1 := X.keeps k
  have lim1 : ((hp.push (kdv_tup [v])).push (excO C hp.objs.size)).NoLimit := hlim.keeps k
  have size1 : ((hp.push (kdv_tup [v])).push (excO C hp.objs.size)).objs.size = hp.objs.size + 1 + 1 := by rw [Heap.size_push, Heap.size_push]
  generalize (hp.push (kdv_tup [v])).push (excO C hp.objs.size) = h1 at k hx X1 lim1 size1 ⊢
  refine Att.call_fn (binds := [("self", .ref (hp.objs.size + 1)), ("wanted", v)]) X1 lim1 ho hcd hroom (BindsTo.of_eq (by first | rfl | with_unfolding_all rfl)) (by first | rfl | decide | with_unfolding_all rfl) (fun s₁ IC => ?_) rfl rfl rfl
  obtain ⟨h₁, tk₁, rfl⟩ := IC.toInCall.same
  have k1' : ∀ b o, h1.get? b = some o → h₁.get? b = some o := IC.toInCall.keep
  have hn := IC.toInCall.ns
  show wpAny _ _ (execs _ _) _ _ _
  refine wpAny_execs_cons (plainObj_wpAny_Assign_Attribute ?_)
  refine ldC (v := v) hn (by first | rfl | with_unfolding_all rfl | kernel_rfl) (ldC (v := .ref (hp.objs.size + 1)) hn (by first | rfl | with_unfolding_all rfl | kernel_rfl) ?_)
  refine set_plain (X1.keeps k1') (ox := excO C hp.objs.size) (od := none) ⟨k1' _ _ hx, rfl, rfl, trivial⟩ T.sa ?_
  refine err_first (X1.keeps k1') (k1' _ _ hx) hcl ln.own.obj ln.own.pass rfl rfl T.noN (fun h₃ tk₃ dx k₃ dn dne hx₃ hn₃ => ?_)
  show wpAny _ _ (execs _ _) _ _ _
  have z : h1.objs.size < h₁.objs.size := hn.lt
  have lt_ : ∀ {b : Addr} {o : Obj}, hp.get? b = some o → b ≠ hp.objs.size + 1 := fun {b o} e => Nat.ne_of_lt (Nat.lt_succ_of_lt (Heap.lt_size e))
  refine wpAny_execs_nil ⟨rfl, hq h₃ tk₃ (hp.objs.size + 1) dx ⟨fun b o e => k₃ b o (lt_ e) (k1' b o (k b o e)), Nat.le_succ _, ⟨_, _, hx₃, rfl, rfl, rfl, rfl⟩, ?_, dne, hn₃⟩⟩
  have dn' : h₁.objs.size ≤ dx := dn
  show hp.objs.size ≤ dx
  omega
end
end Er_wanted
section
variable {X : Cx} {nm ql : Str} {C fI : Addr} {B newId initId : String} {bmB : List Value}
/-- raise nm(e) -/
theorem pmkE_wanted {a : Expr} {ta : TA} {p pos : Pos} {k : Nat} (T : Er_wanted.Tx X.K X.mg nm ql C fI B newId initId bmB) (hr : Room k X.A) (ha : PA X [a] ta) (hg : Gl X nm := by rfl) (hdb : (nm == ("__debug__" : Str)) = false := by decide)
    (he : starEach (a :: []) X.env = (false, eval a X.env) :: starEach [] X.env := by rfl) (hpl : (backTo pos (starEach [] X.env)).any (·.1) = false := by rfl) :
    PMk X (.Call (.Name nm p) [a] [] pos) (tMk_wanted C ta) := by
  intro pins s σ H Q I h
  refine wpAny_Call_Name_kw (ld_glob I hg T.gC ?_ hdb)
  refine PySem.W.callWith_K (h₀ := X.base) I.ok.mod.kin T.kC (thn (ha.run pos pins s σ H _ I h) fun us s1 hh => ?_) he hpl
  obtain ⟨vs, H1, I1, r1, v, ev, q1⟩ := hh
  subst ev
  refine ⟨I1.kIn, ?_⟩
  cases r1 with
  | cons rv rn =>
    rename_i v' us'
    cases rn
    show wpAny _ _ (call (.ref C) [v']) _ _ _
    have hlim := I1.nolimit
    obtain ⟨hp, g, dr, tk, os⟩ := s1
    refine wpAny_call (Er_wanted.made T I1.kIn hlim (by have := hr.dp; omega) fun h' tk' e d M => ?_)
    show MkP X pins σ Q (.ref e) ⟨h', g, dr, tk', os⟩
    obtain ⟨oe, fv, hoe, hc, hd, hdat, h1⟩ := M.obj
    have hns := M.ns
    obtain ⟨G', g1, g2⟩ := restrict h' fun b => decide (b ≠ e)
    have gk : ∀ b, b ≠ e → G'.get? b = h'.get? b := fun b hb => g1 b (decide_eq_true hb)
    have ge : G'.get? e = none := g2 e (by simp)
    have old : ∀ b o, hp.get? b = some o → G'.get? b = some o := fun b o q => (gk b (Nat.ne_of_lt (Nat.lt_of_lt_of_le (Heap.lt_size q) M.new))).trans (M.keep b o q)
    have ob : ObjOk X.prog X.w (upd H1 d (.xd [(("wanted" : Str), v)])) G' d (.xd [(("wanted" : Str), v)]) :=
      ⟨_, hns.at (fun o q => (gk d M.dne).trans q), fun f => relO_wanted rv f⟩
    have J : L2.Inv X pins σ (upd H1 d (.xd [(("wanted" : Str), v)])) ⟨G', g, dr, tk', os⟩ := I1.laid (t' := tk') old M.dbig ob
    refine ⟨e, oe, fv, ⟨G', g, dr, tk', os⟩, _, .ref C, some d, rfl, J, fun b o q => ?_, ge, hoe, ⟨hc, hd⟩, hdat, h1, ?_, rfl, I1.bare, raises_own T.ex.hs T.tyC, q1 d (I1.hok.fresh M.dbig)⟩
    · by_cases hb : b = e
      · have q' : G'.get? b = some o := q
        rw [hb, ge] at q'
        cases q'
      · exact (gk b hb).symm.trans q
    · rw [upd_ne (Ne.symm M.dne)]
      exact I1.hok.fresh M.new
theorem ps_raiseE_wanted {a : Expr} {ta : TA} {W : WX} {p pos pos2 : Pos} {k : Nat} (hc : X.calm = true) (T : Er_wanted.Tx X.K X.mg nm ql C fI B newId initId bmB) (hr : Room k X.A) (tk : Takes X W) (ha : PA X [a] ta) (hg : Gl X nm := by rfl) (hdb : (nm == ("__debug__" : Str)) = false := by decide)
    (he : starEach (a :: []) X.env = (false, eval a X.env) :: starEach [] X.env := by rfl) (hpl : (backTo pos (starEach [] X.env)).any (·.1) = false := by rfl) :
    PS X (.Raise (some (.Call (.Name nm p) [a] [] pos)) none pos2) (tRaise_wanted C W ta) := ps_raise hc tk (pmkE_wanted T hr ha hg hdb he hpl)
/-- nm(e) as a value -/
def tVal_wanted (C : Addr) (ta : TA) : TE := fun σ H Q => ta σ H fun vs H1 => ∃ v, vs = [v] ∧ ∀ e d, H1 e = none → H1 d = none → d ≠ e → Q (.ref e) (upd (upd H1 d (.xd [(("wanted" : Str), v)])) e (ExH (.ref C) (some d) e))
theorem pe_val_wanted {a : Expr} {ta : TA} {p pos : Pos} {k : Nat} (T : Er_wanted.Tx X.K X.mg nm ql C fI B newId initId bmB) (hr : Room k X.A) (ha : PA X [a] ta) (hg : Gl X nm := by rfl) (hdb : (nm == ("__debug__" : Str)) = false := by decide)
    (he : starEach (a :: []) X.env = (false, eval a X.env) :: starEach [] X.env := by rfl) (hpl : (backTo pos (starEach [] X.env)).any (·.1) = false := by rfl) :
    PE X (.Call (.Name nm p) [a] [] pos) (tVal_wanted C ta) := by
  constructor
  intro pins s σ H Q I h
  refine wpAny_Call_Name_kw (ld_glob I hg T.gC ?_ hdb)
  refine PySem.W.callWith_K (h₀ := X.base) I.ok.mod.kin T.kC (thn (ha.run pos pins s σ H _ I h) fun us s1 hh => ?_) he hpl
  obtain ⟨vs, H1, I1, r1, v, ev, q1⟩ := hh
  subst ev
  refine ⟨I1.kIn, ?_⟩
  cases r1 with
  | cons rv rn =>
    rename_i v' us'
    cases rn
    show wpAny _ _ (call (.ref C) [v']) _ _ _
    have hlim := I1.nolimit
    obtain ⟨hp, g, dr, tk, os⟩ := s1
    refine wpAny_call (Er_wanted.made T I1.kIn hlim (by have := hr.dp; omega) fun h' tk' e d M => ?_)
    obtain ⟨oe, fv, hoe, hc, hd, hdat, h1⟩ := M.obj
    have hns := M.ns
    obtain ⟨G', g1, g2⟩ := restrict h' fun b => decide (b ≠ e)
    have gk : ∀ b, b ≠ e → G'.get? b = h'.get? b := fun b hb => g1 b (decide_eq_true hb)
    have ge : G'.get? e = none := g2 e (by simp)
    have old : ∀ b o, hp.get? b = some o → G'.get? b = some o := fun b o q => (gk b (Nat.ne_of_lt (Nat.lt_of_lt_of_le (Heap.lt_size q) M.new))).trans (M.keep b o q)
    have ob : ObjOk X.prog X.w (upd H1 d (.xd [(("wanted" : Str), v)])) G' d (.xd [(("wanted" : Str), v)]) :=
      ⟨_, hns.at (fun o q => (gk d M.dne).trans q), fun f => relO_wanted rv f⟩
    have J : L2.Inv X pins σ (upd H1 d (.xd [(("wanted" : Str), v)])) ⟨G', g, dr, tk', os⟩ := I1.laid (t' := tk') old M.dbig ob
    have fe : H1 e = none := I1.hok.fresh M.new
    have fd : H1 d = none := I1.hok.fresh M.dbig
    have J2 : L2.Inv X pins σ (upd (upd H1 d (.xd [(("wanted" : Str), v)])) e (ExH (.ref C) (some d) e)) ⟨h', g, dr, tk', os⟩ := J.laidN (h' := h') (t' := tk') (fun b u q => by
      by_cases hb : b = e
      · have q' : G'.get? b = some u := q
        rw [hb, ge] at q'
        cases q'
      · exact (gk b hb).symm.trans q) ge (by rw [upd_ne (Ne.symm M.dne)]; exact fe) (held_ok hoe ⟨hc, hd⟩ hdat)
    exact ⟨.ref e, _, J2, rfl, q1 e d fe fd M.dne⟩
end
/-! ### errors of the field at, over any base -/
namespace Er_at
open PySem.W PySem.Calls PySem.HandSPX
/-- the class called nm, at C, and its __init__, at fI, as the top has left them -/
structure Tx (K : Frag) (mg : Str → Option Value) (nm ql : Str) (C fI : Addr) (B newId initId : String) (bmB : List Value) : Prop where
  base : ExcBaseFacts B newId initId bmB
  gC : mg nm = some (.ref C)
  cls : ∃ n1 q N bs bm sn sub ab col dd k0 k1 k2 k3 k5, K.lookup C = some (excClassObj n1 q C N bs bm true sn sub ab col dd k0 k1 k2 k3 k5 newId) ∧ ErrLine B bm
  sa : findIn K (.ref C) "__setattr__" = some (some (.builtin "object.__setattr__"))
  ex : ExcC K C
  noN : findIn K (.ref C) "at" = some none
  iC : findIn K (.ref C) "__init__" = some (some (.ref fI))
  tC : typeIn K (.ref fI) = some (.type "function")
  kC : keepIn K (.ref C) = true
  tyC : typeIn K (.ref C) = some (.type "type")
  fn : ∃ (oc : Value) (od : Option Addr) (doc pm : Value) (an : Option Addr) (cdv ct : Value) (osl : Array (Option Value)) (p1 p2 q1 q2 q3 q4 : Pos),
    K.lookup fI = some ⟨oc, od, .func (fnOf "__init__" ql (Of_at.iA p1 p2) (Of_at.iB q1 q2 q3 q4) Of_at.iS .none .none doc pm an cdv ct), osl⟩ ∧ codeIn K cdv ql = true
section
variable {prog : Program} {w : World} {A : Around} {E : Value → Shared → Prop} {R : Result → Shared → Prop} {s : Shared} {K : Frag} {mg : Str → Option Value} {nm ql : Str} {C fI : Addr} {B newId initId : String} {bmB : List Value}
theorem made (T : Tx K mg nm ql C fI B newId initId bmB) {v : Value} (X : K.In s.heap) (hlim : s.heap.NoLimit) (hroom : A.depth + 1 < recursionLimit) (hq : ∀ h' tk e d, Of_at.Made s.heap h' e C d v → R (.ok (.ret (.ref e))) { s with heap := h', toks := tk }) :
    codeAny (model prog w) A (.call (.ref C) ⟨[v], []⟩) R s := by
  obtain ⟨n1, q, N, bs, bm, sn, sub, ab, col, dd, k0, k1, k2, k3, k5, hC, ln⟩ := T.cls
  obtain ⟨oc, od, doc, pm, an, cdv, ct, osl, p1, p2, q1, q2, q3, q4, ho, hcd⟩ := T.fn
  have hcl : clsIn K C = some { name := n1, bases := bs, mro := .ref C :: bm, ns := N, qualname := q, hasDict := true, slotNames := sn, subclasses := sub, abstract := ab, collection := col, hasDel := false } := by
    unfold clsIn
    rw [hC]
  obtain ⟨hp, g, dr, tk, os⟩ := s
  have k : ∀ b o, hp.get? b = some o → ((hp.push (kdv_tup [v])).push (excO C hp.objs.size)).get? b = some o := fun b o e => Heap.get?_push_of_some _ (Heap.get?_push_of_some _ e)
  have hx : ((hp.push (kdv_tup [v])).push (excO C hp.objs.size)).get? (hp.objs.size + 1) = some (excO C hp.objs.size) := by heap_get
  refine mk_call T.base ln.mkl (X _ _ hC) (looks_findIn X T.iC) (fun self => bind_fn X self T.tC) (one_size v) ?_
  have X1 := X.keeps k
  have lim1 : ((hp.push (kdv_tup [v])).push (excO C hp.objs.size)).NoLimit := hlim.keeps k
  have size1 : ((hp.push (kdv_tup [v])).push (excO C hp.objs.size)).objs.size = hp.objs.size + 1 + 1 := by rw [Heap.size_push, Heap.size_push]
  generalize (hp.push (kdv_tup [v])).push (excO C hp.objs.size) = h1 at k hx X1 lim1 size1 ⊢
  refine Att.call_fn (binds := [("self", .ref (hp.objs.size + 1)), ("at", v)]) X1 lim1 ho hcd hroom (BindsTo.of_eq (by first | rfl | with_unfolding_all rfl)) (by first | rfl | decide | with_unfolding_all rfl) (fun s₁ IC => ?_) rfl rfl rfl
  obtain ⟨h₁, tk₁, rfl⟩ := IC.toInCall.same
  have k1' : ∀ b o, h1.get? b = some o → h₁.get? b = some o := IC.toInCall.keep
  have hn := IC.toInCall.ns
  show wpAny _ _ (execs _ _) _ _ _
  refine wpAny_execs_cons (plainObj_wpAny_Assign_Attribute ?_)
  refine ldC (v := v) hn (by first | rfl | with_unfolding_all rfl | kernel_rfl) (ldC (v := .ref (hp.objs.size + 1)) hn (by first | rfl | with_unfolding_all rfl | kernel_rfl) ?_)
  refine set_plain (X1.keeps k1') (ox := excO C hp.objs.size) (od := none) ⟨k1' _ _ hx, rfl, rfl, trivial⟩ T.sa ?_
  refine err_first (X1.keeps k1') (k1' _ _ hx) hcl ln.own.obj ln.own.pass rfl rfl T.noN (fun h₃ tk₃ dx k₃ dn dne hx₃ hn₃ => ?_)
  show wpAny _ _ (execs _ _) _ _ _
  have z : h1.objs.size < h₁.objs.size := hn.lt
  have lt_ : ∀ {b : Addr} {o : Obj}, hp.get? b = some o → b ≠ hp.objs.size + 1 := fun {b o} e => Nat.ne_of_lt (Nat.lt_succ_of_lt (Heap.lt_size e))
  refine wpAny_execs_nil ⟨rfl, hq h₃ tk₃ (hp.objs.size + 1) dx ⟨fun b o e => k₃ b o (lt_ e) (k1' b o (k b o e)), Nat.le_succ _, ⟨_, _, hx₃, rfl, rfl, rfl, rfl⟩, ?_, dne, hn₃⟩⟩
  have dn' : h₁.objs.size ≤ dx := dn
  show hp.objs.size ≤ dx
  omega
end
end Er_at
section
variable {X : Cx} {nm ql : Str} {C fI : Addr} {B newId initId : String} {bmB : List Value}
/-- raise nm(e) -/
theorem pmkE_at {a : Expr} {ta : TA} {p pos : Pos} {k : Nat} (T : Er_at.Tx X.K X.mg nm ql C fI B newId initId bmB) (hr : Room k X.A) (ha : PA X [a] ta) (hg : Gl X nm := by rfl) (hdb : (nm == ("__debug__" : Str)) = false := by decide)
    (he : starEach (a :: []) X.env = (false, eval a X.env) :: starEach [] X.env := by rfl) (hpl : (backTo pos (starEach [] X.env)).any (·.1) = false := by rfl) :
    PMk X (.Call (.Name nm p) [a] [] pos) (tMk_at C ta) := by
  intro pins s σ H Q I h
  refine wpAny_Call_Name_kw (ld_glob I hg T.gC ?_ hdb)
  refine PySem.W.callWith_K (h₀ := X.base) I.ok.mod.kin T.kC (thn (ha.run pos pins s σ H _ I h) fun us s1 hh => ?_) he hpl
  obtain ⟨vs, H1, I1, r1, v, ev, q1⟩ := hh
  subst ev
  refine ⟨I1.kIn, ?_⟩
  cases r1 with
  | cons rv rn =>
    rename_i v' us'
    cases rn
    show wpAny _ _ (call (.ref C) [v']) _ _ _
    have hlim := I1.nolimit
    obtain ⟨hp, g, dr, tk, os⟩ := s1
    refine wpAny_call (Er_at.made T I1.kIn hlim (by have := hr.dp; omega) fun h' tk' e d M => ?_)
    show MkP X pins σ Q (.ref e) ⟨h', g, dr, tk', os⟩
    obtain ⟨oe, fv, hoe, hc, hd, hdat, h1⟩ := M.obj
    have hns := M.ns
    obtain ⟨G', g1, g2⟩ := restrict h' fun b => decide (b ≠ e)
    have gk : ∀ b, b ≠ e → G'.get? b = h'.get? b := fun b hb => g1 b (decide_eq_true hb)
    have ge : G'.get? e = none := g2 e (by simp)
    have old : ∀ b o, hp.get? b = some o → G'.get? b = some o := fun b o q => (gk b (Nat.ne_of_lt (Nat.lt_of_lt_of_le (Heap.lt_size q) M.new))).trans (M.keep b o q)
    have ob : ObjOk X.prog X.w (upd H1 d (.xd [(("at" : Str), v)])) G' d (.xd [(("at" : Str), v)]) :=
      ⟨_, hns.at (fun o q => (gk d M.dne).trans q), fun f => relO_at rv f⟩
    have J : L2.Inv X pins σ (upd H1 d (.xd [(("at" : Str), v)])) ⟨G', g, dr, tk', os⟩ := I1.laid (t' := tk') old M.dbig ob
    refine ⟨e, oe, fv, ⟨G', g, dr, tk', os⟩, _, .ref C, some d, rfl, J, fun b o q => ?_, ge, hoe, ⟨hc, hd⟩, hdat, h1, ?_, rfl, I1.bare, raises_own T.ex.hs T.tyC, q1 d (I1.hok.fresh M.dbig)⟩
    · by_cases hb : b = e
      · have q' : G'.get? b = some o := q
        rw [hb, ge] at q'
        cases q'
      · exact (gk b hb).symm.trans q
    · rw [upd_ne (Ne.symm M.dne)]
      exact I1.hok.fresh M.new
theorem ps_raiseE_at {a : Expr} {ta : TA} {W : WX} {p pos pos2 : Pos} {k : Nat} (hc : X.calm = true) (T : Er_at.Tx X.K X.mg nm ql C fI B newId initId bmB) (hr : Room k X.A) (tk : Takes X W) (ha : PA X [a] ta) (hg : Gl X nm := by rfl) (hdb : (nm == ("__debug__" : Str)) = false := by decide)
    (he : starEach (a :: []) X.env = (false, eval a X.env) :: starEach [] X.env := by rfl) (hpl : (backTo pos (starEach [] X.env)).any (·.1) = false := by rfl) :
    PS X (.Raise (some (.Call (.Name nm p) [a] [] pos)) none pos2) (tRaise_at C W ta) := ps_raise hc tk (pmkE_at T hr ha hg hdb he hpl)
/-- nm(e) as a value -/
def tVal_at (C : Addr) (ta : TA) : TE := fun σ H Q => ta σ H fun vs H1 => ∃ v, vs = [v] ∧ ∀ e d, H1 e = none → H1 d = none → d ≠ e → Q (.ref e) (upd (upd H1 d (.xd [(("at" : Str), v)])) e (ExH (.ref C) (some d) e))
theorem pe_val_at {a : Expr} {ta : TA} {p pos : Pos} {k : Nat} (T : Er_at.Tx X.K X.mg nm ql C fI B newId initId bmB) (hr : Room k X.A) (ha : PA X [a] ta) (hg : Gl X nm := by rfl) (hdb : (nm == ("__debug__" : Str)) = false := by decide)
    (he : starEach (a :: []) X.env = (false, eval a X.env) :: starEach [] X.env := by rfl) (hpl : (backTo pos (starEach [] X.env)).any (·.1) = false := by rfl) :
    PE X (.Call (.Name nm p) [a] [] pos) (tVal_at C ta) := by
  constructor
  intro pins s σ H Q I h
  refine wpAny_Call_Name_kw (ld_glob I hg T.gC ?_ hdb)
  refine PySem.W.callWith_K (h₀ := X.base) I.ok.mod.kin T.kC (thn (ha.run pos pins s σ H _ I h) fun us s1 hh => ?_) he hpl
  obtain ⟨vs, H1, I1, r1, v, ev, q1⟩ := hh
  subst ev
  refine ⟨I1.kIn, ?_⟩
  cases r1 with
  | cons rv rn =>
    rename_i v' us'
    cases rn
    show wpAny _ _ (call (.ref C) [v']) _ _ _
    have hlim := I1.nolimit
    obtain ⟨hp, g, dr, tk, os⟩ := s1
    refine wpAny_call (Er_at.made T I1.kIn hlim (by have := hr.dp; omega) fun h' tk' e d M => ?_)
    obtain ⟨oe, fv, hoe, hc, hd, hdat, h1⟩ := M.obj
    have hns := M.ns
    obtain ⟨G', g1, g2⟩ := restrict h' fun b => decide (b ≠ e)
    have gk : ∀ b, b ≠ e → G'.get? b = h'.get? b := fun b hb => g1 b (decide_eq_true hb)
    have ge : G'.get? e = none := g2 e (by simp)
    have old : ∀ b o, hp.get? b = some o → G'.get? b = some o := fun b o q => (gk b (Nat.ne_of_lt (Nat.lt_of_lt_of_le (Heap.lt_size q) M.new))).trans (M.keep b o q)
    have ob : ObjOk X.prog X.w (upd H1 d (.xd [(("at" : Str), v)])) G' d (.xd [(("at" : Str), v)]) :=
      ⟨_, hns.at (fun o q => (gk d M.dne).trans q), fun f => relO_at rv f⟩
    have J : L2.Inv X pins σ (upd H1 d (.xd [(("at" : Str), v)])) ⟨G', g, dr, tk', os⟩ := I1.laid (t' := tk') old M.dbig ob
    have fe : H1 e = none := I1.hok.fresh M.new
    have fd : H1 d = none := I1.hok.fresh M.dbig
    have J2 : L2.Inv X pins σ (upd (upd H1 d (.xd [(("at" : Str), v)])) e (ExH (.ref C) (some d) e)) ⟨h', g, dr, tk', os⟩ := J.laidN (h' := h') (t' := tk') (fun b u q => by
      by_cases hb : b = e
      · have q' : G'.get? b = some u := q
        rw [hb, ge] at q'
        cases q'
      · exact (gk b hb).symm.trans q) ge (by rw [upd_ne (Ne.symm M.dne)]; exact fe) (held_ok hoe ⟨hc, hd⟩ hdat)
    exact ⟨.ref e, _, J2, rfl, q1 e d fe fd M.dne⟩
end
/-! ### errors of the field name, over any base -/
namespace Er_name
open PySem.W PySem.Calls PySem.HandSPX
/-- the class called nm, at C, and its __init__, at fI, as the top has left them -/
structure Tx (K : Frag) (mg : Str → Option Value) (nm ql : Str) (C fI : Addr) (B newId initId : String) (bmB : List Value) : Prop where
  base : ExcBaseFacts B newId initId bmB
  gC : mg nm = some (.ref C)
  cls : ∃ n1 q N bs bm sn sub ab col dd k0 k1 k2 k3 k5, K.lookup C = some (excClassObj n1 q C N bs bm true sn sub ab col dd k0 k1 k2 k3 k5 newId) ∧ ErrLine B bm
  sa : findIn K (.ref C) "__setattr__" = some (some (.builtin "object.__setattr__"))
  ex : ExcC K C
  noN : findIn K (.ref C) "name" = some none
  iC : findIn K (.ref C) "__init__" = some (some (.ref fI))
  tC : typeIn K (.ref fI) = some (.type "function")
  kC : keepIn K (.ref C) = true
  tyC : typeIn K (.ref C) = some (.type "type")
  fn : ∃ (oc : Value) (od : Option Addr) (doc pm : Value) (an : Option Addr) (cdv ct : Value) (osl : Array (Option Value)) (p1 p2 q1 q2 q3 q4 : Pos),
    K.lookup fI = some ⟨oc, od, .func (fnOf "__init__" ql (Of_name.iA p1 p2) (Of_name.iB q1 q2 q3 q4) Of_name.iS .none .none doc pm an cdv ct), osl⟩ ∧ codeIn K cdv ql = true
section
variable {prog : Program} {w : World} {A : Around} {E : Value → Shared → Prop} {R : Result → Shared → Prop} {s : Shared} {K : Frag} {mg : Str → Option Value} {nm ql : Str} {C fI : Addr} {B newId initId : String} {bmB : List Value}
theorem made (T : Tx K mg nm ql C fI B newId initId bmB) {v : Value} (X : K.In s.heap) (hlim : s.heap.NoLimit) (hroom : A.depth + 1 < recursionLimit) (hq : ∀ h' tk e d, Of_name.Made s.heap h' e C d v → R (.ok (.ret (.ref e))) { s with heap := h', toks := tk }) :
    codeAny (model prog w) A (.call (.ref C) ⟨[v], []⟩) R s := by
  obtain ⟨n1, q, N, bs, bm, sn, sub, ab, col, dd, k0, k1, k2, k3, k5, hC, ln⟩ := T.cls
  obtain ⟨oc, od, doc, pm, an, cdv, ct, osl, p1, p2, q1, q2, q3, q4, ho, hcd⟩ := T.fn
  have hcl : clsIn K C = some { name := n1, bases := bs, mro := .ref C :: bm, ns := N, qualname := q, hasDict := true, slotNames := sn, subclasses := sub, abstract := ab, collection := col, hasDel := false } := by
    unfold clsIn
    rw [hC]
  obtain ⟨hp, g, dr, tk, os⟩ := s
  have k : ∀ b o, hp.get? b = some o → ((hp.push (kdv_tup [v])).push (excO C hp.objs.size)).get? b = some o := fun b o e => Heap.get?_push_of_some _ (Heap.get?_push_of_some _ e)
  have hx : ((hp.push (kdv_tup [v])).push (excO C hp.objs.size)).get? (hp.objs.size + 1) = some (excO C hp.objs.size) := by heap_get
  refine mk_call T.base ln.mkl (X _ _ hC) (looks_findIn X T.iC) (fun self => bind_fn X self T.tC) (one_size v) ?_
  have X1 := X.keeps k
  have lim1 : ((hp.push (kdv_tup [v])).push (excO C hp.objs.size)).NoLimit := hlim.keeps k
  have size1 : ((hp.push (kdv_tup [v])).push (excO C hp.objs.size)).objs.size = hp.objs.size + 1 + 1 := by rw [Heap.size_push, Heap.size_push]
  generalize (hp.push (kdv_tup [v])).push (excO C hp.objs.size) = h1 at k hx X1 lim1 size1 ⊢
  refine Att.call_fn (binds := [("self", .ref (hp.objs.size + 1)), ("name", v)]) X1 lim1 ho hcd hroom (BindsTo.of_eq (by first | rfl | with_unfolding_all rfl)) (by first | rfl | decide | with_unfolding_all rfl) (fun s₁ IC => ?_) rfl rfl rfl
  obtain ⟨h₁, tk₁, rfl⟩ := IC.toInCall.same
  have k1' : ∀ b o, h1.get? b = some o → h₁.get? b = some o := IC.toInCall.keep
  have hn := IC.toInCall.ns
  show wpAny _ _ (execs _ _) _ _ _
  refine wpAny_execs_cons (plainObj_wpAny_Assign_Attribute ?_)
  refine ldC (v := v) hn (by first | rfl | with_unfolding_all rfl | kernel_rfl) (ldC (v := .ref (hp.objs.size + 1)) hn (by first | rfl | with_unfolding_all rfl | kernel_rfl) ?_)
  refine set_plain (X1.keeps k1') (ox := excO C hp.objs.size) (od := none) ⟨k1' _ _ hx, rfl, rfl, trivial⟩ T.sa ?_
  refine err_first (X1.keeps k1') (k1' _ _ hx) hcl ln.own.obj ln.own.pass rfl rfl T.noN (fun h₃ tk₃ dx k₃ dn dne hx₃ hn₃ => ?_)
  show wpAny _ _ (execs _ _) _ _ _
  have z : h1.objs.size < h₁.objs.size := hn.lt
  have lt_ : ∀ {b : Addr} {o : Obj}, hp.get? b = some o → b ≠ hp.objs.size + 1 := fun {b o} e => Nat.ne_of_lt (Nat.lt_succ_of_lt (Heap.lt_size e))
  refine wpAny_execs_nil ⟨rfl, hq h₃ tk₃ (hp.objs.size + 1) dx ⟨fun b o e => k₃ b o (lt_ e) (k1' b o (k b o e)), Nat.le_succ _, ⟨_, _, hx₃, rfl, rfl, rfl, rfl⟩, ?_, dne, hn₃⟩⟩
  have dn' : h₁.objs.size ≤ dx := dn
  show hp.objs.size ≤ dx
  omega
end
end Er_name
section
variable {X : Cx} {nm ql : Str} {C fI : Addr} {B newId initId : String} {bmB : List Value}
/-- raise nm(e) -/
theorem pmkE_name {a : Expr} {ta : TA} {p pos : Pos} {k : Nat} (T : Er_name.Tx X.K X.mg nm ql C fI B newId initId bmB) (hr : Room k X.A) (ha : PA X [a] ta) (hg : Gl X nm := by rfl) (hdb : (nm == ("__debug__" : Str)) = false := by decide)
    (he : starEach (a :: []) X.env = (false, eval a X.env) :: starEach [] X.env := by rfl) (hpl : (backTo pos (starEach [] X.env)).any (·.1) = false := by rfl) :
    PMk X (.Call (.Name nm p) [a] [] pos) (tMk_name C ta) := by
  intro pins s σ H Q I h
  refine wpAny_Call_Name_kw (ld_glob I hg T.gC ?_ hdb)
  refine PySem.W.callWith_K (h₀ := X.base) I.ok.mod.kin T.kC (thn (ha.run pos pins s σ H _ I h) fun us s1 hh => ?_) he hpl
  obtain ⟨vs, H1, I1, r1, v, ev, q1⟩ := hh
  subst ev
  refine ⟨I1.kIn, ?_⟩
  cases r1 with
  | cons rv rn =>
    rename_i v' us'
    cases rn
    show wpAny _ _ (call (.ref C) [v']) _ _ _
    have hlim := I1.nolimit
    obtain ⟨hp, g, dr, tk, os⟩ := s1
    refine wpAny_call (Er_name.made T I1.kIn hlim (by have := hr.dp; omega) fun h' tk' e d M => ?_)
    show MkP X pins σ Q (.ref e) ⟨h', g, dr, tk', os⟩
    obtain ⟨oe, fv, hoe, hc, hd, hdat, h1⟩ := M.obj
    have hns := M.ns
    obtain ⟨G', g1, g2⟩ := restrict h' fun b => decide (b ≠ e)
    have gk : ∀ b, b ≠ e → G'.get? b = h'.get? b := fun b hb => g1 b (decide_eq_true hb)
    have ge : G'.get? e = none := g2 e (by simp)
    have old : ∀ b o, hp.get? b = some o → G'.get? b = some o := fun b o q => (gk b (Nat.ne_of_lt (Nat.lt_of_lt_of_le (Heap.lt_size q) M.new))).trans (M.keep b o q)
    have ob : ObjOk X.prog X.w (upd H1 d (.xd [(("name" : Str), v)])) G' d (.xd [(("name" : Str), v)]) :=
      ⟨_, hns.at (fun o q => (gk d M.dne).trans q), fun f => relO_name rv f⟩
    have J : L2.Inv X pins σ (upd H1 d (.xd [(("name" : Str), v)])) ⟨G', g, dr, tk', os⟩ := I1.laid (t' := tk') old M.dbig ob
    refine ⟨e, oe, fv, ⟨G', g, dr, tk', os⟩, _, .ref C, some d, rfl, J, fun b o q => ?_, ge, hoe, ⟨hc, hd⟩, hdat, h1, ?_, rfl, I1.bare, raises_own T.ex.hs T.tyC, q1 d (I1.hok.fresh M.dbig)⟩
    · by_cases hb : b = e
      · have q' : G'.get? b = some o := q
        rw [hb, ge] at q'
        cases q'
      · exact (gk b hb).symm.trans q
    · rw [upd_ne (Ne.symm M.dne)]
      exact I1.hok.fresh M.new
theorem ps_raiseE_name {a : Expr} {ta : TA} {W : WX} {p pos pos2 : Pos} {k : Nat} (hc : X.calm = true) (T : Er_name.Tx X.K X.mg nm ql C fI B newId initId bmB) (hr : Room k X.A) (tk : Takes X W) (ha : PA X [a] ta) (hg : Gl X nm := by rfl) (hdb : (nm == ("__debug__" : Str)) = false := by decide)
    (he : starEach (a :: []) X.env = (false, eval a X.env) :: starEach [] X.env := by rfl) (hpl : (backTo pos (starEach [] X.env)).any (·.1) = false := by rfl) :
    PS X (.Raise (some (.Call (.Name nm p) [a] [] pos)) none pos2) (tRaise_name C W ta) := ps_raise hc tk (pmkE_name T hr ha hg hdb he hpl)
/-- nm(e) as a value -/
def tVal_name (C : Addr) (ta : TA) : TE := fun σ H Q => ta σ H fun vs H1 => ∃ v, vs = [v] ∧ ∀ e d, H1 e = none → H1 d = none → d ≠ e → Q (.ref e) (upd (upd H1 d (.xd [(("name" : Str), v)])) e (ExH (.ref C) (some d) e))
theorem pe_val_name {a : Expr} {ta : TA} {p pos : Pos} {k : Nat} (T : Er_name.Tx X.K X.mg nm ql C fI B newId initId bmB) (hr : Room k X.A) (ha : PA X [a] ta) (hg : Gl X nm := by rfl) (hdb : (nm == ("__debug__" : Str)) = false := by decide)
    (he : starEach (a :: []) X.env = (false, eval a X.env) :: starEach [] X.env := by rfl) (hpl : (backTo pos (starEach [] X.env)).any (·.1) = false := by rfl) :
    PE X (.Call (.Name nm p) [a] [] pos) (tVal_name C ta) := by
  constructor
  intro pins s σ H Q I h
  refine wpAny_Call_Name_kw (ld_glob I hg T.gC ?_ hdb)
  refine PySem.W.callWith_K (h₀ := X.base) I.ok.mod.kin T.kC (thn (ha.run pos pins s σ H _ I h) fun us s1 hh => ?_) he hpl
  obtain ⟨vs, H1, I1, r1, v, ev, q1⟩ := hh
  subst ev
  refine ⟨I1.kIn, ?_⟩
  cases r1 with
  | cons rv rn =>
    rename_i v' us'
    cases rn
    show wpAny _ _ (call (.ref C) [v']) _ _ _
    have hlim := I1.nolimit
    obtain ⟨hp, g, dr, tk, os⟩ := s1
    refine wpAny_call (Er_name.made T I1.kIn hlim (by have := hr.dp; omega) fun h' tk' e d M => ?_)
    obtain ⟨oe, fv, hoe, hc, hd, hdat, h1⟩ := M.obj
    have hns := M.ns
    obtain ⟨G', g1, g2⟩ := restrict h' fun b => decide (b ≠ e)
    have gk : ∀ b, b ≠ e → G'.get? b = h'.get? b := fun b hb => g1 b (decide_eq_true hb)
    have ge : G'.get? e = none := g2 e (by simp)
    have old : ∀ b o, hp.get? b = some o → G'.get? b = some o := fun b o q => (gk b (Nat.ne_of_lt (Nat.lt_of_lt_of_le (Heap.lt_size q) M.new))).trans (M.keep b o q)
    have ob : ObjOk X.prog X.w (upd H1 d (.xd [(("name" : Str), v)])) G' d (.xd [(("name" : Str), v)]) :=
      ⟨_, hns.at (fun o q => (gk d M.dne).trans q), fun f => relO_name rv f⟩
    have J : L2.Inv X pins σ (upd H1 d (.xd [(("name" : Str), v)])) ⟨G', g, dr, tk', os⟩ := I1.laid (t' := tk') old M.dbig ob
    have fe : H1 e = none := I1.hok.fresh M.new
    have fd : H1 d = none := I1.hok.fresh M.dbig
    have J2 : L2.Inv X pins σ (upd (upd H1 d (.xd [(("name" : Str), v)])) e (ExH (.ref C) (some d) e)) ⟨h', g, dr, tk', os⟩ := J.laidN (h' := h') (t' := tk') (fun b u q => by
      by_cases hb : b = e
      · have q' : G'.get? b = some u := q
        rw [hb, ge] at q'
        cases q'
      · exact (gk b hb).symm.trans q) ge (by rw [upd_ne (Ne.symm M.dne)]; exact fe) (held_ok hoe ⟨hc, hd⟩ hdat)
    exact ⟨.ref e, _, J2, rfl, q1 e d fe fd M.dne⟩
end
/-! ### errors of the field most, over any base -/
namespace Er_most
open PySem.W PySem.Calls PySem.HandSPX
/-- the class called nm, at C, and its __init__, at fI, as the top has left them -/
structure Tx (K : Frag) (mg : Str → Option Value) (nm ql : Str) (C fI : Addr) (B newId initId : String) (bmB : List Value) : Prop where
  base : ExcBaseFacts B newId initId bmB
  gC : mg nm = some (.ref C)
  cls : ∃ n1 q N bs bm sn sub ab col dd k0 k1 k2 k3 k5, K.lookup C = some (excClassObj n1 q C N bs bm true sn sub ab col dd k0 k1 k2 k3 k5 newId) ∧ ErrLine B bm
  sa : findIn K (.ref C) "__setattr__" = some (some (.builtin "object.__setattr__"))
  ex : ExcC K C
  noN : findIn K (.ref C) "most" = some none
  iC : findIn K (.ref C) "__init__" = some (some (.ref fI))
  tC : typeIn K (.ref fI) = some (.type "function")
  kC : keepIn K (.ref C) = true
  tyC : typeIn K (.ref C) = some (.type "type")
  fn : ∃ (oc : Value) (od : Option Addr) (doc pm : Value) (an : Option Addr) (cdv ct : Value) (osl : Array (Option Value)) (p1 p2 q1 q2 q3 q4 : Pos),
    K.lookup fI = some ⟨oc, od, .func (fnOf "__init__" ql (Of_most.iA p1 p2) (Of_most.iB q1 q2 q3 q4) Of_most.iS .none .none doc pm an cdv ct), osl⟩ ∧ codeIn K cdv ql = true
section
variable {prog : Program} {w : World} {A : Around} {E : Value → Shared → Prop} {R : Result → Shared → Prop} {s : Shared} {K : Frag} {mg : Str → Option Value} {nm ql : Str} {C fI : Addr} {B newId initId : String} {bmB : List Value}
theorem made (T : Tx K mg nm ql C fI B newId initId bmB) {v : Value} (X : K.In s.heap) (hlim : s.heap.NoLimit) (hroom : A.depth + 1 < recursionLimit) (hq : ∀ h' tk e d, Of_most.Made s.heap h' e C d v → R (.ok (.ret (.ref e))) { s with heap := h', toks := tk }) :
    codeAny (model prog w) A (.call (.ref C) ⟨[v], []⟩) R s := by
  obtain ⟨n1, q, N, bs, bm, sn, sub, ab, col, dd, k0, k1, k2, k3, k5, hC, ln⟩ := T.cls
  obtain ⟨oc, od, doc, pm, an, cdv, ct, osl, p1, p2, q1, q2, q3, q4, ho, hcd⟩ := T.fn
  have hcl : clsIn K C = some { name := n1, bases := bs, mro := .ref C :: bm, ns := N, qualname := q, hasDict := true, slotNames := sn, subclasses := sub, abstract := ab, collection := col, hasDel := false } := by
    unfold clsIn
    rw [hC]
  obtain ⟨hp, g, dr, tk, os⟩ := s
  have k : ∀ b o, hp.get? b = some o → ((hp.push (kdv_tup [v])).push (excO C hp.objs.size)).get? b = some o := fun b o e => Heap.get?_push_of_some _ (Heap.get?_push_of_some _ e)
  have hx : ((hp.push (kdv_tup [v])).push (excO C hp.objs.size)).get? (hp.objs.size + 1) = some (excO C hp.objs.size) := by heap_get
  refine mk_call T.base ln.mkl (X _ _ hC) (looks_findIn X T.iC) (fun self => bind_fn X self T.tC) (one_size v) ?_
  have X1 := X.keeps k
  have lim1 : ((hp.push (kdv_tup [v])).push (excO C hp.objs.size)).NoLimit := hlim.keeps k
  have size1 : ((hp.push (kdv_tup [v])).push (excO C hp.objs.size)).objs.size = hp.objs.size + 1 + 1 := by rw [Heap.size_push, Heap.size_push]
  generalize (hp.push (kdv_tup [v])).push (excO C hp.objs.size) = h1 at k hx X1 lim1 size1 ⊢
  refine Att.call_fn (binds := [("self", .ref (hp.objs.size + 1)), ("most", v)]) X1 lim1 ho hcd hroom (BindsTo.of_eq (by first | rfl | with_unfolding_all rfl)) (by first | rfl | decide | with_unfolding_all rfl) (fun s₁ IC => ?_) rfl rfl rfl
  obtain ⟨h₁, tk₁, rfl⟩ := IC.toInCall.same
  have k1' : ∀ b o, h1.get? b = some o → h₁.get? b = some o := IC.toInCall.keep
  have hn := IC.toInCall.ns
  show wpAny _ _ (execs _ _) _ _ _
  refine wpAny_execs_cons (plainObj_wpAny_Assign_Attribute ?_)
  refine ldC (v := v) hn (by first | rfl | with_unfolding_all rfl | kernel_rfl) (ldC (v := .ref (hp.objs.size + 1)) hn (by first | rfl | with_unfolding_all rfl | kernel_rfl) ?_)
  refine set_plain (X1.keeps k1') (ox := excO C hp.objs.size) (od := none) ⟨k1' _ _ hx, rfl, rfl, trivial⟩ T.sa ?_
  refine err_first (X1.keeps k1') (k1' _ _ hx) hcl ln.own.obj ln.own.pass rfl rfl T.noN (fun h₃ tk₃ dx k₃ dn dne hx₃ hn₃ => ?_)
  show wpAny _ _ (execs _ _) _ _ _
  have z : h1.objs.size < h₁.objs.size := hn.lt
  have lt_ : ∀ {b : Addr} {o : Obj}, hp.get? b = some o → b ≠ hp.objs.size + 1 := fun {b o} e => Nat.ne_of_lt (Nat.lt_succ_of_lt (Heap.lt_size e))
  refine wpAny_execs_nil ⟨rfl, hq h₃ tk₃ (hp.objs.size + 1) dx ⟨fun b o e => k₃ b o (lt_ e) (k1' b o (k b o e)), Nat.le_succ _, ⟨_, _, hx₃, rfl, rfl, rfl, rfl⟩, ?_, dne, hn₃⟩⟩
  have dn' : h₁.objs.size ≤ dx := dn
  show hp.objs.size ≤ dx
  omega
end
end Er_most
section
variable {X : Cx} {nm ql : Str} {C fI : Addr} {B newId initId : String} {bmB : List Value}
/-- raise nm(e) -/
theorem pmkE_most {a : Expr} {ta : TA} {p pos : Pos} {k : Nat} (T : Er_most.Tx X.K X.mg nm ql C fI B newId initId bmB) (hr : Room k X.A) (ha : PA X [a] ta) (hg : Gl X nm := by rfl) (hdb : (nm == ("__debug__" : Str)) = false := by decide)
    (he : starEach (a :: []) X.env = (false, eval a X.env) :: starEach [] X.env := by rfl) (hpl : (backTo pos (starEach [] X.env)).any (·.1) = false := by rfl) :
    PMk X (.Call (.Name nm p) [a] [] pos) (tMk_most C ta) := by
  intro pins s σ H Q I h
  refine wpAny_Call_Name_kw (ld_glob I hg T.gC ?_ hdb)
  refine PySem.W.callWith_K (h₀ := X.base) I.ok.mod.kin T.kC (thn (ha.run pos pins s σ H _ I h) fun us s1 hh => ?_) he hpl
  obtain ⟨vs, H1, I1, r1, v, ev, q1⟩ := hh
  subst ev
  refine ⟨I1.kIn, ?_⟩
  cases r1 with
  | cons rv rn =>
    rename_i v' us'
    cases rn
    show wpAny _ _ (call (.ref C) [v']) _ _ _
    have hlim := I1.nolimit
    obtain ⟨hp, g, dr, tk, os⟩ := s1
    refine wpAny_call (Er_most.made T I1.kIn hlim (by have := hr.dp; omega) fun h' tk' e d M => ?_)
    show MkP X pins σ Q (.ref e) ⟨h', g, dr, tk', os⟩
    obtain ⟨oe, fv, hoe, hc, hd, hdat, h1⟩ := M.obj
    have hns := M.ns
    obtain ⟨G', g1, g2⟩ := restrict h' fun b => decide (b ≠ e)
    have gk : ∀ b, b ≠ e → G'.get? b = h'.get? b := fun b hb => g1 b (decide_eq_true hb)
    have ge : G'.get? e = none := g2 e (by simp)
    have old : ∀ b o, hp.get? b = some o → G'.get? b = some o := fun b o q => (gk b (Nat.ne_of_lt (Nat.lt_of_lt_of_le (Heap.lt_size q) M.new))).trans (M.keep b o q)
    have ob : ObjOk X.prog X.w (upd H1 d (.xd [(("most" : Str), v)])) G' d (.xd [(("most" : Str), v)]) :=
      ⟨_, hns.at (fun o q => (gk d M.dne).trans q), fun f => relO_most rv f⟩
    have J : L2.Inv X pins σ (upd H1 d (.xd [(("most" : Str), v)])) ⟨G', g, dr, tk', os⟩ := I1.laid (t' := tk') old M.dbig ob
    refine ⟨e, oe, fv, ⟨G', g, dr, tk', os⟩, _, .ref C, some d, rfl, J, fun b o q => ?_, ge, hoe, ⟨hc, hd⟩, hdat, h1, ?_, rfl, I1.bare, raises_own T.ex.hs T.tyC, q1 d (I1.hok.fresh M.dbig)⟩
    · by_cases hb : b = e
      · have q' : G'.get? b = some o := q
        rw [hb, ge] at q'
        cases q'
      · exact (gk b hb).symm.trans q
    · rw [upd_ne (Ne.symm M.dne)]
      exact I1.hok.fresh M.new
theorem ps_raiseE_most {a : Expr} {ta : TA} {W : WX} {p pos pos2 : Pos} {k : Nat} (hc : X.calm = true) (T : Er_most.Tx X.K X.mg nm ql C fI B newId initId bmB) (hr : Room k X.A) (tk : Takes X W) (ha : PA X [a] ta) (hg : Gl X nm := by rfl) (hdb : (nm == ("__debug__" : Str)) = false := by decide)
    (he : starEach (a :: []) X.env = (false, eval a X.env) :: starEach [] X.env := by rfl) (hpl : (backTo pos (starEach [] X.env)).any (·.1) = false := by rfl) :
    PS X (.Raise (some (.Call (.Name nm p) [a] [] pos)) none pos2) (tRaise_most C W ta) := ps_raise hc tk (pmkE_most T hr ha hg hdb he hpl)
/-- nm(e) as a value -/
def tVal_most (C : Addr) (ta : TA) : TE := fun σ H Q => ta σ H fun vs H1 => ∃ v, vs = [v] ∧ ∀ e d, H1 e = none → H1 d = none → d ≠ e → Q (.ref e) (upd (upd H1 d (.xd [(("most" : Str), v)])) e (ExH (.ref C) (some d) e))
theorem pe_val_most {a : Expr} {ta : TA} {p pos : Pos} {k : Nat} (T : Er_most.Tx X.K X.mg nm ql C fI B newId initId bmB) (hr : Room k X.A) (ha : PA X [a] ta) (hg : Gl X nm := by rfl) (hdb : (nm == ("__debug__" : Str)) = false := by decide)
    (he : starEach (a :: []) X.env = (false, eval a X.env) :: starEach [] X.env := by rfl) (hpl : (backTo pos (starEach [] X.env)).any (·.1) = false := by rfl) :
    PE X (.Call (.Name nm p) [a] [] pos) (tVal_most C ta) := by
  constructor
  intro pins s σ H Q I h
  refine wpAny_Call_Name_kw (ld_glob I hg T.gC ?_ hdb)
  refine PySem.W.callWith_K (h₀ := X.base) I.ok.mod.kin T.kC (thn (ha.run pos pins s σ H _ I h) fun us s1 hh => ?_) he hpl
  obtain ⟨vs, H1, I1, r1, v, ev, q1⟩ := hh
  subst ev
  refine ⟨I1.kIn, ?_⟩
  cases r1 with
  | cons rv rn =>
    rename_i v' us'
    cases rn
    show wpAny _ _ (call (.ref C) [v']) _ _ _
    have hlim := I1.nolimit
    obtain ⟨hp, g, dr, tk, os⟩ := s1
    refine wpAny_call (Er_most.made T I1.kIn hlim (by have := hr.dp; omega) fun h' tk' e d M => ?_)
    obtain ⟨oe, fv, hoe, hc, hd, hdat, h1⟩ := M.obj
    have hns := M.ns
    obtain ⟨G', g1, g2⟩ := restrict h' fun b => decide (b ≠ e)
    have gk : ∀ b, b ≠ e → G'.get? b = h'.get? b := fun b hb => g1 b (decide_eq_true hb)
    have ge : G'.get? e = none := g2 e (by simp)
    have old : ∀ b o, hp.get? b = some o → G'.get? b = some o := fun b o q => (gk b (Nat.ne_of_lt (Nat.lt_of_lt_of_le (Heap.lt_size q) M.new))).trans (M.keep b o q)
    have ob : ObjOk X.prog X.w (upd H1 d (.xd [(("most" : Str), v)])) G' d (.xd [(("most" : Str), v)]) :=
      ⟨_, hns.at (fun o q => (gk d M.dne).trans q), fun f => relO_most rv f⟩
    have J : L2.Inv X pins σ (upd H1 d (.xd [(("most" : Str), v)])) ⟨G', g, dr, tk', os⟩ := I1.laid (t' := tk') old M.dbig ob
    have fe : H1 e = none := I1.hok.fresh M.new
    have fd : H1 d = none := I1.hok.fresh M.dbig
    have J2 : L2.Inv X pins σ (upd (upd H1 d (.xd [(("most" : Str), v)])) e (ExH (.ref C) (some d) e)) ⟨h', g, dr, tk', os⟩ := J.laidN (h' := h') (t' := tk') (fun b u q => by
      by_cases hb : b = e
      · have q' : G'.get? b = some u := q
        rw [hb, ge] at q'
        cases q'
      · exact (gk b hb).symm.trans q) ge (by rw [upd_ne (Ne.symm M.dne)]; exact fe) (held_ok hoe ⟨hc, hd⟩ hdat)
    exact ⟨.ref e, _, J2, rfl, q1 e d fe fd M.dne⟩
end
/-! ### errors of the fields row and word, over any base -/
namespace Er_row_word
open PySem.W PySem.Calls PySem.HandSPX
def iA (p1 p2 p3 : Pos) : Arguments := { posonlyargs := [], args := [{ arg := "self", annotation := none, pos := p1 }, { arg := "row", annotation := none, pos := p2 }, { arg := "word", annotation := none, pos := p3 }], vararg := none, kwonlyargs := [], kw_defaults := [], kwarg := none, defaults := [] }
def iB (q1 q2 q3 q4 q5 q6 q7 q8 : Pos) : List Stmt := [.Assign [.Attribute (.Name "self" q1) "row" q2] (.Name "row" q3) q4, .Assign [.Attribute (.Name "self" q5) "word" q6] (.Name "word" q7) q8]
def iS : Scope := { kind := .function, names := [(PySem.Str.ofString "self", .local), (PySem.Str.ofString "row", .local), (PySem.Str.ofString "word", .local)], isGenerator := false, isCoroutine := false, more := [] }
structure Tx (K : Frag) (mg : Str → Option Value) (nm ql : Str) (C fI : Addr) (B newId initId : String) (bmB : List Value) : Prop where
  base : ExcBaseFacts B newId initId bmB
  gC : mg nm = some (.ref C)
  cls : ∃ n1 q N bs bm sn sub ab col dd k0 k1 k2 k3 k5, K.lookup C = some (excClassObj n1 q C N bs bm true sn sub ab col dd k0 k1 k2 k3 k5 newId) ∧ ErrLine B bm
  sa : findIn K (.ref C) "__setattr__" = some (some (.builtin "object.__setattr__"))
  ex : ExcC K C
  noA : findIn K (.ref C) "row" = some none
  noB : findIn K (.ref C) "word" = some none
  iC : findIn K (.ref C) "__init__" = some (some (.ref fI))
  tC : typeIn K (.ref fI) = some (.type "function")
  kC : keepIn K (.ref C) = true
  tyC : typeIn K (.ref C) = some (.type "type")
  fn : ∃ (oc : Value) (od : Option Addr) (doc pm : Value) (an : Option Addr) (cdv ct : Value) (osl : Array (Option Value)) (p1 p2 p3 q1 q2 q3 q4 q5 q6 q7 q8 : Pos),
    K.lookup fI = some ⟨oc, od, .func (fnOf "__init__" ql (iA p1 p2 p3) (iB q1 q2 q3 q4 q5 q6 q7 q8) iS .none .none doc pm an cdv ct), osl⟩ ∧ codeIn K cdv ql = true
structure Made (h h' : Heap) (e C d : Addr) (v u : Value) : Prop where
  keep : ∀ b o, h.get? b = some o → h'.get? b = some o
  new : h.objs.size ≤ e
  obj : ∃ oe vs, h'.get? e = some oe ∧ oe.cls = .ref C ∧ oe.dict = some d ∧ oe.data = .fields vs ∧ vs[1]? = some .none
  dbig : h.objs.size ≤ d
  dne : d ≠ e
  ns : h'.Ns1 d (fun y => if y = "word" then some u else if y = "row" then some v else none)
section
variable {prog : Program} {w : World} {A : Around} {E : Value → Shared → Prop} {R : Result → Shared → Prop} {s : Shared} {K : Frag} {mg : Str → Option Value} {nm ql : Str} {C fI : Addr} {B newId initId : String} {bmB : List Value}
theorem made (T : Tx K mg nm ql C fI B newId initId bmB) {v u : Value} (X : K.In s.heap) (hlim : s.heap.NoLimit) (hroom : A.depth + 1 < recursionLimit) (hq : ∀ h' tk e d, Made s.heap h' e C d v u → R (.ok (.ret (.ref e))) { s with heap := h', toks := tk }) :
    codeAny (model prog w) A (.call (.ref C) ⟨[v, u], []⟩) R s := by
  obtain ⟨n1, q, N, bs, bm, sn, sub, ab, col, dd, k0, k1, k2, k3, k5, hC, ln⟩ := T.cls
  obtain ⟨oc, od, doc, pm, an, cdv, ct, osl, p1, p2, p3, q1, q2, q3, q4, q5, q6, q7, q8, ho, hcd⟩ := T.fn
  have hcl : clsIn K C = some { name := n1, bases := bs, mro := .ref C :: bm, ns := N, qualname := q, hasDict := true, slotNames := sn, subclasses := sub, abstract := ab, collection := col, hasDel := false } := by
    unfold clsIn
    rw [hC]
  obtain ⟨hp, g, dr, tk, os⟩ := s
  have k : ∀ b o, hp.get? b = some o → ((hp.push (kdv_tup [v, u])).push (excO C hp.objs.size)).get? b = some o := fun b o e => Heap.get?_push_of_some _ (Heap.get?_push_of_some _ e)
  have hx : ((hp.push (kdv_tup [v, u])).push (excO C hp.objs.size)).get? (hp.objs.size + 1) = some (excO C hp.objs.size) := by heap_get
  refine mk_call T.base ln.mkl (X _ _ hC) (looks_findIn X T.iC) (fun self => bind_fn X self T.tC) (by rw [sizeLine_eq]; exact (by decide : 2 ≤ 16777216)) ?_
  have X1 := X.keeps k
  have lim1 : ((hp.push (kdv_tup [v, u])).push (excO C hp.objs.size)).NoLimit := hlim.keeps k
  have size1 : ((hp.push (kdv_tup [v, u])).push (excO C hp.objs.size)).objs.size = hp.objs.size + 1 + 1 := by rw [Heap.size_push, Heap.size_push]
  generalize (hp.push (kdv_tup [v, u])).push (excO C hp.objs.size) = h1 at k hx X1 lim1 size1 ⊢
  refine Att.call_fn (binds := [("self", .ref (hp.objs.size + 1)), ("row", v), ("word", u)]) X1 lim1 ho hcd hroom (BindsTo.of_eq (by first | rfl | with_unfolding_all rfl)) (by first | rfl | decide | with_unfolding_all rfl) (fun s₁ IC => ?_) rfl rfl rfl
  obtain ⟨h₁, tk₁, rfl⟩ := IC.toInCall.same
  have k1' : ∀ b o, h1.get? b = some o → h₁.get? b = some o := IC.toInCall.keep
  have hn := IC.toInCall.ns
  show wpAny _ _ (execs _ _) _ _ _
  refine wpAny_execs_cons (plainObj_wpAny_Assign_Attribute ?_)
  refine ldC (v := v) hn (by first | rfl | with_unfolding_all rfl | kernel_rfl) (ldC (v := .ref (hp.objs.size + 1)) hn (by first | rfl | with_unfolding_all rfl | kernel_rfl) ?_)
  refine set_plain (X1.keeps k1') (ox := excO C hp.objs.size) (od := none) ⟨k1' _ _ hx, rfl, rfl, trivial⟩ T.sa ?_
  refine err_first (X1.keeps k1') (k1' _ _ hx) hcl ln.own.obj ln.own.pass rfl rfl T.noA (fun h₃ tk₃ dx k₃ dn dne hx₃ hn₃ => ?_)
  show wpAny _ _ (execs _ _) _ _ _
  have z : h1.objs.size < h₁.objs.size := hn.lt
  have lt_ : ∀ {b : Addr} {o : Obj}, hp.get? b = some o → b ≠ hp.objs.size + 1 := fun {b o} e => Nat.ne_of_lt (Nat.lt_succ_of_lt (Heap.lt_size e))
  have X3 : K.In h₃ := fun a o e => k₃ a o (lt_ (X a o e)) (X1.keeps k1' a o e)
  have stay : ∀ {L : Addr} {m : Str → Option Value}, h₁.Ns L m → h₃.Ns L m := fun {L m} ns => by
    obtain ⟨o, es, n, e, dd, r⟩ := ns
    refine ⟨o, es, n, k₃ _ _ (fun z => ?_) e, dd, r⟩
    rw [z, k1' _ _ hx] at e
    cases e
    cases dd
  have hn3 := stay hn
  have hw : Within (fun y => if y = ("row" : Str) then some v else none) ["row"] := fun y hy => by
    by_cases e : y = "row"
    · rw [e]
      exact List.mem_cons_self
    · exact absurd (if_neg e) hy
  obtain ⟨oD, eD, pD, gD, _, _⟩ := hn₃.count hw
  refine wpAny_execs_cons (plainObj_wpAny_Assign_Attribute ?_)
  refine ldC (v := u) hn3 (by first | rfl | with_unfolding_all rfl | kernel_rfl) (ldC (v := .ref (hp.objs.size + 1)) hn3 (by first | rfl | with_unfolding_all rfl | kernel_rfl) ?_)
  refine set_plain X3 (ox := { cls := .ref C, dict := some dx, data := .fields #[.ref hp.objs.size, .none, .none, .none, .bool false, .none] }) (od := some oD) ⟨hx₃, rfl, rfl, gD⟩ T.sa ?_
  refine err_next X3 hx₃ hn₃ hw (by decide) hcl ln.own.obj ln.own.pass rfl rfl T.noB (fun h₄ tk₄ k₄ hn₄ => ?_)
  show wpAny _ _ (execs _ _) _ _ _
  have dn' : h₁.objs.size ≤ dx := dn
  have dn2 : hp.objs.size ≤ dx := by
    show hp.objs.size ≤ dx
    omega
  refine wpAny_execs_nil ⟨rfl, hq h₄ tk₄ (hp.objs.size + 1) dx ⟨fun b o e => k₄ b o (Nat.ne_of_lt (Nat.lt_of_lt_of_le (Heap.lt_size e) dn2)) (k₃ b o (lt_ e) (k1' b o (k b o e))), Nat.le_succ _, ⟨_, _, k₄ _ _ (Ne.symm dne) hx₃, rfl, rfl, rfl, rfl⟩, dn2, dne, hn₄⟩⟩
end
end Er_row_word
section
variable {X : Cx} {nm ql : Str} {C fI : Addr} {B newId initId : String} {bmB : List Value}
theorem relO_row_word {v u : V} {v' u' : Value} (r : RelV v v') (r2 : RelV u u') (f : Str) : RelO (List.lookup f [(("word" : Str), u), (("row" : Str), v)]) (if f = "word" then some u' else if f = "row" then some v' else none) := by
  by_cases h1 : f = "word"
  · subst h1
    rw [if_pos rfl]
    have q : List.lookup ("word" : Str) [(("word" : Str), u), (("row" : Str), v)] = some u := by simp [List.lookup]
    rw [q]
    exact r2
  · rw [if_neg h1]
    have q1 : (f == ("word" : Str)) = false := by simpa using h1
    by_cases h2 : f = "row"
    · subst h2
      rw [if_pos rfl]
      have q : List.lookup ("row" : Str) [(("word" : Str), u), (("row" : Str), v)] = some v := by simp [List.lookup, q1]
      rw [q]
      exact r
    · rw [if_neg h2]
      have q2 : (f == ("row" : Str)) = false := by simpa using h2
      have q : List.lookup f [(("word" : Str), u), (("row" : Str), v)] = none := by simp [List.lookup, q1, q2]
      rw [q]
      trivial
/-- nm(e, f) as a value -/
def tVal_row_word (C : Addr) (ta : TA) : TE := fun σ H Q => ta σ H fun vs H1 => ∃ v u, vs = [v, u] ∧ ∀ e d, H1 e = none → H1 d = none → d ≠ e → Q (.ref e) (upd (upd H1 d (.xd [(("word" : Str), u), (("row" : Str), v)])) e (ExH (.ref C) (some d) e))
theorem pe_val_row_word {a b : Expr} {ta : TA} {p pos : Pos} {k : Nat} (T : Er_row_word.Tx X.K X.mg nm ql C fI B newId initId bmB) (hr : Room k X.A) (ha : PA X [a, b] ta) (hg : Gl X nm := by rfl) (hdb : (nm == ("__debug__" : Str)) = false := by decide)
    (he : starEach (a :: [b]) X.env = (false, eval a X.env) :: starEach [b] X.env := by rfl) (hpl : (backTo pos (starEach [b] X.env)).any (·.1) = false := by rfl) :
    PE X (.Call (.Name nm p) [a, b] [] pos) (tVal_row_word C ta) := by
  constructor
  intro pins s σ H Q I h
  refine wpAny_Call_Name_kw (ld_glob I hg T.gC ?_ hdb)
  refine PySem.W.callWith_K (h₀ := X.base) I.ok.mod.kin T.kC (thn (ha.run pos pins s σ H _ I h) fun us s1 hh => ?_) he hpl
  obtain ⟨vs, H1, I1, r1, v, u, ev, q1⟩ := hh
  subst ev
  refine ⟨I1.kIn, ?_⟩
  obtain ⟨v', u', rfl, rv, ru⟩ := vals2 r1
  show wpAny _ _ (call (.ref C) [v', u']) _ _ _
  have hlim := I1.nolimit
  obtain ⟨hp, g, dr, tk, os⟩ := s1
  refine wpAny_call (Er_row_word.made T I1.kIn hlim (by have := hr.dp; omega) fun h' tk' e d M => ?_)
  obtain ⟨oe, fv, hoe, hc, hd, hdat, h1⟩ := M.obj
  have hns := M.ns
  obtain ⟨G', g1, g2⟩ := restrict h' fun b => decide (b ≠ e)
  have gk : ∀ b, b ≠ e → G'.get? b = h'.get? b := fun b hb => g1 b (decide_eq_true hb)
  have ge : G'.get? e = none := g2 e (by simp)
  have old : ∀ b o, hp.get? b = some o → G'.get? b = some o := fun b o q => (gk b (Nat.ne_of_lt (Nat.lt_of_lt_of_le (Heap.lt_size q) M.new))).trans (M.keep b o q)
  have ob : ObjOk X.prog X.w (upd H1 d (.xd [(("word" : Str), u), (("row" : Str), v)])) G' d (.xd [(("word" : Str), u), (("row" : Str), v)]) :=
    ⟨_, hns.at (fun o q => (gk d M.dne).trans q), fun f => relO_row_word rv ru f⟩
  have J : L2.Inv X pins σ (upd H1 d (.xd [(("word" : Str), u), (("row" : Str), v)])) ⟨G', g, dr, tk', os⟩ := I1.laid (t' := tk') old M.dbig ob
  have fe : H1 e = none := I1.hok.fresh M.new
  have fd : H1 d = none := I1.hok.fresh M.dbig
  have J2 : L2.Inv X pins σ (upd (upd H1 d (.xd [(("word" : Str), u), (("row" : Str), v)])) e (ExH (.ref C) (some d) e)) ⟨h', g, dr, tk', os⟩ := J.laidN (h' := h') (t' := tk') (fun b u q => by
    by_cases hb : b = e
    · have q' : G'.get? b = some u := q
      rw [hb, ge] at q'
      cases q'
    · exact (gk b hb).symm.trans q) ge (by rw [upd_ne (Ne.symm M.dne)]; exact fe) (held_ok hoe ⟨hc, hd⟩ hdat)
  exact ⟨.ref e, _, J2, rfl, q1 e d fe fd M.dne⟩
end
/-! ### errors of the fields lot and sums, over any base -/
namespace Er_lot_sums
open PySem.W PySem.Calls PySem.HandSPX
def iA (p1 p2 p3 : Pos) : Arguments := { posonlyargs := [], args := [{ arg := "self", annotation := none, pos := p1 }, { arg := "lot", annotation := none, pos := p2 }, { arg := "sums", annotation := none, pos := p3 }], vararg := none, kwonlyargs := [], kw_defaults := [], kwarg := none, defaults := [] }
def iB (q1 q2 q3 q4 q5 q6 q7 q8 : Pos) : List Stmt := [.Assign [.Attribute (.Name "self" q1) "lot" q2] (.Name "lot" q3) q4, .Assign [.Attribute (.Name "self" q5) "sums" q6] (.Name "sums" q7) q8]
def iS : Scope := { kind := .function, names := [(PySem.Str.ofString "self", .local), (PySem.Str.ofString "lot", .local), (PySem.Str.ofString "sums", .local)], isGenerator := false, isCoroutine := false, more := [] }
structure Tx (K : Frag) (mg : Str → Option Value) (nm ql : Str) (C fI : Addr) (B newId initId : String) (bmB : List Value) : Prop where
  base : ExcBaseFacts B newId initId bmB
  gC : mg nm = some (.ref C)
  cls : ∃ n1 q N bs bm sn sub ab col dd k0 k1 k2 k3 k5, K.lookup C = some (excClassObj n1 q C N bs bm true sn sub ab col dd k0 k1 k2 k3 k5 newId) ∧ ErrLine B bm
  sa : findIn K (.ref C) "__setattr__" = some (some (.builtin "object.__setattr__"))
  ex : ExcC K C
  noA : findIn K (.ref C) "lot" = some none
  noB : findIn K (.ref C) "sums" = some none
  iC : findIn K (.ref C) "__init__" = some (some (.ref fI))
  tC : typeIn K (.ref fI) = some (.type "function")
  kC : keepIn K (.ref C) = true
  tyC : typeIn K (.ref C) = some (.type "type")
  fn : ∃ (oc : Value) (od : Option Addr) (doc pm : Value) (an : Option Addr) (cdv ct : Value) (osl : Array (Option Value)) (p1 p2 p3 q1 q2 q3 q4 q5 q6 q7 q8 : Pos),
    K.lookup fI = some ⟨oc, od, .func (fnOf "__init__" ql (iA p1 p2 p3) (iB q1 q2 q3 q4 q5 q6 q7 q8) iS .none .none doc pm an cdv ct), osl⟩ ∧ codeIn K cdv ql = true
structure Made (h h' : Heap) (e C d : Addr) (v u : Value) : Prop where
  keep : ∀ b o, h.get? b = some o → h'.get? b = some o
  new : h.objs.size ≤ e
  obj : ∃ oe vs, h'.get? e = some oe ∧ oe.cls = .ref C ∧ oe.dict = some d ∧ oe.data = .fields vs ∧ vs[1]? = some .none
  dbig : h.objs.size ≤ d
  dne : d ≠ e
  ns : h'.Ns1 d (fun y => if y = "sums" then some u else if y = "lot" then some v else none)
section
variable {prog : Program} {w : World} {A : Around} {E : Value → Shared → Prop} {R : Result → Shared → Prop} {s : Shared} {K : Frag} {mg : Str → Option Value} {nm ql : Str} {C fI : Addr} {B newId initId : String} {bmB : List Value}
theorem made (T : Tx K mg nm ql C fI B newId initId bmB) {v u : Value} (X : K.In s.heap) (hlim : s.heap.NoLimit) (hroom : A.depth + 1 < recursionLimit) (hq : ∀ h' tk e d, Made s.heap h' e C d v u → R (.ok (.ret (.ref e))) { s with heap := h', toks := tk }) :
    codeAny (model prog w) A (.call (.ref C) ⟨[v, u], []⟩) R s := by
  obtain ⟨n1, q, N, bs, bm, sn, sub, ab, col, dd, k0, k1, k2, k3, k5, hC, ln⟩ := T.cls
  obtain ⟨oc, od, doc, pm, an, cdv, ct, osl, p1, p2, p3, q1, q2, q3, q4, q5, q6, q7, q8, ho, hcd⟩ := T.fn
  have hcl : clsIn K C = some { name := n1, bases := bs, mro := .ref C :: bm, ns := N, qualname := q, hasDict := true, slotNames := sn, subclasses := sub, abstract := ab, collection := col, hasDel := false } := by
    unfold clsIn
    rw [hC]
  obtain ⟨hp, g, dr, tk, os⟩ := s
  have k : ∀ b o, hp.get? b = some o → ((hp.push (kdv_tup [v, u])).push (excO C hp.objs.size)).get? b = some o := fun b o e => Heap.get?_push_of_some _ (Heap.get?_push_of_some _ e)
  have hx : ((hp.push (kdv_tup [v, u])).push (excO C hp.objs.size)).get? (hp.objs.size + 1) = some (excO C hp.objs.size) := by heap_get
  refine mk_call T.base ln.mkl (X _ _ hC) (looks_findIn X T.iC) (fun self => bind_fn X self T.tC) (by rw [sizeLine_eq]; exact (by decide : 2 ≤ 16777216)) ?_
  have X1 := X.keeps k
  have lim1 : ((hp.push (kdv_tup [v, u])).push (excO C hp.objs.size)).NoLimit := hlim.keeps k
  have size1 : ((hp.push (kdv_tup [v, u])).push (excO C hp.objs.size)).objs.size = hp.objs.size + 1 + 1 := by rw [Heap.size_push, Heap.size_push]
  generalize (hp.push (kdv_tup [v, u])).push (excO C hp.objs.size) = h1 at k hx X1 lim1 size1 ⊢
  refine Att.call_fn (binds := [("self", .ref (hp.objs.size + 1)), ("lot", v), ("sums", u)]) X1 lim1 ho hcd hroom (BindsTo.of_eq (by first | rfl | with_unfolding_all rfl)) (by first | rfl | decide | with_unfolding_all rfl) (fun s₁ IC => ?_) rfl rfl rfl
  obtain ⟨h₁, tk₁, rfl⟩ := IC.toInCall.same
  have k1' : ∀ b o, h1.get? b = some o → h₁.get? b = some o := IC.toInCall.keep
  have hn := IC.toInCall.ns
  show wpAny _ _ (execs _ _) _ _ _
  refine wpAny_execs_cons (plainObj_wpAny_Assign_Attribute ?_)
  refine ldC (v := v) hn (by first | rfl | with_unfolding_all rfl | kernel_rfl) (ldC (v := .ref (hp.objs.size + 1)) hn (by first | rfl | with_unfolding_all rfl | kernel_rfl) ?_)
  refine set_plain (X1.keeps k1') (ox := excO C hp.objs.size) (od := none) ⟨k1' _ _ hx, rfl, rfl, trivial⟩ T.sa ?_
  refine err_first (X1.keeps k1') (k1' _ _ hx) hcl ln.own.obj ln.own.pass rfl rfl T.noA (fun h₃ tk₃ dx k₃ dn dne hx₃ hn₃ => ?_)
  show wpAny _ _ (execs _ _) _ _ _
  have z : h1.objs.size < h₁.objs.size := hn.lt
  have lt_ : ∀ {b : Addr} {o : Obj}, hp.get? b = some o → b ≠ hp.objs.size + 1 := fun {b o} e => Nat.ne_of_lt (Nat.lt_succ_of_lt (Heap.lt_size e))
  have X3 : K.In h₃ := fun a o e => k₃ a o (lt_ (X a o e)) (X1.keeps k1' a o e)
  have stay : ∀ {L : Addr} {m : Str → Option Value}, h₁.Ns L m → h₃.Ns L m := fun {L m} ns => by
    obtain ⟨o, es, n, e, dd, r⟩ := ns
    refine ⟨o, es, n, k₃ _ _ (fun z => ?_) e, dd, r⟩
    rw [z, k1' _ _ hx] at e
    cases e
    cases dd
  have hn3 := stay hn
  have hw : Within (fun y => if y = ("lot" : Str) then some v else none) ["lot"] := fun y hy => by
    by_cases e : y = "lot"
    · rw [e]
      exact List.mem_cons_self
    · exact absurd (if_neg e) hy
  obtain ⟨oD, eD, pD, gD, _, _⟩ := hn₃.count hw
  refine wpAny_execs_cons (plainObj_wpAny_Assign_Attribute ?_)
  refine ldC (v := u) hn3 (by first | rfl | with_unfolding_all rfl | kernel_rfl) (ldC (v := .ref (hp.objs.size + 1)) hn3 (by first | rfl | with_unfolding_all rfl | kernel_rfl) ?_)
  refine set_plain X3 (ox := { cls := .ref C, dict := some dx, data := .fields #[.ref hp.objs.size, .none, .none, .none, .bool false, .none] }) (od := some oD) ⟨hx₃, rfl, rfl, gD⟩ T.sa ?_
  refine err_next X3 hx₃ hn₃ hw (by decide) hcl ln.own.obj ln.own.pass rfl rfl T.noB (fun h₄ tk₄ k₄ hn₄ => ?_)
  show wpAny _ _ (execs _ _) _ _ _
  have dn' : h₁.objs.size ≤ dx := dn
  have dn2 : hp.objs.size ≤ dx := by
    show hp.objs.size ≤ dx
    omega
  refine wpAny_execs_nil ⟨rfl, hq h₄ tk₄ (hp.objs.size + 1) dx ⟨fun b o e => k₄ b o (Nat.ne_of_lt (Nat.lt_of_lt_of_le (Heap.lt_size e) dn2)) (k₃ b o (lt_ e) (k1' b o (k b o e))), Nat.le_succ _, ⟨_, _, k₄ _ _ (Ne.symm dne) hx₃, rfl, rfl, rfl, rfl⟩, dn2, dne, hn₄⟩⟩
end
end Er_lot_sums
section
variable {X : Cx} {nm ql : Str} {C fI : Addr} {B newId initId : String} {bmB : List Value}
theorem relO_lot_sums {v u : V} {v' u' : Value} (r : RelV v v') (r2 : RelV u u') (f : Str) : RelO (List.lookup f [(("sums" : Str), u), (("lot" : Str), v)]) (if f = "sums" then some u' else if f = "lot" then some v' else none) := by
  by_cases h1 : f = "sums"
  · subst h1
    rw [if_pos rfl]
    have q : List.lookup ("sums" : Str) [(("sums" : Str), u), (("lot" : Str), v)] = some u := by simp [List.lookup]
    rw [q]
    exact r2
  · rw [if_neg h1]
    have q1 : (f == ("sums" : Str)) = false := by simpa using h1
    by_cases h2 : f = "lot"
    · subst h2
      rw [if_pos rfl]
      have q : List.lookup ("lot" : Str) [(("sums" : Str), u), (("lot" : Str), v)] = some v := by simp [List.lookup, q1]
      rw [q]
      exact r
    · rw [if_neg h2]
      have q2 : (f == ("lot" : Str)) = false := by simpa using h2
      have q : List.lookup f [(("sums" : Str), u), (("lot" : Str), v)] = none := by simp [List.lookup, q1, q2]
      rw [q]
      trivial
/-- nm(e, f) as a value -/
def tVal_lot_sums (C : Addr) (ta : TA) : TE := fun σ H Q => ta σ H fun vs H1 => ∃ v u, vs = [v, u] ∧ ∀ e d, H1 e = none → H1 d = none → d ≠ e → Q (.ref e) (upd (upd H1 d (.xd [(("sums" : Str), u), (("lot" : Str), v)])) e (ExH (.ref C) (some d) e))
theorem pe_val_lot_sums {a b : Expr} {ta : TA} {p pos : Pos} {k : Nat} (T : Er_lot_sums.Tx X.K X.mg nm ql C fI B newId initId bmB) (hr : Room k X.A) (ha : PA X [a, b] ta) (hg : Gl X nm := by rfl) (hdb : (nm == ("__debug__" : Str)) = false := by decide)
    (he : starEach (a :: [b]) X.env = (false, eval a X.env) :: starEach [b] X.env := by rfl) (hpl : (backTo pos (starEach [b] X.env)).any (·.1) = false := by rfl) :
    PE X (.Call (.Name nm p) [a, b] [] pos) (tVal_lot_sums C ta) := by
  constructor
  intro pins s σ H Q I h
  refine wpAny_Call_Name_kw (ld_glob I hg T.gC ?_ hdb)
  refine PySem.W.callWith_K (h₀ := X.base) I.ok.mod.kin T.kC (thn (ha.run pos pins s σ H _ I h) fun us s1 hh => ?_) he hpl
  obtain ⟨vs, H1, I1, r1, v, u, ev, q1⟩ := hh
  subst ev
  refine ⟨I1.kIn, ?_⟩
  obtain ⟨v', u', rfl, rv, ru⟩ := vals2 r1
  show wpAny _ _ (call (.ref C) [v', u']) _ _ _
  have hlim := I1.nolimit
  obtain ⟨hp, g, dr, tk, os⟩ := s1
  refine wpAny_call (Er_lot_sums.made T I1.kIn hlim (by have := hr.dp; omega) fun h' tk' e d M => ?_)
  obtain ⟨oe, fv, hoe, hc, hd, hdat, h1⟩ := M.obj
  have hns := M.ns
  obtain ⟨G', g1, g2⟩ := restrict h' fun b => decide (b ≠ e)
  have gk : ∀ b, b ≠ e → G'.get? b = h'.get? b := fun b hb => g1 b (decide_eq_true hb)
  have ge : G'.get? e = none := g2 e (by simp)
  have old : ∀ b o, hp.get? b = some o → G'.get? b = some o := fun b o q => (gk b (Nat.ne_of_lt (Nat.lt_of_lt_of_le (Heap.lt_size q) M.new))).trans (M.keep b o q)
  have ob : ObjOk X.prog X.w (upd H1 d (.xd [(("sums" : Str), u), (("lot" : Str), v)])) G' d (.xd [(("sums" : Str), u), (("lot" : Str), v)]) :=
    ⟨_, hns.at (fun o q => (gk d M.dne).trans q), fun f => relO_lot_sums rv ru f⟩
  have J : L2.Inv X pins σ (upd H1 d (.xd [(("sums" : Str), u), (("lot" : Str), v)])) ⟨G', g, dr, tk', os⟩ := I1.laid (t' := tk') old M.dbig ob
  have fe : H1 e = none := I1.hok.fresh M.new
  have fd : H1 d = none := I1.hok.fresh M.dbig
  have J2 : L2.Inv X pins σ (upd (upd H1 d (.xd [(("sums" : Str), u), (("lot" : Str), v)])) e (ExH (.ref C) (some d) e)) ⟨h', g, dr, tk', os⟩ := J.laidN (h' := h') (t' := tk') (fun b u q => by
    by_cases hb : b = e
    · have q' : G'.get? b = some u := q
      rw [hb, ge] at q'
      cases q'
    · exact (gk b hb).symm.trans q) ge (by rw [upd_ne (Ne.symm M.dne)]; exact fe) (held_ok hoe ⟨hc, hd⟩ hdat)
  exact ⟨.ref e, _, J2, rfl, q1 e d fe fd M.dne⟩
end
end Pk
/-! ### what own errors say of themselves: str(e), and {x!s} -/
namespace Pk
open PySem PySem.Spec L2
section
variable {X : Cx}
/-- {x!s} of a text -/
def tFmtS (te : TE) : TE := fun σ H Q => te σ H fun x H1 => ∃ y : Str, x = .str y ∧ y.length ≤ sizeLine ∧ Q (.str y) H1
theorem pe_fmtS {e : Expr} {te : TE} {pos : Pos} (he : PE X e te) : PE X (.FormattedValue e 115 none pos) (tFmtS te) := by
  constructor
  intro pins s σ H Q I h
  refine wpAny_FormattedValue_s (thn (he.run pins s σ H _ I h) ?_)
  rintro v s1 ⟨x, H1, I1, r1, y, rfl, hz, q⟩
  obtain ⟨t, rfl⟩ := r1
  have fin : ∀ (t' : Tok) (tk : Nat), wpAny (model X.prog X.w) X.A (formatField (.str y t') Str.empty) (EP X pins σ Q) X.xe { s1 with toks := tk } := fun t' tk =>
    wpAny_formatField_str (s := { s1 with toks := tk }) ⟨.str y, H1, I1.tok _, ⟨_, rfl⟩, q⟩ ⟨.str y, H1, I1.tok _, ⟨_, rfl⟩, q⟩ hz
  refine wpAny_habitSame_str (fin t s1.toks) (fin _ _)
variable {k : Nat} {f C : Addr} {fd : FuncData} {sp : Sp} {e : Expr} {te : TE} {p pos : Pos}
/-- str(e), e a kept error whose class says how it is told -/
def tStrErr (C : Addr) (sp : Sp) (te : TE) : TE := fun σ H Q => te σ H fun x H1 => ∃ (a : Addr) (d : Option Addr), x = .ref a ∧ H1 a = some (ExH (.ref C) d a) ∧ DictOk H1 d ∧ sp [.ref a] H1 (fun v H2 => (∃ z, v = .str z) ∧ Q v H2) E0
theorem pe_strErr (F : FnOk X.prog X.w X.K X.mg X.base CX0 k f fd ["self"] sp) (hr : Room (k + 2) X.A) (hs : PySem.W.findIn X.K (.ref C) "__str__" = some (some (.ref f))) (hf : PySem.W.isFn X.K (.ref f) = true) (hb : Binds X.K fd ["self"] []) (hg : Gl X "str") (hm : X.mg "str" = none) (he : PE X e te)
    (na : starEach [e] X.env = (false, eval e X.env) :: starEach [] X.env := by rfl) : PE X (.Call (.Name "str" p) [e] [] pos) (tStrErr C sp te) := by
  constructor
  intro pins s σ H Q I h
  refine PyProof.Rows.Call_ (ld_blt I hg hm PyProof.Rows.boot_str ?_)
  refine PyProof.Rows.callWith_type1 (PyProof.Rows.args_cons (thn (he.run pins s σ H _ I h) ?_) na) na rfl
  rintro v s1 ⟨x, H1, I1, r1, a, d, rfl, ha, hd, q⟩
  cases (show v = Value.ref a from r1)
  obtain ⟨oe, od, J, -⟩ := held_at I1 ha hd
  refine PyProof.Rows.args_nil (PySem.W.kso_call (by have := hr.un; show X.A.in1.in1.units < cLine; have e1 := (hr.in1.in1).un; omega) I1.kIn J hs hf ?_)
  refine wpAny_call (codeAny_mono (F.run _ X.stack s1 H1 ⟨[.ref a], []⟩ [.ref a] [.ref a] _ E0 hr.in1.in1 I1.env0.in1.in1 (hb s1 [.ref a] I1.kIn rfl) (.cons rfl .nil) q) fun r s' hq => ?_)
  cases r with
  | error e => exact hq.elim
  | ok fl =>
    cases fl with
    | ret u =>
      obtain ⟨v, H2, I2, rv, ⟨z, rfl⟩, q2⟩ := I1.after hq
      obtain ⟨t, rfl⟩ := rv
      exact ⟨.str z, H2, I2, ⟨t, rfl⟩, q2⟩
    | next => exact False.elim hq
    | brk => exact False.elim hq
    | cont => exact False.elim hq
end
end Pk
namespace Pk
open PySem L2
/-! ### calls with keywords, of defs with defaults -/
section
variable {K : PySem.W.Frag} {x qual : Str} {params : Arguments} {body : List Stmt} {scope : Scope} {dvs : List V} {f : Addr} {fd : FuncData} {ps : List Str}
theorem kbnD (F : FunD K x qual params body scope dvs [] f fd) (n : Nat) (ks : List Str) (g : {α : Type} → List α → List α → List α → List α) (hd : dvs ≠ [])
    (hrel : ∀ {vs ds zs : List V} {us its ws : List Value}, Vals vs us → Vals ds its → Vals zs ws → Vals (g vs ds zs) (g us its ws))
    (h : ∀ (T : Addr) (kV doc pm : Value) (an : Option Addr) (cdv ct : Value) (us its ws : List Value), us.length = n → its.length = dvs.length → ws.length = ks.length →
      ∃ k, bindArgs (PySem.W.fnOf x qual params body scope (.ref T) kV doc pm an cdv ct) ⟨us, ks.zip ws⟩ = seqItems? (.ref T) >>= k ∧ k (some its.toArray) = pure (ps.zip (g us its ws))) :
    ∃ its : List Value, KBn K fd ps n ks (fun us ws => g us its ws) (fun vs zs => g vs dvs zs) := by
  obtain ⟨oc, od, dV, kV, doc, pm, an, cdv, ct, osl, rfl, lk, hcd, hD, hK⟩ := F.ex
  rcases hD with ⟨e, _⟩ | ⟨_, T, o, its, m, rfl, lT, oT, rT⟩
  · exact absurd e hd
  · refine ⟨its, ⟨fun s us ws X l1 l2 => ?_, fun r1 r2 => hrel r1 rT r2⟩⟩
    obtain ⟨k, e1, e2⟩ := h T kV doc pm an cdv ct us its ws l1 rT.length.symm l2
    refine BindsTo.of_looks fun M => ?_
    rw [e1]
    exact looks_items X lT oT (.of_pure e2)
end
section
variable {X : Cx} {CX : CXT} {k : Nat} {f : Addr} {fd : FuncData} {ps ks : List Str} {sp : Sp} {E : XK} {x : Str} {p pos : Pos} {kws : List Keyword} {tk : TA} {g : List Value → List Value → List Value} {gV : List V → List V → List V}
theorem pe_callN0 (F : FnOk X.prog X.w X.K X.mg X.base CX k f fd ps sp) (hr : Room k X.A) (hg : Gl X x) (hm : X.mg x = some (.ref f)) (hk : PySem.W.keepIn X.K (.ref f) = true) (hb : KBn X.K fd ps 0 ks g gV) (hx : Passes CX X E)
    (hkw : PK X kws tk) (hall : (backToKw pos (keywordEach kws X.env)).all (·.1.isSome) = true := by rfl) (hks : (backToKw pos (keywordEach kws X.env)).filterMap (·.1) = ks := by rfl) (hdb : (x == ("__debug__" : Str)) = false := by decide)
    (hpl : ((backTo pos (starEach [] X.env)).any (·.1) || (backToKw pos (keywordEach kws X.env)).any (·.1.isNone)) = false := by rfl) :
    PE X (.Call (.Name x p) [] kws pos) (tCallN 0 ks.length sp gV E tNil tk) := by
  constructor
  intro pins s σ H Q I h
  refine wpAny_Call_Name_kw (ld_glob I hg hm ?_ hdb)
  refine PySem.W.callWith_KW0 (h₀ := X.base) I.ok.mod.kin hk hall (thn (hkw.run pos pins s σ H _ I h) ?_) hpl
  rintro ws s2 ⟨zs, H2, I2, rz, l1, l2, q2⟩
  refine ⟨I2.kIn, ?_⟩
  rw [hks]
  exact run_fnN (us := []) (vs := []) F hr hb hx I2 .nil rz l1 l2 q2
theorem pe_callK0 (F : FnOk X.prog X.w X.K X.mg X.base CX k f fd ps sp) (hr : Room k X.A) (hg : Gl X x) (hm : X.mg x = some (.ref f)) (hk : PySem.W.keepIn X.K (.ref f) = true) (hb : KBinds X.K fd ps ks g gV) (hx : Passes CX X E)
    (hkw : PK X kws tk) (hall : (backToKw pos (keywordEach kws X.env)).all (·.1.isSome) = true := by rfl) (hks : (backToKw pos (keywordEach kws X.env)).filterMap (·.1) = ks := by rfl) (hdb : (x == ("__debug__" : Str)) = false := by decide)
    (hpl : ((backTo pos (starEach [] X.env)).any (·.1) || (backToKw pos (keywordEach kws X.env)).any (·.1.isNone)) = false := by rfl) :
    PE X (.Call (.Name x p) [] kws pos) (tCallK sp gV E tNil tk) := by
  constructor
  intro pins s σ H Q I h
  refine wpAny_Call_Name_kw (ld_glob I hg hm ?_ hdb)
  refine PySem.W.callWith_KW0 (h₀ := X.base) I.ok.mod.kin hk hall (thn (hkw.run pos pins s σ H _ I h) ?_) hpl
  rintro ws s2 ⟨zs, H2, I2, rz, q2⟩
  refine ⟨I2.kIn, ?_⟩
  rw [hks]
  exact run_fnk (us := []) (vs := []) F hr hb hx I2 .nil rz q2
/-- a def of one parameter, called by its name or by place -/
theorem kbinds_one {K : PySem.W.Frag} {nm ql pr : Str} {st : Stmt} {f : Addr} {fd : FuncData} (F : Fun K nm ql st f fd)
    (h1 : ∀ (kV doc pm : Value) (an : Option Addr) (cdv ct u : Value), bindArgs (PySem.W.fnOf nm ql (defArgs st) (defBody st) (defScope st) .none kV doc pm an cdv ct) ⟨[], [(pr, u)]⟩ = pure [(pr, u)])
    (h2 : ∀ (kV doc pm : Value) (an : Option Addr) (cdv ct u : Value), bindArgs (PySem.W.fnOf nm ql (defArgs st) (defBody st) (defScope st) .none kV doc pm an cdv ct) ⟨[u], []⟩ = pure [(pr, u)]) :
    KBinds K fd [pr] [pr] (fun us ws => us ++ ws) (fun vs zs => vs ++ zs) := by
  obtain ⟨oc, od, kV, doc, pm, an, cdv, ct, osl, rfl, lk, hcd⟩ := F.ex
  exact ⟨fun s us ws _ hl => match us, ws, hl with
    | [], [u], _ => .of_eq (h1 kV doc pm an cdv ct u)
    | [u], [], _ => .of_eq (h2 kV doc pm an cdv ct u), fun r1 r2 => r1.append r2⟩
end
end Pk
namespace Pk
open PySem PySem.Spec L2
/-! ### own ==, whatever it tells -/
section
variable {X : Cx} {k : Nat} {C f : Addr} {fd : FuncData} {ps : List Str} {sp : Sp}
/-- x == y, x of the class C whose __eq__ is f, y of the type tb -/
def rEqO (K : PySem.W.Frag) (C : Addr) (sp : Sp) : R2 := fun x y H Q => ∃ (a dx : Addr) (fs : List (Str × V)) (tb : Value), x = .ref a ∧ H a = some (.ins C dx fs) ∧ TyX K H y tb ∧ PySem.W.notFirst K C tb = true ∧ sp [.ref a, y] H (fun v H' => (∃ b, v = .bl b) ∧ Q v H') E0
theorem op_eqO (F : FnOk X.prog X.w X.K X.mg X.base CX0 k f fd ["self", "other"] sp) (hr : Room k X.A) (hs : PySem.W.findIn X.K (.ref C) "__eq__" = some (some (.ref f))) (hf : PySem.W.isFn X.K (.ref f) = true) (hb : Binds X.K fd ["self", "other"] []) : OpR X (compareOp .Eq) (rEqO X.K C sp) := by
  rintro pins s σ H x y v u Q I rx ry ⟨a, dx, fs, tb, rfl, ha, ty, hn, h⟩
  cases (show v = Value.ref a from rx)
  show wpAny (model X.prog X.w) X.A (richCompare .Eq (.ref a) u) (EP X pins σ Q) X.xe s
  obtain ⟨mA, J, _⟩ := ins_get I.hok ha
  obtain ⟨od, J, _⟩ := J.look
  obtain ⟨m, hF⟩ := I.fr
  obtain ⟨Pz, Z, p, -⟩ := kit_of I ry ty
  refine PySem.W.cmp_K (op := .Eq) (tb := tb) hr.units0 hF I.ok.mod.kin J (Z.ty _ _ I.kIn p) hn hs hf ?_
  refine wpAny_call (codeAny_mono (F.run X.A X.stack s H ⟨[.ref a, u], []⟩ [.ref a, u] [.ref a, y] _ E0 hr I.env0 (hb s [.ref a, u] I.kIn rfl) (.cons rfl (.cons ry .nil)) h) fun r s' hq => ?_)
  match r, hq with
  | .error e, hq => exact hq.elim
  | .ok .next, hq => exact hq.elim
  | .ok .brk, hq => exact hq.elim
  | .ok .cont, hq => exact hq.elim
  | .ok (.ret z), hq =>
    obtain ⟨v, H2, I2, rv, ⟨b, rfl⟩, q2⟩ := I.after hq
    cases rv
    exact ⟨.bl b, H2, I2, rfl, q2⟩
end
namespace OwnNe
open PyProof.Rows PySem.SeqAt
section
variable {M : Model} {prog : Program} {w : World} {A : Around} {E : Value → Shared → Prop} {s : Shared} {K : PySem.W.Frag} {x C f : Addr} {ox : Obj} {od : Option Obj} {b tb : Value}
theorem ifBound_objNe {args : List Value} {Q : Option Value → Shared → Prop} (X : K.In s.heap) (I : PySem.W.InstAt s.heap x ox C od) (hs : PySem.W.findIn K (.ref C) "__ne__" = some (some (.builtin "object.__ne__")))
    (h : wpAny M A (call (.builtin "object.__ne__") (.ref x :: args)) (fun v => Q (some v)) E s) : wpAny M A (callSpecialIfBound? (.ref x) "__ne__" args) Q E s := by
  simp only [callSpecialIfBound?, bindSpecialIfBound?]
  refine wpAny_holding (wpAny_bind (wpAny_bind (wpAny_bind (I.type.here ((PySem.W.looks_findIn X hs).here ?_)))))
  refine wpAny_bind (wpAny_askSetting (wpAny_ite ?_))
  have fin : wpAny M A (call (.builtin "object.__ne__") ([.ref x] ++ args) >>= fun v => pure (some v)) Q E s := wpAny_bind (wpAny_mono h (fun v s' h' => wpAny_pure h') fun _ _ h' => h')
  split
  · exact wpAny_bind (wpAny_of_eq (F.cmp_object.ne.bind _) (wpAny_pure (by exact fin)))
  · exact wpAny_tryCatch (wpAny_bind (wpAny_of_eq (F.cmp_object.ne.bind _) (wpAny_pure (by exact fin))))
theorem entry_ne (X : K.In s.heap) (I : PySem.W.InstAt s.heap x ox C od) (he : PySem.W.findIn K (.ref C) "__eq__" = some (some (.ref f))) (hf : PySem.W.isFn K (.ref f) = true) (hu : A.units < cLine) {Q : Fin → Shared → Prop}
    (hcall : wpAny (model prog w) A (call (.ref f) [.ref x, b]) (fun v s' => ∃ r, v = .bool r ∧ Q (.done (.ret (.bool (!r)))) s') E s) : wpAny (model prog w) A (Builtin.«object.__ne__» ⟨[.ref x, b], []⟩) Q E s := by
  unfold Builtin.«object.__ne__»
  repeat (first
    | with_reducible refine wpAny_cRoomFor hu ?_
    | (refine wpAny_bind (m := callSpecialIfBound? (.ref x) (Str.ofString "__eq__") [b])
        (PySem.W.ifBound_K X I he hf (wpAny_mono hcall (fun r s' hr => by
          obtain ⟨b, rfl, hq⟩ := hr
          repeat (first | exact hq | exact wpAny_pure hq | exact wpAny_truthy_bool hq | (refine wpAny_bind (m := truthy (.bool _)) (wpAny_truthy_bool ?_)) | wp_step)) fun _ _ e => e)))
    | wp_step)
theorem rc_ne (X : K.In s.heap) (I : PySem.W.InstAt s.heap x ox C od) (hb : PySem.W.Looks (model prog w) s.heap (typeOf b) tb) (hn : PySem.W.notFirst K C tb = true) (hs : PySem.W.findIn K (.ref C) "__ne__" = some (some (.builtin "object.__ne__")))
    (hm : PySem.W.mroIn K C (.type "object") = some true) (he : PySem.W.findIn K (.ref C) "__eq__" = some (some (.ref f))) (hf : PySem.W.isFn K (.ref f) = true) (hu : A.units + 1 < cLine) {Q : Value → Shared → Prop}
    (hcall : wpAny (model prog w) A.in1 (call (.ref f) [.ref x, b]) (fun v s' => ∃ r, v = .bool r ∧ Q (.bool (!r)) s') E s) : wpAny (model prog w) A (richCompare .NotEq (.ref x) b) Q E s := by
  have one : wpAny (model prog w) A (tryCompare (.ref x) "__ne__" b) (fun r s' => ∃ v, r = some v ∧ Q v s') E s := by
    unfold tryCompare
    refine wpAny_bind (ifBound_objNe X I hs (wpAny_call (codeAny_call_builtin F.cmp_object.ne.plain F.cmpEntry_ne (PySem.W.check_slot F.cmpKind_ne F.cmpSplit_ne (I.type.andThen (PySem.W.looks_mroIn X hm)) (F.cmpArgs_ne _ _) (entry_ne (A := A.in1) X I he hf hu (wpAny_mono hcall (fun v s' hv => ?_) fun _ _ e => e))))))
    obtain ⟨r, rfl, hq⟩ := hv
    first | exact ⟨r, rfl, wpAny_pure ⟨_, rfl, hq⟩⟩ | exact ⟨r, rfl, ⟨_, rfl, hq⟩⟩
  unfold richCompare
  simp only [oneThing_ref]
  refine wpAny_holding (wpAny_bind (wpAny_cRoomFor (Nat.lt_of_succ_lt hu) ?_))
  refine wpAny_bind (I.type.here (wpAny_bind (hb.here ?_)))
  split
  · rename_i q
    have e : PySem.W.subIn K tb (.ref C) = some false := by
      rcases Bool.or_eq_true_iff.mp hn with e | e
      · rw [beq_iff_eq.mp e] at q; simp at q
      · exact beq_iff_eq.mp e
    refine wpAny_bind ((PySem.W.looks_subIn X e).here ?_)
    simp only [Bool.false_eq_true, if_false]
    refine wpAny_bind (wpAny_mono one (fun r s' z => ?_) fun _ _ e => e)
    obtain ⟨v, rfl, hq⟩ := z
    exact wpAny_pure hq
  · refine wpAny_bind (wpAny_pure ?_)
    simp only [Bool.false_eq_true, if_false]
    refine wpAny_bind (wpAny_mono one (fun r s' z => ?_) fun _ _ e => e)
    obtain ⟨v, rfl, hq⟩ := z
    exact wpAny_pure hq
end
end OwnNe
section
variable {X : Cx} {k : Nat} {C f : Addr} {fd : FuncData} {sp : Sp}
/-- x != y, x of the class C whose __eq__ is f, without an __ne__ of its own -/
def rNeO (K : PySem.W.Frag) (C : Addr) (sp : Sp) : R2 := fun x y H Q => ∃ (a dx : Addr) (fs : List (Str × V)) (tb : Value), x = .ref a ∧ H a = some (.ins C dx fs) ∧ TyX K H y tb ∧ PySem.W.notFirst K C tb = true ∧ sp [.ref a, y] H (fun v H' => ∃ b, v = .bl b ∧ Q (.bl (!b)) H') E0
theorem op_neO (F : FnOk X.prog X.w X.K X.mg X.base CX0 k f fd ["self", "other"] sp) (hr : Room (k + 1) X.A) (hs : PySem.W.findIn X.K (.ref C) "__eq__" = some (some (.ref f))) (hne : PySem.W.findIn X.K (.ref C) "__ne__" = some (some (.builtin "object.__ne__"))) (hm : PySem.W.mroIn X.K C (.type "object") = some true) (hf : PySem.W.isFn X.K (.ref f) = true) (hb : Binds X.K fd ["self", "other"] []) : OpR X (compareOp .NotEq) (rNeO X.K C sp) := by
  rintro pins s σ H x y v u Q I rx ry ⟨a, dx, fs, tb, rfl, ha, ty, hn, h⟩
  cases (show v = Value.ref a from rx)
  show wpAny (model X.prog X.w) X.A (richCompare .NotEq (.ref a) u) (EP X pins σ Q) X.xe s
  obtain ⟨mA, J, _⟩ := ins_get I.hok ha
  obtain ⟨od, J, _⟩ := J.look
  obtain ⟨Pz, Z, p, -⟩ := kit_of I ry ty
  have hu : X.A.units + 1 < cLine := hr.in1.units0
  refine OwnNe.rc_ne (tb := tb) I.kIn J (Z.ty _ _ I.kIn p) hn hne hm hs hf hu ?_
  refine wpAny_call (codeAny_mono (F.run X.A.in1 X.stack s H ⟨[.ref a, u], []⟩ [.ref a, u] [.ref a, y] _ E0 hr.in1 I.env0.in1 (hb s [.ref a, u] I.kIn rfl) (.cons rfl (.cons ry .nil)) h) fun r s' hq => ?_)
  match r, hq with
  | .error e, hq => exact hq.elim
  | .ok .next, hq => exact hq.elim
  | .ok .brk, hq => exact hq.elim
  | .ok .cont, hq => exact hq.elim
  | .ok (.ret z), hq =>
    obtain ⟨v, H2, I2, rv, b, rfl, q2⟩ := I.after hq
    cases rv
    exact ⟨b, rfl, .bl (!b), H2, I2, rfl, q2⟩
end
end Pk
namespace Pk
open PySem L2
/-! ### wishes.py: a wish made -/
abbrev words6 : List Str := ["many", "toil", "marks", "rest", "kin", "with"]
def isWord : V → Bool
  | .str z => decide (z ∈ words6)
  | _ => false
def canV (wd wh : V) : Bool := if wd = .str "with" then nameV wh else if wd = .str "rest" then decide (wh = .str "") else nameE wh
def intOf : V → Int
  | .int i => i
  | _ => 0
/-- the first thing that can't be there -/
def wrongW (wd wh le mo : V) : Str := if isWord wd = false then "word" else if canV wd wh = false then "what" else if whole le 0 999 = false then "least" else if whole mo (if wd = .str "rest" then 0 else intOf le) 999 = false then "most" else ""
def wFs (wd wh le mo : V) : List (Str × V) := [("word", wd), ("what", wh), ("least", le), ("most", mo)]
theorem wFs_put (wd wh le mo : V) : putF "most" mo (putF "least" le (putF "what" wh (putF "word" wd []))) = wFs wd wh le mo := by kernel_rfl
theorem put_le {f : Str} {v : V} {fs : List (Str × V)} {n : Nat} (h : fs.length ≤ n) : (putF f v fs).length ≤ n + 1 := by
  have := length_putF f v fs
  omega
theorem lw_word (wd wh le mo : V) : (wFs wd wh le mo).lookup ("word" : Str) = some wd := by kernel_rfl
theorem lw_what (wd wh le mo : V) : (wFs wd wh le mo).lookup ("what" : Str) = some wh := by kernel_rfl
theorem lw_least (wd wh le mo : V) : (wFs wd wh le mo).lookup ("least" : Str) = some le := by kernel_rfl
theorem lw_most (wd wh le mo : V) : (wFs wd wh le mo).lookup ("most" : Str) = some mo := by kernel_rfl
def spCanBe : Sp := fun vs H Q _ => ∃ (z : Str) (x : V), vs = [.str z, x] ∧ Thg H x ∧ ∀ H', Same H H' → Q (.bl (canV (.str z) x)) H'
def spWInit (CW cE : Addr) : Sp := fun vs H Q E => ∃ (x dx : Addr) (wd wh le mo : V), vs = [.ref x, wd, wh, le, mo] ∧ H x = some (.ins CW dx []) ∧ Thg H wd ∧ Thg H wh ∧ Thg H le ∧ Thg H mo ∧
  ∀ H', Same H H' → (wrongW wd wh le mo = "" → Q .non (upd H' x (.ins CW dx (wFs wd wh le mo)))) ∧
    (wrongW wd wh le mo ≠ "" → ∀ d, H' d = none → E (.ref cE) (some d) (upd H' d (.xd [(("at" : Str), .str (wrongW wd wh le mo))])))
abbrev psW : List Str := ["self", "word", "what", "least", "most"]
abbrev dvW : List V := [.str "", .int 0, .int 999]
structure WCls (K : PySem.W.Frag) (CW : Addr) : Prop where
  cls : Cls K CW
  no : ∀ f ∈ ["word", "what", "least", "most"], NoAttr K CW f
abbrev ExLine : List Value := [.type "Exception", .type "BaseException", .type "object"]
abbrev TxW (K : PySem.W.Frag) (mg : Str → Option Value) (C fI : Addr) : Prop := Er_at.Tx K mg "BadWish" "BadWish.__init__" C fI "Exception" "Exception.__new__" "Exception.__init__" ExLine
/-- the words of wishes, as the top has left them -/
def WordsAt (K : PySem.W.Frag) (mg : Str → Option Value) (x : Str) (zs : List Str) : Prop := ∃ a : Addr, mg x = some (.ref a) ∧ ∀ H : Hp, SqT K H a (zs.map V.str)
theorem in_strs {z : Str} {zs : List Str} : inV (.str z) (zs.map V.str) = decide (z ∈ zs) := by
  unfold inV
  rw [List.any_map, Bool.eq_iff_iff, List.any_eq_true, decide_eq_true_iff]
  constructor
  · rintro ⟨y, hy, e⟩
    have e' : y = z := by simpa [eqV] using e
    rw [e'] at hy
    exact hy
  · exact fun h => ⟨z, h, by simp [eqV]⟩
theorem flat_strs (zs : List Str) : (zs.map V.str).all flatV = true := List.all_eq_true.mpr fun x hx => by
  obtain ⟨z, _, rfl⟩ := List.mem_map.mp hx
  rfl
def tLo : TE := fun σ H Q => ∃ (z : Str) (i : Int), σ[1]? = some (some (.str z)) ∧ σ[3]? = some (some (.int i)) ∧ Q (.int (if V.str z = .str "rest" then 0 else i)) H
section
variable {P : Program} {w : World} {K : PySem.W.Frag} {mg : Str → Option Value} {base : Heap}
theorem scCanBe : FnScope ["word", "what"] ["word", "what"] (defScope sCanBe) := ⟨rfl, rfl, rfl, by decide +kernel, rfl, by decide +kernel, by decide +kernel⟩
theorem ok_canBe {f fN fE : Addr} {fd fdN fdE : FuncData} (F : Fun K "can_be_of" "can_be_of" sCanBe f fd) (mi : mg "isinstance" = none) (ms : mg "str" = none)
    (GN : FnOk P w K mg base CX0 1 fN fdN ["thing"] spIsName) (kN : PySem.W.keepIn K (.ref fN) = true) (bN : Binds K fdN ["thing"] []) (gN : mg "is_name" = some (.ref fN))
    (GE : FnOk P w K mg base CX0 2 fE fdE ["thing"] spIsNameE) (kE : PySem.W.keepIn K (.ref fE) = true) (bE : Binds K fdE ["thing"] []) (gE : mg "is_name_or_empty" = some (.ref fE)) :
    FnOk P w K mg base CX0 3 f fd ["word", "what"] spCanBe := by
  refine F.ok scCanBe (fun vs H Q E h => ?_) (fun cdv A outer s H vs Q E hr h => ?_)
  · obtain ⟨z, x, rfl, _⟩ := h
    rfl
  · obtain ⟨z, x, rfl, hx, q⟩ := h
    have r1 : Room 1 _ := hr.mono (by decide)
    refine ⟨_, pss_cons (ps_if (pt_cmpR op_eq (pv 0) pe_str (nomark _)) (pss_one (ps_ret (pe_call GN r1 (by rfl) gN kN bN .nil pass0 (pa_cons (pv 1) pa_nil)))) pss_nil)
      (pss_cons (ps_if (pt_cmpR op_eq (pv 0) pe_str (nomark _)) (pss_one (ps_ret (pe_and (isb (i := 1) mi ms PyProof.Rows.boot_str) (pe_one (pe_cmpR op_eq (pv 1) pe_str (nomark _)))))) pss_nil)
      (pss_one (ps_ret (pe_call GE hr (by rfl) gE kE bE .nil pass0 (pa_cons (pv 1) pa_nil))))), ?_⟩
    unfold canV at q
    refine ⟨_, rfl, rfl, _, rfl, ?_⟩
    by_cases h1 : V.str z = .str "with"
    · rw [if_pos h1] at q
      exact iteT' (by simpa using h1) ⟨_, rfl, x, rfl, hx, q⟩
    · rw [if_neg h1] at q
      refine iteF' (by simpa using h1) ⟨_, rfl, rfl, _, rfl, ?_⟩
      by_cases h2 : V.str z = .str "rest"
      · rw [if_pos h2] at q
        obtain ⟨t, ty, _, _, k3, _⟩ := hx.ty (K := K)
        have q := q H (Same.refl H)
        refine iteT' (by simpa using h2) ⟨_, rfl, _, _, _, _, _, rfl, .ty "str", ty, kit_ty k3, _, rfl, ?_⟩
        cases hx with
        | str y hl ho => exact iteT ⟨_, rfl, rfl, q⟩
        | non => exact iteF q
        | bl b => exact iteF q
        | int i => exact iteF q
        | lst h => exact iteF q
        | tup h => exact iteF q
        | dct h => exact iteF q
      · rw [if_neg h2] at q
        exact iteF' (by simpa using h2) ⟨_, rfl, x, rfl, hx, q⟩
theorem scWInit : FnScope psW psW (defScope sWInit) := ⟨rfl, rfl, rfl, by decide +kernel, rfl, by decide +kernel, by decide +kernel⟩
abbrev FunW (K : PySem.W.Frag) (f : Addr) (fd : FuncData) : Prop := FunD K "__init__" "Wish.__init__" (defArgs sWInit) (defBody sWInit) (defScope sWInit) dvW [] f fd
theorem ok_wInit {f fC fW CW cE fI : Addr} {fd fdC fdW : FuncData} (F : FunW K f fd) (T : TxW K mg cE fI) (C : WCls K CW) (mi : mg "isinstance" = none) (ms : mg "str" = none) (gw : WordsAt K mg "WORDS" words6) (gM : ∃ t, mg "MOST" = some (.int 999 t))
    (GC : FnOk P w K mg base CX0 3 fC fdC ["word", "what"] spCanBe) (kC : PySem.W.keepIn K (.ref fC) = true) (bC : Binds K fdC ["word", "what"] []) (gC : mg "can_be_of" = some (.ref fC))
    (GW : FnOk P w K mg base CX0 2 fW fdW ["thing", "least", "most"] spIsWhole) (kW : PySem.W.keepIn K (.ref fW) = true) (bW : ∃ ds, Vals ([] : List V) ds ∧ Binds K fdW ["thing", "least", "most"] ds) (gW : mg "is_whole" = some (.ref fW)) :
    FnOk P w K mg base (L2.CX P w) 4 f fd psW (spWInit CW cE) := by
  obtain ⟨ds, hds, bW⟩ := bW
  obtain ⟨tM, gM⟩ := gM
  obtain ⟨aW, gw, hW⟩ := gw
  refine F.ok scWInit (fun vs H Q E h => ?_) (fun cdv A outer s H vs Q E hr h => ?_)
  · obtain ⟨x, dx, wd, wh, le, mo, rfl, _⟩ := h
    rfl
  · obtain ⟨x, dx, wd, wh, le, mo, rfl, hx, p1, p2, p3, p4, q⟩ := h
    have r2 : Room 2 _ := hr.mono (by decide)
    refine ⟨_, pss_cons (ps_if (PW.pt (pw_or (pt_not (pt_val (isb (i := 1) mi ms PyProof.Rows.boot_str))) (pw_or1 (pt_cmpR op_notIn_seq (pv 1) (pe_glob (v := .ref aW) (by rfl) gw rfl) (by rfl))))) (pss_one (ps_raiseE_at rfl T hr (takes_of rfl rfl rfl rfl) (by exact (pa_cons pe_str pa_nil)))) pss_nil)
      (pss_cons (ps_if (pt_not (pt_val (pe_call GC hr (by rfl) gC kC bC .nil pass0 (pa_cons (pv 1) (pa_cons (pv 2) pa_nil))))) (pss_one (ps_raiseE_at rfl T hr (takes_of rfl rfl rfl rfl) (by exact (pa_cons pe_str pa_nil)))) pss_nil)
      (pss_cons (ps_if (pt_not (pt_val (pe_call GW r2 (by rfl) gW kW bW hds pass0 (pa_cons (pv 3) (pa_cons pe_int (pa_cons (pe_glob (v := .int 999) (by rfl) gM ⟨_, rfl⟩) pa_nil)))))) (pss_one (ps_raiseE_at rfl T hr (takes_of rfl rfl rfl rfl) (by exact (pa_cons pe_str pa_nil)))) pss_nil)
      (pss_cons (ps_if (pt_not (pt_val (pe_call GW r2 (by rfl) gW kW bW hds pass0 (pa_cons (pv 4) (pa_cons (pe_imp tLo (pe_ifExp (pt_cmpR op_eq (pv 1) pe_str (nomark _)) pe_int (pv 3)) (by
        rintro σ H Q ⟨z, i, e1, e3, fin⟩
        refine ⟨_, e1, rfl, _, rfl, ?_⟩
        by_cases h : V.str z = .str "rest"
        · rw [if_pos h] at fin
          exact iteT' (by simpa using h) fin
        · rw [if_neg h] at fin
          exact iteF' (by simpa using h) ⟨_, e3, fin⟩)) (pa_cons (pe_glob (v := .int 999) (by rfl) gM ⟨_, rfl⟩) pa_nil)))))) (pss_one (ps_raiseE_at rfl T hr (takes_of rfl rfl rfl rfl) (by exact (pa_cons pe_str pa_nil)))) pss_nil)
      (pss_cons (ps_fld (pv 0) (pv 1) rfl)
      (pss_cons (ps_fld (pv 0) (pv 2) rfl)
      (pss_cons (ps_fld (pv 0) (pv 3) rfl)
      (pss_one (ps_fld (pv 0) (pv 4) rfl)))))))), ?_⟩
    have bad : ∀ {z : Str}, wrongW wd wh le mo = z → z ≠ "" → ∀ {H' : Hp}, Same H H' → ∀ d, H' d = none → E (.ref cE) (some d) (upd H' d (.xd [(("at" : Str), .str z)])) := fun {z} e n {H'} s' d hd => by
      have := (q H' s').2 (by rw [e]; exact n) d hd
      rw [e] at this
      exact this
    obtain ⟨t, ty, _, _, k3, _⟩ := p1.ty (K := K)
    refine ⟨_, rfl, _, _, _, _, _, rfl, .ty "str", ty, kit_ty k3, _, rfl, ?_⟩
    have s0 : Same H H := Same.refl H
    cases p1 with
    | non => exact iteT ⟨_, rfl, fun d hd => bad (if_pos rfl) (by decide) s0 d hd⟩
    | bl b => exact iteT ⟨_, rfl, fun d hd => bad (if_pos rfl) (by decide) s0 d hd⟩
    | int i => exact iteT ⟨_, rfl, fun d hd => bad (if_pos rfl) (by decide) s0 d hd⟩
    | lst h => exact iteT ⟨_, rfl, fun d hd => bad (if_pos rfl) (by decide) s0 d hd⟩
    | tup h => exact iteT ⟨_, rfl, fun d hd => bad (if_pos rfl) (by decide) s0 d hd⟩
    | dct h => exact iteT ⟨_, rfl, fun d hd => bad (if_pos rfl) (by decide) s0 d hd⟩
    | str z hl ho =>
    refine iteF ⟨_, rfl, aW, _, rfl, .inr (hW H), rfl, flat_strs _, _, rfl, ?_⟩
    rw [in_strs]
    cases h1 : decide (z ∈ words6) with
    | false => exact iteT ⟨_, rfl, fun d hd => bad (by unfold wrongW; rw [if_pos (show isWord (.str z) = false from h1)]) (by decide) s0 d hd⟩
    | true =>
    have h1' : isWord (.str z) ≠ false := by
      show decide (z ∈ words6) ≠ false
      rw [h1]
      decide
    refine iteF ⟨_, rfl, _, rfl, z, wh, rfl, p2, fun H1 s1 => ⟨_, rfl, ?_⟩⟩
    cases h2 : canV (.str z) wh with
    | false => exact iteT ⟨_, rfl, fun d hd => bad (by unfold wrongW; rw [if_neg h1', if_pos h2]) (by decide) s1 d hd⟩
    | true =>
    refine iteF ⟨_, rfl, le, 0, 999, rfl, p3.same s1, _, rfl, ?_⟩
    cases h3 : whole le 0 999 with
    | false => exact iteT ⟨_, rfl, fun d hd => bad (by unfold wrongW; rw [if_neg h1', if_neg (by rw [h2]; decide), if_pos h3]) (by decide) s1 d hd⟩
    | true =>
    obtain ⟨li, rfl⟩ : ∃ i : Int, le = .int i := by
      cases le with
      | int i => exact ⟨i, rfl⟩
      | _ => cases h3
    refine iteF ⟨_, rfl, z, li, rfl, rfl, mo, _, 999, rfl, p4.same s1, _, rfl, ?_⟩
    cases h4 : whole mo (if V.str z = .str "rest" then 0 else li) 999 with
    | false => exact iteT ⟨_, rfl, fun d hd => bad (by unfold wrongW; rw [if_neg h1', if_neg (by rw [h2]; decide), if_neg (by rw [h3]; decide)]; exact if_pos h4) (by decide) s1 d hd⟩
    | true =>
    have good := (q H1 s1).1 (by unfold wrongW; rw [if_neg h1', if_neg (by rw [h2]; decide), if_neg (by rw [h3]; decide), if_neg (by show ¬ whole mo (if V.str z = .str "rest" then 0 else li) 999 = false; rw [h4]; decide)])
    rw [← wFs_put] at good
    refine iteF ⟨_, rfl, _, rfl, x, CW, dx, _, rfl, s1 _ _ hx, C.cls, C.no _ (by decide), by decide, ?_⟩
    refine ⟨_, rfl, _, rfl, x, CW, dx, _, rfl, upd_same, C.cls, C.no _ (by decide), Nat.lt_of_le_of_lt (put_le (Nat.le_refl 0)) (by decide), ?_⟩
    refine ⟨_, rfl, _, rfl, x, CW, dx, _, rfl, upd_same, C.cls, C.no _ (by decide), Nat.lt_of_le_of_lt (put_le (put_le (Nat.le_refl 0))) (by decide), ?_⟩
    refine ⟨_, rfl, _, rfl, x, CW, dx, _, rfl, upd_same, C.cls, C.no _ (by decide), Nat.lt_of_le_of_lt (put_le (put_le (put_le (Nat.le_refl 0)))) (by decide), ?_⟩
    rw [upd_upd, upd_upd, upd_upd]
    exact good
end
end Pk
/-! ### len, repr, str of an instance, by the text's own -/
namespace Pk
open PySem PySem.Spec L2
section
variable {X : Cx} {k : Nat} {f C : Addr} {fd : FuncData} {sp : Sp} {e : Expr} {te : TE} {p pos : Pos}
def rLenO (C : Addr) (sp : Sp) : List V → Hp → VK → Prop := fun xs H Q => ∃ (a dx : Addr) (fs : List (Str × V)), xs = [.ref a] ∧ H a = some (.ins C dx fs) ∧ sp [.ref a] H (fun v H' => ∃ n : Int, v = .int n ∧ 0 ≤ n ∧ n < 2 ^ 63 ∧ Q (.int n) H') E0
theorem call_lenO (F : FnOk X.prog X.w X.K X.mg X.base CX0 k f fd ["self"] sp) (hr : Room (k + 1) X.A) (hs : PySem.W.findIn X.K (.ref C) "__len__" = some (some (.ref f))) (hf : PySem.W.isFn X.K (.ref f) = true) (hb : Binds X.K fd ["self"] []) : CallR X (.builtin "len") (rLenO C sp) := by
  rintro pins s σ H xs us Q I rs ⟨a, dx, fs, rfl, ha, h⟩
  obtain ⟨u, rfl, ru⟩ := rs.one
  cases ru
  obtain ⟨mA, J, _⟩ := ins_get I.hok ha
  obtain ⟨od, J, _⟩ := J.look
  obtain ⟨m, hF⟩ := I.fr
  refine PySem.W.len_K hF I.ok.mod.kin J hs hf ?_
  refine wpAny_call (codeAny_mono (F.run X.A.in1 X.stack s H ⟨[.ref a], []⟩ [.ref a] [.ref a] _ E0 hr.in1 I.env0.in1 (hb s [.ref a] I.kIn rfl) (.cons rfl .nil) h) fun r s' hq => ?_)
  match r, hq with
  | .error e, hq => exact hq.elim
  | .ok .next, hq => exact hq.elim
  | .ok .brk, hq => exact hq.elim
  | .ok .cont, hq => exact hq.elim
  | .ok (.ret z), hq =>
    obtain ⟨v, H2, I2, rv, n, rfl, n0, n1, q2⟩ := I.after hq
    obtain ⟨t, rfl⟩ := rv
    exact ⟨⟨n0, n1⟩, .int n, H2, I2.tok _, ⟨_, rfl⟩, q2⟩
def rReprO (C : Addr) (sp : Sp) : List V → Hp → VK → Prop := fun xs H Q => ∃ (a dx : Addr) (fs : List (Str × V)), xs = [.ref a] ∧ H a = some (.ins C dx fs) ∧ sp [.ref a] H (fun v H' => (∃ z, v = .str z) ∧ Q v H') E0
theorem call_reprO (F : FnOk X.prog X.w X.K X.mg X.base CX0 k f fd ["self"] sp) (hr : Room (k + 1) X.A) (hs : PySem.W.findIn X.K (.ref C) "__repr__" = some (some (.ref f))) (hf : PySem.W.isFn X.K (.ref f) = true) (hb : Binds X.K fd ["self"] []) : CallR X (.builtin "repr") (rReprO C sp) := by
  rintro pins s σ H xs us Q I rs ⟨a, dx, fs, rfl, ha, h⟩
  obtain ⟨u, rfl, ru⟩ := rs.one
  cases ru
  obtain ⟨mA, J, _⟩ := ins_get I.hok ha
  obtain ⟨od, J, _⟩ := J.look
  obtain ⟨m, hF⟩ := I.fr
  refine PySem.W.repr_K hr.in1.units0 hF I.ok.mod.kin J hs hf ?_
  refine wpAny_call (codeAny_mono (F.run X.A.in1 X.stack s H ⟨[.ref a], []⟩ [.ref a] [.ref a] _ E0 hr.in1 I.env0.in1 (hb s [.ref a] I.kIn rfl) (.cons rfl .nil) h) fun r s' hq => ?_)
  match r, hq with
  | .error e, hq => exact hq.elim
  | .ok .next, hq => exact hq.elim
  | .ok .brk, hq => exact hq.elim
  | .ok .cont, hq => exact hq.elim
  | .ok (.ret z), hq =>
    obtain ⟨v, H2, I2, rv, ⟨y, rfl⟩, q2⟩ := I.after hq
    obtain ⟨t, rfl⟩ := rv
    exact ⟨.str y, H2, I2, ⟨t, rfl⟩, q2⟩
/-- str(x) -/
def tStrO (C : Addr) (sp : Sp) (te : TE) : TE := fun σ H Q => te σ H fun x H1 => ∃ (a dx : Addr) (fs : List (Str × V)), x = .ref a ∧ H1 a = some (.ins C dx fs) ∧ sp [.ref a] H1 (fun v H2 => (∃ z, v = .str z) ∧ Q v H2) E0
theorem pe_strO (F : FnOk X.prog X.w X.K X.mg X.base CX0 k f fd ["self"] sp) (hr : Room (k + 2) X.A) (hs : PySem.W.findIn X.K (.ref C) "__str__" = some (some (.ref f))) (hf : PySem.W.isFn X.K (.ref f) = true) (hb : Binds X.K fd ["self"] []) (hg : Gl X "str") (hm : X.mg "str" = none) (he : PE X e te)
    (na : starEach [e] X.env = (false, eval e X.env) :: starEach [] X.env := by rfl) : PE X (.Call (.Name "str" p) [e] [] pos) (tStrO C sp te) := by
  constructor
  intro pins s σ H Q I h
  refine PyProof.Rows.Call_ (ld_blt I hg hm PyProof.Rows.boot_str ?_)
  refine PyProof.Rows.callWith_type1 (PyProof.Rows.args_cons (thn (he.run pins s σ H _ I h) ?_) na) na rfl
  rintro v s1 ⟨x, H1, I1, r1, a, dx, fs, rfl, ha, q⟩
  cases (show v = Value.ref a from r1)
  obtain ⟨mA, J, _⟩ := ins_get I1.hok ha
  obtain ⟨od, J, _⟩ := J.look
  refine PyProof.Rows.args_nil (PySem.W.kso_call (by have := hr.un; show X.A.in1.in1.units < cLine; have e1 := (hr.in1.in1).un; omega) I1.kIn J hs hf ?_)
  refine wpAny_call (codeAny_mono (F.run _ X.stack s1 H1 ⟨[.ref a], []⟩ [.ref a] [.ref a] _ E0 hr.in1.in1 I1.env0.in1.in1 (hb s1 [.ref a] I1.kIn rfl) (.cons rfl .nil) q) fun r s' hq => ?_)
  cases r with
  | error e => exact hq.elim
  | ok fl =>
    cases fl with
    | ret u =>
      obtain ⟨v, H2, I2, rv, ⟨z, rfl⟩, q2⟩ := I1.after hq
      obtain ⟨t, rfl⟩ := rv
      exact ⟨.str z, H2, I2, ⟨t, rfl⟩, q2⟩
    | next => exact False.elim hq
    | brk => exact False.elim hq
    | cont => exact False.elim hq
end
end Pk
namespace Pk
open PySem PySem.Spec L2
/-! ### data as texts: str(x), repr(x), {x!s}, {x!r} -/
def dStr : PyData → Str
  | .str z => z
  | d => d.shown
/-- data that can be told -/
structure Told (K : PySem.W.Frag) (H : Hp) (x : V) (d : PyData) : Prop where
  dp : Dp K H x d
  nd : d.hasDict = false
  sh : d.showable = true
  de : d.depth ≤ 60
  sz : d.shown.length ≤ 100000
  st : (dStr d).length ≤ 100000
section
variable {X : Cx} {e : Expr} {te : TE} {pos : Pos}
theorem le_line {n : Nat} (h : n ≤ 100000) : n ≤ sizeLine := by
  rw [sizeLine_eq]
  omega
theorem fmt_fin {pins : List (Addr × Obj)} {σ : L2.St} {H : Hp} {s : Shared} {Q : VK} {z : Str} (I : L2.Inv X pins σ H s) (hz : z.length ≤ sizeLine) (q : Q (.str z) H) (t : Tok) : wpAny (model X.prog X.w) X.A (formatField (.str z t) Str.empty) (EP X pins σ Q) X.xe s :=
  wpAny_formatField_str ⟨.str z, H, I, ⟨_, rfl⟩, q⟩ ⟨.str z, H, I.tok _, ⟨_, rfl⟩, q⟩ hz
def tTellS (K : PySem.W.Frag) (te : TE) : TE := fun σ H Q => te σ H fun x H1 => ∃ d, Told K H1 x d ∧ Q (.str (dStr d)) H1
def tTellR (K : PySem.W.Frag) (te : TE) : TE := fun σ H Q => te σ H fun x H1 => ∃ d, Told K H1 x d ∧ Q (.str d.shown) H1
/-- {x!s} -/
theorem pe_fmtSD (calm : Calm X.A) (hu : X.A.units + 70 < cLine) (he : PE X e te) : PE X (.FormattedValue e 115 none pos) (tTellS X.K te) := by
  constructor
  intro pins s σ H Q I h
  refine wpAny_FormattedValue_s (thn (he.run pins s σ H _ I h) ?_)
  rintro v s1 ⟨x, H1, I1, r1, d, T, q⟩
  have hz := le_line T.st
  obtain ⟨as, rd⟩ := Dp.reads I1 d x v T.dp r1
  have big : ∀ {a : Addr}, v = .ref a → dStr d = d.shown → wpAny (model X.prog X.w) X.A (convS v) (fun r s₂ => wpAny (model X.prog X.w) X.A (formatField r Str.empty) (EP X pins σ Q) X.xe s₂) X.xe s1 := fun {a} e e2 => by
    subst e
    refine convS_of_reads rd T.sh (fun z => by rw [T.nd] at z; cases z) calm (by have := T.de; omega) (fun _ _ z => z) (fun h' u tk keep => ?_) (le_line T.sz)
    refine fmt_fin (H := H1) (I1.kept keep) (le_line T.sz) ?_ u
    rw [← e2]
    exact q
  cases hd : T.dp with
  | non =>
    cases r1
    exact pyStrObj_none (fmt_fin (I1.tok _) hz q _)
  | bl b =>
    cases r1
    exact pyStrObj_bool (fmt_fin (I1.tok _) hz q _)
  | int i =>
    obtain ⟨t, rfl⟩ := r1
    exact pyStrObj_int (of_decide_eq_true T.sh) (fmt_fin (I1.tok _) hz q _)
  | str y =>
    obtain ⟨t, rfl⟩ := r1
    exact wpAny_habitSame_str (fmt_fin I1 hz q _) (fmt_fin (I1.tok _) hz q _)
  | lst h1 h2 =>
    cases r1
    exact big rfl rfl
  | tup h1 h2 =>
    cases r1
    exact big rfl rfl
/-- {x!r} -/
theorem pe_fmtRD (calm : Calm X.A) (hu : X.A.units + 70 < cLine) (he : PE X e te) : PE X (.FormattedValue e 114 none pos) (tTellR X.K te) := by
  constructor
  intro pins s σ H Q I h
  refine wpAny_FormattedValue_repr (thn (he.run pins s σ H _ I h) ?_)
  rintro v s1 ⟨x, H1, I1, r1, d, T, q⟩
  have hz := le_line T.sz
  obtain ⟨as, rd⟩ := Dp.reads I1 d x v T.dp r1
  have big : ∀ {a : Addr}, v = .ref a → wpAny (model X.prog X.w) X.A (pyReprObj v) (fun r s₂ => wpAny (model X.prog X.w) X.A (formatField r Str.empty) (EP X pins σ Q) X.xe s₂) X.xe s1 := fun {a} e => by
    subst e
    exact pyReprObj_of_reads rd T.sh (fun z => by rw [T.nd] at z; cases z) calm (by have := T.de; omega) (fun _ _ z => z) (fun h' u tk keep => fmt_fin (H := H1) (I1.kept keep) hz q u) hz
  cases hd : T.dp with
  | non =>
    cases r1
    exact wpAny_pyReprObj_gives (typeIs_none _) F.slot_NoneType_repr F.entry_NoneType_repr (F.args_NoneType_repr_1 _) gives_none_repr (fmt_fin (I1.tok _) hz q _)
  | bl b =>
    cases r1
    exact wpAny_pyReprObj_gives (typeIs_bool _ b) F.slot_bool_repr F.entry_bool_repr (F.args_bool_repr_1 _) (gives_bool_repr b) (fmt_fin (I1.tok _) hz q _)
  | int i =>
    obtain ⟨t, rfl⟩ := r1
    exact pyReprObj_int (of_decide_eq_true T.sh) (fmt_fin (I1.tok _) hz q _)
  | str y =>
    obtain ⟨t, rfl⟩ := r1
    exact wpAny_pyReprObj_str (fmt_fin (I1.tok _) hz q _) hz
  | lst h1 h2 =>
    cases r1
    exact big rfl
  | tup h1 h2 =>
    cases r1
    exact big rfl
/-- str(x) -/
def rStrD (K : PySem.W.Frag) : List V → Hp → VK → Prop := fun xs H Q => ∃ x d, xs = [x] ∧ Told K H x d ∧ Q (.str (dStr d)) H
theorem call_strD (calm : Calm X.A) (hu : X.A.units + 70 < cLine) : CallR X (.type "str") (rStrD X.K) := by
  rintro pins s σ H xs us Q I r ⟨x, d, rfl, T, q⟩
  obtain ⟨u, rfl, rx⟩ := vals1 r
  obtain ⟨as, rd⟩ := Dp.reads I d x u T.dp rx
  have big : ∀ {a : Addr}, u = .ref a → dStr d = d.shown → wpAny (model X.prog X.w) X.A (call (.type "str") [u]) (EP X pins σ Q) X.xe s := fun {a} e e2 => by
    subst e
    refine str_of_reads rd T.sh (fun z => by rw [T.nd] at z; cases z) calm (by have := T.de; omega) (fun _ _ z => z) (fun h' u tk keep => ⟨.str d.shown, H, I.kept keep, ⟨_, rfl⟩, ?_⟩) (le_line T.sz)
    rw [← e2]
    exact q
  cases hd : T.dp with
  | non =>
    cases rx
    exact P.str_of_none ⟨.str "None", H, I.tok _, ⟨_, rfl⟩, q⟩
  | bl b =>
    cases rx
    exact P.str_of_bool ⟨.str (if b then "True" else "False"), H, I.tok _, ⟨_, rfl⟩, q⟩
  | int i =>
    obtain ⟨t, rfl⟩ := rx
    exact P.str_of_int (of_decide_eq_true T.sh) ⟨.str (toString i), H, I.tok _, ⟨_, rfl⟩, q⟩
  | str y =>
    obtain ⟨t, rfl⟩ := rx
    exact P.str_of_str ⟨.str y, H, I, ⟨_, rfl⟩, q⟩
  | lst h1 h2 =>
    cases rx
    exact big rfl rfl
  | tup h1 h2 =>
    cases rx
    exact big rfl rfl
/-- an error without a field of its own, as a value -/
theorem pe_plainErr {C : Addr} {bmB : List Value} {B newId initId : String} {x : Str} {e : Expr} {ta : TE} {p pos : Pos} (F : ExcBaseFacts B newId initId bmB) (q : PySem.W.excIn X.K C bmB newId = true) (gC : X.mg x = some (.ref C)) (kC : PySem.W.keepIn X.K (.ref C) = true) (hg : Gl X x)
    (he : PE X e ta) (hs : starEach [e] X.env = (false, eval e X.env) :: starEach [] X.env := by rfl) (hdb : (x == ("__debug__" : Str)) = false := by decide) :
    PE X (.Call (.Name x p) [e] [] pos) (fun σ H Q => ta σ H fun _ H1 => ∀ a, H1 a = none → Q (.ref a) (upd H1 a (ExH (.ref C) none a))) := by
  constructor
  intro pins s σ H Q I h
  refine wpAny_Call_Name_kw (ld_glob I hg gC (PySem.W.callWith_K (h₀ := X.base) I.ok.mod.kin kC ?_ hs (by rfl)) hdb)
  rw [hs]
  show wpAny _ _ (spliced ((false, eval e X.env) :: backTo pos (starEach [] X.env))) _ _ s
  refine Calls.spliced_cons (thn (he.run pins s σ H _ I h) ?_)
  rintro u s1 ⟨v, H1, I1, r1, q1⟩
  refine Calls.spliced_nil ⟨I1.kIn, ?_⟩
  show wpAny _ _ (call (.ref C) [u]) _ _ _
  obtain ⟨bm, N, nm, qn, bs, hdct, sn, sub, ab, col, dd, k0, k1, k2, k3, k5, mN, hC, hN, hni, T⟩ := exc_obj I1.kIn q
  refine wpAny_call_exc_subT F T hC hN hni (fun h' a hm => ?_) (by rw [sizeLine_eq]; show 1 ≤ 16777216; decide)
  have hn : H1 a = none := I1.hok.gone hm.new
  obtain ⟨t, ht, _, _⟩ := hm.there
  exact ⟨.ref a, _, I1.laidN hm.keeps hm.new hn (held_ok ht ⟨rfl, rfl⟩ rfl), rfl, q1 a hn⟩
end
section
variable {X : Cx} {k : Nat} {f C : Addr} {fd : FuncData} {sp : Sp} {e : Expr} {te : TE} {p pos : Pos}
/-- str(e), e a kept error whose class says how it is told, by a def that may show -/
theorem pe_strErrG (F : FnG X.prog X.w X.K X.mg X.base CX0 k f fd ["self"] sp) (calm : Calm X.A) (hr : Room (k + 2) X.A) (hs : PySem.W.findIn X.K (.ref C) "__str__" = some (some (.ref f))) (hf : PySem.W.isFn X.K (.ref f) = true) (hb : Binds X.K fd ["self"] []) (hg : Gl X "str") (hm : X.mg "str" = none) (he : PE X e te)
    (na : starEach [e] X.env = (false, eval e X.env) :: starEach [] X.env := by rfl) : PE X (.Call (.Name "str" p) [e] [] pos) (tStrErr C sp te) := by
  constructor
  intro pins s σ H Q I h
  refine PyProof.Rows.Call_ (ld_blt I hg hm PyProof.Rows.boot_str ?_)
  refine PyProof.Rows.callWith_type1 (PyProof.Rows.args_cons (thn (he.run pins s σ H _ I h) ?_) na) na rfl
  rintro v s1 ⟨x, H1, I1, r1, a, d, rfl, ha, hd, q⟩
  cases (show v = Value.ref a from r1)
  obtain ⟨oe, od, J, -⟩ := held_at I1 ha hd
  refine PyProof.Rows.args_nil (PySem.W.kso_call (by have := hr.un; show X.A.in1.in1.units < cLine; have e1 := (hr.in1.in1).un; omega) I1.kIn J hs hf ?_)
  refine wpAny_call (codeAny_mono (F.go X.A.in1.in1 (show Calm X.A.in1.in1 from calm) hr.in1.in1 X.stack s1 H1 ⟨[.ref a], []⟩ [.ref a] [.ref a] _ E0 I1.env0.in1.in1 (hb s1 [.ref a] I1.kIn rfl) (.cons rfl .nil) q) fun r s' hq => ?_)
  match r, hq with
  | .error e, hq => exact hq.elim
  | .ok .next, hq => exact hq.elim
  | .ok .brk, hq => exact hq.elim
  | .ok .cont, hq => exact hq.elim
  | .ok (.ret u), hq =>
    obtain ⟨v, H2, I2, rv, ⟨z, rfl⟩, q2⟩ := I1.after hq
    obtain ⟨t, rfl⟩ := rv
    exact ⟨.str z, H2, I2, ⟨t, rfl⟩, q2⟩
end
end Pk
/-! ### {x!s} of an instance, by its own str -/
namespace Pk
open PySem PySem.Spec L2
section
variable {X : Cx} {k : Nat} {f C : Addr} {fd : FuncData} {sp : Sp} {e : Expr} {te : TE} {p pos : Pos}
def tFmtO (C : Addr) (sp : Sp) (te : TE) : TE := fun σ H Q => te σ H fun x H1 => ∃ (a dx : Addr) (fs : List (Str × V)), x = .ref a ∧ H1 a = some (.ins C dx fs) ∧ sp [.ref a] H1 (fun v H2 => (∃ z, v = .str z ∧ z.length ≤ sizeLine) ∧ Q v H2) E0
theorem pe_fmtSO (F : FnOk X.prog X.w X.K X.mg X.base CX0 k f fd ["self"] sp) (hr : Room k X.A) (hs : PySem.W.findIn X.K (.ref C) "__str__" = some (some (.ref f))) (hf : PySem.W.isFn X.K (.ref f) = true) (hb : Binds X.K fd ["self"] []) (he : PE X e te) :
    PE X (.FormattedValue e 115 none pos) (tFmtO C sp te) := by
  constructor
  intro pins s σ H Q I h
  refine wpAny_FormattedValue_s (thn (he.run pins s σ H _ I h) ?_)
  rintro v s1 ⟨x, H1, I1, r1, a, dx, fs, rfl, ha, q⟩
  cases (show v = Value.ref a from r1)
  obtain ⟨mA, J, _⟩ := ins_get I1.hok ha
  obtain ⟨od, J, _⟩ := J.look
  show wpAny _ _ (pyStrObj (.ref a)) _ _ _
  unfold pyStrObj
  refine wpAny_bind (m := cRoomFor _ _) (wpAny_cRoomFor hr.units0 ?_)
  refine wpAny_bind (m := callSpecial? (.ref a) (Str.ofString "__str__")) (PySem.W.special_fn I1.kIn J hs (beq_iff_eq.mp hf) ?_)
  refine wpAny_call (codeAny_mono (F.run _ X.stack s1 H1 ⟨[.ref a], []⟩ [.ref a] [.ref a] _ E0 hr I1.env0 (hb s1 [.ref a] I1.kIn rfl) (.cons rfl .nil) q) fun r s' hq => ?_)
  cases r with
  | error e => exact hq.elim
  | ok fl =>
    cases fl with
    | ret u =>
      obtain ⟨v, H2, I2, rv, ⟨z, rfl, hz⟩, q2⟩ := I1.after hq
      obtain ⟨t, rfl⟩ := rv
      exact wpAny_bind (wpAny_isInstance (T := "str") (b := true) rfl isSubtype_str_str (wpAny_pure (fmt_fin I2 hz q2 _)))
    | next => exact False.elim hq
    | brk => exact False.elim hq
    | cont => exact False.elim hq
end
end Pk
/-! ### sorted(xs, key=f), f a def of the text that tells data -/
namespace Pk
open PySem PySem.Spec L2
section
variable {X : Cx} {k : Nat} {f : Addr} {fd : FuncData} {ps : List Str} {sp : Sp}
mutual
theorem dp_same {K : PySem.W.Frag} {H H' : Hp} (k : Same H H') : ∀ {v : V} {d : PyData}, Dp K H v d → Dp K H' v d
  | _, _, .non => .non
  | _, _, .bl b => .bl b
  | _, _, .int i => .int i
  | _, _, .str x => .str x
  | _, _, .lst h hs => .lst (SqL.ext h k) (dps_same k hs)
  | _, _, .tup h hs => .tup (SqT.ext h k) (dps_same k hs)
theorem dps_same {K : PySem.W.Frag} {H H' : Hp} (k : Same H H') : ∀ {vs : List V} {ds : List PyData}, DpAll K H vs ds → DpAll K H' vs ds
  | _, _, .nil => .nil
  | _, _, .cons h hs => .cons (dp_same k h) (dps_same k hs)
end
/-- a def called from within a builtin -/
theorem call_in (F : FnOk X.prog X.w X.K X.mg X.base CX0 k f fd ps sp) (hb : Binds X.K fd ps []) {A : Around} (sb : Sub X k A) {pins : List (Addr × Obj)} {s : Shared} {σ : St} {H : Hp} (I : Inv X pins σ H s) {x : V} {u : Value} (r : RelV x u) {Q : VK} (h : sp [x] H Q E0) (E : Value → Shared → Prop) :
    wpAny (model X.prog X.w) A (call (.ref f) [u]) (EP X pins σ Q) E s := by
  have e0 : Env0 X.prog X.w X.K X.mg X.base A X.stack s H := by
    have e := I.env0
    exact ⟨by rw [sb.fr]; exact e.frames, e.mod, e.bs, e.bsz, e.funs, e.frf, e.hok, e.bare⟩
  have hl := F.len _ _ _ _ h
  refine wpAny_call (codeAny_mono (F.run A X.stack s H ⟨[u], []⟩ [u] [x] _ E0 sb.room e0 (by
    have := hb s [u] I.kIn (by simpa using hl)
    simpa using this) (.cons r .nil) h) fun r s' hq => ?_)
  match r, hq with
  | .error e, hq => exact hq.elim
  | .ok .next, hq => exact hq.elim
  | .ok .brk, hq => exact hq.elim
  | .ok .cont, hq => exact hq.elim
  | .ok (.ret z), hq => exact I.after hq
/-- the heap without the object at a -/
def off (h : Heap) (a : Addr) : Heap := h.update a fun o => { o with data := .freed }
theorem off_at {h : Heap} {a : Addr} (hl : a < h.objs.size) : (off h a).get? a = none := by
  have e : (off h a).objs[a]? = some { h.objs[a] with data := .freed } := by
    unfold off Heap.update
    rw [Array.getElem?_modify]
    simp [hl]
  unfold Heap.get?
  rw [e]
theorem off_ne {h : Heap} {a b : Addr} (n : b ≠ a) : (off h a).get? b = h.get? b := (Heap.SameBut.update h a _).2 b n
theorem fp_of {pins : List (Addr × Obj)} {H H' : Hp} {b : Addr} (fp : FpOk X pins H b) (hn : H' b = none) : FpOk X pins H' b := ⟨hn, fp.2⟩
/-- an object that stands there is tracked from now on -/
theorem adopt {pins : List (Addr × Obj)} {s : Shared} {σ : St} {H : Hp} {a : Addr} {o : HO} (I : Inv X pins σ H s) (fp : FpOk X pins H a) (hs : X.s_0.heap.objs.size ≤ a) (new : ObjOk X.prog X.w (upd H a o) s.heap a o) : Inv X pins σ (upd H a o) s := by
  have hn := fp.1
  have up : ∀ {b : Addr} {u : HO}, H b = some u → upd H a o b = some u := fun {b u} e => by
    rw [upd_ne (ne_of_none e hn)]
    exact e
  refine ⟨I.ok, I.os, I.bare, ⟨I.base.keep, I.base.slot, fun b ob q n hx => ?_, I.base.there, fun b xs q => up (I.base.tups b xs q), fun b ob u q => up (I.base.frzs b ob u q), fun b ps q => ?_⟩, I.loc, I.cell, ?_, fun x c e => ?_, fun p hp => ?_, fun b u e => ?_, I.len⟩
  · rw [upd_ne (Nat.ne_of_lt (Nat.lt_of_lt_of_le (Heap.lt_size q) hs))]
    exact I.base.free b ob q n hx
  · obtain ⟨more, e⟩ := I.base.tbls b ps q
    exact ⟨more, up e⟩
  · rw [upd_ne fp.2.1.symm]
    exact I.free
  · rw [upd_ne (fp.2.2.2.2.1 x c e)]
    exact I.freeC x c e
  · obtain ⟨p1, p2, p3⟩ := I.pin p hp
    refine ⟨p1, ?_, p3⟩
    rw [upd_ne (fp.2.2.2.2.2 p hp)]
    exact p2
  · by_cases hb : b = a
    · subst hb
      rw [upd_same] at e
      cases e
      exact new
    · rw [upd_ne hb] at e
      exact (I.hok b u e).stay (fun c v _ q => q) (fun c q => up q) fun c xs q => up q
theorem each_reads {pins : List (Addr × Obj)} {s : Shared} {σ : St} {H : Hp} (I : Inv X pins σ H s) : ∀ {kv : List V} {us : List Value} {bs : List (V × PyData)}, Vals kv us → kv.length = bs.length → (∀ (i : Nat) t b, kv[i]? = some t → bs[i]? = some b → Dp X.K H t b.2) → PySem.W.EachIs (fun v d => ∃ as, Reads s.heap v d as) us (bs.map Prod.snd)
  | [], _, [], .nil, _, _ => .nil
  | t :: kv, _, b :: bs, .cons r rs, l, h => .cons (Dp.reads I b.2 t _ (h 0 t b rfl rfl) r) (each_reads I rs (Nat.succ.inj l) fun i t b h1 h2 => h (i + 1) t b h1 h2)
  | [], _, _ :: _, _, l, _ => by cases l
  | _ :: _, _, [], _, l, _ => by cases l
theorem each_rel : ∀ {bs : List (V × PyData)} {us : List Value}, Vals (bs.map Prod.fst) us → PySem.W.EachIs (fun v (b : V × PyData) => RelV b.1 v) us bs
  | [], _, .nil => .nil
  | b :: bs, _, .cons r rs => .cons r (each_rel rs)
theorem rel_each : ∀ {bs : List (V × PyData)} {us : List Value}, PySem.W.EachIs (fun v (b : V × PyData) => RelV b.1 v) us bs → Vals (bs.map Prod.fst) us
  | [], _, .nil => .nil
  | b :: bs, _, .cons r rs => .cons r (rel_each rs)
theorem vals_snoc : ∀ {xs : List V} {us : List Value} {x : V} {u : Value}, Vals xs us → RelV x u → Vals (xs ++ [x]) (us ++ [u])
  | [], _, _, _, .nil, r => .cons r .nil
  | _ :: _, _, _, _, .cons r1 rs, r => .cons r1 (vals_snoc rs r)
/-- the body of list.sort with a key -/
theorem tree_own (F : FnOk X.prog X.w X.K X.mg X.base CX0 k f fd ps sp) (hb : Binds X.K fd ps []) {A : Around} (sb : Sub X k A) (hu : A.units + 64 < cLine) {pins : List (Addr × Obj)} {s : Shared} {σ : St} {H : Hp} (I : Inv X pins σ H s) {a : Addr} {n : Nat} {its : List Value} {bs : List (V × PyData)}
    (ho : s.heap.get? a = some (PyProof.Rows.seqObj "list" its.toArray n)) (fpA : FpOk X pins H a) (rv : Vals (bs.map Prod.fst) its) (hz : bs.length ≤ sizeLine) (hal : PySem.W.AllAlike (bs.map Prod.snd)) (hsk : PySem.W.Sortable (bs.map Prod.snd)) (hdep : ∀ b ∈ bs, b.2.depth ≤ 8)
    (hsp : ∀ b ∈ bs, ∀ H', Same H H' → sp [b.1] H' (fun t H2 => Same H' H2 ∧ Dp X.K H2 t b.2) E0) {P : PySem.Fin → Shared → Prop} {E : Value → Shared → Prop}
    (fin : ∀ (s' : Shared) (H' : Hp) (out : List Value) (c : Nat), Inv X pins σ H' s' → Same H H' → FpOk X pins H' a → s'.heap.get? a = some (PyProof.Rows.seqObj "list" out.toArray c) → Vals ((bs.mergeSort (PySem.W.dataLe false Prod.snd)).map Prod.fst) out → P (.done (.ret .none)) s') :
    wpAny (model X.prog X.w) A (PyProof.Rows.ksk_tree a (.ref f) false) P E s := by
  have lv : its.length = bs.length := by
    have := rv.length
    rw [List.length_map] at this
    omega
  have sm1 := Heap.SameBut.update s.heap a (Obj.mapSeq fun _ => (#[] : Array Value))
  obtain ⟨e1, ho1⟩ : ∃ e1, (s.heap.update a (Obj.mapSeq fun _ => (#[] : Array Value))).get? a = some (PyProof.Rows.seqObj "list" #[] e1) := ⟨_, PyProof.Rows.get?_update_seq ho fun _ => #[]⟩
  have I1 : Inv X pins σ H { s with heap := s.heap.update a (Obj.mapSeq fun _ => (#[] : Array Value)) } := I.turnedL (t' := s.toks) (ch := [a]) (fun b o hb e => (sm1.2 b (by simpa using hb)).trans e) (fun b hb => by rw [List.mem_singleton.mp hb]; exact fpA)
  unfold PyProof.Rows.ksk_tree
  refine wpAny_bind (PyProof.Rows.listItems_at ho rfl ?_)
  refine wpAny_bind (PyProof.Rows.listUpdate_at ho rfl ?_ (by rw [List.size_toArray, lv]; exact hz) (Nat.zero_le _))
  refine wpAny_bind (PyProof.Rows.seqEpoch_at ho1 rfl ?_)
  refine wpAny_bind (wpAny_newTuple ?_ (by show its.length ≤ _; omega))
  refine wpAny_bind (wpAny_newList ?_ (Nat.zero_le _))
  refine wpAny_holding ?_
  dsimp only
  generalize hh1 : s.heap.update a (Obj.mapSeq fun _ => (#[] : Array Value)) = h1 at I1 ho1
  have k2 : ∀ b o, h1.get? b = some o → ((h1.push (PyProof.Rows.seqObj "tuple" its.toArray 0)).push (PyProof.Rows.seqObj "list" #[] 0)).get? b = some o := fun b o e => Heap.get?_push_of_some _ (Heap.get?_push_of_some _ e)
  have nk2 : ((h1.push (PyProof.Rows.seqObj "tuple" its.toArray 0)).push (PyProof.Rows.seqObj "list" #[] 0)).get? (h1.push (PyProof.Rows.seqObj "tuple" its.toArray 0)).objs.size = some (PyProof.Rows.seqObj "list" #[] 0) := Heap.get?_push_size _ rfl
  have hle : h1.objs.size ≤ (h1.push (PyProof.Rows.seqObj "tuple" its.toArray 0)).objs.size := by
    rw [PyProof.Rows.size_push']
    exact Nat.le_succ _
  have fpK : FpOk X pins H (h1.push (PyProof.Rows.seqObj "tuple" its.toArray 0)).objs.size := I1.fpOk hle (I1.hok.fresh hle)
  have alt : a < h1.objs.size := Heap.lt_size ho1
  generalize (h1.push (PyProof.Rows.seqObj "tuple" its.toArray 0)).objs.size = kS at nk2 fpK hle ⊢
  have hka : kS ≠ a := fun e => absurd (e ▸ hle) (Nat.not_le_of_lt alt)
  generalize (h1.push (PyProof.Rows.seqObj "tuple" its.toArray 0)).push (PyProof.Rows.seqObj "list" #[] 0) = h2 at k2 nk2 ⊢
  have I2 : Inv X pins σ H { s with heap := h2 } := I1.kept (t' := s.toks) k2
  have na2 := k2 _ _ ho1
  -- the two lists stand still while the keys are asked for
  have pin2 : ∀ {G : Hp} {s' : Shared} {kA : Array Value} {e : Nat}, Inv X pins σ G s' → G a = none → G kS = none → s'.heap.get? a = some (PyProof.Rows.seqObj "list" #[] e1) → s'.heap.get? kS = some (PyProof.Rows.seqObj "list" kA e) → Inv X ((a, PyProof.Rows.seqObj "list" #[] e1) :: (kS, PyProof.Rows.seqObj "list" kA e) :: pins) σ G s' := by
    intro G s' kA e J g1 g2 h1 h2
    refine J.pins_of fun p hp => ?_
    rcases List.mem_cons.mp hp with rfl | hp
    · exact ⟨h1, g1, fpA.2.1, fpA.2.2.1, fun v z => by cases z⟩
    · rcases List.mem_cons.mp hp with rfl | hp
      · exact ⟨h2, g2, fpK.2.1, fpK.2.2.1, fun v z => by cases z⟩
      · exact J.pin p (List.mem_append_right _ hp)
  have unpin : ∀ {G : Hp} {s' : Shared} {kA : Array Value} {e : Nat}, Inv X ((a, PyProof.Rows.seqObj "list" #[] e1) :: (kS, PyProof.Rows.seqObj "list" kA e) :: pins) σ G s' → Inv X pins σ G s' ∧ G a = none ∧ G kS = none ∧ s'.heap.get? a = some (PyProof.Rows.seqObj "list" #[] e1) ∧ s'.heap.get? kS = some (PyProof.Rows.seqObj "list" kA e) := by
    intro G s' kA e J
    obtain ⟨x1, x2, _⟩ := J.pin (a, _) (List.mem_append_right _ (List.mem_cons_self ..))
    obtain ⟨y1, y2, _⟩ := J.pin (kS, _) (List.mem_append_right _ (List.mem_cons_of_mem _ (List.mem_cons_self ..)))
    exact ⟨J.pins_of fun p hp => J.pin p (List.mem_append_right _ (List.mem_cons_of_mem _ (List.mem_cons_of_mem _ hp))), x2, y2, x1, y1⟩
  unfold PyProof.Rows.ksk_rest
  refine wpAny_bind (wpAny_rule ?_)
  rw [List.forIn_toArray]
  refine wpAny_bind (PyProof.Rows.ksk_fold (fun j s' => ∃ (G : Hp) (kv : List V) (kA : Array Value) (e : Nat), Inv X ((a, PyProof.Rows.seqObj "list" #[] e1) :: (kS, PyProof.Rows.seqObj "list" kA e) :: pins) σ G s' ∧ Same H G ∧ Vals kv kA.toList ∧ kv.length = j ∧ ∀ (i : Nat) t b, kv[i]? = some t → bs[i]? = some b → Dp X.K G t b.2) its 0 _
    ⟨H, [], #[], 0, pin2 I2 fpA.1 fpK.1 na2 nk2, Same.refl H, .nil, rfl, fun i t b h => by simp at h⟩ ?step ?done)
  case step =>
    rintro j x s' hx ⟨G, kv, kA, e, J, sG, rk, lk, dk⟩
    rw [Nat.zero_add] at lk
    have hj : j < bs.length := by
      have := (List.getElem?_eq_some_iff.mp hx).1
      omega
    have hbj : bs[j]? = some bs[j] := List.getElem?_eq_getElem hj
    obtain ⟨u, hu', ru⟩ := rv.get (i := j) (x := bs[j].1) (by rw [List.getElem?_map, hbj]; rfl)
    rw [hx] at hu'
    cases hu'
    refine wpAny_bind (wpAny_attempt (wpAny_mono (call_in F hb sb J ru (hsp bs[j] (List.getElem_mem hj) G sG) (fun _ _ => False)) (fun v s2 he => ?_) fun _ _ hF => hF.elim))
    obtain ⟨t, G2, J2, rt, sG2, dt⟩ := he
    obtain ⟨I3, g1, g2, h1', h2'⟩ := unpin J2
    have lA : kA.size = j := by
      rw [← Array.length_toList, ← rk.length]
      exact lk
    have sm := Heap.SameBut.update s2.heap kS (Obj.mapSeq (·.push v))
    obtain ⟨c2, hc2⟩ : ∃ c2, (s2.heap.update kS (Obj.mapSeq (·.push v))).get? kS = some (PyProof.Rows.seqObj "list" (kA.push v) c2) := ⟨_, PyProof.Rows.get?_update_seq h2' (·.push v)⟩
    dsimp only
    refine wpAny_bind (PyProof.Rows.listUpdate_at h2' rfl ?_ (by rw [lA]; omega) (by rw [Array.size_push, lA]; omega))
    refine wpAny_pure ⟨rfl, G2, kv ++ [t], kA.push v, c2, pin2 (I3.turnedL (t' := s2.toks) (ch := [kS]) (fun b o hb e => (sm.2 b (by simpa using hb)).trans e) (fun b hb => by rw [List.mem_singleton.mp hb]; exact fp_of fpK g2)) g1 g2 ((sm.2 a hka.symm).trans h1') hc2, sG.trans sG2, ?_, ?_, fun i t' b h1 h2 => ?_⟩
    · rw [Array.toList_push]
      exact vals_snoc rk rt
    · rw [List.length_append, lk, Nat.zero_add]
      rfl
    · rcases Nat.lt_or_ge i kv.length with hi | hi
      · rw [List.getElem?_append_left hi] at h1
        exact dp_same sG2 (dk i t' b h1 h2)
      · have hi' : i = kv.length := by
          have := (List.getElem?_eq_some_iff.mp h1).1
          rw [List.length_append, List.length_singleton] at this
          omega
        rw [hi', List.getElem?_append_right (Nat.le_refl _), Nat.sub_self] at h1
        cases h1
        rw [hi', lk, hbj] at h2
        cases h2
        exact dt
  case done =>
    rintro s' ⟨G, kv, kA, e, J, sG, rk, lk, dk⟩
    rw [Nat.zero_add] at lk
    obtain ⟨I3, g1, g2, h1', h2'⟩ := unpin J
    have er := each_reads I3 rk (by omega) dk
    have lA : kA.size = its.length := by
      rw [← Array.length_toList, ← rk.length]
      exact lk
    refine wpAny_bind (PyProof.Rows.listItems_at h2' rfl ?_)
    refine PySem.W.keyH_end (κ := PySem.W.dataKind s'.heap (bs.map Prod.snd)) (h₁ := off s'.heap kS) (fun b o hb q => ?_) (off_at (Heap.lt_size h2')) h2' h1' hka (PySem.W.SortsAt.data er hal hsk fun d hd => ?_) lA (by omega) fun h3 tk3 c k3 n3 => ?_
    · by_cases hbk : b = kS
      · rw [hbk, off_at (Heap.lt_size h2')] at q
        cases q
      · rw [off_ne hbk] at q
        exact q
    · obtain ⟨b, hb', rfl⟩ := List.mem_map.mp hd
      have := hdep b hb'
      omega
    · refine fin _ G _ c (I3.turnedL (h' := h3) (t' := tk3) (ch := [a, kS]) (fun b o hb e => ?_) (fun b hb => ?_)) sG (fp_of fpA g1) n3 ?_
      · simp only [List.mem_cons, List.not_mem_nil, or_false, not_or] at hb
        exact k3 b o hb.1 (by rw [off_ne hb.2]; exact e)
      · simp only [List.mem_cons, List.not_mem_nil, or_false] at hb
        rcases hb with rfl | rfl
        · exact fp_of fpA g1
        · exact fp_of fpK g2
      · exact rel_each (PySem.W.keyedOut_each Prod.snd ⟨s'.heap, kA.toList, hal, rfl, er⟩ (each_rel rv))
/-- sorted(xs, key=f) of a list -/
def rSortK (K : PySem.W.Frag) (f : Addr) (sp : Sp) : List V → List V → Hp → VK → Prop := fun vs zs H Q => ∃ (l : Addr) (bs : List (V × PyData)), vs = [.ref l] ∧ zs = [.ref f] ∧ SqL K H l (bs.map Prod.fst) ∧ PySem.W.AllAlike (bs.map Prod.snd) ∧ PySem.W.Sortable (bs.map Prod.snd) ∧ (∀ b ∈ bs, b.2.depth ≤ 8) ∧
  (∀ b ∈ bs, ∀ H', Same H H' → sp [b.1] H' (fun t H2 => Same H' H2 ∧ Dp K H2 t b.2) E0) ∧ ∀ (p : Addr) (H' : Hp), Same H H' → H' p = some (.lst ((bs.mergeSort (PySem.W.dataLe false Prod.snd)).map Prod.fst)) → Q (.ref p) H'
theorem cr_sortK (F : FnOk X.prog X.w X.K X.mg X.base CX0 k f fd ps sp) (hb : Binds X.K fd ps []) (hr : Room (k + 2) X.A) (hu : X.A.units + 66 < cLine) : CallRK X (.builtin "sorted") [Str.ofString "key"] (rSortK X.K f sp) := by
  intro pins s σ H vs zs us ws Q I r rz h
  obtain ⟨l, bs, rfl, rfl, hl, hal, hsk, hdep, hsp, q⟩ := h
  obtain rfl := Vals.ref1 r
  obtain ⟨w1, rfl, e1⟩ := vals1 rz
  obtain rfl : w1 = Value.ref f := e1
  obtain ⟨its, rv, pl, hz⟩ := I.list hl
  have lv : its.length = bs.length := by
    have := rv.length
    rw [List.length_map] at this
    omega
  rw [List.length_map] at hz
  refine PySem.W.sorted_of_sort (vs := its) pl.isList (by omega) (PyProof.Rows.ksk_s1 _ _) (fun _ => PyProof.Rows.ksk_l1 _ _) fun E' => ?_
  show wpAny _ _ (Builtin.«list.sort» ⟨[.ref _], [(Str.ofString "key", .ref f)]⟩) _ _ _
  rw [PyProof.Rows.ksk_t1]
  have hn : H (s.heap.objs.size + 1) = none := I.hok.fresh (Nat.le_succ _)
  have hs0 : X.s_0.heap.objs.size ≤ s.heap.objs.size + 1 := Nat.le_trans I.sz (Nat.le_succ _)
  have sb : Sub X k X.A.in1.in1 := Sub.in1 (Sub.in1 ⟨hr, rfl⟩)
  refine tree_own F hb sb (by show X.A.units + 1 + 1 + 64 < cLine; omega) (I.kept (h' := PySem.W.copyHeap s.heap its) (t' := s.toks) fun b o e => PySem.W.copyHeap_old e) (PySem.W.copyHeap_at s.heap its) (I.fpOk (Nat.le_succ _) hn) rv (by omega) hal hsk hdep hsp (fun s' H' out c I' sH fp ho ro => ⟨rfl, ?_⟩)
  have lo : (((bs.mergeSort (PySem.W.dataLe false Prod.snd)).map Prod.fst)).length ≤ sizeLine := by
    rw [List.length_map, List.length_mergeSort]
    omega
  refine ⟨.ref _, upd H' (s.heap.objs.size + 1) (.lst ((bs.mergeSort (PySem.W.dataLe false Prod.snd)).map Prod.fst)), adopt I' fp hs0 ⟨lo, out, c, ro, ho⟩, rfl, q _ _ (sH.trans (same_upd fp.1)) upd_same⟩
end
end Pk
/-! ### repr of lists and tuples that hold instances with a repr of their own -/
namespace Pk
open PySem PySem.Spec L2
/-- a special found on the class of an instance, called by a way of its own -/
theorem ifBoundBy_K {M : Model} {K : PySem.W.Frag} {A : Around} {E : Value → Shared → Prop} {s : Shared} {x C f : Addr} {ox : Obj} {od : Option Obj} {name : Str} {last : Value → List Value → Sem Value} {Q : Option Value → Shared → Prop} (X : K.In s.heap) (I : PySem.W.InstAt s.heap x ox C od) (hs : PySem.W.findIn K (.ref C) name = some (some (.ref f))) (hf : PySem.W.isFn K (.ref f) = true)
    (h : wpAny M A (last (.ref f) [.ref x]) (fun v => Q (some v)) E s) : wpAny M A (callSpecialIfBoundBy? last (.ref x) name) Q E s := by
  simp only [callSpecialIfBoundBy?, bindSpecialIfBound?]
  refine wpAny_holding (wpAny_bind (wpAny_bind (wpAny_bind (I.type.here ((PySem.W.looks_findIn X hs).here ?_)))))
  refine wpAny_bind (wpAny_askSetting (wpAny_ite ?_))
  have fin : wpAny M A (last (.ref f) [.ref x] >>= fun v => pure (some v)) Q E s := wpAny_bind (wpAny_mono h (fun v s' h' => wpAny_pure h') fun _ _ h' => h')
  split
  · exact wpAny_bind ((PySem.W.bind_fn X _ (beq_iff_eq.mp hf)).here (wpAny_pure (by exact fin)))
  · exact wpAny_tryCatch (wpAny_bind ((PySem.W.bind_fn X _ (beq_iff_eq.mp hf)).here (wpAny_pure (by exact fin))))
theorem reprUnder_K {K : PySem.W.Frag} {prog : Program} {w : World} {A : Around} {E : Value → Shared → Prop} {s : Shared} {x C f : Addr} {ox : Obj} {od : Option Obj} {b : Nat} {Q : Value → Shared → Prop} (hu : A.units < cLine) (X : K.In s.heap) (I : PySem.W.InstAt s.heap x ox C od) (hs : PySem.W.findIn K (.ref C) "__repr__" = some (some (.ref f))) (hf : PySem.W.isFn K (.ref f) = true)
    (h : wpAny (model prog w) A (call (.ref f) [.ref x]) (fun v s' => (∃ z t, v = .str z t) ∧ Q v s') E s) : wpAny (model prog w) A (pyReprObjUnder b (.ref x)) Q E s := by
  unfold pyReprObjUnder pyReprObjBy
  refine wpAny_bind (wpAny_cRoomFor hu ?_)
  refine wpAny_bind (wpAny_bind (I.type.here ((PySem.W.looks_findIn X hs).here ?_)))
  show wpAny _ _ (if (some (Value.ref f)).isNone = true then _ else _) _ _ _
  rw [if_neg (by simp)]
  refine wpAny_bind (m := callSpecialIfBoundBy? _ (.ref x) (Str.ofString "__repr__")) (ifBoundBy_K X I hs hf ?_)
  show wpAny _ _ (call (.ref f) [.ref x]) _ _ _
  refine wpAny_mono h (fun v s' hv => ?_) fun _ _ y => y
  obtain ⟨⟨z, t, rfl⟩, hq⟩ := hv
  exact wpAny_bind (wpAny_isInstance (T := "str") (b := true) rfl isSubtype_str_str (wpAny_pure hq))
theorem under_fr (A : Around) (id : String) (args : Args) : (A.under (.builtin id args)).frames = A.frames := by
  first | rfl | simp [Around.under, Code.envs, Code.isFrame, pushEnvs]
theorem sub_under {X : Cx} {n : Nat} {A : Around} {id : String} {args : Args} (s : Sub X (n + 1) A) (hu : (A.under (.builtin id args)).units = A.units + 1) (hw : (Code.builtin id args).weight = 1) : Sub X n (A.under (.builtin id args)) := by
  obtain ⟨⟨h1, h2, h3⟩, h4⟩ := s
  refine ⟨⟨?_, ?_, by rw [hu]; omega⟩, (under_fr A id args).trans h4⟩
  · first | exact h1 | simpa [Around.under] using h1
  · have e : (A.under (.builtin id args)).depth = A.depth + 1 := by
      simp [Around.under, Code.frames, Code.isFrame, hw]
    rw [e]
    omega
/-- x shows as t, wherever the law stands -/
def Runs (X : Cx) (H : Hp) (n : Nat) (as : List Addr) (x : V) (t : Str) : Prop :=
  ∀ (base : Nat), base + t.length ≤ sizeLine → ∀ (A : Around) (g : List Code) (E : Value → Shared → Prop) (pins : List (Addr × Obj)) (s : Shared) (σ : St) (H' : Hp) (u : Value) (Q : Str → Shared → Prop), A.guards = some g → (∀ b ∈ as, Clear g b) → Sub X n A → Inv X pins σ H' s → Same H H' → RelV x u →
    (∀ s' H'', Inv X pins σ H'' s' → Same H' H'' → Q t s') → wpAny (model X.prog X.w) A (pyReprUnder base u) Q E s
section
variable {X : Cx} {H : Hp} {n : Nat} {as : List Addr} {x : V} {t : Str}
theorem Runs.more {as' : List Addr} {m : Nat} (h : Runs X H n as x t) (hs : ∀ b ∈ as, b ∈ as') (hm : n ≤ m) : Runs X H m as' x t :=
  fun base hz A g E pins s σ H' u Q hg hcl sb I sm r fin => h base hz A g E pins s σ H' u Q hg (fun b hb => hcl b (hs b hb)) (sb.mono hm) I sm r fin
theorem Runs.is (h : ∀ u, RelV x u → ReprIs X.prog X.w u t) : Runs X H n as x t :=
  fun base hz A g E pins s σ H' u Q hg hcl sb I sm r fin => h u r base hz A E s Q fun tk => fin _ _ (I.tok tk) (Same.refl _)
theorem Runs.non : Runs X H n as .non "None" := .is fun u r => by
  cases r
  exact ReprIs.none
theorem Runs.bl (b : Bool) : Runs X H n as (.bl b) (if b then "True" else "False") := .is fun u r => by
  cases r
  exact ReprIs.bool b
theorem Runs.int {i : Int} (h : i.natAbs.log2 < 1920) : Runs X H n as (.int i) (toString i) := .is fun u r => by
  obtain ⟨k, rfl⟩ := r
  exact ReprIs.int k h
theorem Runs.str {z : Str} (h : (reprText z).length ≤ sizeLine) : Runs X H n as (.str z) (reprText z) := .is fun u r => by
  obtain ⟨k, rfl⟩ := r
  exact ReprIs.str z k h
/-- an instance, by its own repr -/
theorem Runs.own {k : Nat} {f C a dx : Addr} {fd : FuncData} {sp : Sp} {fs : List (Str × V)} (F : FnOk X.prog X.w X.K X.mg X.base CX0 k f fd ["self"] sp) (hs : PySem.W.findIn X.K (.ref C) "__repr__" = some (some (.ref f))) (hf : PySem.W.isFn X.K (.ref f) = true) (hb : Binds X.K fd ["self"] [])
    (ha : H a = some (.ins C dx fs)) (q : ∀ H', Same H H' → sp [.ref a] H' (fun v H2 => v = .str t ∧ Same H' H2) E0) : Runs X H k as (.ref a) t := by
  intro base hz A g E pins s σ H' u Q hg hcl sb I sm r fin
  cases r
  obtain ⟨mA, J, _⟩ := ins_get I.hok (sm _ _ ha)
  obtain ⟨od, J, _⟩ := J.look
  refine wpAny_pyReprUnder_ref (by omega) (reprUnder_K (by have := sb.room.un; omega) I.kIn J hs hf ?_)
  refine wpAny_mono (call_in F hb sb I (x := .ref a) (u := .ref a) rfl (q H' sm) E) (fun v s' hv => ?_) fun _ _ y => y
  obtain ⟨y, H2, I2, ry, rfl, s2⟩ := hv
  obtain ⟨k, rfl⟩ := ry
  exact ⟨⟨_, _, rfl⟩, _, _, rfl, fin _ _ I2 s2⟩
/-- {} -/
theorem Runs.emp {a : Addr} (ha : H a = some (.dK [])) : Runs X H n [a] (.ref a) "{}" := by
  intro base hz A g E pins s σ H' u Q hg hcl sb I sm r fin
  cases r
  obtain ⟨_, ns, vs, kv, o, es, ep, h1, h2, h3, h4⟩ := I.hok a _ (sm _ _ ha)
  cases kv
  have e0 : es.toList = [] := by
    have z := h4.2.1
    cases hes : es.toList with
    | nil => rfl
    | cons e r =>
      rw [hes] at z
      cases z
  have ek : ReprEntriesK X.prog X.w [] s.heap 0 es.toList [] := by
    rw [e0]
    exact .nil
  have rk := ReprK.dict (prog := X.prog) (w := X.w) (as := []) (d := 0) h1 h2.1 h3 ns (by simp) ek
  exact rk base hz A g E s Q hg hcl (by have := sb.room.un; omega) (fun _ _ e => e) fun h' tk kp => fin _ _ (I.kept kp) (Same.refl _)
end
theorem weight_loop (args : Args) : (Code.builtin "list.__repr__.loop" args).weight = 1 := by
  first | rfl | simp [Code.weight, Code.frames, Code.isFrame, Code.isCreation, Code.isGuard, Code.isCaller, guardIds]
theorem weight_tup (args : Args) : (Code.builtin "tuple.__repr__" args).weight = 1 := by
  first | rfl | simp [Code.weight, Code.frames, Code.isFrame, Code.isCreation, Code.isGuard, Code.isCaller, guardIds]
theorem weight_tupU (args : Args) : (Code.builtin "tuple.__repr__.under" args).weight = 1 := by
  first | rfl | simp [Code.weight, Code.frames, Code.isFrame, Code.isCreation, Code.isGuard, Code.isCaller, guardIds]
/-! ### lists -/
section
variable {X : Cx} {H : Hp} {n : Nat} {as : List Addr} {xs : List V} {ts : List Str} {pins : List (Addr × Obj)} {σ : St}
theorem loop_own {A : Around} {R : Result → Shared → Prop} {a P : Addr} {base : Nat} {g : List Code} (hg : A.guards = some g) (hcl : ∀ b ∈ as, Clear g b) (sb : Sub X (n + 1) A) (hna : a ∉ as) (hl : SqL X.K H a xs) (hlen : ts.length = xs.length)
    (hT : ∀ (i : Nat) x, xs[i]? = some x → ∃ t, ts[i]? = some t ∧ Runs X H n as x t) (hsz : base + (listText ts).length ≤ sizeLine) :
    ∀ (k i : Nat) (s : Shared) (H' : Hp) (acc : Array Value) (c : Nat) (done : List (Str × Tok)), xs.length - i = k → i ≤ xs.length → Inv X pins σ H' s → Same H H' → FpOk X pins H' P →
    s.heap.get? P = some { cls := .type "list", dict := none, data := .seq acc c, slots := #[] } → acc.toList = strValues done → done.map (·.1) = ts.take i →
    (∀ s' H'' u, Inv X pins σ H'' s' → Same H' H'' → R (.ok (.ret (.str (listText ts) u))) s') →
    codeAny (model X.prog X.w) A (.builtin "list.__repr__.loop" ⟨[.ref a, rawInt i, .ref P, rawInt ((base + piled (ts.take i) : Nat) : Int)], []⟩) R s := by
  have hX : (listText ts).length = (textFrom 0 "[" ts).length + 1 := by
    show (textFrom 0 "[" ts ++ "]").length = _
    rw [strLen_append]; rfl
  have hL := textFrom_len ts 0 "["
  have hsz1 : xs.length ≤ sizeLine := by
    have h1 := hL.1
    rw [if_neg (Nat.lt_irrefl 0)] at h1
    omega
  have hsz2 : ∀ t ∈ ts, t.length ≤ sizeLine := fun t ht => by
    have h2 := hL.2.1 t ht
    omega
  have hsz3 : (listText ts).length ≤ sizeLine := by omega
  have hp3 := piled_le_listText ts
  intro k
  induction k with
  | zero =>
    intro i s H' acc c done hk hi I sm fp hP hacc hdone hR
    have hin : i = xs.length := by omega
    obtain ⟨its, rv, ⟨oa, na, ha, hc, hd, hda⟩, _⟩ := I.list (SqL.ext hl sm)
    have lv := rv.length
    refine codeAny_builtin PySem.F.entry_list_repr_loop ?_
    show wpAny _ _ (PySem.Builtin.«list.__repr__.loop» ⟨[.ref a, .int i 0, .ref P, .int ((base + piled (ts.take i) : Nat) : Int) 0], []⟩) _ _ s
    rw [repr_loop_tree]
    refine wpAny_bind (wpAny_listItems ha hda ?_)
    have hnone : its.toArray[(i : Int).toNat]? = none := by simp; omega
    simp only [hnone]
    unfold reprEnd
    refine wpAny_bind (wpAny_listItems hP rfl ?_)
    rw [hacc, repr_fold]
    refine wpAny_bind (wpAny_pure ?_)
    have hall : done.map (·.1) = ts := by rw [hdone, hin, ← hlen, List.take_length]
    rw [hall]
    refine wpAny_bind (wpAny_mkStr (wpAny_pure ?_) hsz3)
    exact hR _ _ _ (I.tok _) (Same.refl _)
  | succ k ih =>
    intro i s H' acc c done hk hi I sm fp hP hacc hdone hR
    have hlt : i < xs.length := by omega
    obtain ⟨t, ht, hrep⟩ := hT i xs[i] (List.getElem?_eq_getElem hlt)
    have hp1 := piled_take_succ ht
    have hp2 := piled_take_le ts (i + 1)
    obtain ⟨its, rv, ⟨oa, na, ha, hc, hd, hda⟩, _⟩ := I.list (SqL.ext hl sm)
    have lv := rv.length
    obtain ⟨u, hu, ru⟩ := rv.get (i := i) (x := xs[i]) (List.getElem?_eq_getElem hlt)
    refine codeAny_builtin PySem.F.entry_list_repr_loop ?_
    show wpAny _ _ (PySem.Builtin.«list.__repr__.loop» ⟨[.ref a, .int i 0, .ref P, .int ((base + piled (ts.take i) : Nat) : Int) 0], []⟩) _ _ s
    rw [repr_loop_tree]
    refine wpAny_bind (wpAny_listItems ha hda ?_)
    have hsome : its.toArray[(i : Int).toNat]? = some u := by simpa using hu
    simp only [hsome]
    rw [Int.toNat_natCast]
    have Ip : Inv X ((P, { cls := .type "list", dict := none, data := .seq acc c, slots := #[] }) :: pins) σ H' s := I.pins_of fun p hp => by
      rcases List.mem_cons.mp hp with rfl | hp
      · exact ⟨hP, fp.1, fp.2.1, fp.2.2.1, fun v z => by cases z⟩
      · exact I.pin p (List.mem_append_right _ hp)
    refine wpAny_bind (wpAny_holding (hrep (base + piled (ts.take i) + 1) (by omega) _ _ _ _ s σ H' u _ (guards_under_guard (isGuard_list_loop _) hg) (fun b hb => (hcl b hb).cons (a := a) fun e => hna (e ▸ hb)) (sub_under sb (units_under_list_loop _ _) (weight_loop _)) Ip sm ru fun s2 H2 I2 sm2 => ?_))
    obtain ⟨hP2, g2, _⟩ := I2.pin (P, _) (List.mem_append_right _ (List.mem_cons_self ..))
    have I3 : Inv X pins σ H2 s2 := I2.pins_of fun p hp => I2.pin p (List.mem_append_right _ (List.mem_cons_of_mem _ hp))
    refine wpAny_bind (wpAny_mkStr ?_ (hsz2 t (List.mem_of_getElem? ht)))
    refine wpAny_bind ?_
    show wpAny _ _ (updateSeq P _) _ _ _
    have hasz : acc.size ≤ sizeLine := by
      have e1 : acc.toList.length = acc.size := by simp
      have e2 : (strValues done).length = done.length := by simp [strValues]
      have e3 : done.length = (ts.take i).length := by rw [← hdone, List.length_map]
      have e4 : (ts.take i).length ≤ i := by rw [List.length_take]; omega
      rw [hacc] at e1; omega
    refine wpAny_updateSeq hP2 rfl (wpAny_pure ⟨PySem.F.quiet_list_repr_loop _, ?_⟩) hasz
    have e1 : ((i : Int) + 1) = ((i + 1 : Nat) : Int) := by omega
    have e2 : base + piled (ts.take i) + (t.length + 2) = base + piled (ts.take (i + 1)) := by omega
    rw [e1, e2]
    have fp2 := fp_of fp g2
    refine ih (i + 1) _ H2 (acc.push (.str t s2.toks)) _ (done ++ [(t, s2.toks)]) (by omega) hlt ((I3.tok _).turnedL (ch := [P]) (fun b o hb e => (Heap.get?_update_other _ _ (fun h : P = b => hb (by simp [h]))).trans e) (fun b hb => by rw [List.mem_singleton.mp hb]; exact fp2)) (sm.trans sm2) fp2 (Heap.get?_update_self _ hP2 rfl) (by simp [hacc, strValues]) (by simp [List.take_add_one, ht, hdone]) fun s' H'' u I' s' => hR _ _ _ I' (sm2.trans s')
theorem list_at_own {A : Around} {R : Result → Shared → Prop} {a : Addr} {base : Nat} {g : List Code} {s : Shared} {H' : Hp} (hg : A.guards = some g) (hcl : ∀ b ∈ a :: as, Clear g b) (sb : Sub X (n + 1) A) (I : Inv X pins σ H' s) (sm : Same H H') (hna : a ∉ as) (hl : SqL X.K H a xs) (hlen : ts.length = xs.length)
    (hT : ∀ (i : Nat) x, xs[i]? = some x → ∃ t, ts[i]? = some t ∧ Runs X H n as x t) (hsz : base + (listText ts).length ≤ sizeLine)
    (hR : ∀ s' H'' u, Inv X pins σ H'' s' → Same H' H'' → R (.ok (.ret (.str (listText ts) u))) s') :
    wpAny (model X.prog X.w) A.in1 (Builtin.listReprAt base ⟨[.ref a], []⟩) (fun fin s' => match fin with | .done f => R (.ok f) s' | .again c' => c'.quiet = true ∧ codeAny (model X.prog X.w) A c' R s') (fun e s' => R (.error e) s') s := by
  obtain ⟨its, rv, ⟨oa, na, ha, hc, hd, hda⟩, _⟩ := I.list (SqL.ext hl sm)
  have lv := rv.length
  cases its with
  | nil =>
    cases ts with
    | nil =>
      rw [listText_nil] at hR
      exact wpAny_list_repr_empty ha hda (hR _ _ _ (I.tok _) (Same.refl _))
    | cons t r =>
      rw [List.length_cons] at hlen
      rw [List.length_nil] at lv
      omega
  | cons x l =>
    have hca : Clear g a := hcl a (.head _)
    refine wpAny_list_repr_head (A := A.in1) hg (fun v rest kw hm => listSameRef_of_ne (hca _ _ _ _ hm)) ha hda ?_
    refine wpAny_bind (m := newList []) (wpAny_newObj_type ?_)
    refine wpAny_pure ⟨PySem.F.quiet_list_repr_loop _, ?_⟩
    have hn : H' s.heap.objs.size = none := I.hok.fresh (Nat.le_refl _)
    refine loop_own (P := s.heap.objs.size) hg (fun b hb => hcl b (.tail _ hb)) sb hna hl hlen hT hsz _ 0 _ H' #[] _ [] rfl (Nat.zero_le _) (I.kept (t' := s.toks) fun b o e => Heap.get?_push_of_some _ e) sm (I.fpOk (Nat.le_refl _) hn) (Heap.get?_push_size _ rfl) rfl (by simp) hR
theorem Runs.lst {a : Addr} (hna : a ∉ as) (hl : SqL X.K H a xs) (hlen : ts.length = xs.length) (hT : ∀ (i : Nat) x, xs[i]? = some x → ∃ t, ts[i]? = some t ∧ Runs X H n as x t) : Runs X H (n + 1) (a :: as) (.ref a) (listText ts) := by
  intro base hz A g E pins s σ H' u Q hg hcl sb I sm r fin
  cases r
  obtain ⟨its, rv, ⟨oa, na, ha, hc, hd, hda⟩, _⟩ := I.list (SqL.ext hl sm)
  have hTy : s.TypeIs (.ref a) "list" := ⟨oa, ha, hc⟩
  refine wpAny_pyReprUnder_ref (by omega) (wpAny_pyReprObjUnder_twin (twin := "list.__repr__.under") hTy PySem.F.slot_list_repr.toG rfl (by have := sb.room.un; omega) ?_)
  exact call_twin_plain PySem.F.plain_list_repr_under PySem.F.entry_list_repr_under PySem.F.check_list_repr_under hTy PySem.F.slot_list_repr.toG (PySem.F.args_list_repr_1 _)
    (list_at_own (R := callEnd _ E) hg hcl sb I sm hna hl hlen hT hz fun s' H'' u I' s2 => ⟨⟨_, _, rfl⟩, _, _, rfl, fin _ _ I' s2⟩)
/-! ### tuples -/
theorem fold_own {A : Around} {E : Value → Shared → Prop} {g : List Code} (hg : A.guards = some g) (hcl : ∀ b ∈ as, Clear g b) (sb : Sub X n A) : ∀ (xs : List V) (l : List Value) (ts : List Str) (acc : Array Str) (k : Nat) (s : Shared) (H' : Hp) (Q : (Array Str × Nat) → Shared → Prop), Vals xs l → ts.length = xs.length → (∀ (i : Nat) x, xs[i]? = some x → ∃ t, ts[i]? = some t ∧ Runs X H n as x t) → k + piled ts ≤ sizeLine →
    Inv X pins σ H' s → Same H H' → (∀ s' H'', Inv X pins σ H'' s' → Same H' H'' → Q ⟨acc ++ ts.toArray, k + piled ts⟩ s') →
    wpAny (model X.prog X.w) A (forIn l (⟨acc, k⟩ : (Array Str × Nat)) tupBody) Q E s
  | [], _, ts, acc, k, s, H', Q, .nil, hlen, hT, hk, I, sm, h => by
    have : ts = [] := List.length_eq_zero_iff.mp hlen
    subst this
    simp only [List.forIn_nil]
    exact wpAny_pure (by simpa [piled] using h s H' I (Same.refl _))
  | x :: xs, _, [], _, _, _, _, _, .cons r rs, hlen, _, _, _, _, _ => by cases hlen
  | x :: xs, _, t :: ts, acc, k, s, H', Q, .cons r rs, hlen, hT, hk, I, sm, h => by
    obtain ⟨t', e, hx⟩ := hT 0 x rfl
    cases e
    rw [piled_cons] at hk
    rw [List.forIn_cons]
    refine wpAny_bind (wpAny_bind (hx (k + 1) (by omega) A g E pins s σ H' _ _ hg hcl sb I sm r fun s2 H2 I2 sm2 => wpAny_pure ?_))
    refine fold_own hg hcl sb xs _ ts (acc.push t) (k + (t.length + 2)) s2 H2 Q rs (Nat.succ.inj hlen) (fun i x hi => hT (i + 1) x hi) (by omega) I2 (sm.trans sm2) fun s3 H3 I3 sm3 => ?_
    have h1 := h s3 H3 I3 (sm2.trans sm3)
    have e : k + piled (t :: ts) = k + (t.length + 2) + piled ts := by rw [piled_cons]; omega
    rw [e] at h1
    simpa using h1
theorem tup_at_own {A : Around} {R : Result → Shared → Prop} {a : Addr} {base : Nat} {g : List Code} {s : Shared} {H' : Hp} {id : String} {rest : List Value} (hcg : (Code.builtin id ⟨.ref a :: rest, []⟩).isGuard = true) (hcu : (A.under (.builtin id ⟨.ref a :: rest, []⟩)).units = A.units + 1) (hw : (Code.builtin id ⟨.ref a :: rest, []⟩).weight = 1)
    (hg : A.guards = some g) (hcl : ∀ b ∈ a :: as, Clear g b) (sb : Sub X (n + 1) A) (I : Inv X pins σ H' s) (sm : Same H H') (hna : a ∉ as) (hl : SqT X.K H a xs) (hlen : ts.length = xs.length)
    (hT : ∀ (i : Nat) x, xs[i]? = some x → ∃ t, ts[i]? = some t ∧ Runs X H n as x t) (hsz : base + (tupleText ts).length ≤ sizeLine)
    (hR : ∀ s' H'' u, Inv X pins σ H'' s' → Same H' H'' → R (.ok (.ret (.str (tupleText ts) u))) s') :
    wpOwn (model X.prog X.w) A (.builtin id ⟨.ref a :: rest, []⟩) (Builtin.tupleReprAt base ⟨[.ref a], []⟩) (fun fin s' => match fin with | .done f => R (.ok f) s' | .again c' => c'.quiet = true ∧ codeAny (model X.prog X.w) A c' R s') (fun e s' => R (.error e) s') s := by
  have hca : Clear g a := hcl a (.head _)
  obtain ⟨its, rv, ⟨o, ha, hc, m, hd⟩, _⟩ := I.tuple (SqT.ext hl sm)
  have lv := rv.length
  have hp := piled_le_tupleText ts
  have hsz0 : (tupleText ts).length ≤ sizeLine := by omega
  rw [tuple_repr_tree, tupleReprUnderWay_eq]
  refine wpOwn_bind (wpOwn_stackTailAny hg (tupGuardF_off _) (tupGuardF_pos _) ?_)
  have hn : (g.any fun c => tupGuardF (.ref a) (c, default)) = false := by
    rw [List.any_eq_false]
    intro c hcm
    rw [tupGuardF_of_clear hca c hcm]
    exact Bool.false_ne_true
  rw [hn]
  refine wpOwn_of_wpAny ?_
  show wpAny _ _ (tupleReprRest base (.ref a)) _ _ s
  unfold tupleReprRest Builtin.Tuple.tupleItemsOf
  refine wpAny_bind (wpAny_bind (wpAny_seqItems ha hd (wpAny_pure ?_)))
  rw [← Array.forIn_toList]
  refine wpAny_bind (fold_own (pins := pins) (σ := σ) (guards_under_guard hcg hg) (fun b hb => (hcl b (.tail _ hb)).cons (a := a) fun e => hna (e ▸ hb)) (sub_under sb hcu hw) xs _ ts _ _ s H' _ (by simpa using rv) hlen hT (by omega) I sm fun s2 H2 I2 sm2 => ?_)
  have sz : its.toArray.size = ts.length := by
    rw [List.size_toArray]
    omega
  refine wpAny_bind (wpAny_mkStr (wpAny_pure ?_) (by simpa [tupleText, sz] using hsz0))
  have h1 := hR _ _ s2.toks (I2.tok (s2.toks + 1)) sm2
  simpa [tupleText, sz] using h1
theorem Runs.tup {a : Addr} (hna : a ∉ as) (hl : SqT X.K H a xs) (hlen : ts.length = xs.length) (hT : ∀ (i : Nat) x, xs[i]? = some x → ∃ t, ts[i]? = some t ∧ Runs X H n as x t) : Runs X H (n + 1) (a :: as) (.ref a) (tupleText ts) := by
  intro base hz A g E pins s σ H' u Q hg hcl sb I sm r fin
  cases r
  obtain ⟨its, rv, ⟨o, ha, hc, m, hd⟩, _⟩ := I.tuple (SqT.ext hl sm)
  have hTy : s.TypeIs (.ref a) "tuple" := ⟨o, ha, hc⟩
  refine wpAny_pyReprUnder_ref (by omega) (wpAny_pyReprObjUnder_twin (twin := "tuple.__repr__.under") hTy PySem.F.slot_tuple_repr rfl (by have := sb.room.un; omega) ?_)
  exact call_twin_own (PySem.F.quiet_tuple_repr_under _) PySem.F.entry_tuple_repr_under PySem.F.check_tuple_repr_under hTy PySem.F.slot_tuple_repr (PySem.F.args_tuple_repr_1 _)
    (tup_at_own (R := callEnd _ E) (isGuard_tuple_repr_under _) (units_under_tuple_repr_under _ _) (weight_tupU _) hg hcl sb I sm hna hl hlen hT hz fun s' H'' u I' s2 => ⟨⟨_, _, rfl⟩, _, _, rfl, fin _ _ I' s2⟩)
/-! ### repr(x), nothing being shown -/
def rReprL (X : Cx) (n : Nat) : List V → Hp → VK → Prop := fun vs H Q => ∃ (a : Addr) (xs : List V) (ts : List Str) (as : List Addr), vs = [.ref a] ∧ a ∉ as ∧ ts.length = xs.length ∧ (∀ (i : Nat) x, xs[i]? = some x → ∃ t, ts[i]? = some t ∧ Runs X H n as x t) ∧
  ((SqL X.K H a xs ∧ (listText ts).length ≤ sizeLine ∧ ∀ H', Same H H' → Q (.str (listText ts)) H') ∨ (SqT X.K H a xs ∧ (tupleText ts).length ≤ sizeLine ∧ ∀ H', Same H H' → Q (.str (tupleText ts)) H'))
theorem call_reprL (calm : Calm X.A) (hr : Room (n + 2) X.A) : CallR X (.builtin "repr") (rReprL X n) := by
  rintro pins s σ H xs us Q I r ⟨a, ys, ts, as, rfl, hna, hlen, hT, h⟩
  obtain ⟨u, rfl, rx⟩ := vals1 r
  cases rx
  have sb : Sub X (n + 1) X.A.in1 := Sub.in1 ⟨hr, rfl⟩
  have hg : X.A.in1.guards = some [] := calm
  rcases h with ⟨hl, hz, q⟩ | ⟨hl, hz, q⟩
  · obtain ⟨its, rv, ⟨oa, na, ha, hc, hd, hda⟩, _⟩ := I.list hl
    have hTy : s.TypeIs (.ref a) "list" := ⟨oa, ha, hc⟩
    refine call_repr_slot (by have := hr.un; omega) hTy PySem.F.slot_list_repr.toG ?_
    exact wpAny_call (codeAny_call_builtin PySem.F.slot_list_repr.plain PySem.F.entry_list_repr (PySem.F.slot_list_repr.check _ _ _ _ _ _ _ _ hTy (PySem.F.args_list_repr_1 _)
      (list_at_own (base := 0) (R := callEnd _ X.xe) hg (fun b _ => Clear.nil b) sb I (Same.refl H) hna hl hlen hT (by omega) fun s' H'' u I' s2 => ⟨_, _, rfl, .str (listText ts), H'', I', ⟨_, rfl⟩, q _ s2⟩)))
  · obtain ⟨its, rv, ⟨o, ha, hc, m, hd⟩, _⟩ := I.tuple hl
    have hTy : s.TypeIs (.ref a) "tuple" := ⟨o, ha, hc⟩
    refine call_repr_slot (by have := hr.un; omega) hTy PySem.F.slot_tuple_repr ?_
    exact wpAny_call (codeAny_call_builtin_own (Code.quiet_builtin _ (by decide +kernel)) PySem.F.entry_tuple_repr (PySem.F.slot_tuple_repr.check _ _ _ _ _ _ _ _ hTy (PySem.F.args_tuple_repr_1 _)
      (tup_at_own (base := 0) (R := callEnd _ X.xe) (isGuard_tuple_repr _) (units_under_tuple_repr _ _) (weight_tup _) hg (fun b _ => Clear.nil b) sb I (Same.refl H) hna hl hlen hT (by omega) fun s' H'' u I' s2 => ⟨_, _, rfl, .str (tupleText ts), H'', I', ⟨_, rfl⟩, q _ s2⟩)))
end
end Pk
namespace Pk
open PySem PySem.Spec L2
/-- the things of a list, each with its text -/
inductive RunsL (X : Cx) (H : Hp) (n : Nat) (as : List Addr) : List V → List Str → Prop
  | nil : RunsL X H n as [] []
  | cons {x : V} {t : Str} {xs : List V} {ts : List Str} (h : Runs X H n as x t) (hs : RunsL X H n as xs ts) : RunsL X H n as (x :: xs) (t :: ts)
theorem RunsL.len {X : Cx} {H : Hp} {n : Nat} {as : List Addr} {xs : List V} {ts : List Str} (h : RunsL X H n as xs ts) : ts.length = xs.length := by
  induction h with
  | nil => rfl
  | cons h hs ih => rw [List.length_cons, List.length_cons, ih]
theorem RunsL.at {X : Cx} {H : Hp} {n : Nat} {as : List Addr} {xs : List V} {ts : List Str} (h : RunsL X H n as xs ts) : ∀ (i : Nat) x, xs[i]? = some x → ∃ t, ts[i]? = some t ∧ Runs X H n as x t := by
  induction h with
  | nil => exact fun i x hx => by simp at hx
  | cons h hs ih =>
    intro i x hx
    cases i with
    | zero => cases hx; exact ⟨_, rfl, h⟩
    | succ i => exact ih i x hx
theorem RunsL.app {X : Cx} {H : Hp} {n : Nat} {as : List Addr} {xs ys : List V} {ts us : List Str} (h : RunsL X H n as xs ts) (g : RunsL X H n as ys us) : RunsL X H n as (xs ++ ys) (ts ++ us) := by
  induction h with
  | nil => exact g
  | cons h hs ih => exact .cons h ih
end Pk
/-! ### enumerate(tuple) -/
namespace Pk
open PySem PySem.Spec PyProof.Rows L2
/-- enumerate of a tuple is made: two new objects -/
theorem enumT_new {v : Value} {oi : Obj} {G : Heap → Prop} (B : Begins v oi G) : Meets (Builtin.«enumerate.__new__» ⟨[.type "enumerate", v], []⟩) (fun _ R s => G s.heap ∧ R (.ok (.ret (.ref (s.heap.push oi).objs.size))) { s with heap := (s.heap.push oi).push { cls := .type "enumerate", data := .fields #[.none, .bool false, .ref s.heap.objs.size, rawInt 0, .none, .none] } }) :=
  .of_wp fun prog w A R s h => by
    obtain ⟨hp, ge, dr, tks, oss⟩ := s
    obtain ⟨g1, g2⟩ := h
    have hsub := sub_enumerate
    have step : ∀ {A' : Around} {E : Value → Shared → Prop} {Q : Value → Shared → Prop}, Q (.ref hp.objs.size) ⟨hp.push oi, ge, dr, tks, oss⟩ → wpAny (model prog w) A' (pyIter v) Q E ⟨hp, ge, dr, tks, oss⟩ := fun q => B.iter prog w _ _ ⟨hp, ge, dr, tks, oss⟩ _ g1 q
    wp_walk using step
    refine wpAny_stack_any fun st => wpAny_pure ?_
    split
    · rename_i c _ _ _ _ _
      cases (c == Value.type "enumerate") <;> (wp_walk using step) <;> exact ⟨_, rfl, g2⟩
    · (wp_walk using step) <;> exact ⟨_, rfl, g2⟩
section
variable {prog : Program} {w : World} {A : Around} {E : Value → Shared → Prop} {s : Shared}
theorem enumT_call {t : Addr} {items : Array Value} {Q : Value → Shared → Prop} (ht : s.heap.IsTuple t items)
    (k : ∀ h', IsEnum h' (s.heap.objs.size + 1) s.heap.objs.size 0 .none → h'.IsTupleIter s.heap.objs.size t 0 → (∀ b o, s.heap.get? b = some o → h'.get? b = some o) → Q (.ref (s.heap.objs.size + 1)) { s with heap := h' }) :
    wpAny (model prog w) A (call (.type "enumerate") [.ref t]) Q E s := by
  refine callType_new F.called_enumerate (by decide) (F.typeCall_enumerate_1 _) (F.newCall_enumerate_1 _) (fun y => F.args_object_init_2 y _) F.entry_enumerate_new (enumT_new (begins_tuple t items)) ⟨ht, ?_⟩
  generalize hoi : ({ cls := .type "tuple_iterator", data := .fields #[.ref t, .int 0 0] } : Obj) = oi
  have sz : (s.heap.push oi).objs.size = s.heap.objs.size + 1 := Heap.size_push ..
  show _ ∧ _
  rw [sz]
  have en : IsEnum ((s.heap.push oi).push { cls := .type "enumerate", data := .fields #[.none, .bool false, .ref s.heap.objs.size, rawInt 0, .none, .none] }) (s.heap.objs.size + 1) s.heap.objs.size 0 .none := by
    have z := Heap.get?_push_size (s.heap.push oi) (o := { cls := .type "enumerate", data := .fields #[.none, .bool false, .ref s.heap.objs.size, rawInt 0, .none, .none] }) rfl
    rw [sz] at z
    exact z
  have nf : oi.isFreed = false := by rw [← hoi]; rfl
  refine ⟨⟨_, en, rfl⟩, k _ en ⟨oi, Heap.get?_push_of_some _ (Heap.get?_push_size _ nf), by rw [← hoi], by rw [← hoi]; rfl⟩ fun b o x => Heap.get?_push_of_some _ (Heap.get?_push_of_some _ x)⟩
end
/-- the tuple at a, each of its things in a new pair with its number -/
def IteT (K : PySem.W.Frag) (a : Addr) : It where
  go := fun i H => ∃ (xs : List V) (x : V), SqT K H a xs ∧ xs[i]? = some x
  yld := fun i H v H' => ∃ T x, v = .ref T ∧ H T = none ∧ H' = upd H T (.tup [.int (i : Nat), x]) ∧ ∀ xs, SqT K H a xs → xs[i]? = some x
  stop := fun i H => ∃ xs : List V, SqT K H a xs ∧ xs.length ≤ i
theorem turn_enumT {P : Program} {w : World} {K : PySem.W.Frag} {elts : List Expr} {kk : Nat} {tpos : Pos} (a e it : Addr) (nai : a ≠ it) (nae : a ≠ e) (nei : e ≠ it) :
    Turn P w K (.Tuple elts kk tpos) (IteT K a) [e, it] e (fun i h => (∃ old, IsEnum h e it ((i : Nat) : Int) old) ∧ h.IsTupleIter it a i) where
  mem := List.mem_cons_self
  obj := fun i h st b hb => by
    obtain ⟨⟨old, he⟩, ⟨oi, hoi, _, hdi⟩⟩ := st
    rcases List.mem_cons.mp hb with rfl | hb
    · exact ⟨_, he, fun v z => nomatch z⟩
    · rw [List.mem_singleton.mp hb]
      exact ⟨oi, hoi, fun v z => by rw [hdi] at z; cases z⟩
  keep := fun i h h' st k => ⟨st.1.imp fun old he => k e List.mem_cons_self _ he, st.2.at fun o z => k it (List.mem_cons_of_mem _ List.mem_cons_self) o z⟩
  item := by
    rintro Y rfl rfl rfl calm i pns s τ G Ex J fp ⟨⟨old, he⟩, hit⟩ ⟨xs, x, hq, hx⟩
    obtain ⟨its, rv, pt, _⟩ := J.tuple hq
    obtain ⟨u, hu, ru⟩ := rv.get hx
    have pt' : s.heap.IsTuple a its.toArray := pt
    have le : e < s.heap.objs.size := Heap.lt_size he
    have li : it < s.heap.objs.size := by obtain ⟨_, z, _⟩ := hit; exact Heap.lt_size z
    have lt : i < its.toArray.size := by
      rw [List.size_toArray]
      exact (List.getElem?_eq_some_iff.mp hu).1
    have hef : e ∉ [it, a] := fun z => by
      rcases List.mem_cons.mp z with z | z
      · exact nei z
      · exact nae (List.mem_singleton.mp z).symm
    refine wpAny_pyNext_enum_itemD (Draws.tuple (A := Y.A.in1) (J.ok.hd calm) it a nai its.toArray) he ⟨hit, pt'⟩ lt nei hef fun y h' tk py ho st' hT hsz hk => ?_
    have ey : y = u := by
      have z : its[i]? = some y := by simpa using py
      rw [hu] at z
      exact (Option.some.inj z).symm
    subst ey
    refine ⟨_, rfl, wpAny_letOwnedTupleGo_enum (s := { s with heap := h', toks := tk + 1 }) ho fun h2 he2 sb => ?_⟩
    have hT2 : h2.get? s.heap.objs.size = some { cls := .type "tuple", data := .seq #[.int i tk, y] } := (sb.2 _ (Nat.ne_of_gt le)).trans hT
    have ok : ObjOk Y.prog Y.w (upd G s.heap.objs.size (.tup [.int (i : Nat), x])) h2 s.heap.objs.size (.tup [.int (i : Nat), x]) := ⟨by show 2 ≤ sizeLine; decide, [.int i tk, y], .cons ⟨_, rfl⟩ (.cons ru .nil), ⟨_, hT2, rfl, _, rfl⟩⟩
    have J2 : Inv Y pns τ (upd G s.heap.objs.size (.tup [.int (i : Nat), x])) { s with heap := h2, toks := tk + 1 } :=
      J.turnedNew (ch := [e, it]) (fun b ob hb z => (sb.2 b fun z' => hb (by rw [z']; exact List.mem_cons_self)).trans (hk b ob (fun z' => hb (by rw [z']; exact List.mem_cons_self)) (fun z' => hb (by rw [z']; exact List.mem_cons_of_mem _ List.mem_cons_self)) z)) fp (Nat.le_refl _) ok
    refine ⟨.ref s.heap.objs.size, _, J2, rfl, ⟨_, x, rfl, J.hok.fresh (Nat.le_refl _), rfl, fun zs hz => by rw [J.tuple_inj hz hq]; exact hx⟩, ⟨⟨y, ?_⟩, st'.1.at fun o z => (sb.2 it (Ne.symm nei)).trans z⟩, fun b hb => ?_⟩
    · rw [show ((i + 1 : Nat) : Int) = (i : Int) + 1 by omega]
      exact he2
    · have lb : b < s.heap.objs.size := by
        rcases List.mem_cons.mp hb with z | z
        · rw [z]; exact le
        · rw [List.mem_singleton.mp z]; exact li
      rw [upd_ne (Nat.ne_of_lt lb)]
      exact (fp b hb).1
  done := by
    rintro Y rfl rfl rfl calm i pns s τ G Ex J fp ⟨⟨old, he⟩, hit⟩ ⟨xs, hq, hx⟩
    obtain ⟨its, rv, pt, _⟩ := J.tuple hq
    have pt' : s.heap.IsTuple a its.toArray := pt
    obtain ⟨f0, f1, f2, f3, f4, f5⟩ := fp it (List.mem_cons_of_mem _ List.mem_cons_self)
    have hl := rv.length
    unfold pyNext
    refine wpAny_bind (wpAny_attempt (wpAny_callSpecial?_slot (name := Str.ofString "__next__") (show s.TypeIs (.ref e) "enumerate" from ⟨_, he, rfl⟩) F.slot_enumerate_next (wpAny_call_entry F.slot_enumerate_next (show s.TypeIs (.ref e) "enumerate" from ⟨_, he, rfl⟩) F.entry_enumerate_next ?_ (F.args_enumerate_next_1 _))))
    show wpAny _ _ (field (.ref e) 2 >>= _) _ _ _
    refine wpAny_bind (wpAny_field he rfl (x := .ref it) rfl (wpAny_bind (wpAny_nextOf_tuple_end (J.ok.hd calm) hit pt' (by simp; omega) fun h' ex eb hxx => ?_)))
    obtain ⟨o, ho, hc⟩ := hxx
    refine wpAny_bind (wpAny_isInstance (T := "StopIteration") (b := true) ⟨o, ho, hc⟩ isSubtype_stop (wpAny_pure ?_))
    exact ⟨rfl, J.turned (t' := s.toks) (fun b o hb z => eb b o hb z) f0 f1 f3 f4 f5⟩
  self := fun A i s Q E st h => by
    obtain ⟨⟨_, he⟩, _⟩ := st
    exact wpAny_pyIter_enum he h
def iEnumT (K : PySem.W.Frag) (ta : TA) : TI := fun σ H R => ta σ H fun vs H1 => ∃ a xs, vs = [.ref a] ∧ SqT K H1 a xs ∧ R (IteT K a) H1
theorem pi_enumT {X : Cx} {e : Expr} {ta : TA} {p pos tpos : Pos} {elts : List Expr} {kk : Nat} (hg : Gl X "enumerate") (hm : X.mg "enumerate" = none) (ha : PA X [e] ta) (he1 : starEach [e] X.env = [(false, eval e X.env)] := by rfl) :
    PI X (.Tuple elts kk tpos) (.Call (.Name "enumerate" p) [e] [] pos) (iEnumT X.K ta) := by
  constructor
  intro pns s τ G R J want
  refine Call_ (ld_blt J hg hm boot_enumerate (PyProof.Rows.callWith_type1 (thn (ha.run pos pns s τ G _ J want) ?_) he1 rfl))
  rintro us s1 ⟨vs, G1, J1, r1, a, xs, rfl, hq, q⟩
  obtain ⟨u, rfl, ru⟩ := vals1 r1
  cases ru
  obtain ⟨its, rv, pt, _⟩ := J1.tuple hq
  obtain ⟨oa, hoa, _⟩ := id pt
  have la : a < s1.heap.objs.size := Heap.lt_size hoa
  refine enumT_call (show s1.heap.IsTuple a its.toArray from pt) fun h' hen hit hk => wpAny_pyIter_enum hen ?_
  have J2 : Inv X pns τ G1 { s1 with heap := h' } := J1.kept (t' := s1.toks) hk
  refine ⟨s1.heap.objs.size + 1, [s1.heap.objs.size + 1, s1.heap.objs.size], _, _, G1, rfl, J2, turn_enumT a (s1.heap.objs.size + 1) s1.heap.objs.size (Nat.ne_of_lt la) (Nat.ne_of_lt (Nat.lt_succ_of_lt la)) (Nat.succ_ne_self _), ⟨⟨.none, hen⟩, hit⟩, fun b hb => ?_, q⟩
  have hle : s1.heap.objs.size ≤ b := by
    rcases List.mem_cons.mp hb with z | z
    · rw [z]; exact Nat.le_add_right _ _
    · rw [List.mem_singleton.mp z]; exact Nat.le_refl _
  exact J1.fpOk hle (J1.hok.fresh hle)
theorem walk_enumT {K : PySem.W.Frag} {a : Addr} {xs : List V} : Walk (IteT K a) xs.length (fun H => SqT K H a xs) (YPair (fun i => some (.int (i : Nat))) (fun i => xs[i]?)) := by
  constructor
  · exact fun i _ hi q => ⟨xs, xs[i], q, by simp [hi]⟩
  · exact fun _ q => ⟨xs, q, Nat.le_refl _⟩
  · rintro i H v H' _ q ⟨T, x, h1, h2, h3, h4⟩
    exact ⟨T, .int (i : Nat), x, h1, h2, h3, rfl, h4 xs q⟩
end Pk
/-! ### readings by either of two rules -/
namespace Pk
open PySem PySem.Spec L2
section
variable {X : Cx} {tg e : Expr}
def iOr (w1 w2 : TI) : TI := fun σ H R => w1 σ H R ∨ w2 σ H R
theorem pi_or {w1 w2 : TI} (h1 : PI X tg e w1) (h2 : PI X tg e w2) : PI X tg e (iOr w1 w2) := ⟨fun pins s σ H R I h => h.elim (h1.run pins s σ H R I) (h2.run pins s σ H R I)⟩
def tOr2 (t1 t2 : TE) : TE := fun σ H Q => t1 σ H Q ∨ t2 σ H Q
theorem pe_or2 {t1 t2 : TE} (h1 : PE X e t1) (h2 : PE X e t2) : PE X e (tOr2 t1 t2) := ⟨fun pins s σ H Q I h => h.elim (h1.run pins s σ H Q I) (h2.run pins s σ H Q I)⟩
/-- two readings of one call's arguments -/
def rOr (r1 r2 : List V → Hp → VK → Prop) : List V → Hp → VK → Prop := fun vs H Q => r1 vs H Q ∨ r2 vs H Q
theorem call_or {v : Value} {r1 r2 : List V → Hp → VK → Prop} (h1 : CallR X v r1) (h2 : CallR X v r2) : CallR X v (rOr r1 r2) := fun pins s σ H xs us Q I r h => h.elim (h1 pins s σ H xs us Q I r) (h2 pins s σ H xs us Q I r)
end
end Pk
namespace Pk
open PySem L2
/-! ### how a wish is told -/
structure WD where
  wd : Str
  wh : Str
  le : Int
  mo : Int
deriving DecidableEq
def WI (CW : Addr) (H : Hp) (x : Addr) (q : WD) : Prop := ∃ dx, H x = some (.ins CW dx (wFs (.str q.wd) (.str q.wh) (.int q.le) (.int q.mo)))
theorem WI.same {CW : Addr} {H H' : Hp} {x : Addr} {q : WD} (h : WI CW H x q) (s : Same H H') : WI CW H' x q := h.imp fun _ e => s _ _ e
structure WB (q : WD) : Prop where
  n1 : q.wd.length ≤ 10
  n2 : q.wh.length ≤ 10
  l0 : 0 ≤ q.le
  l9 : q.le ≤ 999
  m0 : 0 ≤ q.mo
  m9 : q.mo ≤ 999
def wText0 (q : WD) : Str := (((q.wd ++ " ") ++ Str.ofString (toString q.le)) ++ " ") ++ Str.ofString (toString q.mo)
def wText1 (q : WD) : Str := (((((q.wd ++ " ") ++ q.wh) ++ " ") ++ Str.ofString (toString q.le)) ++ " ") ++ Str.ofString (toString q.mo)
def wText (q : WD) : Str := if q.wh = "" then wText0 q else wText1 q
def wRepr (q : WD) : Str := ("Wish(" ++ wText q) ++ ")"
theorem empty_app9 (x : Str) : Str.empty ++ x = x := TL.ext_tl (by rw [TL.tl_append]; rfl)
theorem mid_text {i : Int} (h0 : 0 ≤ i) (h9 : i ≤ 999) : (Str.ofString (toString i)).length ≤ 4 := by
  have e := int_text_length_le10 (a := i) (k := 3) (by decide) (by show i.natAbs < 1000; omega)
  rw [ofString_length]
  exact e
theorem mid_log {i : Int} (h0 : 0 ≤ i) (h9 : i ≤ 999) : i.natAbs.log2 < 1920 := Nat.lt_of_le_of_lt (Nat.log2_le_self _) (by omega)
theorem wText_len {q : WD} (B : WB q) : (wText q).length ≤ 40 := by
  have b1 := B.n1
  have b2 := B.n2
  have b3 := mid_text B.l0 B.l9
  have b4 := mid_text B.m0 B.m9
  have l1 : (((" " : String) : Str)).length = 1 := by decide +kernel
  unfold wText wText0 wText1
  split <;> simp only [app_len, l1] <;> omega
theorem wRepr_len {q : WD} (B : WB q) : (wRepr q).length ≤ 50 := by
  have := wText_len B
  have l1 : ((("Wish(" : String) : Str)).length = 5 := by decide +kernel
  have l2 : (((")" : String) : Str)).length = 1 := by decide +kernel
  unfold wRepr
  simp only [app_len, l1, l2]
  omega
def spWStr (CW : Addr) : Sp := fun vs H Q _ => ∃ (x : Addr) (q : WD), vs = [.ref x] ∧ WI CW H x q ∧ WB q ∧ Q (.str (wText q)) H
def spWRepr (CW : Addr) : Sp := fun vs H Q _ => ∃ (x : Addr) (q : WD), vs = [.ref x] ∧ WI CW H x q ∧ WB q ∧ Q (.str (wRepr q)) H
section
variable {P : Program} {w : World} {K : PySem.W.Frag} {mg : Str → Option Value} {base : Heap}
theorem scWStr : FnScope ["self"] ["self"] (defScope sWStr) := ⟨rfl, rfl, rfl, by decide +kernel, rfl, by decide +kernel, by decide +kernel⟩
theorem ok_wStr {f CW : Addr} {fd : FuncData} (F : Fun K "__str__" "Wish.__str__" sWStr f fd) (C : WCls K CW) : FnOk P w K mg base CX0 1 f fd ["self"] (spWStr CW) := by
  refine F.ok scWStr (fun vs H Q E h => ?_) (fun cdv A outer s H vs Q E hr h => ?_)
  · obtain ⟨x, q1, rfl, _⟩ := h
    rfl
  · obtain ⟨x, q1, rfl, ⟨dx, hx⟩, B, q⟩ := h
    have l0 : Str.empty.length = 0 := by decide +kernel
    have l1 : (((" " : String) : Str)).length = 1 := by decide +kernel
    have b1 := B.n1
    have b2 := B.n2
    have b4 := mid_text B.l0 B.l9
    have b5 := mid_text B.m0 B.m9
    have g4 := mid_log B.l0 B.l9
    have g5 := mid_log B.m0 B.m9
    refine ⟨_, pss_cons (ps_if (pt_cmpR op_eq (pe_fld (pv 0) rfl) pe_str (nomark _)) (pss_one (ps_ret (pe_joined (.cons (pe_fmt (pe_fld (pv 0) rfl)) (.cons pe_str (.cons (pe_fmt (pe_fld (pv 0) rfl)) (.cons pe_str (.cons (pe_fmt (pe_fld (pv 0) rfl)) .nil)))))))) pss_nil)
      (pss_one (ps_ret (pe_joined (.cons (pe_fmt (pe_fld (pv 0) rfl)) (.cons pe_str (.cons (pe_fmt (pe_fld (pv 0) rfl)) (.cons pe_str (.cons (pe_fmt (pe_fld (pv 0) rfl)) (.cons pe_str (.cons (pe_fmt (pe_fld (pv 0) rfl)) .nil)))))))))), ?_⟩
    refine ⟨_, rfl, x, CW, dx, _, _, rfl, hx, C.cls, C.no _ (by decide), lw_what _ _ _ _, rfl, _, rfl, ?_⟩
    unfold wText at q
    by_cases hk : q1.wh = ""
    · rw [if_pos hk] at q
      refine iteT' (by simp [hk]) ⟨_, rfl, x, CW, dx, _, _, rfl, hx, C.cls, C.no _ (by decide), lw_word _ _ _ _, .inl ⟨_, rfl, by rw [sizeLine_eq]; omega, _, rfl, by simp only [app_len, l0, l1, sizeLine_eq]; omega, _, rfl, by simp only [app_len, l0, l1, sizeLine_eq]; omega, _, rfl, x, CW, dx, _, _, rfl, hx, C.cls, C.no _ (by decide), lw_least _ _ _ _, .inr ⟨_, rfl, g4, _, rfl, by simp only [app_len, l0, l1, sizeLine_eq]; omega, _, rfl, by simp only [app_len, l0, l1, sizeLine_eq]; omega, _, rfl, x, CW, dx, _, _, rfl, hx, C.cls, C.no _ (by decide), lw_most _ _ _ _, .inr ⟨_, rfl, g5, _, rfl, by simp only [app_len, l0, l1, sizeLine_eq]; omega, ?_⟩⟩⟩⟩
      rw [empty_app9]
      exact q
    · rw [if_neg hk] at q
      refine iteF' (by simpa using hk) ⟨_, rfl, x, CW, dx, _, _, rfl, hx, C.cls, C.no _ (by decide), lw_word _ _ _ _, .inl ⟨_, rfl, by rw [sizeLine_eq]; omega, _, rfl, by simp only [app_len, l0, l1, sizeLine_eq]; omega, _, rfl, by simp only [app_len, l0, l1, sizeLine_eq]; omega, _, rfl, x, CW, dx, _, _, rfl, hx, C.cls, C.no _ (by decide), lw_what _ _ _ _, .inl ⟨_, rfl, by rw [sizeLine_eq]; omega, _, rfl, by simp only [app_len, l0, l1, sizeLine_eq]; omega, _, rfl, by simp only [app_len, l0, l1, sizeLine_eq]; omega, _, rfl, x, CW, dx, _, _, rfl, hx, C.cls, C.no _ (by decide), lw_least _ _ _ _, .inr ⟨_, rfl, g4, _, rfl, by simp only [app_len, l0, l1, sizeLine_eq]; omega, _, rfl, by simp only [app_len, l0, l1, sizeLine_eq]; omega, _, rfl, x, CW, dx, _, _, rfl, hx, C.cls, C.no _ (by decide), lw_most _ _ _ _, .inr ⟨_, rfl, g5, _, rfl, by simp only [app_len, l0, l1, sizeLine_eq]; omega, ?_⟩⟩⟩⟩⟩
      rw [empty_app9]
      exact q
theorem scWRepr : FnScope ["self"] ["self"] (defScope sWRepr) := ⟨rfl, rfl, rfl, by decide +kernel, rfl, by decide +kernel, by decide +kernel⟩
theorem ok_wRepr {f fS CW : Addr} {fd fdS : FuncData} (F : Fun K "__repr__" "Wish.__repr__" sWRepr f fd) (GS : FnOk P w K mg base CX0 1 fS fdS ["self"] (spWStr CW)) (hs : PySem.W.findIn K (.ref CW) "__str__" = some (some (.ref fS))) (hf : PySem.W.isFn K (.ref fS) = true) (hb : Binds K fdS ["self"] []) :
    FnOk P w K mg base CX0 2 f fd ["self"] (spWRepr CW) := by
  refine F.ok scWRepr (fun vs H Q E h => ?_) (fun cdv A outer s H vs Q E hr h => ?_)
  · obtain ⟨x, q1, rfl, _⟩ := h
    rfl
  · obtain ⟨x, q1, rfl, W, B, q⟩ := h
    have l0 : Str.empty.length = 0 := by decide +kernel
    have l1 : ((("Wish(" : String) : Str)).length = 5 := by decide +kernel
    have l2 : (((")" : String) : Str)).length = 1 := by decide +kernel
    have b1 := wText_len B
    obtain ⟨dx, hx⟩ := id W
    refine ⟨_, pss_one (ps_ret (pe_joined (.cons pe_str (.cons (pe_fmtSO GS hr hs hf hb (pv 0)) (.cons pe_str .nil))))), ?_⟩
    refine ⟨_, rfl, by simp only [app_len, l0, l1, sizeLine_eq]; omega, _, rfl, x, dx, _, rfl, hx, x, q1, rfl, W, B, ⟨_, rfl, by rw [sizeLine_eq]; omega⟩, _, rfl, by simp only [app_len, l0, l1, sizeLine_eq]; omega, _, rfl, by simp only [app_len, l0, l1, l2, sizeLine_eq]; omega, ?_⟩
    rw [empty_app9]
    exact q
end
end Pk
namespace Pk
open PySem L2
/-! ### methods called by keywords alone; calls that let nothing out -/
section
variable {X : Cx} {CX : CXT} {k : Nat} {f C : Addr} {fd : FuncData} {ps ks : List Str} {sp : Sp} {E : XK} {m : Str} {p pos apos : Pos} {o : Expr} {ta : TE} {kws : List Keyword} {tk : TA} {g : List Value → List Value → List Value} {gV : List V → List V → List V}
theorem pass_no : Passes (L2.CX X.prog X.w) X E0 := fun _ _ _ _ _ _ _ ⟨_, _, _, _, _, _, _, _, _, _, _, _, h⟩ => h.elim
def tMethN (C : Addr) (m : Str) (nk : Nat) (sp : Sp) (gV : List V → List V → List V) (E : XK) (ta : TE) (tk : TA) : TE := fun σ H Q => ta σ H fun x H1 => ∃ a dx fs, x = .ref a ∧ H1 a = some (.ins C dx fs) ∧ fs.lookup m = none ∧ tk σ H1 fun zs H2 => zs.length = nk ∧ sp (gV [x] zs) H2 Q E
theorem pe_methN0 {pl : Sem Bool} (he : PE X o ta) (c : Cls X.K C) (hm : Meth X.K C m f) (F : FnOk X.prog X.w X.K X.mg X.base CX k f fd ps sp) (hr : Room k X.A) (hb : KBn X.K fd ps 1 ks g gV) (hx : Passes CX X E)
    (hkw : PK X kws tk) (hall : (backToKw pos (keywordEach kws X.env)).all (·.1.isSome) = true := by rfl) (hks : (backToKw pos (keywordEach kws X.env)).filterMap (·.1) = ks := by rfl)
    (hpl : ((backTo pos (starEach [] X.env)).any (·.1) || (backToKw pos (keywordEach kws X.env)).any (·.1.isNone)) = false := by rfl)
    (ht : eval (.Call (.Attribute o m apos) [] kws pos) X.env = (do
      let ov ← eval o X.env
      standAt apos.atName
      let (f, first) ← holding [ov] (getMethod ov m pl)
      callWith pos f first (backTo pos (starEach [] X.env)) (backToKw pos (keywordEach kws X.env))) := by rfl) :
    PE X (.Call (.Attribute o m apos) [] kws pos) (tMethN C m ks.length sp gV E ta tk) := by
  refine ⟨fun pins s σ H Q I h => ?_⟩
  refine PySem.W.methodCall_KW (pl := pl) (thn (he.run pins s σ H _ I h) fun u s1 ⟨x, H1, I1, rx, a, dx, fs, ex, ea, l, q⟩ => ?_) ht
  subst ex
  obtain rfl : u = Value.ref a := rx
  refine getmeth_ok I1 ea c hm l ?_
  refine PySem.W.callWith_KW0 (first := [.ref a]) (h₀ := X.base) I.ok.mod.kin hm.kp hall (thn (hkw.run pos pins s1 σ H1 _ I1 q) ?_) hpl
  rintro ws s2 ⟨zs, H2, I2, rz, l2, q2⟩
  refine ⟨I2.kIn, ?_⟩
  rw [hks]
  exact run_fnN (us := [.ref a]) (vs := [.ref a]) F hr hb hx I2 (.cons rfl .nil) rz rfl l2 q2
end
end Pk
namespace Pk
open PySem L2
/-! ### what a wish is made of -/
theorem sgn_dec {z : Str} (h : (z.cps.toList.all fun c => decide ((32 ≤ c ∧ c ≤ 126 ∧ c ≠ 37) ∨ c = 10)) = true) : Sgn z := fun c hc => of_decide_eq_true (List.all_eq_true.mp h c hc)
def wV (q : WD) : List V := [.str q.wd, .str q.wh, .int q.le, .int q.mo]
def GoodW (q : WD) : Prop := wrongW (.str q.wd) (.str q.wh) (.int q.le) (.int q.mo) = ""
theorem words6_all : ∀ z ∈ words6, z.length ≤ 10 ∧ (z.cps.toList.all fun c => decide ((32 ≤ c ∧ c ≤ 126 ∧ c ≠ 37) ∨ c = 10)) = true := by decide +kernel
theorem good_of {q : WD} (hz : q.wd ∈ words6) (hc : canV (.str q.wd) (.str q.wh) = true) (l0 : 0 ≤ q.le) (l9 : q.le ≤ 999) (hm : if q.wd = "rest" then 0 ≤ q.mo else q.le ≤ q.mo) (m9 : q.mo ≤ 999) : GoodW q := by
  have h1 : isWord (.str q.wd) = true := decide_eq_true hz
  have w1 : whole (.int q.le) 0 999 = true := by
    show (decide (0 ≤ q.le) && decide (q.le ≤ 999)) = true
    rw [decide_eq_true l0, decide_eq_true l9]
    rfl
  have w2 : whole (.int q.mo) (if V.str q.wd = .str "rest" then 0 else intOf (.int q.le)) 999 = true := by
    show (decide ((if V.str q.wd = .str "rest" then 0 else intOf (.int q.le)) ≤ q.mo) && decide (q.mo ≤ 999)) = true
    rw [decide_eq_true m9, Bool.and_true]
    by_cases hr : q.wd = "rest"
    · rw [if_pos hr] at hm
      rw [if_pos (by rw [hr])]
      exact decide_eq_true hm
    · rw [if_neg hr] at hm
      rw [if_neg (fun e => hr (V.str.inj e))]
      exact decide_eq_true hm
  unfold GoodW wrongW
  rw [if_neg (by rw [h1]; decide), if_neg (by rw [hc]; decide), if_neg (by rw [w1]; decide), if_neg (by rw [w2]; decide)]
structure GoodI (q : WD) : Prop where
  wd : q.wd ∈ words6
  can : canV (.str q.wd) (.str q.wh) = true
  l0 : 0 ≤ q.le
  l9 : q.le ≤ 999
  m0 : 0 ≤ q.mo
  m9 : q.mo ≤ 999
  lm : q.wd ≠ "rest" → q.le ≤ q.mo
theorem ite_not {p : Prop} [Decidable p] {a b : Str} (h : (if p then a else b) = "") (n : a ≠ "") : ¬ p ∧ b = "" := by
  by_cases hp : p
  · rw [if_pos hp] at h
    exact absurd h n
  · rw [if_neg hp] at h
    exact ⟨hp, h⟩
theorem GoodW.i {q : WD} (h : GoodW q) : GoodI q := by
  unfold GoodW wrongW at h
  obtain ⟨h1, h⟩ := ite_not h (by decide)
  obtain ⟨h2, h⟩ := ite_not h (by decide)
  obtain ⟨h3, h⟩ := ite_not h (by decide)
  obtain ⟨h4, _⟩ := ite_not h (by decide)
  have h1 : isWord (.str q.wd) = true := by simpa using h1
  have h2 : canV (.str q.wd) (.str q.wh) = true := by simpa using h2
  have h3 : (decide (0 ≤ q.le) && decide (q.le ≤ 999)) = true := by
    have : whole (.int q.le) 0 999 = true := by simpa using h3
    exact this
  have h4 : (decide ((if V.str q.wd = .str "rest" then 0 else intOf (.int q.le)) ≤ q.mo) && decide (q.mo ≤ 999)) = true := by
    have : whole (.int q.mo) (if V.str q.wd = .str "rest" then 0 else intOf (.int q.le)) 999 = true := by simpa using h4
    exact this
  rw [Bool.and_eq_true, decide_eq_true_iff, decide_eq_true_iff] at h3 h4
  have e4 := h4.1
  refine ⟨of_decide_eq_true h1, h2, h3.1, h3.2, ?_, h4.2, fun n => ?_⟩
  · split at e4
    · exact e4
    · exact Int.le_trans h3.1 e4
  · rw [if_neg (fun e => n (V.str.inj e))] at e4
    exact e4
theorem GoodI.name {q : WD} (h : GoodI q) : nameT q.wh = true ∨ q.wh = "" := by
  have c := h.can
  unfold canV at c
  split at c
  · exact .inl c
  · split at c
    · exact .inr (V.str.inj (of_decide_eq_true c))
    · have c' : (nameT q.wh || decide (V.str q.wh = .str "")) = true := c
      rcases Bool.or_eq_true_iff.mp c' with c | c
      · exact .inl c
      · exact .inr (V.str.inj (of_decide_eq_true c))
theorem GoodI.wb {q : WD} (h : GoodI q) : WB q := by
  refine ⟨(words6_all _ h.wd).1, ?_, h.l0, h.l9, h.m0, h.m9⟩
  rcases h.name with n | n
  · have := (name_len n).2
    omega
  · rw [n]
    decide +kernel
theorem GoodI.thg {q : WD} {H : Hp} (h : GoodI q) : Thg H (.str q.wd) ∧ Thg H (.str q.wh) := by
  refine ⟨.str _ (by have := (words6_all _ h.wd).1; omega) (sgn_dec (words6_all _ h.wd).2), ?_⟩
  rcases h.name with n | n
  · exact name_thg n
  · rw [n]
    exact .str _ (by decide +kernel) (sgn_dec (by decide +kernel))
theorem at_of {α : Type} {l : List α} {i : Int} {f : α → V} (h0 : 0 ≤ i) (h1 : i < l.length) : ∃ x ∈ l, atI (l.map f) i = some (f x) := by
  obtain ⟨k, rfl⟩ := Int.eq_ofNat_of_zero_le h0
  have hk : k < l.length := by omega
  exact ⟨l[k], List.getElem_mem hk, atI_nat (by rw [List.getElem?_map, List.getElem?_eq_getElem hk]; rfl)⟩
def spMade : Sp := fun vs H Q _ => ∃ (d : Addr) (t : Int), vs = [.ref d] ∧ DrawAt H d t ∧ 0 ≤ t ∧ t ≤ 50000 ∧ ∀ (m : Addr) (q : WD) (H' : Hp) (t' : Int), But d H H' → H m = none → H' m = some (.lst (wV q)) → GoodW q → DrawAt H' d t' → t ≤ t' → t' ≤ t + 60 → Q (.ref m) H'
/-- one of two numbers or a drawn one -/
def tLeast : TE := fun σ H Q => ∃ (d : Addr) (t : Int), σ[0]? = some (some (.ref d)) ∧ DrawAt H d t ∧ 0 ≤ t ∧ t ≤ 60000 ∧ ∀ (v : Int) (H' : Hp), 0 ≤ v → v ≤ 999 → But d H H' → DrawAt H' d (t + 1 + 1) → Q (.int v) H'
def tMost : TE := fun σ H Q => ∃ (d : Addr) (t le : Int), σ[0]? = some (some (.ref d)) ∧ σ[4]? = some (some (.int le)) ∧ 0 ≤ le ∧ le ≤ 999 ∧ DrawAt H d t ∧ 0 ≤ t ∧ t ≤ 60000 ∧ ∀ (v : Int) (H' : Hp), le ≤ v → v ≤ 999 → But d H H' → DrawAt H' d (t + 1 + 1) → Q (.int v) H'
def tWhat : TE := fun σ H Q => ∃ (d : Addr) (t : Int) (wd nm : Str), σ[0]? = some (some (.ref d)) ∧ σ[1]? = some (some (.str wd)) ∧ σ[2]? = some (some (.str nm)) ∧ nameT nm = true ∧ DrawAt H d t ∧ 0 ≤ t ∧ t ≤ 60000 ∧ ∀ (z : Str) (H' : Hp), canV (.str wd) (.str z) = true → But d H H' → DrawAt H' d (t + 1) → Q (.str z) H'
abbrev whatKv (nm : Str) : List (Key × V) := [(.inr "rest", .str ""), (.inr "with", .str nm)]
theorem merge_what (nm : Str) : mergeK [] (whatKv nm) = whatKv nm := by kernel_rfl
theorem val_what (nm wd : Str) : valV (whatKv nm) (.inr wd) = if wd = "rest" then some (.str "") else if wd = "with" then some (.str nm) else none := by
  by_cases h1 : wd = "rest"
  · subst h1
    rw [if_pos rfl]
    kernel_rfl
  · by_cases h2 : wd = "with"
    · subst h2
      rw [if_neg h1, if_pos rfl]
      kernel_rfl
    · rw [if_neg h1, if_neg h2]
      have e1 : decide ((Sum.inr "rest" : Key) = .inr wd) = false := decide_eq_false fun e => h1 (Sum.inr.inj e).symm
      have e2 : decide ((Sum.inr "with" : Key) = .inr wd) = false := decide_eq_false fun e => h2 (Sum.inr.inj e).symm
      unfold valV
      simp only [List.find?_cons, e1, e2, List.find?_nil]
      rfl
theorem name_ne {z : Str} (h : nameT z = true) : nameE (.str z) = true := by
  show (nameT z || _) = true
  rw [h, Bool.true_or]
theorem can_rest : canV (.str "rest") (.str "") = true := by decide +kernel
theorem can_with {nm : Str} (h : nameT nm = true) : canV (.str "with") (.str nm) = true := by
  unfold canV
  rw [if_pos rfl]
  exact h
theorem can_other {wd nm : Str} (h1 : wd ≠ "rest") (h2 : wd ≠ "with") (h : nameE (.str nm) = true) : canV (.str wd) (.str nm) = true := by
  unfold canV
  rw [if_neg (fun e => h2 (V.str.inj e)), if_neg (fun e => h1 (V.str.inj e))]
  exact h
section
variable {P : Program} {w : World} {K : PySem.W.Frag} {mg : Str → Option Value} {base : Heap}
abbrev NMade : List Str := ["_law_draw", "_law_word", "_law_name", "_law_own_what", "_law_own_least", "_law_own_most"]
theorem scMade : FnScope NMade ["_law_draw"] (defScope sMade) := ⟨rfl, rfl, rfl, by decide +kernel, rfl, by decide +kernel, by decide +kernel⟩
theorem ok_made {f fT fN : Addr} {fd fdT fdN : FuncData} (F : Fun K "_law_made" "_law_made" sMade f fd)
    (GT : FnOk P w K mg base CX0 1 fT fdT ["_law_draw", "_law_many"] spTake) (kT : PySem.W.keepIn K (.ref fT) = true) (bT : Binds K fdT ["_law_draw", "_law_many"] []) (gT : mg "_law_take" = some (.ref fT))
    (GN : FnOk P w K mg base CX0 2 fN fdN ["_law_draw", "_law_many"] spNames) (kN : PySem.W.keepIn K (.ref fN) = true) (bN : Binds K fdN ["_law_draw", "_law_many"] []) (gN : mg "_law_names" = some (.ref fN)) :
    FnOk P w K mg base CX0 3 f fd ["_law_draw"] spMade := by
  refine F.ok scMade (fun vs H Q E h => ?_) (fun cdv A outer s H vs Q E hr h => ?_)
  · obtain ⟨d, t, rfl, _⟩ := h
    rfl
  · obtain ⟨d, t, rfl, D, t0, t1, fin⟩ := h
    have r1 : Room 1 _ := hr.mono (by decide)
    have hu := hu_of hr
    refine ⟨_, pss_cons (ps_set (i := 1) scMade.nd rfl (.inl rfl) (pe_ix ix_list (pe_lst (pa_cons pe_str (pa_cons pe_str (pa_cons pe_str (pa_cons pe_str (pa_cons pe_str (pa_cons pe_str pa_nil))))))) (pe_call GT r1 (by rfl) gT kT bT .nil pass0 (pa_cons (pv 0) (pa_cons pe_int pa_nil))) (fun _ _ => rfl)))
      (pss_cons (ps_set (i := 2) scMade.nd rfl (.inl rfl) (pe_ix ix_list (pe_call GN hr (by rfl) gN kN bN .nil pass0 (pa_cons (pv 0) (pa_cons pe_int pa_nil))) pe_int (fun _ _ => rfl)))
      (pss_cons (ps_set (i := 3) scMade.nd rfl (.inl rfl) (pe_imp tWhat (pe_dget2 hu (pe_disp (pps_cons pe_str pe_str (pps_cons pe_str (pv 2) pps_nil)) rfl rfl (by decide) (by decide)) (pv 1) (pe_ix ix_list (pe_lst (pa_cons (pv 2) (pa_cons pe_str pa_nil))) (pe_call GT r1 (by rfl) gT kT bT .nil pass0 (pa_cons (pv 0) (pa_cons pe_int pa_nil))) (fun _ _ => rfl)) ⟨rfl, rfl, rfl, rfl⟩) (by
          rintro σ H Q ⟨d, t, wd, nm, e0, e1, e2, hn, D, t0, t1, fin⟩
          intro p np
          have s1 := same_upd (o := .dK []) np
          refine ⟨_, e2, upd_same, whatKv nm, rfl, by show 2 ≤ 15; decide, p, rfl, .inl ⟨_, .inl upd_same⟩, _, e1, _, e2, by show 2 ≤ sizeLine; decide, fun l nl => ?_⟩
          rw [upd_upd, merge_what] at *
          have s2 := same_upd (o := .dK (whatKv nm)) np
          have hp2 : upd H p (.dK (whatKv nm)) p = some (.dK (whatKv nm)) := upd_same
          generalize upd H p (.dK (whatKv nm)) = H2 at s2 hp2 nl ⊢
          have s3 := same_upd (o := .lst [.str nm, .str ""]) nl
          have hl : upd H2 l (.lst [.str nm, .str ""]) l = some (.lst [.str nm, .str ""]) := upd_same
          have D3 := D.same (s2.trans s3)
          have pd : p ≠ d := D.new np
          refine ⟨_, e0, d, t, 2, rfl, D3, t0, by omega, by decide, by decide, fun v H4 v0 v2 u4 D4 => ?_⟩
          have hl4 := u4 _ _ (D3.ne hl fun _ z => by cases z) hl
          have hp4 := u4 _ _ pd (s3 _ _ hp2)
          have uA := (But.same (s := d) (s2.trans s3)).trans u4
          have dg := DGet.k (k := .inr wd) hp4
          rw [val_what] at dg
          have last : ∀ z : Str, (z = nm ∨ z = "") → Q (((if wd = "rest" then some (.str "") else if wd = "with" then some (.str nm) else none) : Option V).getD (.str z)) H4 := fun z hz => by
            by_cases h1 : wd = "rest"
            · rw [if_pos h1]
              exact fin "" H4 (by rw [h1]; exact can_rest) uA D4
            · by_cases h2 : wd = "with"
              · rw [if_neg h1, if_pos h2]
                exact fin nm H4 (by rw [h2]; exact can_with hn) uA D4
              · rw [if_neg h1, if_neg h2]
                exact fin z H4 (can_other h1 h2 (by rcases hz with rfl | rfl; exact name_ne hn; decide +kernel)) uA D4
          obtain rfl | rfl : v = 0 ∨ v = 1 := by omega
          · exact ⟨l, _, _, _, rfl, rfl, SqL.of hl4, rfl, _, dg, last nm (.inl rfl)⟩
          · exact ⟨l, _, _, _, rfl, rfl, SqL.of hl4, rfl, _, dg, last "" (.inr rfl)⟩)))
      (pss_cons (ps_set (i := 4) scMade.nd rfl (.inl rfl) (pe_imp tLeast (pe_ix ix_list (pe_lst (pa_cons pe_int (pa_cons pe_int (pa_cons pe_int (pa_cons (pe_call GT r1 (by rfl) gT kT bT .nil pass0 (pa_cons (pv 0) (pa_cons pe_int pa_nil))) pa_nil))))) (pe_call GT r1 (by rfl) gT kT bT .nil pass0 (pa_cons (pv 0) (pa_cons pe_int pa_nil))) (fun _ _ => rfl)) (by
          rintro σ H Q ⟨d, t, e0, D, t0, t1, fin⟩
          refine ⟨_, e0, d, t, 1000, rfl, D, t0, by omega, by decide, by decide, fun v H1 v0 v1 u1 D1 => ⟨by show 4 ≤ sizeLine; decide, fun l nl => ?_⟩⟩
          have s2 := same_upd (o := .lst [.int 0, .int 1, .int 999, .int v]) nl
          have hl : upd H1 l (.lst [.int 0, .int 1, .int 999, .int v]) l = some (.lst [.int 0, .int 1, .int 999, .int v]) := upd_same
          have D2 := D1.same s2
          refine ⟨_, e0, d, _, 4, rfl, D2, by omega, by omega, by decide, by decide, fun i H3 i0 i4 u3 D3 => ?_⟩
          have hl3 := u3 _ _ (D2.ne hl fun _ z => by cases z) hl
          have uA := (u1.trans (But.same s2)).trans u3
          obtain rfl | rfl | rfl | rfl : i = 0 ∨ i = 1 ∨ i = 2 ∨ i = 3 := by omega
          · exact ⟨l, _, _, _, rfl, rfl, SqL.of hl3, rfl, fin _ _ (by decide) (by decide) uA D3⟩
          · exact ⟨l, _, _, _, rfl, rfl, SqL.of hl3, rfl, fin _ _ (by decide) (by decide) uA D3⟩
          · exact ⟨l, _, _, _, rfl, rfl, SqL.of hl3, rfl, fin _ _ (by decide) (by decide) uA D3⟩
          · exact ⟨l, _, _, _, rfl, rfl, SqL.of hl3, rfl, fin _ _ v0 (by omega) uA D3⟩)))
      (pss_cons (ps_set (i := 5) scMade.nd rfl (.inl rfl) (pe_imp tMost (pe_ix ix_list (pe_lst (pa_cons (pv 4) (pa_cons pe_int (pa_cons (pe_op op_add (pv 4) (pe_call GT r1 (by rfl) gT kT bT .nil pass0 (pa_cons (pv 0) (pa_cons (pe_op op_sub pe_int (pv 4)) pa_nil)))) pa_nil)))) (pe_call GT r1 (by rfl) gT kT bT .nil pass0 (pa_cons (pv 0) (pa_cons pe_int pa_nil))) (fun _ _ => rfl)) (by
          rintro σ H Q ⟨d, t, le, e0, e4, l0, l9, D, t0, t1, fin⟩
          refine ⟨_, e4, _, e4, _, e0, _, e4, _, _, rfl, rfl, d, t, _, rfl, D, t0, by omega, by omega, by omega, fun v H1 v0 v1 u1 D1 => ⟨le, v, rfl, rfl, by show 3 ≤ sizeLine; decide, fun l nl => ?_⟩⟩
          have s2 := same_upd (o := .lst [.int le, .int 999, .int (le + v)]) nl
          have hl : upd H1 l (.lst [.int le, .int 999, .int (le + v)]) l = some (.lst [.int le, .int 999, .int (le + v)]) := upd_same
          have D2 := D1.same s2
          refine ⟨_, e0, d, _, 3, rfl, D2, by omega, by omega, by decide, by decide, fun i H3 i0 i4 u3 D3 => ?_⟩
          have hl3 := u3 _ _ (D2.ne hl fun _ z => by cases z) hl
          have uA := (u1.trans (But.same s2)).trans u3
          obtain rfl | rfl | rfl : i = 0 ∨ i = 1 ∨ i = 2 := by omega
          · exact ⟨l, _, _, _, rfl, rfl, SqL.of hl3, rfl, fin _ _ (Int.le_refl _) l9 uA D3⟩
          · exact ⟨l, _, _, _, rfl, rfl, SqL.of hl3, rfl, fin _ _ l9 (by decide) uA D3⟩
          · exact ⟨l, _, _, _, rfl, rfl, SqL.of hl3, rfl, fin _ _ (by omega) (by omega) uA D3⟩)))
      (pss_cons (ps_if (pt_cmpR op_eq (pv 1) pe_str (nomark _)) (pss_one (ps_set (i := 5) scMade.nd rfl (.inl rfl) (pe_call GT r1 (by rfl) gT kT bT .nil pass0 (pa_cons (pv 0) (pa_cons pe_int pa_nil))))) pss_nil)
      (pss_one (ps_ret (pe_lst (pa_cons (pv 1) (pa_cons (pv 3) (pa_cons (pv 4) (pa_cons (pv 5) pa_nil)))))))))))), ?_⟩
    refine ⟨by show 6 ≤ sizeLine; decide, fun p1 n1 => ?_⟩
    have s1 := same_upd (o := .lst (words6.map V.str)) n1
    have h1 : upd H p1 (.lst (words6.map V.str)) p1 = some (.lst (words6.map V.str)) := upd_same
    have D1 := D.same s1
    refine ⟨_, rfl, d, t, 6, rfl, D1, t0, by omega, by decide, by decide, fun v H2 v0 v6 u2 D2 => ?_⟩
    have h2 := u2 _ _ (D1.ne h1 fun _ z => by cases z) h1
    obtain ⟨wd, mw, hw⟩ := at_of (l := words6) (f := V.str) v0 v6
    refine ⟨p1, _, v, .str wd, rfl, rfl, SqL.of h2, hw, ?_⟩
    have u02 := (But.same (s := d) s1).trans u2
    refine ⟨_, rfl, d, _, 1, rfl, D2, by omega, by omega, by decide, fun l zs H3 t3 u3 nl hl lz az nd D3 ta tb => ?_⟩
    obtain ⟨nm, rfl⟩ : ∃ nm, zs = [nm] := List.length_eq_one_iff.mp lz
    refine ⟨l, _, 0, .str nm, rfl, rfl, SqL.of hl, atI_nat (j := 0) rfl, ?_⟩
    refine ⟨d, t3, wd, nm, rfl, rfl, rfl, az nm List.mem_cons_self, D3, by omega, by omega, fun wh H4 hc u4 D4 => ?_⟩
    refine ⟨d, _, rfl, D4, by omega, by omega, fun le H5 l0 l9 u5 D5 => ?_⟩
    refine ⟨d, _, le, rfl, rfl, l0, l9, D5, by omega, by omega, fun mo H6 m0 m9 u6 D6 => ?_⟩
    have u06 := (((u02.trans u3).trans u4).trans u5).trans u6
    have newp : ∀ {G : Hp} {p : Addr} {t : Int}, But d H G → DrawAt G d t → G p = none → H p = none := fun {G p t} b Dg hp => by
      cases e : H p with
      | none => rfl
      | some o => rw [b _ _ (Dg.new hp) e] at hp; cases hp
    refine ⟨_, rfl, rfl, _, rfl, ?_⟩
    by_cases hr : wd = "rest"
    · refine iteT' (by simp [hr]) ⟨_, rfl, d, _, 1000, rfl, D6, by omega, by omega, by decide, by decide, fun mo2 H7 x0 x9 u7 D7 => ?_⟩
      refine ⟨_, rfl, _, rfl, _, rfl, _, rfl, by show 4 ≤ sizeLine; decide, fun m nm' => ?_⟩
      exact fin m ⟨wd, wh, le, mo2⟩ _ _ ((u06.trans u7).trans (But.new nm')) (newp (u06.trans u7) D7 nm') upd_same (good_of (q := ⟨wd, wh, le, mo2⟩) mw hc l0 l9 (by rw [if_pos hr]; exact x0) (by show mo2 ≤ 999; omega)) (D7.same (same_upd nm')) (by omega) (by omega)
    · refine iteF' (by simpa using hr) ⟨_, rfl, _, rfl, _, rfl, _, rfl, by show 4 ≤ sizeLine; decide, fun m nm' => ?_⟩
      exact fin m ⟨wd, wh, le, mo⟩ _ _ (u06.trans (But.new nm')) (newp u06 D6 nm') upd_same (good_of (q := ⟨wd, wh, le, mo⟩) mw hc l0 l9 (by rw [if_neg hr]; exact m0) m9) (D6.same (same_upd nm')) (by omega) (by omega)
end
end Pk
/-! ### of which class a thing is -/
namespace Pk
open PySem L2
def oddTys : List String := ["NoneType", "bool", "int", "str", "tuple", "list", "dict"]
def oddB (K : PySem.W.Frag) (C : Addr) : Bool := oddTys.all fun T => PySem.W.notFirst K C (.type T) && (PySem.W.kitOne K (.type T) (.ref C) == some false) && (PySem.W.subIn K (.ref C) (.type T) == some false)
theorem oddB_kit {K : PySem.W.Frag} {C : Addr} {T : String} (h : oddB K C = true) (o : T ∈ oddTys) : PySem.W.notFirst K C (.type T) = true ∧ PySem.W.kitOne K (.type T) (.ref C) = some false ∧ PySem.W.subIn K (.ref C) (.type T) = some false := by
  have h1 := List.all_eq_true.mp h T o
  rw [Bool.and_eq_true, Bool.and_eq_true] at h1
  exact ⟨h1.1.1, beq_iff_eq.mp h1.1.2, beq_iff_eq.mp h1.2⟩
theorem kit_two {K : PySem.W.Frag} {T : String} (h : T ∈ oddTys) : PySem.W.kitAny K (.type T) [.type "list", .type "tuple"] = some (decide (T = "list") || decide (T = "tuple")) := by
  simp only [oddTys, List.mem_cons, List.not_mem_nil, or_false] at h
  rcases h with rfl | rfl | rfl | rfl | rfl | rfl | rfl
  · exact kitAny_cons (kit_ty (by decide +kernel : kitB "NoneType" "list" = some false)) (fun _ => kitAny_cons (kit_ty (by decide +kernel : kitB "NoneType" "tuple" = some false)) (fun _ => rfl) (fun z => nomatch z)) (fun z => nomatch z)
  · exact kitAny_cons (kit_ty (by decide +kernel : kitB "bool" "list" = some false)) (fun _ => kitAny_cons (kit_ty (by decide +kernel : kitB "bool" "tuple" = some false)) (fun _ => rfl) (fun z => nomatch z)) (fun z => nomatch z)
  · exact kitAny_cons (kit_ty (by decide +kernel : kitB "int" "list" = some false)) (fun _ => kitAny_cons (kit_ty (by decide +kernel : kitB "int" "tuple" = some false)) (fun _ => rfl) (fun z => nomatch z)) (fun z => nomatch z)
  · exact kitAny_cons (kit_ty (by decide +kernel : kitB "str" "list" = some false)) (fun _ => kitAny_cons (kit_ty (by decide +kernel : kitB "str" "tuple" = some false)) (fun _ => rfl) (fun z => nomatch z)) (fun z => nomatch z)
  · exact kitAny_cons (kit_ty (by decide +kernel : kitB "tuple" "list" = some false)) (fun _ => kitAny_cons (kit_ty (by decide +kernel : kitB "tuple" "tuple" = some true)) (fun z => nomatch z) (fun _ => rfl)) (fun z => nomatch z)
  · exact kitAny_cons (kit_ty (by decide +kernel : kitB "list" "list" = some true)) (fun z => nomatch z) (fun _ => rfl)
  · exact kitAny_cons (kit_ty (by decide +kernel : kitB "dict" "list" = some false)) (fun _ => kitAny_cons (kit_ty (by decide +kernel : kitB "dict" "tuple" = some false)) (fun _ => rfl) (fun z => nomatch z)) (fun z => nomatch z)
/-- an own class, as isinstance asks for it -/
structure OTy (K : PySem.W.Frag) (C : Addr) : Prop where
  cls : Cls K C
  ha : PySem.W.findIn K (.ref C) "__class__" = some (some (.builtin "object.__class__"))
  hn : PySem.W.specialIn K (.builtin "object.__class__") "__get__" = some (some (.builtin "getset_descriptor.__get__"))
  ht : PySem.W.takesIn K (.builtin "object.__class__") = some true
  hm : PySem.W.mroIn K C (.type "object") = some true
  hk : PySem.W.kitOne K (.ref C) (.ref C) = some true
  hl : PySem.W.kitAny K (.ref C) [.type "list", .type "tuple"] = some false
  odd : oddB K C = true
theorem OTy.ty {K : PySem.W.Frag} {C a dx : Addr} {H : Hp} {fs : List (Str × V)} (T : OTy K C) (h : H a = some (.ins C dx fs)) : TyX K H (.ref a) (.ref C) := .base (.ins h T.cls T.ha T.hn T.ht T.hm)
end Pk
namespace Pk
open PySem L2
/-! ### a wish made, compared, moved -/
theorem wish_sp {CW cE : Addr} {q : WD} (g : GoodW q) {H2 : Hp} {x dx : Addr} (nx : H2 x = none) (ndx : H2 dx = none) (ne : dx ≠ x) {Q : VK} (fin : ∀ H', Same H2 H' → WI CW H' x q → Q (.ref x) H') :
    spWInit CW cE [.ref x, .str q.wd, .str q.wh, .int q.le, .int q.mo] (upd (upd H2 dx (.own x)) x (.ins CW dx [])) (fun v H3 => v = .non ∧ Q (.ref x) H3) E0 := by
  have s0 : Same H2 (upd (upd H2 dx (.own x)) x (.ins CW dx [])) := (same_upd ndx).trans (same_upd (by rw [upd_ne (Ne.symm ne)]; exact nx))
  obtain ⟨t1, t2⟩ := g.i.thg (H := upd (upd H2 dx (.own x)) x (.ins CW dx []))
  refine ⟨x, dx, _, _, _, _, rfl, upd_same, t1, t2, .int _, .int _, fun H' s' => ⟨fun _ => ⟨rfl, fin _ (fun b o e => ?_) ⟨dx, upd_same⟩⟩, fun h => absurd g h⟩⟩
  rw [upd_ne (ne_of_none e nx)]
  exact s' _ _ (s0 _ _ e)
def gwL {α : Type} (us _its ws : List α) : List α := us ++ ws
section
variable {K : PySem.W.Frag} {f : Addr} {fd : FuncData}
theorem bw4 (F : FunW K f fd) : ∃ ds, Vals ([] : List V) ds ∧ Binds K fd psW ds :=
  F.binds1 5 3 (fun z => nomatch z) rfl fun T kV doc pm an cdv ct us its l1 l2 => match us, its, l1, l2 with
    | [_, _, _, _, _], [_, _, _], _, _ => ⟨_, rfl, rfl⟩
theorem kwM (F : FunW K f fd) : ∃ its : List Value, KBn K fd psW 2 ["what", "least", "most"] (fun us ws => gwL us its ws) (fun vs zs => gwL vs dvW zs) :=
  kbnD F 2 ["what", "least", "most"] gwL (fun z => nomatch z) (fun r1 _ r3 => r1.append r3)
    fun T kV doc pm an cdv ct us its ws l1 l2 l3 => match us, its, ws, l1, l2, l3 with
    | [_, _], [_, _, _], [_, _, _], _, _, _ => ⟨_, rfl, rfl⟩
end
def spWEq (K : PySem.W.Frag) (CW : Addr) : Sp := fun vs H Q _ => ∃ (x : Addr) (y : V) (q1 : WD), vs = [.ref x, y] ∧ WI CW H x q1 ∧ ((∃ z q2, y = .ref z ∧ WI CW H z q2 ∧ Q (.bl (decide (q1 = q2))) H) ∨ ∃ tb, TyX K H y tb ∧ PySem.W.kitOne K tb (.ref CW) = some false ∧ Q (.bl false) H)
def Kind (cK : Addr) (z : Str) (H : Hp) (E : XK) : Prop := ∀ (d : Addr) (H' : Hp), Same H H' → H' d = some (.xd [(("wanted" : Str), .str z)]) → E (.ref cK) (some d) H'
abbrev TyLine : List Value := [.type "TypeError", .type "Exception", .type "BaseException", .type "object"]
abbrev TxK (K : PySem.W.Frag) (mg : Str → Option Value) (C fI : Addr) : Prop := Er_wanted.Tx K mg "BadKind" "BadKind.__init__" C fI "TypeError" "TypeError.__new__" "TypeError.__init__" TyLine
def cutZ (n : Int) : Int := if (if n < 999 then n else 999) > 0 then (if n < 999 then n else 999) else 0
theorem cutZ_0 (n : Int) : 0 ≤ cutZ n := by unfold cutZ; split <;> split <;> omega
theorem cutZ_9 (n : Int) : cutZ n ≤ 999 := by unfold cutZ; split <;> split <;> omega
theorem cutZ_le {a b : Int} (h : a ≤ b) : cutZ a ≤ cutZ b := by unfold cutZ; repeat' split; all_goals omega
def movedW (q : WD) (n : Int) : WD := ⟨q.wd, q.wh, cutZ (q.le + n), cutZ (q.mo + n)⟩
theorem moved_good {q : WD} {n : Int} (g : GoodI q) : GoodW (movedW q n) := by
  refine good_of (q := movedW q n) g.wd g.can (cutZ_0 _) (cutZ_9 _) ?_ (cutZ_9 _)
  split
  · exact cutZ_0 _
  · rename_i h
    exact cutZ_le (by have := g.lm h; omega)
def spCut : Sp := fun vs H Q _ => ∃ n : Int, vs = [.int n] ∧ Q (.int (cutZ n)) H
def spMoved (CW cK : Addr) : Sp := fun vs H Q E => ∃ (x : Addr) (v : V) (q : WD), vs = [.ref x, v] ∧ WI CW H x q ∧ GoodI q ∧ Thg H v ∧ (∀ n, v = .int n → ∀ (y : Addr) (H' : Hp), Same H H' → WI CW H' y (movedW q n) → Q (.ref y) H') ∧ (vInt v = false → Kind cK "number" H E)
section
variable {P : Program} {w : World} {K : PySem.W.Frag} {mg : Str → Option Value} {base : Heap}
theorem scWEq : FnScope ["self", "other"] ["self", "other"] (defScope sWEq) := ⟨rfl, rfl, rfl, by decide +kernel, rfl, by decide +kernel, by decide +kernel⟩
theorem ok_wEq {f CW : Addr} {fd : FuncData} (F : Fun K "__eq__" "Wish.__eq__" sWEq f fd) (C : WCls K CW) (O : OTy K CW) (mi : mg "isinstance" = none) (gW : mg "Wish" = some (.ref CW)) : FnOk P w K mg base CX0 1 f fd ["self", "other"] (spWEq K CW) := by
  refine F.ok scWEq (fun vs H Q E h => ?_) (fun cdv A outer s H vs Q E hr h => ?_)
  · obtain ⟨x, y, q1, rfl, _⟩ := h
    rfl
  · obtain ⟨x, y, q1, rfl, ⟨dx, hx⟩, h⟩ := h
    refine ⟨_, pss_one (ps_ret (pe_and (pe_callB call_isi (by rfl) mi (by decide +kernel) (pa_cons (pv 1) (pa_cons (pe_glob (v := .ref CW) (by rfl) gW rfl (by decide)) pa_nil)))
      (pe_and (pe_cmpR op_eq (pe_fld (pv 0) rfl) (pe_fld (pv 1) rfl) (nomark _)) (pe_and (pe_cmpR op_eq (pe_fld (pv 0) rfl) (pe_fld (pv 1) rfl) (nomark _))
      (pe_and (pe_cmpR op_eq (pe_fld (pv 0) rfl) (pe_fld (pv 1) rfl) (nomark _)) (pe_one (pe_cmpR op_eq (pe_fld (pv 0) rfl) (pe_fld (pv 1) rfl) (nomark _)))))))), ?_⟩
    rcases h with ⟨z, q2, rfl, ⟨dz, hz⟩, q⟩ | ⟨tb, ty, kt, q⟩
    · refine ⟨_, rfl, _, _, _, _, true, rfl, .own _, O.ty hz, O.hk, _, rfl, iteT ?_⟩
      have no : ∀ {α : Type} (g : WD → α), g q1 ≠ g q2 → Q (.bl false) H := fun g hg => by
        rw [decide_eq_false (fun e => hg (by rw [e]))] at q
        exact q
      refine ⟨_, rfl, x, CW, dx, _, _, rfl, hx, C.cls, C.no _ (by decide), lw_word _ _ _ _, _, rfl, z, CW, dz, _, _, rfl, hz, C.cls, C.no _ (by decide), lw_word _ _ _ _, rfl, _, rfl, ?_⟩
      by_cases h0 : q1.wd = q2.wd
      case neg => exact iteF' (by simpa using h0) (no WD.wd h0)
      refine iteT' (by simp [h0]) ?_
      refine ⟨_, rfl, x, CW, dx, _, _, rfl, hx, C.cls, C.no _ (by decide), lw_what _ _ _ _, _, rfl, z, CW, dz, _, _, rfl, hz, C.cls, C.no _ (by decide), lw_what _ _ _ _, rfl, _, rfl, ?_⟩
      by_cases h1 : q1.wh = q2.wh
      case neg => exact iteF' (by simpa using h1) (no WD.wh h1)
      refine iteT' (by simp [h1]) ?_
      refine ⟨_, rfl, x, CW, dx, _, _, rfl, hx, C.cls, C.no _ (by decide), lw_least _ _ _ _, _, rfl, z, CW, dz, _, _, rfl, hz, C.cls, C.no _ (by decide), lw_least _ _ _ _, rfl, _, rfl, ?_⟩
      by_cases h2 : q1.le = q2.le
      case neg => exact iteF' (by simpa using h2) (no WD.le h2)
      refine iteT' (by simp [h2]) ?_
      refine ⟨_, rfl, x, CW, dx, _, _, rfl, hx, C.cls, C.no _ (by decide), lw_most _ _ _ _, _, rfl, z, CW, dz, _, _, rfl, hz, C.cls, C.no _ (by decide), lw_most _ _ _ _, rfl, ?_⟩
      have e : decide (q1 = q2) = decide (V.int q1.mo = V.int q2.mo) := by
        obtain ⟨a1, a2, a3, a4⟩ := q1
        obtain ⟨b1, b2, b3, b4⟩ := q2
        dsimp only at h0 h1 h2 ⊢
        subst h0 h1 h2
        simp
      rw [e] at q
      exact q
    · exact ⟨_, rfl, _, _, tb, _, false, rfl, .own _, ty, kt, _, rfl, iteF q⟩
theorem scCut : FnScope ["number"] ["number"] (defScope sCut) := ⟨rfl, rfl, rfl, by decide +kernel, rfl, by decide +kernel, by decide +kernel⟩
theorem ok_cut {f : Addr} {fd : FuncData} (F : Fun K "cut" "cut" sCut f fd) (mx : mg "max" = none) (mn : mg "min" = none) (mm : ∃ t, mg "MOST" = some (.int 999 t)) : FnOk P w K mg base CX0 1 f fd ["number"] spCut := by
  obtain ⟨tm, mm⟩ := mm
  refine F.ok scCut (fun vs H Q E h => ?_) (fun cdv A outer s H vs Q E hr h => ?_)
  · obtain ⟨n, rfl, _⟩ := h
    rfl
  · obtain ⟨n, rfl, q⟩ := h
    refine ⟨_, pss_one (ps_ret (pe_callB (call_max2 rfl) (by rfl) mx (by decide +kernel) (pa_cons pe_int (pa_cons (pe_callB (call_min2 rfl) (by rfl) mn (by decide +kernel) (pa_cons (pe_glob (v := .int 999) (by rfl) mm ⟨_, rfl⟩) (pa_cons (pv 0) pa_nil))) pa_nil)))), ?_⟩
    exact ⟨_, rfl, 999, n, rfl, 0, _, rfl, q⟩
theorem scWMoved : FnScope ["self", "by"] ["self", "by"] (defScope sWMoved) := ⟨rfl, rfl, rfl, by decide +kernel, rfl, by decide +kernel, by decide +kernel⟩
theorem ok_moved {f fN fC fW CW cW cK fJ : Addr} {fd fdN fdC fdW : FuncData} (F : Fun K "moved" "Wish.moved" sWMoved f fd) (C : WCls K CW) (TK : TxK K mg cK fJ)
    (GN : FnOk P w K mg base CX0 1 fN fdN ["thing"] spIsNumber) (kN : PySem.W.keepIn K (.ref fN) = true) (bN : Binds K fdN ["thing"] []) (gN : mg "is_number" = some (.ref fN))
    (GC : FnOk P w K mg base CX0 1 fC fdC ["number"] spCut) (kC : PySem.W.keepIn K (.ref fC) = true) (bC : Binds K fdC ["number"] []) (gC : mg "cut" = some (.ref fC))
    (FW : FunW K fW fdW) (GW : FnOk P w K mg base (L2.CX P w) 4 fW fdW psW (spWInit CW cW)) (M : Mk K CW fW) (gW : mg "Wish" = some (.ref CW)) :
    FnOk P w K mg base (L2.CX P w) 6 f fd ["self", "by"] (spMoved CW cK) := by
  obtain ⟨d4, hd4, b4⟩ := bw4 FW
  refine F.okX scWMoved (fun vs H Q E h => ?_) (fun cdv A outer s H vs Q E hr h => ?_)
  · obtain ⟨x, v, q, rfl, _⟩ := h
    rfl
  · obtain ⟨x, v, q, rfl, ⟨dx, hx⟩, g, th, fin, no⟩ := h
    have r1 : Room 1 _ := hr.mono (by decide)
    refine ⟨_, pss_cons (ps_if (pt_not (pt_val (pe_call (E := E0) GN r1 (by rfl) gN kN bN .nil pass0 (pa_cons (pv 1) pa_nil)))) (pss_one (ps_raiseE_wanted rfl TK r1 (takes_of rfl rfl rfl rfl) (by exact (pa_cons pe_str pa_nil)))) pss_nil)
      (pss_one (ps_ret (pe_make (E := E0) M GW hr (by rfl) gW b4 hd4 pass_no (pa_cons (pe_fld (pv 0) rfl) (pa_cons (pe_fld (pv 0) rfl) (pa_cons (pe_call (E := E0) GC r1 (by rfl) gC kC bC .nil pass0 (pa_cons (pe_op op_add (pe_fld (pv 0) rfl) (pv 1)) pa_nil)) (pa_cons (pe_call (E := E0) GC r1 (by rfl) gC kC bC .nil pass0 (pa_cons (pe_op op_add (pe_fld (pv 0) rfl) (pv 1)) pa_nil)) pa_nil))))))), ?_⟩
    refine ⟨_, rfl, v, rfl, th, _, rfl, ?_⟩
    cases hv : vInt v with
    | false => exact iteT ⟨_, rfl, fun d hd => no hv d _ (same_upd hd) upd_same⟩
    | true =>
      obtain ⟨n, rfl⟩ : ∃ n, v = .int n := by
        cases v <;> first | exact ⟨_, rfl⟩ | exact absurd hv (by simp [vInt])
      refine iteF ⟨_, rfl, x, CW, dx, _, _, rfl, hx, C.cls, C.no _ (by decide), lw_word _ _ _ _, _, rfl, x, CW, dx, _, _, rfl, hx, C.cls, C.no _ (by decide), lw_what _ _ _ _, _, rfl, x, CW, dx, _, _, rfl, hx, C.cls, C.no _ (by decide), lw_least _ _ _ _, _, rfl, q.le, n, rfl, rfl, _, rfl, _, rfl, x, CW, dx, _, _, rfl, hx, C.cls, C.no _ (by decide), lw_most _ _ _ _, _, rfl, q.mo, n, rfl, rfl, _, rfl, fun y dy ny ndy ne => ?_⟩
      exact wish_sp (moved_good g) ny ndy ne fun H' s' wi => fin n rfl y H' s' wi
end
end Pk
namespace Pk
open PySem L2 TL
/-! ### the words of a text, cut at blanks -/
def neL (l : List (List Nat)) : List (List Nat) := l.filter fun z => !z.isEmpty
theorem spl_hit32 (acc r : List Nat) : spl [32] 0 acc (32 :: r) = acc :: spl [32] 0 [] r := spl_hit (S := [32]) (pre_self [32] r)
theorem spl_miss32 {acc r : List Nat} {c : Nat} (h : c ≠ 32) : spl [32] 0 acc (c :: r) = spl [32] 0 (acc ++ [c]) r := spl_miss (pre_of_head [] r h)
theorem neL_cons (a : List Nat) (l : List (List Nat)) : neL (a :: l) = neL [a] ++ neL l := by
  unfold neL
  rw [← List.filter_append]
  rfl
theorem neL_lead (k : Nat) (L : List Nat) : neL (spl [32] 0 [] (List.replicate k 32 ++ L)) = neL (spl [32] 0 [] L) := by
  induction k with
  | zero => rfl
  | succ k ih =>
    rw [List.replicate_succ, List.cons_append, spl_hit32, neL_cons, ih]
    rfl
theorem neL_tail (m : Nat) : ∀ (L acc : List Nat), neL (spl [32] 0 acc (L ++ List.replicate m 32)) = neL (spl [32] 0 acc L)
  | [], acc => by
    rw [List.nil_append]
    cases m with
    | zero => rfl
    | succ m =>
      rw [List.replicate_succ, spl_hit32, neL_cons]
      have := neL_lead m []
      rw [List.append_nil] at this
      rw [this, spl_nil, spl_nil]
      show neL [acc] ++ [] = neL [acc]
      rw [List.append_nil]
  | c :: r, acc => by
    rw [List.cons_append]
    by_cases h : c = 32
    · subst h
      rw [spl_hit32, spl_hit32, neL_cons, neL_tail m r [], ← neL_cons]
    · rw [spl_miss32 h, spl_miss32 h, neL_tail m r]
theorem spl_word : ∀ {w acc r : List Nat}, (∀ c ∈ w, c ≠ 32) → spl [32] 0 acc (w ++ r) = spl [32] 0 (acc ++ w) r
  | [], acc, r, _ => by rw [List.append_nil]; rfl
  | c :: w, acc, r, h => by
    rw [List.cons_append, spl_miss32 (h c (by simp)), spl_word (fun x hx => h x (by simp [hx])), List.append_assoc]
    rfl
def flatW : List (List Nat × Nat) → List Nat
  | [] => []
  | (w, k) :: r => w ++ (List.replicate (k + 1) 32 ++ flatW r)
theorem flatW_snoc : ∀ (ps : List (List Nat × Nat)) (w : List Nat) (k : Nat), flatW (ps ++ [(w, k)]) = flatW ps ++ (w ++ List.replicate (k + 1) 32)
  | [], w, k => by simp [flatW]
  | (v, j) :: r, w, k => by
    show v ++ (List.replicate (j + 1) 32 ++ flatW (r ++ [(w, k)])) = v ++ (List.replicate (j + 1) 32 ++ flatW r) ++ _
    rw [flatW_snoc r w k]
    simp only [List.append_assoc]
theorem neL_flat : ∀ {ps : List (List Nat × Nat)}, (∀ p ∈ ps, p.1 ≠ [] ∧ ∀ c ∈ p.1, c ≠ 32) → neL (spl [32] 0 [] (flatW ps)) = ps.map (·.1)
  | [], _ => rfl
  | (w, k) :: r, h => by
    obtain ⟨h1, h2⟩ := h (w, k) (by simp)
    show neL (spl [32] 0 [] (w ++ (List.replicate (k + 1) 32 ++ flatW r))) = w :: r.map (·.1)
    rw [spl_word h2, List.replicate_succ, List.cons_append, spl_hit32, neL_cons, neL_lead, neL_flat fun p hp => h p (by simp [hp])]
    cases w with
    | nil => exact absurd rfl h1
    | cons a b => rfl
/-- [z for z in x.split(' ') if z != ''] -/
def wordsOf (x : Str) : List Str := (Txt.split x " ").filter fun z => !decide (z = "")
theorem tl_blank : tl (" " : Str) = [32] := by decide +kernel
theorem tl_empty {z : Str} : (!(tl z).isEmpty) = !decide (z = "") := by
  by_cases h : z = ""
  · subst h; decide +kernel
  · rw [decide_eq_false h]
    cases e : tl z with
    | nil => exact absurd (ext_tl (by rw [e]; decide +kernel)) h
    | cons a b => rfl
theorem wordsOf_eq {x : Str} {zs : List Str} (h : neL (spl [32] 0 [] (tl x)) = zs.map tl) : wordsOf x = zs := by
  refine map_tl_inj ?_
  have e := split_spl x " " (by rw [tl_blank]; decide) (kind_ok (by decide +kernel))
  rw [tl_blank] at e
  rw [← h, ← e]
  unfold wordsOf neL
  rw [List.filter_map]
  congr 1
  refine List.filter_congr fun z _ => ?_
  exact tl_empty.symm
theorem rstrip_is (x : Str) : ∃ m, tl x = tl (Txt.rstripChars x " ") ++ List.replicate m 32 := by
  have e : Txt.rstripChars x " " = Txt.stripBy (" " : Str).cps.contains false true x := rfl
  obtain ⟨b1, b2, b3, b4⟩ := PyProof.Rows.hi_facts (" " : Str).cps.contains x 0 (Nat.zero_le _)
  have no : ∀ c : Nat, (" " : Str).cps.contains c = true → c = 32 := fun c h => by
    have : c ∈ (" " : Str).cps := by simpa using h
    have : c ∈ tl (" " : Str) := by simpa [tl] using this
    rw [tl_blank] at this
    simpa using this
  rw [PyProof.Rows.stripBy_eq] at e
  have lo0 : stripLo (" " : Str).cps.contains false x = 0 := by simp [stripLo]
  rw [lo0] at e
  generalize stripHi (" " : Str).cps.contains true x 0 = hi at e b1 b2 b3
  refine ⟨x.length - hi, ?_⟩
  rw [e, tl_strSub, List.drop_zero, Nat.sub_zero]
  have hl : (tl x).length = x.length := (len_tl x).symm
  conv => lhs; rw [← List.take_append_drop hi (tl x)]
  congr 1
  refine List.eq_replicate_iff.mpr ⟨by rw [List.length_drop, hl], fun c hc => ?_⟩
  obtain ⟨i, hi1, rfl⟩ := List.mem_iff_getElem.mp hc
  rw [List.length_drop, hl] at hi1
  have := no _ (b3 (hi + i) (by omega) (by omega))
  rw [List.getElem_drop]
  have g := getD_at (x := x) (k := hi + i) (by omega)
  rw [this] at g
  obtain ⟨_, g2⟩ := List.getElem?_eq_some_iff.mp g
  exact g2
end Pk
namespace Pk
open PySem L2 TL
/-! ### numbers as words -/
def numI (i : Int) : Str := Str.ofString (toString i)
def nums : List Str := (List.range 1000).map fun n => numI (n : Nat)
def numTest (w : Str) : Bool := decide (1 ≤ w.length) && decide (w.length ≤ 3) && Txt.isascii w && Txt.isdigit w && !(decide (w.cps.toList.head? = some 48) && !decide (w = "0"))
def blankless (w : Str) : Bool := !decide (w = "") && (w.cps.toList.all fun c => decide (c ≠ 32) && decide ((32 ≤ c ∧ c ≤ 126 ∧ c ≠ 37) ∨ c = 10))
def numFact (n : Nat) : Bool := let w := numI n; numTest w && decide (intText? w = some (n : Int)) && blankless w && decide (w.length ≤ 3)
theorem num_facts : (List.range 1000).all numFact = true := by decide +kernel
theorem num_all {n : Nat} (h : n < 1000) : numTest (numI n) = true ∧ intText? (numI n) = some (n : Int) ∧ blankless (numI n) = true ∧ (numI n).length ≤ 3 := by
  have := List.all_eq_true.mp num_facts n (List.mem_range.mpr h)
  simp only [numFact, Bool.and_eq_true, decide_eq_true_iff] at this
  exact ⟨this.1.1.1, this.1.1.2, this.1.2, this.2⟩
theorem nums_mem {w : Str} : w ∈ nums ↔ ∃ n : Nat, n < 1000 ∧ w = numI n := by
  unfold nums
  rw [List.mem_map]
  constructor
  · rintro ⟨n, h, rfl⟩
    exact ⟨n, List.mem_range.mp h, rfl⟩
  · rintro ⟨n, h, rfl⟩
    exact ⟨n, List.mem_range.mpr h, rfl⟩
/-- a word of the laws on texts -/
structure Wd (w : Str) : Prop where
  blank : blankless w = true
  len : w.length ≤ 9
  num : numTest w = decide (w ∈ nums)
theorem Wd.val {w : Str} (h : w ∈ nums) : ∃ n : Nat, n < 1000 ∧ intText? w = some (n : Int) := by
  obtain ⟨n, hn, rfl⟩ := nums_mem.mp h
  exact ⟨n, hn, (num_all hn).2.1⟩
theorem Wd.ne {w : Str} (h : Wd w) : w ≠ "" := fun z => by
  have := h.blank
  rw [z] at this
  exact absurd this (by decide +kernel)
theorem Wd.no32 {w : Str} (h : Wd w) : ∀ c ∈ tl w, c ≠ 32 := fun c hc => by
  have := h.blank
  simp only [blankless, Bool.and_eq_true, List.all_eq_true, decide_eq_true_iff] at this
  exact (this.2 c hc).1
theorem Wd.sgn {w : Str} (h : Wd w) : Sgn w := fun c hc => by
  have := h.blank
  simp only [blankless, Bool.and_eq_true, List.all_eq_true, decide_eq_true_iff] at this
  exact (this.2 c hc).2
theorem wd_num {n : Nat} (h : n < 1000) : Wd (numI n) := by
  obtain ⟨a, b, c, d⟩ := num_all h
  exact ⟨c, by omega, by rw [a, decide_eq_true (nums_mem.mpr ⟨n, h, rfl⟩)]⟩
theorem letter_digit : ∀ c ∈ letters.cps.toList, Unicode.isDigit c = false ∧ c ≠ 32 := by decide +kernel
theorem wd_name {w : Str} (h : nameT w = true) : Wd w := by
  have s := name_sgn h
  have h0 := h
  unfold nameT at h
  simp only [Bool.and_eq_true, decide_eq_true_iff, List.all_eq_true] at h
  obtain ⟨⟨h1, h2⟩, h3⟩ := h
  have ne : w ≠ "" := fun z => by rw [z] at h1; exact absurd h1 (by decide +kernel)
  have dg : Txt.isdigit w = false := by
    cases e : w.cps.toList with
    | nil => exact absurd (ext_tl (by rw [show tl w = [] from e]; decide +kernel)) ne
    | cons c r =>
      have := (letter_digit c (h3 c (by rw [e]; simp))).1
      unfold Txt.isdigit
      rw [← Array.all_toList, e]
      simp [this]
  have nt : numTest w = false := by
    unfold numTest
    rw [dg]
    simp
  refine ⟨?_, by omega, ?_⟩
  · unfold blankless
    rw [decide_eq_false ne, Bool.not_false, Bool.true_and, List.all_eq_true]
    intro c hc
    rw [Bool.and_eq_true, decide_eq_true_iff, decide_eq_true_iff]
    exact ⟨(letter_digit c (h3 c hc)).2, s c hc⟩
  · rw [nt]
    refine (decide_eq_false fun z => ?_).symm
    obtain ⟨n, hn, rfl⟩ := nums_mem.mp z
    rw [(num_all hn).1] at nt
    cases nt
def odd16 : List Str := ["00", "01", "1000", "-1", "+1", "1.0", "sum", "A", "0", "999", "abcdefghi", "many", "rest", "with", "x", "5\n", "toil", "marks", "kin"]
theorem odd16_all : (odd16.all fun w => blankless w && decide (w.length ≤ 9) && (numTest w == decide (w ∈ nums))) = true := by decide +kernel
theorem wd_odd {w : Str} (h : w ∈ odd16) : Wd w := by
  have := List.all_eq_true.mp odd16_all w h
  simp only [Bool.and_eq_true, decide_eq_true_iff, beq_iff_eq] at this
  exact ⟨this.1.1, this.1.2, this.2⟩
end Pk
namespace Pk
open PySem L2
/-! ### a wish by its text -/
def kept (z : Str) : List Str := wordsOf z
/-- what is no text, by its type's name -/
def NoText (K : PySem.W.Frag) (H : Hp) (x : V) : Prop := ∃ t : String, TyX K H x (.type t) ∧ kitB t "str" = some false
def spNeedAny (K : PySem.W.Frag) (C : Addr) : Sp := fun vs H Q E => ∃ x, vs = [x] ∧ ((∃ z, x = .str z ∧ Q .non H) ∨ (NoText K H x ∧ E (.ref C) none H))
def spWordsIn : Sp := fun vs H Q _ => ∃ z : Str, vs = [.str z] ∧ z.length ≤ 10000 ∧ ∀ (D : Addr) (H' : Hp), Same H H' → H' D = some (.lst ((kept z).map V.str)) → Q (.ref D) H'
/-- BadText as the top has left it -/
structure BadTxt (K : PySem.W.Frag) (mg : Str → Option Value) (C : Addr) : Prop where
  g : mg "BadText" = some (.ref C)
  x : PySem.W.excIn K C [.type "ValueError", .type "Exception", .type "BaseException", .type "object"] "ValueError.__new__" = true
  k : PySem.W.keepIn K (.ref C) = true
  b : PySem.W.subIn K (.ref C) (.type "BaseException") = some true
  t : PySem.W.typeIn K (.ref C) = some (.type "type")
section
variable {P : Program} {w : World} {K : PySem.W.Frag} {mg : Str → Option Value} {base : Heap}
theorem scNeedAny : FnScope ["thing"] ["thing"] (defScope sNeedAny) := ⟨rfl, rfl, rfl, by decide +kernel, rfl, by decide +kernel, by decide +kernel⟩
theorem ok_needAny {f C : Addr} {fd : FuncData} (F : Fun K "need_any_text" "need_any_text" sNeedAny f fd) (B : BadTxt K mg C) (mi : mg "isinstance" = none) (ms : mg "str" = none) : FnOk P w K mg base (L2.CX P w) 1 f fd ["thing"] (spNeedAny K C) := by
  refine F.okX scNeedAny (fun vs H Q E h => ?_) (fun cdv A outer s H vs Q E hr h => ?_)
  · obtain ⟨x, rfl, _⟩ := h
    rfl
  · obtain ⟨x, rfl, h⟩ := h
    refine ⟨_, pss_one (ps_if (pt_not (pt_val (pe_callB call_isi (by rfl) mi (by decide +kernel) (pa_cons (pv 0) (pa_cons (pe_bltn (v := .ty "str") (by rfl) ms PyProof.Rows.boot_str rfl) pa_nil)))))
        (pss_one (ps_raise rfl (takes_of rfl rfl rfl rfl) (pmk_own PySem.F.excBase_ValueError B.x B.g B.k (raises_own B.b B.t) (by exact rfl)))) pss_nil), ?_⟩
    rcases h with ⟨z, rfl, q⟩ | ⟨⟨t, ty, hb⟩, e⟩
    · refine ⟨_, rfl, _, _, _, _, true, rfl, .ty "str", .base (.str z), kit_ty (by decide +kernel), _, rfl, ?_⟩
      exact iteF q
    · refine ⟨_, rfl, _, _, _, _, false, rfl, .ty "str", ty, kit_ty hb, _, rfl, ?_⟩
      refine iteT ?_
      exact e
theorem scWordsIn : FnScope ["text", "word"] ["text"] (defScope sWordsIn) := ⟨rfl, rfl, rfl, by decide +kernel, rfl, by decide +kernel, by decide +kernel⟩
theorem ok_wordsIn {f : Addr} {fd : FuncData} (F : Fun K "words_in" "words_in" sWordsIn f fd) : FnOk P w K mg base CX0 1 f fd ["text"] spWordsIn := by
  refine F.ok scWordsIn (fun vs H Q E h => ?_) (fun cdv A outer s H vs Q E hr h => ?_)
  · obtain ⟨z, rfl, _⟩ := h
    rfl
  · obtain ⟨z, rfl, hz, q⟩ := h
    refine ⟨_, pss_one (ps_ret (pe_lc (own := [("word", 1)]) (g := gName 1) rfl scWordsIn.nd (pi_list (pe_split (pv 0) pe_str)) (blkOk_by (N := ["text", "word"]) (sc := defScope sWordsIn) (by decide +kernel))
        (fun _ _ _ _ _ => pg_name (i := 1) scWordsIn.nd rfl (Or.inl rfl)) (fun _ _ _ _ _ => pts_one (pt_cmpR op_ne (pv 1) pe_str (nomark _))) (fun _ _ _ _ _ => pv 1))), ?_⟩
    -- text.split(' ')
    refine ⟨_, rfl, ⟨_, rfl⟩, z, _, rfl, rfl, by decide +kernel, by have := hz; rw [sizeLine_eq]; omega, fun p hp => ?_⟩
    have s1 : Same H (upd H p (.lst ((Txt.split z " ").map V.str))) := same_upd hp
    refine ⟨p, rfl, ⟨_, SqL.of upd_same⟩, fun D hD => ?_⟩
    have s2 := same_upd (o := .lst []) hD
    have npD : p ≠ D := fun e => by
      rw [← e, upd_same] at hD
      cases hD
    have hp1 : upd H p (.lst ((Txt.split z " ").map V.str)) p = some (.lst ((Txt.split z " ").map V.str)) := upd_same
    generalize upd H p (.lst ((Txt.split z " ").map V.str)) = H1 at s1 hD s2 hp1
    have hlen : (Txt.split z " ").length ≤ z.length + 2 := PyProof.Rows.split_le z " "
    refine lc_list (K := K) (a := p) (xs := (Txt.split z " ").map V.str) (fun i H' => (∀ b o, b ≠ D → H1 b = some o → H' b = some o) ∧ H' D = some (.lst ((((Txt.split z " ").take i).filter fun p => !decide (p = ("" : Str))).map V.str))) ⟨fun b o n e => ?_, ?_⟩ ?_ ?_ ?_
    · rw [upd_ne n]
      exact e
    · exact upd_same
    · exact fun i H' _ h => SqL.of (h.1 p _ npD hp1)
    · rintro i x H' hi ⟨k, hd⟩
      rw [List.getElem?_map] at hi
      obtain ⟨y, hy, rfl⟩ : ∃ y, (Txt.split z " ")[i]? = some y ∧ x = V.str y := by
        cases e : (Txt.split z " ")[i]? with
        | none =>
          rw [e] at hi
          cases hi
        | some y =>
          rw [e] at hi
          exact ⟨y, rfl, (Option.some.inj hi).symm⟩
      have hi2 : i < (Txt.split z " ").length := (List.getElem?_eq_some_iff.mp hy).1
      have tk : (Txt.split z " ").take (i + 1) = (Txt.split z " ").take i ++ [y] := by
        rw [List.take_add_one, hy]
        rfl
      refine ⟨rfl, _, rfl, rfl, _, rfl, ?_⟩
      by_cases hy0 : y = ""
      · subst hy0
        rw [decide_eq_true (rfl : V.str "" = V.str "")]
        refine iteF ⟨k, ?_⟩
        rw [hd, tk, List.filter_append, show [("" : Str)].filter (fun p => !decide (p = ("" : Str))) = [] from by decide +kernel, List.append_nil]
      · rw [decide_eq_false (fun q => hy0 (V.str.inj q))]
        refine iteT ⟨_, rfl, _, hd, ?_, fun b o n e => ?_, ?_⟩
        · rw [List.length_map]
          refine Nat.lt_of_le_of_lt (List.length_filter_le _ _) ?_
          rw [List.length_take, sizeLine_eq]
          omega
        · rw [upd_ne n]
          exact k b o n e
        · rw [upd_same, tk, List.filter_append, List.map_append, List.filter_cons, if_pos (by rw [decide_eq_false hy0]; rfl)]
          rfl
    · rintro H' ⟨k, hd⟩
      rw [List.length_map, List.take_length] at hd
      refine q D H' (fun b o e => k b o (fun z => ?_) (s1 b o e)) hd
      rw [z] at e
      rw [s1 _ _ e] at hD
      cases hD
/-- the two defs that squeezed calls -/
def numBy (w : Str) : V := if w ∈ nums then .int ((intText? w).getD 0) else .non
def spNumberBy : Sp := fun vs H Q _ => ∃ w : Str, vs = [.str w, .int 3] ∧ Wd w ∧ Q (numBy w) H
theorem scNumberBy : FnScope ["word", "most"] ["word", "most"] (defScope sNumberBy) := ⟨rfl, rfl, rfl, by decide +kernel, rfl, by decide +kernel, by decide +kernel⟩
theorem ok_numberBy {f : Addr} {fd : FuncData} (F : Fun K "number_by" "number_by" sNumberBy f fd) (ml : mg "len" = none) (mn : mg "int" = none) : FnOk P w K mg base CX0 1 f fd ["word", "most"] spNumberBy := by
  refine F.ok scNumberBy (fun vs H Q E h => ?_) (fun cdv A outer s H vs Q E hr h => ?_)
  · obtain ⟨w, rfl, _⟩ := h
    rfl
  · obtain ⟨w, rfl, W, q⟩ := h
    refine ⟨_, pss_cons (ps_if (PW.pt (pw_or (pt_not (pt_chain op_le op_le pe_int (pe_callB call_len_str (by rfl) ml PySem.boot_len (pa_cons (pv 0) pa_nil)) (pv 1))) (pw_or (pt_not (pt_val (pe_m0 PySem.F.slot_str_isascii PySem.F.type_str_isascii mt_isascii (pv 0)))) (pw_or1 (pt_not (pt_val (pe_m0 PySem.F.slot_str_isdigit PySem.F.type_str_isdigit mt_isdigit (pv 0)))))))) (pss_one (ps_ret pe_non)) pss_nil)
      (pss_cons (ps_if (PW.pt (pw_and (pt_cmpR op_eq (pe_ix ix_str (pv 0) pe_int (fun _ _ => rfl)) pe_str (nomark _)) (pw_and1 (pt_cmpR op_ne (pv 0) pe_str (nomark _))))) (pss_one (ps_ret pe_non)) pss_nil)
      (pss_one (ps_ret (pe_callTy call_int_str (by rfl) mn PyProof.Rows.boot_int (pa_cons (pv 0) pa_nil))))), ?_⟩
    have no : numTest w = false → Q .non H := fun h => by
      rw [W.num] at h
      unfold numBy at q
      rw [if_neg (of_decide_eq_false h)] at q
      exact q
    have yes : numTest w = true → ∃ n : Int, intText? w = some n ∧ Q (.int n) H := fun h => by
      rw [W.num] at h
      have hm := of_decide_eq_true h
      obtain ⟨n, _, hn⟩ := Wd.val hm
      unfold numBy at q
      rw [if_pos hm, hn] at q
      exact ⟨n, hn, q⟩
    obtain ⟨c, r, ec⟩ : ∃ c r, w.cps.toList = c :: r := by
      cases e : w.cps.toList with
      | nil => exact absurd (TL.ext_tl (by rw [show TL.tl w = [] from e]; decide +kernel)) W.ne
      | cons c r => exact ⟨c, r, rfl⟩
    have l1 : 1 ≤ w.length := by rw [TL.len_tl, show TL.tl w = c :: r from ec]; simp
    have l9 := W.len
    unfold numTest at no yes
    rw [decide_eq_true l1, Bool.true_and] at no yes
    refine ⟨_, rfl, w, rfl, by rw [sizeLine_eq]; omega, 1, _, rfl, rfl, _, rfl, iteT' (by simp; omega) ⟨_, rfl, _, 3, rfl, rfl, _, rfl, ?_⟩⟩
    by_cases h3 : w.length ≤ 3
    case neg => exact iteT' (by simp; omega) (no (by simp [h3]))
    refine iteF' (by simp; omega) ⟨_, rfl, ⟨w, rfl⟩, w, rfl, rfl, trivial, _, rfl, ?_⟩
    rw [decide_eq_true h3, Bool.true_and] at no yes
    cases h4 : Txt.isascii w with
    | false => exact iteT (no (by simp [h4]))
    | true =>
      refine iteF ⟨_, rfl, ⟨w, rfl⟩, w, rfl, rfl, trivial, _, rfl, ?_⟩
      rw [h4, Bool.true_and] at no yes
      cases h5 : Txt.isdigit w with
      | false => exact iteT (no (by simp [h5]))
      | true =>
        rw [h5, Bool.true_and] at no yes
        refine iteF ⟨_, rfl, w, 0, c, rfl, rfl, by rw [sizeLine_eq]; omega, by rw [ec]; exact atI_nat (j := 0) rfl, rfl, _, rfl, ?_⟩
        have e0 : decide (V.str ⟨#[c]⟩ = V.str "0") = decide (c = 48) := by
          refine decide_eq_decide.mpr ⟨fun h => ?_, fun h => by rw [h]; rfl⟩
          have := congrArg TL.tl (V.str.inj h)
          rw [show TL.tl ("0" : Str) = [48] by decide +kernel] at this
          exact (List.cons.inj this).1
        rw [e0]
        have hh : decide (w.cps.toList.head? = some 48) = decide (c = 48) := by rw [ec]; simp
        rw [hh] at no yes
        by_cases h6 : c = 48
        · refine iteT' (by simpa using h6) ⟨_, rfl, rfl, _, rfl, ?_⟩
          by_cases h7 : w = "0"
          · obtain ⟨n, hn, qn⟩ := yes (by simp [h7])
            exact iteF' (by simp [h7]) ⟨_, rfl, w, n, rfl, hn, by omega, qn⟩
          · exact iteT' (by simp [h7]) (no (by simp [h6, h7]))
        · obtain ⟨n, hn, qn⟩ := yes (by simp [h6])
          exact iteF' (by simpa using h6) (iteF ⟨_, rfl, w, n, rfl, hn, by omega, qn⟩)
end
end Pk
namespace Pk
open PySem L2
def partsT : List Str → Option (Str × Str × Str × Str)
  | [a, c, d] => some (a, "", c, d)
  | [a, b, c, d] => some (a, b, c, d)
  | _ => none
def wrongP : Option (Str × Str × Str × Str) → Str
  | none => "word"
  | some (a, b, c, d) => wrongW (.str a) (.str b) (numBy c) (numBy d)
def valN (w : Str) : Int := (intText? w).getD 0
def wishP : Str × Str × Str × Str → WD
  | (a, b, c, d) => ⟨a, b, valN c, valN d⟩
theorem numBy_whole {w : Str} {lo hi : Int} (h : whole (numBy w) lo hi = true) : numBy w = .int (valN w) ∧ w ∈ nums := by
  unfold numBy at h ⊢
  by_cases m : w ∈ nums
  · rw [if_pos m]
    exact ⟨rfl, m⟩
  · rw [if_neg m] at h
    cases h
theorem wrongP_some {a b c d : Str} (h : wrongP (some (a, b, c, d)) = "") : numBy c = .int (valN c) ∧ numBy d = .int (valN d) ∧ c ∈ nums ∧ d ∈ nums := by
  have h : wrongW (.str a) (.str b) (numBy c) (numBy d) = "" := h
  unfold wrongW at h
  obtain ⟨_, h⟩ := ite_not h (by decide +kernel)
  obtain ⟨_, h⟩ := ite_not h (by decide +kernel)
  obtain ⟨h3, h⟩ := ite_not h (by decide +kernel)
  obtain ⟨h4, _⟩ := ite_not h (by decide +kernel)
  obtain ⟨x1, x2⟩ := numBy_whole (by simpa using h3)
  obtain ⟨y1, y2⟩ := numBy_whole (by simpa using h4)
  exact ⟨x1, y1, x2, y2⟩
def spWishBy (K : PySem.W.Frag) (CW cW cT : Addr) : Sp := fun vs H Q E => ∃ x, vs = [x] ∧
  ((∃ z : Str, x = .str z ∧ z.length ≤ 1000 ∧ (∀ v ∈ wordsOf z, Wd v) ∧
    (wrongP (partsT (wordsOf z)) ≠ "" → ∀ (d : Addr) (H' : Hp), Same H H' → H' d = some (.xd [(("at" : Str), .str (wrongP (partsT (wordsOf z))))]) → E (.ref cW) (some d) H') ∧
    (∀ p, partsT (wordsOf z) = some p → wrongP (some p) = "" → ∀ (y : Addr) (H' : Hp), Same H H' → WI CW H' y (wishP p) → Q (.ref y) H')) ∨ (NoText K H x ∧ E (.ref cT) none H))
theorem thg_wd {w : Str} {H : Hp} (h : Wd w) : Thg H (.str w) := .str _ (by have := h.len; omega) h.sgn
theorem thg_empty {H : Hp} : Thg H (.str "") := .str _ (by decide +kernel) (sgn_dec (by decide +kernel))
theorem thg_num {w : Str} {H : Hp} : Thg H (numBy w) := by
  unfold numBy
  split
  · exact .int _
  · exact .non
section
variable {P : Program} {w : World} {K : PySem.W.Frag} {mg : Str → Option Value} {base : Heap}
theorem scWishBy : FnScope ["text", "words"] ["text"] (defScope sWishBy) := ⟨rfl, rfl, rfl, by decide +kernel, rfl, by decide +kernel, by decide +kernel⟩
theorem ok_wishBy {f fA fI fN fW CW cW cT fJ : Addr} {fd fdA fdI fdN fdW : FuncData} (F : Fun K "wish_of" "wish_of" sWishBy f fd) (TW : TxW K mg cW fJ) (ml : mg "len" = none) (mf : ∃ t, mg "MOST_FIGURES" = some (.int 3 t))
    (GA : FnOk P w K mg base (L2.CX P w) 1 fA fdA ["thing"] (spNeedAny K cT)) (kA : PySem.W.keepIn K (.ref fA) = true) (bA : Binds K fdA ["thing"] []) (gA : mg "need_any_text" = some (.ref fA))
    (GI : FnOk P w K mg base CX0 1 fI fdI ["text"] spWordsIn) (kI : PySem.W.keepIn K (.ref fI) = true) (bI : Binds K fdI ["text"] []) (gI : mg "words_in" = some (.ref fI))
    (GN : FnOk P w K mg base CX0 1 fN fdN ["word", "most"] spNumberBy) (kN : PySem.W.keepIn K (.ref fN) = true) (bN : Binds K fdN ["word", "most"] []) (gN : mg "number_by" = some (.ref fN))
    (FW : FunW K fW fdW) (GW : FnOk P w K mg base (L2.CX P w) 4 fW fdW psW (spWInit CW cW)) (M : Mk K CW fW) (gW : mg "Wish" = some (.ref CW)) :
    FnOk P w K mg base (L2.CX P w) 6 f fd ["text"] (spWishBy K CW cW cT) := by
  obtain ⟨d4, hd4, b4⟩ := bw4 FW
  obtain ⟨tf, mf⟩ := mf
  refine F.okX scWishBy (fun vs H Q E h => ?_) (fun cdv A outer s H vs Q E hr h => ?_)
  · obtain ⟨x, rfl, _⟩ := h
    rfl
  · obtain ⟨x, rfl, h⟩ := h
    have r1 : Room 1 _ := hr.mono (by decide)
    refine ⟨_, pss_cons (ps_expr (pe_call (E := E) GA r1 (by rfl) gA kA bA .nil (passes_call (takes_of rfl rfl rfl rfl) fun _ _ _ _ h => h) (pa_cons (pv 0) pa_nil)))
      (pss_cons (ps_set (i := 1) scWishBy.nd rfl (.inl rfl) (pe_call (E := E0) GI r1 (by rfl) gI kI bI .nil pass0 (pa_cons (pv 0) pa_nil)))
      (pss_cons (ps_if (pt_cmpR op_eq (pe_callB call_len_seq (by rfl) ml PySem.boot_len (pa_cons (pv 1) pa_nil)) pe_int (nomark _)) (pss_one (ps_set (i := 1) scWishBy.nd rfl (.inl rfl) (pe_lst (pa_cons (pe_ix ix_list (pv 1) pe_int (fun _ _ => rfl)) (pa_cons pe_str (pa_cons (pe_ix ix_list (pv 1) pe_int (fun _ _ => rfl)) (pa_cons (pe_ix ix_list (pv 1) pe_int (fun _ _ => rfl)) pa_nil))))))) pss_nil)
      (pss_cons (ps_if (pt_cmpR op_ne (pe_callB call_len_seq (by rfl) ml PySem.boot_len (pa_cons (pv 1) pa_nil)) pe_int (nomark _)) (pss_one (ps_raiseE_at rfl TW r1 (takes_of rfl rfl rfl rfl) (by exact (pa_cons pe_str pa_nil)))) pss_nil)
      (pss_one (ps_ret (pe_make (E := E) M GW hr (by rfl) gW b4 hd4 (passes_call (takes_of rfl rfl rfl rfl) fun _ _ _ _ h => h) (pa_cons (pe_ix ix_list (pv 1) pe_int (fun _ _ => rfl)) (pa_cons (pe_ix ix_list (pv 1) pe_int (fun _ _ => rfl)) (pa_cons (pe_call (E := E0) GN r1 (by rfl) gN kN bN .nil pass0 (pa_cons (pe_ix ix_list (pv 1) pe_int (fun _ _ => rfl)) (pa_cons (pe_glob (v := .int 3) (by rfl) mf ⟨_, rfl⟩) pa_nil))) (pa_cons (pe_call (E := E0) GN r1 (by rfl) gN kN bN .nil pass0 (pa_cons (pe_ix ix_list (pv 1) pe_int (fun _ _ => rfl)) (pa_cons (pe_glob (v := .int 3) (by rfl) mf ⟨_, rfl⟩) pa_nil))) pa_nil)))))))))), ?_⟩
    rcases h with ⟨z, rfl, lz, W, bad, fin⟩ | ⟨nt, e⟩
    case inr => exact ⟨_, rfl, x, rfl, .inr ⟨nt, e⟩⟩
    refine ⟨_, rfl, _, rfl, .inl ⟨z, rfl, ?_⟩⟩
    refine ⟨_, rfl, z, rfl, by omega, fun D H1 s1 hD => ?_⟩
    have hD : H1 D = some (.lst ((wordsOf z).map V.str)) := hD
    generalize wordsOf z = ws at hD W bad fin
    -- the end, from four words at p
    have four : ∀ (p : Addr) (a b c d : Str) (H2 : Hp) (Q2 : Str × Str × Str × Str), Same H H2 → H2 p = some (.lst [.str a, .str b, .str c, .str d]) → partsT ws = some (a, b, c, d) → Thg H2 (.str a) → Thg H2 (.str b) → Wd c → Wd d →
        ∀ x dx, H2 x = none → H2 dx = none → dx ≠ x → spWInit CW cW (.ref x :: ([.str a, .str b, numBy c, numBy d] ++ [])) (upd (upd H2 dx (.own x)) x (.ins CW dx [])) (fun v H3 => v = .non ∧ Q (.ref x) H3) E := by
      intro p a b c d H2 _ s2 hp hP ta tb wc wd x dx nx ndx ne
      have s0 : Same H2 (upd (upd H2 dx (.own x)) x (.ins CW dx [])) := (same_upd ndx).trans (same_upd (by rw [upd_ne (Ne.symm ne)]; exact nx))
      refine ⟨x, dx, _, _, _, _, rfl, upd_same, ta.same s0, tb.same s0, thg_num, thg_num, fun H' s' => ⟨fun h => ⟨rfl, ?_⟩, fun h dd hd => ?_⟩⟩
      · obtain ⟨e1, e2, _, _⟩ := wrongP_some (a := a) (b := b) h
        refine fin _ hP h x _ ?_ ⟨dx, ?_⟩
        · intro b o e
          rw [upd_ne (ne_of_none (s2 _ _ e) nx)]
          exact s' _ _ (s0 _ _ (s2 _ _ e))
        · rw [upd_same, e1, e2]
          rfl
      · refine bad (by rw [hP]; exact h) dd _ ?_ (by rw [hP]; exact upd_same)
        exact fun b o e => same_upd hd _ _ (s' _ _ (s0 _ _ (s2 _ _ e)))
    refine ⟨_, rfl, D, _, rfl, .inl (SqL.of hD), rfl, _, rfl, ?_⟩
    have less : partsT ws = none → (ws.map V.str).length ≠ 3 ∧ (ws.map V.str).length ≠ 4 := by
      intro h
      rw [List.length_map]
      match ws, h with
      | [], _ => exact ⟨by decide, by decide⟩
      | [_], _ => exact ⟨by simp, by simp⟩
      | [_, _], _ => exact ⟨by simp, by simp⟩
      | _ :: _ :: _ :: _ :: _ :: _, _ => exact ⟨by simp, by simp⟩
    cases hP : partsT ws with
    | none =>
      obtain ⟨n3, n4⟩ := less hP
      refine iteF' (by simp at n3 ⊢; omega) ⟨_, rfl, D, _, rfl, .inl (SqL.of hD), rfl, _, rfl, iteT' (by simp at n4 ⊢; omega) ?_⟩
      rw [hP] at bad
      exact ⟨_, rfl, fun d hd => bad (by decide +kernel) d _ (s1.trans (same_upd hd)) upd_same⟩
    | some p0 =>
      match ws, hP, hD, W, bad, fin, four with
      | [a, c, d], hP, hD, W, bad, fin, four =>
        refine iteT ⟨_, rfl, D, _, 0, .str a, rfl, rfl, SqL.of hD, rfl, _, rfl, D, _, 1, .str c, rfl, rfl, SqL.of hD, rfl, _, rfl, D, _, 2, .str d, rfl, rfl, SqL.of hD, rfl, by show 4 ≤ sizeLine; decide, fun p np => ?_⟩
        have s2 := s1.trans (same_upd (o := .lst [.str a, .str "", .str c, .str d]) np)
        have hp : upd H1 p (.lst [.str a, .str "", .str c, .str d]) p = some (.lst [.str a, .str "", .str c, .str d]) := upd_same
        dsimp only [gName]
        show tSeq _ _ _ _ (upd H1 p (.lst [.str a, .str "", .str c, .str d]))
        generalize upd H1 p (.lst [.str a, .str "", .str c, .str d]) = H2 at s2 hp ⊢
        refine ⟨_, rfl, p, _, rfl, .inl (SqL.of hp), rfl, _, rfl, iteF ?_⟩
        refine ⟨_, rfl, p, _, 0, .str a, rfl, rfl, SqL.of hp, rfl, _, rfl, p, _, 1, .str "", rfl, rfl, SqL.of hp, rfl, _, rfl, p, _, 2, .str c, rfl, rfl, SqL.of hp, rfl, c, rfl, W c (by simp), _, rfl, p, _, 3, .str d, rfl, rfl, SqL.of hp, rfl, d, rfl, W d (by simp), ?_⟩
        exact four p a "" c d H2 (a, "", c, d) s2 hp rfl (thg_wd (W a (by simp))) thg_empty (W c (by simp)) (W d (by simp))
      | [a, b, c, d], hP, hD, W, bad, fin, four =>
        refine iteF ⟨_, rfl, D, _, rfl, .inl (SqL.of hD), rfl, _, rfl, iteF ?_⟩
        refine ⟨_, rfl, D, _, 0, .str a, rfl, rfl, SqL.of hD, rfl, _, rfl, D, _, 1, .str b, rfl, rfl, SqL.of hD, rfl, _, rfl, D, _, 2, .str c, rfl, rfl, SqL.of hD, rfl, c, rfl, W c (by simp), _, rfl, D, _, 3, .str d, rfl, rfl, SqL.of hD, rfl, d, rfl, W d (by simp), ?_⟩
        exact four D a b c d H1 (a, b, c, d) s1 hD rfl (thg_wd (W a (by simp))) (thg_wd (W b (by simp))) (W c (by simp)) (W d (by simp))
      | [], hP, _, _, _, _, _ => cases hP
      | [_], hP, _, _, _, _, _ => cases hP
      | [_, _], hP, _, _, _, _, _ => cases hP
      | _ :: _ :: _ :: _ :: _ :: _, hP, _, _, _, _, _ => cases hP
end
end Pk
namespace Pk
open PySem L2
/-! ### the words of a wish, spaced -/
def wordsQ (q : WD) : List Str := [q.wd] ++ (if q.wh = "" then [] else [q.wh]) ++ [numI q.le, numI q.mo]
theorem numI_wd {i : Int} (h0 : 0 ≤ i) (h9 : i ≤ 999) : Wd (numI i) := by
  obtain ⟨n, rfl⟩ := Int.eq_ofNat_of_zero_le h0
  exact wd_num (by omega)
theorem words6_odd : ∀ z ∈ words6, z ∈ odd16 := by decide +kernel
theorem wordsQ_wd {q : WD} (g : GoodI q) : ∀ v ∈ wordsQ q, Wd v := by
  intro v hv
  unfold wordsQ at hv
  simp only [List.mem_append, List.mem_cons, List.not_mem_nil, or_false] at hv
  rcases hv with (rfl | hv) | rfl | rfl
  · exact wd_odd (words6_odd _ g.wd)
  · by_cases h : q.wh = ""
    · rw [if_pos h] at hv
      cases hv
    · rw [if_neg h] at hv
      rw [List.mem_singleton.mp hv]
      rcases g.name with n | n
      · exact wd_name n
      · exact absurd n h
  · exact numI_wd g.l0 g.l9
  · exact numI_wd g.m0 g.m9
def spWords : Sp := fun vs H Q _ => ∃ (m : Addr) (q : WD), vs = [.ref m] ∧ H m = some (.lst (wV q)) ∧ GoodI q ∧ ∀ (l : Addr) (H' : Hp), Same H H' → H' l = some (.lst ((wordsQ q).map V.str)) → Q (.ref l) H'
theorem blank_mul : ∀ n ∈ ([0, 1, 2, 3] : List Int), TL.tl (Txt.mul " " n) = List.replicate n.toNat 32 := by decide +kernel
theorem blank_mulOk : ∀ n ∈ ([0, 1, 2, 3] : List Int), MulOk " " n := by
  intro n hn
  simp only [List.mem_cons, List.not_mem_nil, or_false] at hn
  rcases hn with rfl | rfl | rfl | rfl <;> (unfold MulOk; decide +kernel)
def spSpaced : Sp := fun vs H Q _ => ∃ (d l : Addr) (t : Int) (ws : List Str), vs = [.ref d, .ref l] ∧ DrawAt H d t ∧ 0 ≤ t ∧ t ≤ 60000 ∧ H l = some (.lst (ws.map V.str)) ∧ ws.length ≤ 10 ∧ (∀ v ∈ ws, Wd v) ∧
  ∀ (z : Str) (H' : Hp) (t' : Int), wordsOf z = ws → z.length ≤ 1000 → But d H H' → DrawAt H' d t' → t ≤ t' → t' ≤ t + 12 → Q (.str z) H'
def gaps : List Int := [0, 0, 0, 2]
theorem flat_len : ∀ {ps : List (List Nat × Nat)}, (∀ p ∈ ps, p.1.length ≤ 9 ∧ p.2 ≤ 2) → (flatW ps).length ≤ 12 * ps.length
  | [], _ => Nat.le_refl _
  | (w, k) :: r, h => by
    have h1 := h (w, k) (by simp)
    have ih := flat_len (ps := r) fun p hp => h p (by simp [hp])
    show (w ++ (List.replicate (k + 1) 32 ++ flatW r)).length ≤ 12 * (r.length + 1)
    rw [List.length_append, List.length_append, List.length_replicate]
    have := h1.1
    have := h1.2
    dsimp only at *
    omega
section
variable {P : Program} {w : World} {K : PySem.W.Frag} {mg : Str → Option Value} {base : Heap}
theorem scWords : FnScope ["_law_made_here"] ["_law_made_here"] (defScope sWords) := ⟨rfl, rfl, rfl, by decide +kernel, rfl, by decide +kernel, by decide +kernel⟩
theorem ok_words {f : Addr} {fd : FuncData} (F : Fun K "_law_words" "_law_words" sWords f fd) (mn : mg "int" = none) (ms : mg "str" = none) : FnOk P w K mg base CX0 1 f fd ["_law_made_here"] spWords := by
  refine F.ok scWords (fun vs H Q E h => ?_) (fun cdv A outer s H vs Q E hr h => ?_)
  · obtain ⟨m, q, rfl, _⟩ := h
    rfl
  · obtain ⟨m, q, rfl, hm, g, fin⟩ := h
    refine ⟨_, pss_one (ps_ret (pe_op op_cat (pe_op op_cat (pe_lst (pa_cons (pe_ix ix_list (pv 0) pe_int (fun _ _ => rfl)) pa_nil)) (pe_op op_rep (pe_lst (pa_cons (pe_ix ix_list (pv 0) pe_int (fun _ _ => rfl)) pa_nil)) (pe_callTy call_int1 (by rfl) mn PyProof.Rows.boot_int (pa_cons (pe_cmpR op_ne (pe_ix ix_list (pv 0) pe_int (fun _ _ => rfl)) pe_str (nomark _)) pa_nil)))) (pe_lst (pa_cons (pe_callTy call_str_int (by rfl) ms PyProof.Rows.boot_str (pa_cons (pe_ix ix_list (pv 0) pe_int (fun _ _ => rfl)) pa_nil)) (pa_cons (pe_callTy call_str_int (by rfl) ms PyProof.Rows.boot_str (pa_cons (pe_ix ix_list (pv 0) pe_int (fun _ _ => rfl)) pa_nil)) pa_nil))))), ?_⟩
    refine ⟨_, rfl, m, _, 0, .str q.wd, rfl, rfl, SqL.of hm, rfl, by show 1 ≤ sizeLine; decide, fun p1 n1 => ?_⟩
    have s1 := same_upd (o := .lst [.str q.wd]) n1
    have hm1 := s1 _ _ hm
    refine ⟨_, rfl, m, _, 1, .str q.wh, rfl, rfl, SqL.of hm1, rfl, by show 1 ≤ sizeLine; decide, fun p2 n2 => ?_⟩
    have s2 := same_upd (o := .lst [.str q.wh]) n2
    have hm2 := s2 _ _ hm1
    refine ⟨_, rfl, m, _, 1, .str q.wh, rfl, rfl, SqL.of hm2, rfl, rfl, .inr ⟨_, rfl, ?_⟩⟩
    obtain ⟨k, hk, ek⟩ : ∃ k : Nat, k ≤ 1 ∧ (if (!decide (V.str q.wh = V.str "")) = true then (1 : Int) else 0) = k ∧ (List.replicate k [V.str q.wh]).flatten = (if q.wh = "" then [] else [q.wh]).map V.str := by
      by_cases h : q.wh = ""
      · exact ⟨0, by decide, by simp [h], by simp [h]⟩
      · exact ⟨1, by decide, by simp [h], by simp [h]⟩
    rw [ek.1]
    refine ⟨p2, k, _, rfl, rfl, upd_same, by omega, by omega, by rw [Int.toNat_natCast, sizeLine_eq]; show 1 * k ≤ _; omega, fun p3 n3 => ?_⟩
    rw [Int.toNat_natCast, ek.2] at *
    have s3 := same_upd (o := .lst ((if q.wh = "" then [] else [q.wh]).map V.str)) n3
    have l1 : ((if q.wh = "" then [] else [q.wh]).map V.str).length ≤ 1 := by split <;> simp
    refine ⟨p1, p3, _, _, rfl, rfl, s3 _ _ (s2 _ _ upd_same), upd_same, by rw [sizeLine_eq]; show 1 + _ ≤ _; omega, fun p4 n4 => ?_⟩
    have s4 := same_upd (o := .lst ([.str q.wd] ++ (if q.wh = "" then [] else [q.wh]).map V.str)) n4
    have s14 := ((s1.trans s2).trans s3).trans s4
    have hm4 := s14 _ _ hm
    refine ⟨_, rfl, m, _, 2, .int q.le, rfl, rfl, SqL.of hm4, rfl, q.le, rfl, mid_log g.l0 g.l9, _, rfl, m, _, 3, .int q.mo, rfl, rfl, SqL.of hm4, rfl, q.mo, rfl, mid_log g.m0 g.m9, by show 2 ≤ sizeLine; decide, fun p5 n5 => ?_⟩
    have s5 := same_upd (o := .lst [.str (numI q.le), .str (numI q.mo)]) n5
    refine ⟨p4, p5, _, _, rfl, rfl, s5 _ _ upd_same, upd_same, by rw [sizeLine_eq, List.length_append]; show 1 + _ + 2 ≤ _; omega, fun p6 n6 => ?_⟩
    refine fin p6 _ ((s14.trans s5).trans (same_upd n6)) ?_
    rw [upd_same]
    unfold wordsQ
    rw [List.map_append, List.map_append]
    rfl
abbrev NSpaced : List Str := ["_law_draw", "_law_words_here", "_law_found", "_law_word"]
theorem scSpaced : FnScope NSpaced ["_law_draw", "_law_words_here"] (defScope sSpaced) := ⟨rfl, rfl, rfl, by decide +kernel, rfl, by decide +kernel, by decide +kernel⟩
theorem ok_spaced {f fT : Addr} {fd fdT : FuncData} (F : Fun K "_law_spaced" "_law_spaced" sSpaced f fd)
    (GT : FnOk P w K mg base CX0 1 fT fdT ["_law_draw", "_law_many"] spTake) (kT : PySem.W.keepIn K (.ref fT) = true) (bT : Binds K fdT ["_law_draw", "_law_many"] []) (gT : mg "_law_take" = some (.ref fT)) :
    FnOk P w K mg base CX0 2 f fd ["_law_draw", "_law_words_here"] spSpaced := by
  refine F.ok scSpaced (fun vs H Q E h => ?_) (fun cdv A outer s H vs Q E hr h => ?_)
  · obtain ⟨d, l, t, ws, rfl, _⟩ := h
    rfl
  · obtain ⟨d, l, t, ws, rfl, D, t0, t1, hl, lw, W, fin⟩ := h
    refine ⟨_, pss_cons (ps_set (i := 2) scSpaced.nd rfl (.inl rfl) (pe_op op_times pe_str (pe_call GT hr (by rfl) gT kT bT .nil pass0 (pa_cons (pv 0) (pa_cons pe_int pa_nil)))))
      (pss_cons (ps_for PassesOwn.never rfl (pi_list (pv 1)) (pg_name (i := 3) scSpaced.nd rfl (.inl rfl))
        (pss_one (ps_set (i := 2) scSpaced.nd rfl (.inl rfl) (pe_op op_add_str (pe_op op_add_str (pv 2) (pv 3)) (pe_op op_times pe_str (pe_op op_add pe_int (pe_ix ix_list (pe_lst (pa_cons pe_int (pa_cons pe_int (pa_cons pe_int (pa_cons pe_int pa_nil))))) (pe_call GT hr (by rfl) gT kT bT .nil pass0 (pa_cons (pv 0) (pa_cons pe_int pa_nil))) (fun _ _ => rfl))))))))
      (pss_one (ps_ret (pe_ifExp (pt_cmpR op_eq (pe_call GT hr (by rfl) gT kT bT .nil pass0 (pa_cons (pv 0) (pa_cons pe_int pa_nil))) pe_int (nomark _)) (pv 2) (pe_m1 PySem.F.slot_str_rstrip PySem.F.type_str_rstrip mt_rstripChars (pv 2) pe_str))))), ?_⟩
    refine ⟨_, rfl, d, t, 3, rfl, D, t0, by omega, by decide, by decide, fun n H1 n0 n3 u1 D1 => ⟨_, n, rfl, rfl, blank_mulOk n (by simp; omega), ?_⟩⟩
    have e0 := blank_mul n (by simp; omega)
    have hl1 := u1 _ _ (D.ne hl fun _ z => by cases z) hl
    refine ⟨_, rfl, l, rfl, ⟨_, SqL.of hl1⟩, ?_⟩
    refine for_it (walk_list (K := K) (a := l) (xs := ws.map V.str)) (fun j σ G => ∃ (z : Str) (ps : List (List Nat × Nat)) (v3 : Option V), σ = [some (.ref d), some (.ref l), some (.str z), v3] ∧ TL.tl z = List.replicate n.toNat 32 ++ flatW ps ∧ ps.map (·.1) = (ws.take j).map TL.tl ∧ (∀ p ∈ ps, p.2 ≤ 2) ∧ But d H G ∧ DrawAt G d (t + 1 + j))
      ⟨_, [], _, rfl, by rw [e0]; simp [flatW], by simp, (fun _ h => by cases h), u1, by simpa using D1⟩ (fun j σ G _ h => by obtain ⟨_, _, _, _, _, _, _, u, _⟩ := h; exact SqL.of (u _ _ (D.ne hl fun _ z => by cases z) hl)) ?_ ?_
    · rintro j x σ G G' hj ⟨z, ps, v3, rfl, ez, em, le2, u2, D2⟩ ⟨rfl, fx⟩
      obtain ⟨y, hy, rfl⟩ := getD_map fx
      have j10 : j < 10 := Nat.lt_of_lt_of_le (List.getElem?_eq_some_iff.mp hy).1 lw
      have ln : ∀ p ∈ ps, p.1.length ≤ 9 ∧ p.2 ≤ 2 := fun p hp => by
        refine ⟨?_, le2 p hp⟩
        have : p.1 ∈ (ws.take j).map TL.tl := by rw [← em]; exact List.mem_map_of_mem hp
        obtain ⟨w0, hw0, e⟩ := List.mem_map.mp this
        rw [← e, ← TL.len_tl]
        exact (W w0 (List.mem_of_mem_take hw0)).len
      have pl : ps.length ≤ j := by
        have := congrArg List.length em
        rw [List.length_map, List.length_map, List.length_take] at this
        omega
      have fl := flat_len ln
      have lz : z.length ≤ 3 + 12 * j := by
        rw [TL.len_tl, ez, List.length_append, List.length_replicate]
        omega
      have wy := W y (List.mem_of_getElem? hy)
      have ly := wy.len
      have ap : (z ++ y).length = z.length + y.length := app_len _ _
      refine ⟨_, rfl, _, rfl, z, y, rfl, rfl, by rw [sizeLine_eq]; omega, by show 4 ≤ sizeLine; decide, fun p1 n1 => ?_⟩
      have s1 := same_upd (o := .lst (gaps.map V.int)) n1
      have h1 : upd G' p1 (.lst (gaps.map V.int)) p1 = some (.lst (gaps.map V.int)) := upd_same
      have D3 := D2.same s1
      refine ⟨_, rfl, d, _, 4, rfl, D3, by omega, by omega, by decide, by decide, fun v G3 v0 v4 u3 D4 => ?_⟩
      obtain ⟨k, hk, ek⟩ := at_of (l := gaps) (f := V.int) v0 v4
      have k2 : k = 0 ∨ k = 2 := by simp [gaps] at hk; omega
      refine ⟨p1, _, v, .int k, rfl, rfl, SqL.of (u3 _ _ (D3.ne h1 fun _ z => by cases z) h1), ek, 1, k, rfl, rfl, _, 1 + k, rfl, rfl, blank_mulOk (1 + k) (by simp; omega), ?_⟩
      have e1 := blank_mul (1 + k) (by simp; omega)
      have lb : (Txt.mul " " (1 + k)).length ≤ 3 := by rw [TL.len_tl, e1, List.length_replicate]; omega
      refine ⟨z ++ y, _, rfl, rfl, by rw [sizeLine_eq]; omega, ?_⟩
      refine ⟨_, ps ++ [(TL.tl y, k.toNat)], _, rfl, ?_, ?_, fun p hp => ?_, (u2.trans (But.same s1)).trans u3, by rw [show t + 1 + ((j + 1 : Nat) : Int) = t + 1 + (j : Int) + 1 by omega]; exact D4⟩
      · rw [TL.tl_append, TL.tl_append, ez, e1, flatW_snoc, show (1 + k).toNat = k.toNat + 1 by omega]
        simp only [List.append_assoc]
      · rw [List.map_append, em, List.take_add_one, hy]
        simp
      · rcases List.mem_append.mp hp with h | h
        · exact le2 p h
        · rw [List.mem_singleton.mp h]
          show k.toNat ≤ 2
          omega
    · rintro σ G ⟨z, ps, v3, rfl, ez, em, le2, u2, D2⟩
      rw [List.length_map] at *
      rw [List.take_length] at em
      have al : ∀ p ∈ ps, ∃ w0 ∈ ws, p.1 = TL.tl w0 := fun p hp => by
        have : p.1 ∈ ws.map TL.tl := by rw [← em]; exact List.mem_map_of_mem hp
        obtain ⟨w0, hw0, e⟩ := List.mem_map.mp this
        exact ⟨w0, hw0, e.symm⟩
      have nf := neL_flat (ps := ps) fun p hp => by
        obtain ⟨w0, hw0, e⟩ := al p hp
        rw [e]
        exact ⟨fun h => (W w0 hw0).ne (TL.ext_tl (by rw [h]; decide +kernel)), (W w0 hw0).no32⟩
      have cz : neL (TL.spl [32] 0 [] (TL.tl z)) = ws.map TL.tl := by rw [ez, neL_lead, nf, em]
      have pl : ps.length ≤ 10 := by
        have := congrArg List.length em
        rw [List.length_map, List.length_map] at this
        omega
      have fl := flat_len (ps := ps) fun p hp => by
        obtain ⟨w0, hw0, e⟩ := al p hp
        exact ⟨by rw [e, ← TL.len_tl]; exact (W w0 hw0).len, le2 p hp⟩
      have lz : z.length ≤ 200 := by
        rw [TL.len_tl, ez, List.length_append, List.length_replicate]
        omega
      have lj : (ws.length : Int) ≤ 10 := by omega
      refine ⟨_, rfl, d, _, 2, rfl, D2, by omega, by omega, by decide, by decide, fun v G3 v0 v2 u3 D4 => ⟨rfl, _, rfl, ite2 (fun _ => ?_) (fun _ => ?_)⟩⟩
      · exact ⟨_, rfl, fin z G3 _ (wordsOf_eq cz) (by omega) (u2.trans u3) D4 (by omega) (by omega)⟩
      · obtain ⟨m, em2⟩ := rstrip_is z
        refine ⟨_, rfl, ⟨z, rfl⟩, z, " ", rfl, rfl, by rw [sizeLine_eq]; omega, fin _ G3 _ (wordsOf_eq ?_) ?_ (u2.trans u3) D4 (by omega) (by omega)⟩
        · rw [← cz, em2, neL_tail]
        · have := congrArg List.length em2
          rw [List.length_append, ← TL.len_tl, ← TL.len_tl] at this
          omega
end
end Pk
namespace Pk
open PySem L2
/-! ### words bent -/
theorem cut_strs (ws : List Str) (lo hi : Option Int) : ∃ vs : List Str, cutV (ws.map V.str) lo hi = vs.map V.str ∧ (∀ v ∈ vs, v ∈ ws) ∧ vs.length ≤ ws.length := by
  unfold cutV
  refine ⟨(ws.drop (HT.sIx (ws.map V.str).length 0 lo)).take (HT.sIx (ws.map V.str).length (ws.map V.str).length hi - HT.sIx (ws.map V.str).length 0 lo), by rw [List.map_take, List.map_drop], fun v hv => List.mem_of_mem_drop (List.mem_of_mem_take hv), ?_⟩
  rw [List.length_take, List.length_drop]
  omega
theorem cut_one {L : List V} {i : Int} (i0 : 0 ≤ i) (h : i + 1 ≤ L.length) : (cutV L (some i) (some (i + 1))).length ≤ 1 := by
  unfold cutV
  rw [List.length_take]
  obtain ⟨k, rfl⟩ := Int.eq_ofNat_of_zero_le i0
  have e1 : HT.sIx L.length 0 (some (k : Int)) = min k L.length := HT.sIx_nat _ _ _
  have e2 : HT.sIx L.length L.length (some ((k : Int) + 1)) = min (k + 1) L.length := HT.sIx_nat L.length L.length (k + 1)
  rw [e1, e2]
  omega
def odds13 : List Str := ["00", "01", "1000", "-1", "+1", "1.0", "sum", "A", "0", "999", "abcdefghi", "many", "rest"]
def odds3 : List Str := ["with", "x", "5\n"]
theorem odds_in : ∀ z ∈ odds13 ++ odds3, z ∈ odd16 := by decide +kernel
def spBent : Sp := fun vs H Q _ => ∃ (d l : Addr) (t : Int) (ws : List Str), vs = [.ref d, .ref l] ∧ DrawAt H d t ∧ 0 ≤ t ∧ t ≤ 60000 ∧ H l = some (.lst (ws.map V.str)) ∧ 1 ≤ ws.length ∧ ws.length ≤ 9 ∧ (∀ v ∈ ws, Wd v) ∧
  ∀ (l' : Addr) (ws' : List Str) (H' : Hp), H' l' = some (.lst (ws'.map V.str)) → (∀ v ∈ ws', Wd v) → ws.length ≤ ws'.length + 1 → ws'.length ≤ ws.length + 1 → But d H H' → DrawAt H' d (t + 1 + 1 + 1) → Q (.ref l') H'
section
variable {P : Program} {w : World} {K : PySem.W.Frag} {mg : Str → Option Value} {base : Heap}
abbrev NBent : List Str := ["_law_draw", "_law_words_here", "_law_way", "_law_at", "_law_some", "_law_odd"]
theorem scBent : FnScope NBent ["_law_draw", "_law_words_here"] (defScope sBent) := ⟨rfl, rfl, rfl, by decide +kernel, rfl, by decide +kernel, by decide +kernel⟩
theorem ok_bent {f fT : Addr} {fd fdT : FuncData} (F : Fun K "_law_bent" "_law_bent" sBent f fd) (ml : mg "len" = none)
    (GT : FnOk P w K mg base CX0 1 fT fdT ["_law_draw", "_law_many"] spTake) (kT : PySem.W.keepIn K (.ref fT) = true) (bT : Binds K fdT ["_law_draw", "_law_many"] []) (gT : mg "_law_take" = some (.ref fT)) :
    FnOk P w K mg base CX0 2 f fd ["_law_draw", "_law_words_here"] spBent := by
  refine F.ok scBent (fun vs H Q E h => ?_) (fun cdv A outer s H vs Q E hr h => ?_)
  · obtain ⟨d, l, t, ws, rfl, _⟩ := h
    rfl
  · obtain ⟨d, l, t, ws, rfl, D, t0, t1, hl, lo1, lw, W, fin⟩ := h
    refine ⟨_, pss_cons (ps_par (i := 2) (j := 3) (by rfl) scBent.nd rfl rfl (by decide) rfl rfl (pa_cons (pe_call GT hr (by rfl) gT kT bT .nil pass0 (pa_cons (pv 0) (pa_cons pe_int pa_nil))) (pa_cons (pe_call GT hr (by rfl) gT kT bT .nil pass0 (pa_cons (pv 0) (pa_cons (pe_callB call_len_seq (by rfl) ml PySem.boot_len (pa_cons (pv 1) pa_nil)) pa_nil))) pa_nil)) (by rfl))
      (pss_cons (ps_set (i := 4) scBent.nd rfl (.inl rfl) (pe_lst (pa_cons pe_str (pa_cons pe_str (pa_cons pe_str (pa_cons pe_str (pa_cons pe_str (pa_cons pe_str (pa_cons pe_str (pa_cons pe_str (pa_cons pe_str (pa_cons pe_str (pa_cons pe_str (pa_cons pe_str (pa_cons pe_str pa_nil)))))))))))))))
      (pss_cons (ps_set (i := 4) scBent.nd rfl (.inl rfl) (pe_op op_cat (pv 4) (pe_lst (pa_cons pe_str (pa_cons pe_str (pa_cons pe_str pa_nil))))))
      (pss_cons (ps_set (i := 5) scBent.nd rfl (.inl rfl) (pe_ix ix_list (pv 4) (pe_call GT hr (by rfl) gT kT bT .nil pass0 (pa_cons (pv 0) (pa_cons pe_int pa_nil))) (fun _ _ => rfl)))
      (pss_cons (ps_if (pt_cmpR op_eq (pv 2) pe_int (nomark _)) (pss_one (ps_ret (pe_op op_cat (pe_slice sl_list (pv 1) po_none (po_some (pv 3))) (pe_slice sl_list (pv 1) (po_some (pe_op op_add (pv 3) pe_int)) po_none)))) pss_nil)
      (pss_cons (ps_if (pt_cmpR op_eq (pv 2) pe_int (nomark _)) (pss_one (ps_ret (pe_op op_cat (pe_op op_cat (pe_slice sl_list (pv 1) po_none (po_some (pv 3))) (pe_lst (pa_cons (pv 5) pa_nil))) (pe_slice sl_list (pv 1) (po_some (pv 3)) po_none)))) pss_nil)
      (pss_cons (ps_if (pt_cmpR op_eq (pv 2) pe_int (nomark _)) (pss_one (ps_ret (pe_op op_cat (pe_op op_cat (pe_slice sl_list (pv 1) po_none (po_some (pv 3))) (pe_slice sl_list (pv 1) (po_some (pv 3)) (po_some (pe_op op_add (pv 3) pe_int)))) (pe_slice sl_list (pv 1) (po_some (pv 3)) po_none)))) pss_nil)
      (pss_cons (ps_if (pt_cmpR op_eq (pv 2) pe_int (nomark _)) (pss_one (ps_ret (pe_revL (pv 1)))) pss_nil)
      (pss_one (ps_ret (pe_op op_cat (pe_op op_cat (pe_slice sl_list (pv 1) po_none (po_some (pv 3))) (pe_lst (pa_cons (pv 5) pa_nil))) (pe_slice sl_list (pv 1) (po_some (pe_op op_add (pv 3) pe_int)) po_none))))))))))), ?_⟩
    refine ⟨_, rfl, d, t, 6, rfl, D, t0, by omega, by decide, by decide, fun way H1 a0 a6 u1 D1 => ?_⟩
    have hl1 := u1 _ _ (D.ne hl fun _ z => by cases z) hl
    refine ⟨_, rfl, _, rfl, l, _, rfl, .inl (SqL.of hl1), d, _, _, rfl, D1, by omega, by omega, by rw [List.length_map]; omega, by rw [List.length_map]; omega, fun at_ H2 i0 i1 u2 D2 => ⟨_, _, rfl, ?_⟩⟩
    rw [List.length_map] at i1
    have hl2 := u2 _ _ (D1.ne hl1 fun _ z => by cases z) hl1
    refine ⟨by show 13 ≤ sizeLine; decide, fun p1 n1 => ⟨_, rfl, by show 3 ≤ sizeLine; decide, fun p2 n2 => ⟨p1, p2, odds13.map V.str, odds3.map V.str, rfl, rfl, same_upd n2 _ _ upd_same, upd_same, by show 16 ≤ sizeLine; decide, fun p3 n3 => ?_⟩⟩⟩
    have s3 := ((same_upd (o := .lst (odds13.map V.str)) n1).trans (same_upd (o := .lst (odds3.map V.str)) n2)).trans (same_upd (o := .lst (odds13.map V.str ++ odds3.map V.str)) n3)
    have h3 : upd (upd (upd H2 p1 (.lst (odds13.map V.str))) p2 (.lst (odds3.map V.str))) p3 (.lst (odds13.map V.str ++ odds3.map V.str)) p3 = some (.lst ((odds13 ++ odds3).map V.str)) := by
      rw [upd_same, List.map_append]
    have D3 := D2.same s3
    have hl3 := s3 _ _ hl2
    dsimp only [gName]
    show tSeq _ _ _ _ (upd (upd (upd H2 p1 (.lst (odds13.map V.str))) p2 (.lst (odds3.map V.str))) p3 (.lst (odds13.map V.str ++ odds3.map V.str)))
    generalize upd (upd (upd H2 p1 (.lst (odds13.map V.str))) p2 (.lst (odds3.map V.str))) p3 (.lst (odds13.map V.str ++ odds3.map V.str)) = H3 at s3 h3 D3 hl3 ⊢
    refine ⟨_, rfl, _, rfl, d, _, 16, rfl, D3, by omega, by omega, by decide, by decide, fun v H4 v0 v16 u4 D4 => ?_⟩
    obtain ⟨y, my, hy⟩ := at_of (l := odds13 ++ odds3) (f := V.str) v0 v16
    have wy : Wd y := wd_odd (odds_in y my)
    refine ⟨p3, _, v, .str y, rfl, rfl, SqL.of (u4 _ _ (D3.ne h3 fun _ z => by cases z) h3), hy, ?_⟩
    have hl4 := u4 _ _ (D3.ne hl3 fun _ z => by cases z) hl3
    have uA := ((u1.trans u2).trans (But.same s3)).trans u4
    clear u1 u2 s3 u4 D1 D2 D3 hl1 hl2 hl3 h3
    -- what is told
    have out : ∀ (p : Addr) (L : List V) (vs : List Str) (H' : Hp), L = vs.map V.str → (∀ v ∈ vs, v ∈ ws ∨ v = y) → ws.length ≤ vs.length + 1 → vs.length ≤ ws.length + 1 → Same H4 H' → H' p = some (.lst L) → Q (.ref p) H' := fun p L vs H' e m a b s' hp =>
      fin p vs H' (by rw [hp, e]) (fun v hv => (m v hv).elim (W v) (fun e => by rw [e]; exact wy)) a b (uA.trans (But.same s')) (D4.same s')
    have lM : (ws.map V.str).length = ws.length := List.length_map _
    have c1 : cutV (ws.map V.str) none (some at_) = (ws.take at_.toNat).map V.str := by rw [cut_lo i0, List.map_take]
    have c2 : cutV (ws.map V.str) (some at_) none = (ws.drop at_.toNat).map V.str := by rw [cut_hi i0, List.map_drop]
    have c3 : cutV (ws.map V.str) (some (at_ + 1)) none = (ws.drop (at_.toNat + 1)).map V.str := by rw [cut_hi (by omega), List.map_drop, show (at_ + 1).toNat = at_.toNat + 1 by omega]
    have b1 := cutV_length (ws.map V.str) none (some at_)
    have b2 := cutV_length (ws.map V.str) (some at_) none
    have b3 := cutV_length (ws.map V.str) (some (at_ + 1)) none
    have b4 := cutV_length (ws.map V.str) (some at_) (some (at_ + 1))
    rw [lM] at b1 b2 b3 b4
    refine ⟨_, rfl, rfl, _, rfl, ite2 (fun _ => ?_) (fun _ => ⟨_, rfl, rfl, _, rfl, ite2 (fun _ => ?_) (fun _ => ⟨_, rfl, rfl, _, rfl, ite2 (fun _ => ?_) (fun _ => ⟨_, rfl, rfl, _, rfl, ite2 (fun _ => ?_) (fun _ => ?_)⟩)⟩)⟩)⟩
    · refine ⟨_, rfl, _, rfl, at_, rfl, l, _, rfl, SqL.of hl4, fun q1 m1 => ?_⟩
      have s1 := same_upd (o := .lst (cutV (ws.map V.str) none (some at_))) m1
      refine ⟨_, rfl, _, rfl, at_, 1, rfl, rfl, _, rfl, l, _, rfl, SqL.of (s1 _ _ hl4), fun q2 m2 => ?_⟩
      have s2 := same_upd (o := .lst (cutV (ws.map V.str) (some (at_ + 1)) none)) m2
      refine ⟨q1, q2, _, _, rfl, rfl, s2 _ _ upd_same, upd_same, by rw [sizeLine_eq]; omega, fun q3 m3 => ?_⟩
      refine out q3 _ (ws.take at_.toNat ++ ws.drop (at_.toNat + 1)) _ (by rw [c1, c3, List.map_append]) (fun v hv => .inl ?_) ?_ ?_ ((s1.trans s2).trans (same_upd m3)) upd_same
      · rcases List.mem_append.mp hv with h | h
        · exact List.mem_of_mem_take h
        · exact List.mem_of_mem_drop h
      · rw [List.length_append, List.length_take, List.length_drop]; omega
      · rw [List.length_append, List.length_take, List.length_drop]; omega
    · refine ⟨_, rfl, _, rfl, at_, rfl, l, _, rfl, SqL.of hl4, fun q1 m1 => ⟨_, rfl, by show 1 ≤ sizeLine; decide, fun q2 m2 => ?_⟩⟩
      have s1 := same_upd (o := .lst (cutV (ws.map V.str) none (some at_))) m1
      have s2 := same_upd (o := .lst [.str y]) m2
      refine ⟨q1, q2, _, _, rfl, rfl, s2 _ _ upd_same, upd_same, by rw [sizeLine_eq]; show _ + 1 ≤ _; omega, fun q3 m3 => ?_⟩
      have s3 := same_upd (o := .lst (cutV (ws.map V.str) none (some at_) ++ [.str y])) m3
      refine ⟨_, rfl, _, rfl, at_, rfl, l, _, rfl, SqL.of (s3 _ _ (s2 _ _ (s1 _ _ hl4))), fun q4 m4 => ?_⟩
      have s4 := same_upd (o := .lst (cutV (ws.map V.str) (some at_) none)) m4
      refine ⟨q3, q4, _, _, rfl, rfl, s4 _ _ upd_same, upd_same, by rw [sizeLine_eq, List.length_append]; show _ + 1 + _ ≤ _; omega, fun q5 m5 => ?_⟩
      refine out q5 _ (ws.take at_.toNat ++ [y] ++ ws.drop at_.toNat) _ (by rw [c1, c2, List.map_append, List.map_append]; rfl) (fun v hv => ?_) ?_ ?_ ((((s1.trans s2).trans s3).trans s4).trans (same_upd m5)) upd_same
      · rcases List.mem_append.mp hv with h | h
        · rcases List.mem_append.mp h with h | h
          · exact .inl (List.mem_of_mem_take h)
          · exact .inr (List.mem_singleton.mp h)
        · exact .inl (List.mem_of_mem_drop h)
      · rw [List.length_append, List.length_append, List.length_take, List.length_drop]; show _ ≤ _ + 1 + _ + 1; omega
      · rw [List.length_append, List.length_append, List.length_take, List.length_drop]; show _ + 1 + _ ≤ _; omega
    · obtain ⟨mid, em, hm, _⟩ := cut_strs ws (some at_) (some (at_ + 1))
      have lm : mid.length ≤ 1 := by
        have := cut_one (L := ws.map V.str) i0 (by rw [lM]; omega)
        rw [em, List.length_map] at this
        exact this
      refine ⟨_, rfl, _, rfl, at_, rfl, l, _, rfl, SqL.of hl4, fun q1 m1 => ?_⟩
      have s1 := same_upd (o := .lst (cutV (ws.map V.str) none (some at_))) m1
      refine ⟨_, rfl, _, rfl, at_, rfl, _, rfl, at_, 1, rfl, rfl, _, rfl, l, _, rfl, SqL.of (s1 _ _ hl4), fun q2 m2 => ?_⟩
      have s2 := same_upd (o := .lst (cutV (ws.map V.str) (some at_) (some (at_ + 1)))) m2
      refine ⟨q1, q2, _, _, rfl, rfl, s2 _ _ upd_same, upd_same, by rw [sizeLine_eq]; omega, fun q3 m3 => ?_⟩
      have s3 := same_upd (o := .lst (cutV (ws.map V.str) none (some at_) ++ cutV (ws.map V.str) (some at_) (some (at_ + 1)))) m3
      refine ⟨_, rfl, _, rfl, at_, rfl, l, _, rfl, SqL.of (s3 _ _ (s2 _ _ (s1 _ _ hl4))), fun q4 m4 => ?_⟩
      have s4 := same_upd (o := .lst (cutV (ws.map V.str) (some at_) none)) m4
      refine ⟨q3, q4, _, _, rfl, rfl, s4 _ _ upd_same, upd_same, by rw [sizeLine_eq, List.length_append]; omega, fun q5 m5 => ?_⟩
      refine out q5 _ (ws.take at_.toNat ++ mid ++ ws.drop at_.toNat) _ (by rw [c1, c2, em, List.map_append, List.map_append]) (fun v hv => .inl ?_) ?_ ?_ ((((s1.trans s2).trans s3).trans s4).trans (same_upd m5)) upd_same
      · rcases List.mem_append.mp hv with h | h
        · rcases List.mem_append.mp h with h | h
          · exact List.mem_of_mem_take h
          · exact hm v h
        · exact List.mem_of_mem_drop h
      · rw [List.length_append, List.length_append, List.length_take, List.length_drop]; omega
      · rw [List.length_append, List.length_append, List.length_take, List.length_drop]; omega
    · refine ⟨_, rfl, l, _, rfl, SqL.of hl4, fun q1 m1 => ?_⟩
      refine out q1 _ ws.reverse _ (by rw [List.map_reverse]) (fun v hv => .inl (List.mem_reverse.mp hv)) (by rw [List.length_reverse]; omega) (by rw [List.length_reverse]; omega) (same_upd m1) upd_same
    · refine ⟨_, rfl, _, rfl, at_, rfl, l, _, rfl, SqL.of hl4, fun q1 m1 => ⟨_, rfl, by show 1 ≤ sizeLine; decide, fun q2 m2 => ?_⟩⟩
      have s1 := same_upd (o := .lst (cutV (ws.map V.str) none (some at_))) m1
      have s2 := same_upd (o := .lst [.str y]) m2
      refine ⟨q1, q2, _, _, rfl, rfl, s2 _ _ upd_same, upd_same, by rw [sizeLine_eq]; show _ + 1 ≤ _; omega, fun q3 m3 => ?_⟩
      have s3 := same_upd (o := .lst (cutV (ws.map V.str) none (some at_) ++ [.str y])) m3
      refine ⟨_, rfl, _, rfl, at_, 1, rfl, rfl, _, rfl, l, _, rfl, SqL.of (s3 _ _ (s2 _ _ (s1 _ _ hl4))), fun q4 m4 => ?_⟩
      have s4 := same_upd (o := .lst (cutV (ws.map V.str) (some (at_ + 1)) none)) m4
      refine ⟨q3, q4, _, _, rfl, rfl, s4 _ _ upd_same, upd_same, by rw [sizeLine_eq, List.length_append]; show _ + 1 + _ ≤ _; omega, fun q5 m5 => ?_⟩
      refine out q5 _ (ws.take at_.toNat ++ [y] ++ ws.drop (at_.toNat + 1)) _ (by rw [c1, c3, List.map_append, List.map_append]; rfl) (fun v hv => ?_) ?_ ?_ ((((s1.trans s2).trans s3).trans s4).trans (same_upd m5)) upd_same
      · rcases List.mem_append.mp hv with h | h
        · rcases List.mem_append.mp h with h | h
          · exact .inl (List.mem_of_mem_take h)
          · exact .inr (List.mem_singleton.mp h)
        · exact .inl (List.mem_of_mem_drop h)
      · rw [List.length_append, List.length_append, List.length_take, List.length_drop]; show _ ≤ _ + 1 + _ + 1; omega
      · rw [List.length_append, List.length_append, List.length_take, List.length_drop]; show _ + 1 + _ ≤ _; omega
end
end Pk
namespace Pk
open PySem L2
/-! ### what is due to a list of words -/
def oddSigns (z : Str) : List Nat := z.cps.toList.filter fun c => !decide (c ∈ letters.cps.toList)
theorem name_is {z : Str} (h8 : z.length ≤ 8) (hs : oddSigns z = []) : nameT z = !decide (z = "") := by
  rw [name_filter]
  have e3 : decide (z.cps.toList.filter (fun c => !decide (c ∈ letters.cps.toList)) = []) = true := decide_eq_true hs
  rw [e3, decide_eq_true (show z.length < 9 by omega)]
  by_cases h : z = ""
  · rw [decide_eq_true h, h]
    decide +kernel
  · rw [decide_eq_false h]
    have : 0 < z.length := by
      apply Decidable.byContradiction
      intro hn
      exact h (TL.ext_tl (by rw [empty_tl]; exact List.length_eq_zero_iff.mp (by rw [← TL.len_tl]; omega)))
    rw [decide_eq_true this]
    rfl
theorem name_not8 {z : Str} (h8 : ¬ z.length ≤ 8) : nameT z = false ∧ z ≠ "" := by
  constructor
  · unfold nameT
    rw [decide_eq_false h8, Bool.and_false, Bool.false_and]
  · intro e
    rw [e] at h8
    exact h8 (by decide +kernel)
theorem name_notS {z : Str} (hs : oddSigns z ≠ []) : nameT z = false ∧ z ≠ "" := by
  constructor
  · rw [name_filter]
    have e3 : decide (z.cps.toList.filter (fun c => !decide (c ∈ letters.cps.toList)) = []) = false := decide_eq_false hs
    rw [e3, Bool.and_false, Bool.and_false]
  · intro e
    rw [e] at hs
    exact hs (by decide +kernel)
theorem can_not {wd z : Str} (h : nameT z = false ∧ z ≠ "") : canV (.str wd) (.str z) = false := by
  unfold canV
  split
  · exact h.1
  · split
    · exact decide_eq_false fun e => h.2 (V.str.inj e)
    · show (nameT z || decide (V.str z = .str "")) = false
      rw [h.1, decide_eq_false fun e => h.2 (V.str.inj e)]
      rfl
def badW (wd z : Str) : Bool := (decide (z = "") && decide (wd = "with")) || (!decide (z = "") && decide (wd = "rest"))
theorem can_is {wd z : Str} (h8 : z.length ≤ 8) (hs : oddSigns z = []) : canV (.str wd) (.str z) = !badW wd z := by
  have n := name_is h8 hs
  unfold canV badW
  by_cases h1 : wd = "with"
  · subst h1
    rw [if_pos rfl]
    show nameT z = _
    rw [n]
    cases decide (z = "") <;> rfl
  · rw [if_neg (fun e => h1 (V.str.inj e))]
    by_cases h2 : wd = "rest"
    · subst h2
      rw [if_pos rfl]
      have e : decide (V.str z = .str "") = decide (z = "") := decide_eq_decide.mpr ⟨fun e => V.str.inj e, fun e => by rw [e]⟩
      rw [e]
      cases decide (z = "") <;> rfl
    · rw [if_neg (fun e => h2 (V.str.inj e))]
      show (nameT z || decide (V.str z = .str "")) = _
      have e : decide (V.str z = .str "") = decide (z = "") := decide_eq_decide.mpr ⟨fun e => V.str.inj e, fun e => by rw [e]⟩
      rw [n, e, decide_eq_false h1, decide_eq_false h2]
      cases decide (z = "") <;> rfl
def tSigns : TT := fun σ H Q => ∃ z : Str, σ[2]? = some (some (.str z)) ∧ σ[1]? = some (some (.str letters)) ∧ σ.length = 6 ∧ z.length ≤ 1000 ∧ Sgn z ∧ ∀ H', Same H H' → Q (!decide (oddSigns z = [])) H'
def tBadWT : TT := fun σ H Q => ∃ (l : Addr) (xs : List V) (z y : Str), σ[0]? = some (some (.ref l)) ∧ H l = some (.lst xs) ∧ atI xs 0 = some (.str z) ∧ σ[2]? = some (some (.str y)) ∧ Q (badW z y) H
def tNums : TE := fun σ H Q => σ.length = 6 ∧ ∀ (D : Addr) (H' : Hp), Same H H' → H' D = some (.lst (nums.map V.str)) → Q (.ref D) H'
def tOwnW : TE := fun σ H Q => ∃ (l : Addr) (ws : List Str) (b : Str), σ[0]? = some (some (.ref l)) ∧ H l = some (.lst (ws.map V.str)) ∧ ((ws.length = 3 ∧ b = "") ∨ (ws.length = 4 ∧ atI (ws.map V.str) 1 = some (.str b))) ∧ Q (.str b) H
def spDue : Sp := fun vs H Q _ => ∃ (l : Addr) (ws : List Str), vs = [.ref l] ∧ H l = some (.lst (ws.map V.str)) ∧ ws.length ≤ 12 ∧ (∀ v ∈ ws, Wd v) ∧
  (wrongP (partsT ws) ≠ "" → ∀ H', Same H H' → Q (.str (wrongP (partsT ws))) H') ∧ (∀ p, partsT ws = some p → wrongP (some p) = "" → ∀ (r : Addr) (H' : Hp), Same H H' → H' r = some (.lst (wV (wishP p))) → Q (.ref r) H')
theorem nums_flat : (nums.map V.str).all flatV = true := by
  rw [List.all_eq_true]
  intro v hv
  obtain ⟨z, _, rfl⟩ := List.mem_map.mp hv
  rfl
theorem in_nums (z : Str) : inV (.str z) (nums.map V.str) = decide (z ∈ nums) := in_strs
/-- what stands at 0, -2, -1 -/
theorem parts_at {ws : List Str} {a b c d : Str} (h : partsT ws = some (a, b, c, d)) : atI (ws.map V.str) 0 = some (.str a) ∧ atI (ws.map V.str) (-2) = some (.str c) ∧ atI (ws.map V.str) (-1) = some (.str d) ∧ ((ws.length = 3 ∧ b = "") ∨ (ws.length = 4 ∧ atI (ws.map V.str) 1 = some (.str b))) ∧ a ∈ ws ∧ c ∈ ws ∧ d ∈ ws ∧ (b = "" ∨ b ∈ ws) := by
  match ws, h with
  | [a, c, d], h =>
    cases h
    exact ⟨rfl, rfl, rfl, .inl ⟨rfl, rfl⟩, by simp, by simp, by simp, .inl rfl⟩
  | [a, b, c, d], h =>
    cases h
    exact ⟨rfl, rfl, rfl, .inr ⟨rfl, rfl⟩, by simp, by simp, by simp, .inr (by simp)⟩
section
variable {P : Program} {w : World} {K : PySem.W.Frag} {mg : Str → Option Value} {base : Heap}
abbrev NDue : List Str := ["_law_words_here", "_law_letters", "_law_own_what", "_law_numbers", "_law_sign", "_law_number"]
theorem scDue : FnScope NDue ["_law_words_here"] (defScope sDue) := ⟨rfl, rfl, rfl, by decide +kernel, rfl, by decide +kernel, by decide +kernel⟩
theorem ok_due {f : Addr} {fd : FuncData} (F : Fun K "_law_due" "_law_due" sDue f fd) (ms : mg "str" = none) (ml : mg "len" = none) (mn : mg "int" = none) (mr : mg "range" = none) :
    FnOk P w K mg base CX0 1 f fd ["_law_words_here"] spDue := by
  refine F.ok scDue (fun vs H Q E h => ?_) (fun cdv A outer s H vs Q E hr h => ?_)
  · obtain ⟨l, ws, rfl, _⟩ := h
    rfl
  · obtain ⟨l, ws, rfl, hl, lw, W, bad, fin⟩ := h
    have hu64 : _ + 64 < cLine := Nat.lt_of_le_of_lt (Nat.add_le_add_left (by decide) _) (room_show hr)
    refine ⟨_, pss_cons (ps_set (i := 1) scDue.nd rfl (.inr rfl) pe_str)
      (pss_cons (ps_if (PW.pt (pw_or (pt_cmpR op_notIn_seq (pe_callB call_len_seq (by rfl) ml PySem.boot_len (pa_cons (pv 0) pa_nil)) (pe_tup (pa_cons pe_int (pa_cons pe_int pa_nil))) (by rfl)) (pw_or1 (pt_cmpR op_notIn_seq (pe_ix ix_list (pv 0) pe_int (fun _ _ => rfl)) (pe_tup (pa_cons pe_str (pa_cons pe_str (pa_cons pe_str (pa_cons pe_str (pa_cons pe_str (pa_cons pe_str pa_nil))))))) (by rfl))))) (pss_one (ps_ret pe_str)) pss_nil)
      (pss_cons (ps_set (i := 2) scDue.nd rfl (.inl rfl) (pe_imp tOwnW (pe_ifExp (pt_cmpR op_eq (pe_callB call_len_seq (by rfl) ml PySem.boot_len (pa_cons (pv 0) pa_nil)) pe_int (nomark _)) (pe_ix ix_list (pv 0) pe_int (fun _ _ => rfl)) pe_str) (by
          rintro σ H Q ⟨l, ws, b, e0, hl, h, q⟩
          refine ⟨_, e0, l, _, rfl, .inl (SqL.of hl), rfl, _, rfl, ?_⟩
          rw [List.length_map]
          rcases h with ⟨h3, rfl⟩ | ⟨h4, a1⟩
          · exact iteF' (by simp [h3]) q
          · exact iteT' (by simp [h4]) ⟨_, e0, l, _, 1, .str b, rfl, rfl, SqL.of hl, a1, q⟩)))
      (pss_cons (ps_if (PW.pt (pw_or (pt_cmpR op_gt (pe_callB call_len_str (by rfl) ml PySem.boot_len (pa_cons (pv 2) pa_nil)) pe_int (nomark _)) (pw_or1 (pt_imp tSigns (pt_cmpR (op_neD hu64) (pe_lc (own := [("_law_sign", 4)]) (g := gName 4) rfl scDue.nd (pi_str (pv 2)) (blkOk_by (N := NDue) (sc := defScope sDue) (by decide +kernel))
            (fun _ _ _ _ _ => pg_name (i := 4) scDue.nd rfl (Or.inl rfl)) (fun _ _ _ _ _ => pts_one (pt_cmpR op_notIn_sign (pv 4) (pv 1) (by rfl))) (fun _ _ _ _ _ => pv 4)) (pe_lst pa_nil) (nomark _)) (by
          rintro σ H Q ⟨z, e2, e5, hn, hl, ho, q⟩
          refine ⟨_, e2, z, rfl, fun D hD => ?_⟩
          refine lc_it walk_str (fun i H' => (∀ b o, b ≠ D → H b = some o → H' b = some o) ∧ H' D = some (.lst (((z.cps.toList.take i).filter (fun c => !decide (c ∈ letters.cps.toList))).map fun c => V.str ⟨#[c]⟩))) ⟨fun b o n e => by rw [upd_ne n]; exact e, upd_same⟩ (fun _ _ _ _ => trivial) ?_ ?_
          · rintro i y H1 H2 hi ⟨k, hd⟩ ⟨rfl, c, hc, rfl⟩
            have hc' : z.cps.toList[i]? = some c := by rw [Array.getElem?_toList]; exact hc
            have tk : z.cps.toList.take (i + 1) = z.cps.toList.take i ++ [c] := by
              rw [List.take_add_one, hc']
              rfl
            have a8 := set_at (σ := σ) (j := 4) (v := some (V.str ⟨#[c]⟩)) (by omega)
            have a5 : ((wipe σ [4]).set 4 (some (V.str ⟨#[c]⟩)))[1]? = some (some (.str letters)) := by
              rw [wipe1, List.set_set, List.getElem?_set_ne (by decide)]
              exact e5
            refine ⟨wipe_set, _, a8, _, a5, c, letters, rfl, rfl, _, rfl, ?_⟩
            cases hin : decide (c ∈ letters.cps.toList) with
            | true =>
              refine iteF ⟨k, ?_⟩
              rw [hd, tk, List.filter_append, List.filter_cons, if_neg (by rw [hin]; decide), List.filter_nil, List.append_nil]
            | false =>
              refine iteT ⟨_, a8, _, hd, ?_, fun b o n e => by rw [upd_ne n]; exact k b o n e, ?_⟩
              · rw [List.length_map]
                refine Nat.lt_of_le_of_lt (List.length_filter_le _ _) ?_
                rw [List.length_take, sizeLine_eq, ← len_is]
                omega
              · rw [upd_same, tk, List.filter_append, List.map_append, List.filter_cons, if_pos (by rw [hin]; rfl), List.filter_nil]
                rfl
          · rintro H1 ⟨k, hd⟩
            rw [List.take_of_length_le (by rw [Array.length_toList]; exact Nat.le_refl _)] at hd
            refine ⟨by show 0 ≤ sizeLine; decide, fun pe hpe => ?_⟩
            have se := same_upd (o := .lst []) hpe
            have okf : ∀ c ∈ oddSigns z, c < 0x110000 := fun c hc => ho.ok c (List.mem_filter.mp hc).1
            refine ⟨sgnD (oddSigns z), sgnD [], sgn_dp (se _ _ hd), sgn_dp (l := []) upd_same, sgn_shaped _ okf, sgn_shaped [] (fun c h => by cases h), _, rfl, ?_⟩
            rw [sgn_nil]
            exact q _ fun b o e => se _ _ (k b o (fun z => by rw [z, hD] at e; cases e) e)))))) (pss_one (ps_ret pe_str)) pss_nil)
      (pss_cons (ps_if (pt_imp tBadWT (PW.pt (pw_or (PW.pt (pw_and (pt_cmpR op_eq (pv 2) pe_str (nomark _)) (pw_and1 (pt_cmpR op_eq (pe_ix ix_list (pv 0) pe_int (fun _ _ => rfl)) pe_str (nomark _))))) (pw_or1 (PW.pt (pw_and (pt_cmpR op_ne (pv 2) pe_str (nomark _)) (pw_and1 (pt_cmpR op_eq (pe_ix ix_list (pv 0) pe_int (fun _ _ => rfl)) pe_str (nomark _)))))))) (by
          rintro σ H Q ⟨l, xs, z, y, e0, hl, a0, e2, q⟩
          unfold badW at q
          have c1 : decide (V.str y = V.str "") = decide (y = "") := decide_eq_decide.mpr ⟨fun e => V.str.inj e, fun e => by rw [e]⟩
          have c2 : decide (V.str z = V.str "with") = decide (z = "with") := decide_eq_decide.mpr ⟨fun e => V.str.inj e, fun e => by rw [e]⟩
          have c3 : decide (V.str z = V.str "rest") = decide (z = "rest") := decide_eq_decide.mpr ⟨fun e => V.str.inj e, fun e => by rw [e]⟩
          refine ⟨_, e2, rfl, _, rfl, ?_⟩
          rw [c1]
          cases h1 : decide (y = "") with
          | true =>
            rw [h1] at q
            refine iteT ⟨_, e0, l, _, 0, .str z, rfl, rfl, SqL.of hl, a0, rfl, _, rfl, ?_⟩
            rw [c2]
            cases h2 : decide (z = "with") with
            | true => rw [h2] at q; exact iteT q
            | false =>
              rw [h2] at q
              refine iteF ⟨_, e2, rfl, _, rfl, ?_⟩
              rw [c1, h1]
              exact iteF q
          | false =>
            rw [h1] at q
            refine iteF (iteF ⟨_, e2, rfl, _, rfl, ?_⟩)
            rw [c1, h1]
            refine iteT ⟨_, e0, l, _, 0, .str z, rfl, rfl, SqL.of hl, a0, rfl, _, rfl, ?_⟩
            rw [c3]
            exact q)) (pss_one (ps_ret pe_str)) pss_nil)
      (pss_cons (ps_imp (tAsg tNums (gName 3)) (ps_setLc (i := 3) (own := [("_law_number", 5)]) (g := gName 5) rfl scDue.nd rfl rfl (sw_true rfl rfl rfl (by decide +kernel)) (pi_range1 (by rfl) mr (pa_cons pe_int pa_nil)) (blkOk_by (N := NDue) (sc := defScope sDue) (by decide +kernel))
            (fun _ _ _ _ _ => pg_name (i := 5) scDue.nd rfl (Or.inl rfl)) (fun _ _ _ _ _ => pts_nil) (fun _ _ _ _ _ => pe_callTy call_str_int (by rfl) ms PyProof.Rows.boot_str (pa_cons (pv 5) pa_nil))) (by
          rintro Dn σ H ⟨hn, q⟩
          refine ⟨1000, rfl, by decide, by decide, fun D hD => ?_⟩
          refine lc_it walk_range (fun j G => (∀ b o, b ≠ D → H b = some o → G b = some o) ∧ G D = some (.lst (((List.range j).map fun n => numI (n : Nat)).map V.str))) ⟨fun b o n e => by rw [upd_ne n]; exact e, upd_same⟩ (fun _ _ _ _ => trivial) ?_ ?_
          · rintro j x G G' hj ⟨kp, hd⟩ ⟨rfl, rfl⟩
            have j1000 : j < 1000 := hj
            have a5 := set_at (σ := σ) (j := 5) (v := some (V.int (0 + (j : Int)))) (by omega)
            refine ⟨wipe_set, _, a5, _, rfl, mid_log (by omega) (by omega), _, hd, by rw [List.length_map, List.length_map, List.length_range, sizeLine_eq]; omega, fun b o n e => by rw [upd_ne n]; exact kp b o n e, ?_⟩
            rw [upd_same, List.range_succ, List.map_append, List.map_append, Int.zero_add]
            rfl
          · rintro G ⟨kp, hd⟩
            exact q D G (fun b o e => kp b o (fun z => by rw [z, hD] at e; cases e) e) hd))
      (pss_cons (ps_if (pt_cmpR op_notIn_seq (pe_ix ix_list (pv 0) (pe_un un_neg pe_int) (fun _ _ => rfl)) (pv 3) (by rfl)) (pss_one (ps_ret pe_str)) pss_nil)
      (pss_cons (ps_if (PW.pt (pw_or (pt_cmpR op_notIn_seq (pe_ix ix_list (pv 0) (pe_un un_neg pe_int) (fun _ _ => rfl)) (pv 3) (by rfl)) (pw_or1 (PW.pt (pw_and (pt_cmpR op_lt (pe_callTy call_int_str (by rfl) mn PyProof.Rows.boot_int (pa_cons (pe_ix ix_list (pv 0) (pe_un un_neg pe_int) (fun _ _ => rfl)) pa_nil)) (pe_callTy call_int_str (by rfl) mn PyProof.Rows.boot_int (pa_cons (pe_ix ix_list (pv 0) (pe_un un_neg pe_int) (fun _ _ => rfl)) pa_nil)) (nomark _)) (pw_and1 (pt_cmpR op_ne (pe_ix ix_list (pv 0) pe_int (fun _ _ => rfl)) pe_str (nomark _)))))))) (pss_one (ps_ret pe_str)) pss_nil)
      (pss_one (ps_ret (pe_lst (pa_cons (pe_ix ix_list (pv 0) pe_int (fun _ _ => rfl)) (pa_cons (pv 2) (pa_cons (pe_callTy call_int_str (by rfl) mn PyProof.Rows.boot_int (pa_cons (pe_ix ix_list (pv 0) (pe_un un_neg pe_int) (fun _ _ => rfl)) pa_nil)) (pa_cons (pe_callTy call_int_str (by rfl) mn PyProof.Rows.boot_int (pa_cons (pe_ix ix_list (pv 0) (pe_un un_neg pe_int) (fun _ _ => rfl)) pa_nil)) pa_nil)))))))))))))), ?_⟩
    have told : ∀ {z : Str}, wrongP (partsT ws) = z → z ≠ "" → ∀ {H' : Hp}, Same H H' → Q (.str z) H' := fun {z} e n {H'} s' => by
      have := bad (by rw [e]; exact n) H' s'
      rw [e] at this
      exact this
    have wn : ("word" : Str) ≠ "" := by decide +kernel
    refine ⟨_, rfl, l, _, rfl, .inl (SqL.of hl), by show 2 ≤ sizeLine; decide, fun tp ntp => ⟨tp, _, rfl, .inr (SqT.of upd_same), rfl, rfl, _, rfl, ?_⟩⟩
    have s1 := same_upd (o := .tup [.int 3, .int 4]) ntp
    have hl1 := s1 _ _ hl
    generalize upd H tp (.tup [.int 3, .int 4]) = H1 at s1 hl1 ⊢
    have len34 : inV (.int (((ws.map V.str).length : Nat) : Int)) [.int 3, .int 4] = (partsT ws).isSome := by
      rw [List.length_map]
      match ws with
      | [] => rfl
      | [_] => rfl
      | [_, _] => rfl
      | [_, _, _] => rfl
      | [_, _, _, _] => rfl
      | _ :: _ :: _ :: _ :: _ :: r =>
        show inV (.int ((r.length + 5 : Nat) : Int)) [.int 3, .int 4] = false
        have a3 : ¬ (((r.length + 5 : Nat) : Int) = 3) := by omega
        have a4 : ¬ (((r.length + 5 : Nat) : Int) = 4) := by omega
        have b3 : ¬ ((3 : Int) = ((r.length + 5 : Nat) : Int)) := by omega
        have b4 : ¬ ((4 : Int) = ((r.length + 5 : Nat) : Int)) := by omega
        unfold inV
        simp only [List.any_cons, List.any_nil, Bool.or_false]
        rw [Bool.or_eq_false_iff]
        exact ⟨by first | exact beq_false_of_ne b3 | exact decide_eq_false b3 | simp [b3] , by first | exact beq_false_of_ne b4 | exact decide_eq_false b4 | simp [b4]⟩
    show if (!inV (.int (((ws.map V.str).length : Nat) : Int)) [.int 3, .int 4]) = true then _ else _
    rw [len34]
    cases hP : partsT ws with
    | none => exact iteT (told (by rw [hP]; rfl) wn s1)
    | some p0 =>
    obtain ⟨a, b, c, d⟩ := p0
    obtain ⟨at0, atm2, atm1, hb, ma, mc, md, mb⟩ := parts_at hP
    rw [hP] at told fin
    have told : ∀ {z : Str}, wrongW (.str a) (.str b) (numBy c) (numBy d) = z → z ≠ "" → ∀ {H' : Hp}, Same H H' → Q (.str z) H' := told
    refine iteF ⟨_, rfl, l, _, 0, .str a, rfl, rfl, SqL.of hl1, at0, by show 6 ≤ sizeLine; decide, fun tp2 ntp2 => ⟨tp2, _, rfl, .inr (SqT.of upd_same), rfl, rfl, _, rfl, ?_⟩⟩
    have s2 := s1.trans (same_upd (o := .tup (words6.map V.str)) ntp2)
    have hl2 := s2 _ _ hl
    show if (!inV (.str a) (words6.map V.str)) = true then _ else _
    rw [show inV (.str a) (words6.map V.str) = decide (a ∈ words6) from in_strs]
    cases h1 : decide (a ∈ words6) with
    | false => exact iteT (told (by unfold wrongW; rw [if_pos (show isWord (.str a) = false from h1)]) wn s2)
    | true =>
    have h1' : isWord (.str a) ≠ false := by
      show decide (a ∈ words6) ≠ false
      rw [h1]
      decide
    refine iteF ?_
    dsimp only
    show tSeq _ _ _ _ (upd H1 tp2 (.tup (words6.map V.str)))
    generalize upd H1 tp2 (.tup (words6.map V.str)) = H2 at s2 hl2 ⊢
    -- the rest, from what the wish is of
    have wb : b.length ≤ 1000 ∧ Sgn b ∧ b.length ≤ 9 := by
      rcases mb with e | e
      · rw [e]; exact ⟨by decide +kernel, sgn_dec (by decide +kernel), by decide +kernel⟩
      · have := (W b e).len; exact ⟨by omega, (W b e).sgn, this⟩
    have noWhat : canV (.str a) (.str b) = false → ∀ {H' : Hp}, Same H H' → Q (.str "what") H' := fun h {H'} s' => told (by unfold wrongW; rw [if_neg h1', if_pos h]) (by decide +kernel) s'
    refine ⟨l, ws, b, rfl, hl2, hb, ?_⟩
    refine ⟨_, rfl, b, rfl, by rw [sizeLine_eq]; omega, _, _, rfl, rfl, _, rfl, ?_⟩
    by_cases h8 : b.length ≤ 8
    case neg => exact iteT' (by simp; omega) (noWhat (can_not (name_not8 h8)) s2)
    refine iteF' (by simp; omega) ⟨b, rfl, rfl, rfl, wb.1, wb.2.1, fun H3 s3 => ?_⟩
    have s3 := s2.trans s3
    by_cases hs : oddSigns b = []
    case neg => exact iteT' (by simp [hs]) (noWhat (can_not (name_notS hs)) s3)
    refine iteF' (by simp [hs]) ⟨l, _, a, b, rfl, s3 _ _ hl, at0, rfl, ?_⟩
    have ci := can_is (wd := a) h8 hs
    cases hbw : badW a b with
    | true => exact iteT (noWhat (by rw [ci, hbw]; rfl) s3)
    | false =>
    have hc : canV (.str a) (.str b) ≠ false := by rw [ci, hbw]; decide
    refine iteF ⟨rfl, fun D H4 s4 hD => ?_⟩
    have s4 := s3.trans s4
    have hl4 := s4 _ _ hl
    refine ⟨_, rfl, 2, rfl, l, _, -2, .str c, rfl, rfl, SqL.of hl4, atm2, _, rfl, D, _, rfl, .inl (SqL.of hD), rfl, flat_strs _, _, rfl, ?_⟩
    show if (!inV (.str c) (nums.map V.str)) = true then _ else _
    rw [in_nums]
    by_cases hcn : c ∈ nums
    case neg =>
      refine iteT' (by simp [hcn]) (told ?_ (by decide +kernel) s4)
      unfold wrongW
      have : whole (numBy c) 0 999 = false := by unfold numBy; rw [if_neg hcn]; rfl
      rw [if_neg h1', if_neg hc, if_pos this]
    obtain ⟨n, n9, hn⟩ := Wd.val hcn
    have nc : numBy c = .int (n : Int) := by unfold numBy; rw [if_pos hcn, hn]; rfl
    have vc : valN c = n := by unfold valN; rw [hn]; rfl
    have wc : whole (numBy c) 0 999 ≠ false := by
      rw [nc]
      show (decide ((0 : Int) ≤ n) && decide ((n : Int) ≤ 999)) ≠ false
      rw [decide_eq_true (by omega), decide_eq_true (by omega)]
      decide
    refine iteF' (by simp [hcn]) ⟨_, rfl, 1, rfl, l, _, -1, .str d, rfl, rfl, SqL.of hl4, atm1, _, rfl, D, _, rfl, .inl (SqL.of hD), rfl, flat_strs _, _, rfl, ?_⟩
    show if (!inV (.str d) (nums.map V.str)) = true then _ else _
    rw [in_nums]
    have most : whole (numBy d) (if V.str a = .str "rest" then 0 else intOf (numBy c)) 999 = false → ∀ {H' : Hp}, Same H H' → Q (.str "most") H' := fun h {H'} s' => told (by unfold wrongW; rw [if_neg h1', if_neg hc, if_neg wc, if_pos h]) (by decide +kernel) s'
    by_cases hdn : d ∈ nums
    case neg =>
      refine iteT' (by simp [hdn]) (most ?_ s4)
      unfold numBy
      rw [if_neg hdn]
      rfl
    obtain ⟨m, m9, hm⟩ := Wd.val hdn
    have nd : numBy d = .int (m : Int) := by unfold numBy; rw [if_pos hdn, hm]; rfl
    have vd : valN d = m := by unfold valN; rw [hm]; rfl
    have lc := (W c mc).len
    have ld := (W d md).len
    have right : whole (numBy d) (if V.str a = .str "rest" then 0 else intOf (numBy c)) 999 ≠ false → ∀ (r : Addr) (H' : Hp), Same H H' → H' r = some (.lst [.str a, .str b, .int (n : Int), .int (m : Int)]) → Q (.ref r) H' := fun h r H' s' hr => by
      refine fin _ rfl ?_ r H' s' (by rw [hr, ← vc, ← vd]; rfl)
      show wrongW (.str a) (.str b) (numBy c) (numBy d) = ""
      unfold wrongW
      rw [if_neg h1', if_neg hc, if_neg wc, if_neg h]
    refine iteF' (by simp [hdn]) ⟨_, rfl, 1, rfl, l, _, -1, .str d, rfl, rfl, SqL.of hl4, atm1, d, m, rfl, hm, by omega, _, rfl, 2, rfl, l, _, -2, .str c, rfl, rfl, SqL.of hl4, atm2, c, n, rfl, hn, by omega, _, _, rfl, rfl, _, rfl, ?_⟩
    have whole_is : whole (numBy d) (if V.str a = .str "rest" then 0 else intOf (numBy c)) 999 = decide ((if V.str a = .str "rest" then (0 : Int) else n) ≤ m) := by
      rw [nc, nd]
      show (decide ((if V.str a = .str "rest" then (0 : Int) else n) ≤ m) && decide ((m : Int) ≤ 999)) = _
      rw [decide_eq_true (show (m : Int) ≤ 999 by omega), Bool.and_true]
    rw [whole_is] at most right
    have list : (if V.str a = .str "rest" then (0 : Int) else n) ≤ m → ∀ (p : Addr), H4 p = none → Q (.ref p) (upd H4 p (.lst [.str a, .str b, .int (n : Int), .int (m : Int)])) := fun h p np => right (by rw [decide_eq_true h]; decide) p _ (s4.trans (same_upd np)) upd_same
    by_cases hlt : (m : Int) < n
    · refine iteT' (by simpa using hlt) ⟨_, rfl, l, _, 0, .str a, rfl, rfl, SqL.of hl4, at0, rfl, _, rfl, ?_⟩
      by_cases hr0 : a = "rest"
      · refine iteF' (by simp [hr0]) ⟨_, rfl, l, _, 0, .str a, rfl, rfl, SqL.of hl4, at0, _, rfl, _, rfl, 2, rfl, l, _, -2, .str c, rfl, rfl, SqL.of hl4, atm2, c, n, rfl, hn, by omega, _, rfl, 1, rfl, l, _, -1, .str d, rfl, rfl, SqL.of hl4, atm1, d, m, rfl, hm, by omega, by show 4 ≤ sizeLine; decide, list (by rw [if_pos (by rw [hr0])]; omega)⟩
      · exact iteT' (by simp [hr0]) (most (decide_eq_false (by rw [if_neg (fun e => hr0 (V.str.inj e))]; omega)) s4)
    · refine iteF' (by simpa using hlt) (iteF ⟨_, rfl, l, _, 0, .str a, rfl, rfl, SqL.of hl4, at0, _, rfl, _, rfl, 2, rfl, l, _, -2, .str c, rfl, rfl, SqL.of hl4, atm2, c, n, rfl, hn, by omega, _, rfl, 1, rfl, l, _, -1, .str d, rfl, rfl, SqL.of hl4, atm1, d, m, rfl, hm, by omega, by show 4 ≤ sizeLine; decide, list (by split <;> omega)⟩)
end
end Pk
/-! ### a lambda without parameters handed to a def that calls it within a try: what is wished of an error may speak of the def's names -/
namespace Pk
open PySem PySem.Spec PyProof.Rows L2 LamX
/-- code that is never come to -/
theorem pss_never {X : Cx} {l : List Stmt} : PSs X l (fun _ _ _ => False) := ⟨fun _ _ _ _ _ _ h => h.elim⟩
theorem ps_never {X : Cx} {st : Stmt} : PS X st (fun _ _ _ => False) := ⟨fun _ _ _ _ _ _ h => h.elim⟩
section
variable {X : Cx} {pins : List (Addr × Obj)} {σ : L2.St} {H HZ : Hp} {s s1 : Shared}
/-- the context of the def g, entered at s, within its try -/
abbrev inTry (X : Cx) (Ng : List Str) (qg : Str) (sg : Scope) (g : Addr) (cdg : Value) (s : Shared) (H : Hp) (pn : List (Addr × Obj)) (xe : Value → Shared → Prop) : Cx := (cxOf C8.CX0 X.prog X.w X.K X.mg X.base Ng qg sg g cdg X.A X.stack s H C8.E0).tr pn xe
theorem lam_act {Ng : List Str} {qg : Str} {sg : Scope} {g f c' : Addr} {cdg pm ctv : Value} {params : Arguments} {body : Expr} {scope : Scope} {k : Nat} {a : Str} {pn : List (Addr × Obj)} {xe : Value → Shared → Prop} {W : WX} {tb : XK → TE} {p1 p2 : Pos}
    (J : Inv X pins σ H s) (L : LamS X.env.scope scope) (hf : s.heap.get? f = some (PySem.W.kla_obj "<lambda>" (X.env.qual ++ "<lambda>") params body scope (cloFrom X.env.cells scope.names []) pm c' ctv)) (hfn : H f = none) (hfr : f ∉ frs X.stack)
    (hbind : bindArgs (PySem.W.kla_fn "<lambda>" (X.env.qual ++ "<lambda>") params body scope (cloFrom X.env.cells scope.names []) pm (.ref c') ctv) ⟨[], []⟩ = pure []) (tk : Takes (inTry X Ng qg sg g cdg s H pn xe) W) (hr : Room (k + 1) (X.A.deeper (envOfC qg sg s.heap.objs.size g cdg)))
    (hbody : ∀ (A : Around) (outer : List Env) (s : Shared) (H : Hp) (E : XK), Room k (A.deeper (lamEnv X scope s.heap.objs.size f c')) → PE (lamCx X A outer s H E scope f c') body (tb E)) (hN : Ng[0]? = some a) (hv : Vis sg a) (d1 : (a == ("__debug__" : Str)) = false) (d2 : (a == ("__classdict__" : Str)) = false) :
    PE (inTry X Ng qg sg g cdg s H pn xe) (.Call (.Name a p1) [] [] p2) (fun τ G Q => τ[0]? = some (some (.ref f)) ∧ G c' = some (CodeO c' (X.env.qual ++ "<lambda>")) ∧ tb (fun cls d G' => W cls d τ G') σ G Q) := by
  constructor
  rintro pns sZ τ G Q JZ ⟨hs, hc, ht⟩
  refine wpAny_Call_Name_kw (thn ((pe_var (pos := p1) (i := 0) hN hv d1 d2).run pns sZ τ G (fun v G1 => v = .ref f ∧ G1 = G) JZ ⟨.ref f, hs, rfl, rfl⟩) ?_)
  rintro u s1 ⟨v, G1, J1, rv, rfl, rfl⟩
  cases (show u = Value.ref f from rv)
  have of1 := J1.base.keep f _ hf hfn hfr (fun z => nomatch (show f ∈ ([] : List Addr) from z))
  refine PySem.W.callWith_F0 ⟨_, _, _, _, of1⟩ ?_
  obtain ⟨⟨oc, us, tt, hoc, hdc, hvc⟩, _, _⟩ := J1.hok c' _ hc
  have run : codeAny (model X.prog X.w) (X.A.deeper (envOfC qg sg s.heap.objs.size g cdg)) (.call (.ref f) ⟨[], []⟩) (CR (L2.CX X.prog X.w) (envOfC qg sg s.heap.objs.size g cdg :: X.stack) X.prog X.w G1 s1 Q (fun cls d G' => W cls d τ G')) s1 := by
    refine PySem.W.kla_callFunE hr.depth of1 rfl L.co L.gen rfl ⟨c', oc, us, tt, rfl, hoc, hdc, hvc⟩ ?_
    rw [hbind]
    refine wpAny_pure (wpAny_newFunctionEnv (fun y hy => (L.own y hy).2) (fun y hy => by cases hy) (fun h₁ hns hsb => ⟨J1.nolimit.fresh _ hsb, ?_⟩) L.kind)
    have kp : ∀ b o, s1.heap.get? b = some o → h₁.get? b = some o := fun b o e => hsb.extBut b o (Nat.ne_of_lt (Heap.lt_size e)) (Heap.get?_push_of_some _ e)
    have JL := lam_start2 (A := X.A.deeper (envOfC qg sg s.heap.objs.size g cdg)) (outer := envOfC qg sg s.heap.objs.size g cdg :: X.stack) (E := fun cls d G' => W cls d τ G') (f := f) (c' := c') (tk := s1.toks + ([] : List (Str × Value)).length) J L J1.env0 hr.hd J1.base hns kp
    refine PySem.W.kla_codeExpr (wpAny_mono ((hbody _ _ s1 G1 _ (hr.deeper _)).run [] _ _ G1 Q JL ht) ?_ fun e s' hq => hq)
    rintro v s' ⟨y, G', J', ry, q⟩
    exact ⟨y, G', J'.os, J'.bare, J'.base, J'.hok, ry, q⟩
  refine wpAny_call (codeAny_mono run fun r s' hq => ?_)
  match r, hq with
  | .error e, hq => exact passAt tk τ pns G1 s1 e s' J1 hq
  | .ok (.ret u), hq => exact J1.after hq
  | .ok .next, hq => exact hq.elim
  | .ok .brk, hq => exact hq.elim
  | .ok .cont, hq => exact hq.elim
end
/-- a def that calls what it got within a try: TT tells what it makes of the lambda's reading -/
def GivesS (X : Cx) (Ng : List Str) (x : Str) (sg : Scope) (g : Addr) (cdg : Value) (bg : List Stmt) (a : Str) (q : Str) (TT : (XK → Hp → VK → Prop) → Hp → VK → Prop) : Prop :=
  ∀ (f c' : Addr) (s : Shared) (H : Hp) (Q : VK) (tl : XK → Hp → VK → Prop),
    (∀ (W : WX) (pn : List (Addr × Obj)) (xe : Value → Shared → Prop) (p1 p2 : Pos), Takes (inTry X Ng x sg g cdg s H pn xe) W → PE (inTry X Ng x sg g cdg s H pn xe) (.Call (.Name a p1) [] [] p2) (fun τ G Q => τ[0]? = some (some (.ref f)) ∧ G c' = some (CodeO c' q) ∧ tl (fun cls d G' => W cls d τ G') G Q)) →
    H c' = some (CodeO c' q) → TT tl H Q → ∃ t, PSs (cxOf C8.CX0 X.prog X.w X.K X.mg X.base Ng x sg g cdg X.A X.stack s H C8.E0).nox bg t ∧ t { nx := fun _ H' => Q .non H', rt := Q } (L2.start Ng [.ref f]) H
/-- x(lambda: body) -/
theorem pe_lamS {X : Cx} {T : List (Addr × Str)} {TT : (XK → Hp → VK → Prop) → Hp → VK → Prop} {x a : Str} {g c P : Addr} {k : Nat} {fd : FuncData} {st : Stmt} {Ng : List Str} {params : Arguments} {body : Expr} {scope : Scope} {t : XK → TE} {p lpos pos : Pos} (hg : Gl X x) (hm : X.mg x = some (.ref g)) (F : Fun X.K x x st g fd) (hb : L2.Binds X.K fd [a] []) (Sg : FnScope Ng [a] (defScope st)) (hNg : Ng[0]? = some a) (hva : Vis (defScope st) a)
    (hG : ∀ cdv, GivesS X Ng x (defScope st) g cdv (defBody st) a (X.env.qual ++ "<lambda>") TT) (TB : TabB X.base X.mg c P) (hcode : X.env.code = .ref c) (hmT : (P, X.env.qual ++ "<lambda>") ∈ T) (hu : ∀ p ∈ T, p.1 = P → p.2 = X.env.qual ++ "<lambda>") (hr : Room (k + 2) X.A) (L : LamS X.env.scope scope) (hdef : defaultsOf params X.env = ([], []))
    (hbind : ∀ (q : Str) (cl : List (Str × Addr)) (pm cv ctv : Value), bindArgs (PySem.W.kla_fn "<lambda>" q params body scope cl pm cv ctv) ⟨[], []⟩ = pure [])
    (hbody : ∀ (A : Around) (outer : List Env) (s : Shared) (H : Hp) (E : XK) (f c' : Addr), Room k (A.deeper (lamEnv X scope s.heap.objs.size f c')) → PE (lamCx X A outer s H E scope f c') body (t E)) (hdb : (x == ("__debug__" : Str)) = false := by decide) (hd : (a == ("__debug__" : Str)) = false := by decide) (hcd : (a == ("__classdict__" : Str)) = false := by decide) :
    PE X (.Call (.Name x p) [.Lambda params body scope lpos] [] pos) (tLam T TT t) := by
  obtain ⟨oc, od, kV, doc, pm, an, cdv, ct, osl, rfl, lk, hcg⟩ := F.ex
  constructor
  rintro pins s σ H Q J ⟨hT, h⟩
  refine wpAny_Call_Name_kw (ld_glob J hg hm (PySem.W.callWith_K (h₀ := X.base) J.ok.mod.kin F.kp ?_ (by rfl) (by rfl)) hdb)
  show wpAny _ _ (spliced ((false, eval (.Lambda params body scope lpos) X.env) :: backTo pos (starEach [] X.env))) _ _ s
  refine Calls.spliced_cons (lam_make2 J TB hcode hmT hu hT hdef (L.has J.ok) fun f c' pm' ctv H1 s' J1 eN T1 hf hfn hfr hco => Calls.spliced_nil ⟨J1.kIn, ?_⟩)
  have run : codeAny (model X.prog X.w) X.A (.call (.ref g) ⟨[.ref f], []⟩) (CR C8.CX0 X.stack X.prog X.w H1 s' Q C8.E0) s' := by
    refine run_ofS (N := Ng) (ps := [a]) (us := [.ref f]) (vs := [.ref f]) lk hcg Sg hr J1.env0 (hb s' [.ref f] J1.kIn rfl) (.cons rfl .nil) rfl fun hr' => ?_
    obtain ⟨t', ht', hq'⟩ := hG cdv f c' s' H1 Q (fun E H' Q' => t E σ H' Q') (fun W pn xe p1 p2 tk => lam_act J1 L hf hfn hfr (hbind _ _ _ _ _) tk hr' (fun A outer s H E hr2 => hbody A outer s H E f c' hr2) hNg hva hd hcd) hco (h H1 eN T1)
    exact ⟨t', ht'.nox, hq'⟩
  refine wpAny_call (codeAny_mono run fun r s2 hq => ?_)
  match r, hq with
  | .error e, hq => exact (show False from hq).elim
  | .ok (.ret u), hq => exact J1.after hq
  | .ok .next, hq => exact hq.elim
  | .ok .brk, hq => exact hq.elim
  | .ok .cont, hq => exact hq.elim
end Pk
namespace Pk
open PySem L2
/-- isinstance(e, (C1, C2, ..)) of a held error -/
def rIsKT (K : PySem.W.Frag) : List V → Hp → VK → Prop := fun xs H Q => ∃ (a D : Addr) (d : Option Addr) (tp : Addr) (cs : List V) (us : List Value) (b : Bool), xs = [.ref a, .ref tp] ∧ H a = some (ExH (.ref D) d a) ∧ DictOk H d ∧ ExcC K D ∧ H tp = some (.tup cs) ∧ Paired ClsV cs us ∧ PySem.W.kitAny K (.ref D) us = some b ∧ Q (.bl b) H
theorem call_isKT {X : Cx} : CallR X (.builtin "isinstance") (rIsKT X.K) := by
  rintro pins s σ H xs us Q I r ⟨a, D, d, tp, cs, ws, b, rfl, hH, hd, C, hT, k, e, q⟩
  obtain ⟨u1, u2, rfl, r1, r2⟩ := vals2 r
  cases (show u1 = Value.ref a from r1)
  cases (show u2 = Value.ref tp from r2)
  obtain ⟨oe, od, J, _⟩ := held_at I hH hd
  have hcl : (PySem.W.clsIn X.K D).isSome = true := by
    have z := C.hd
    unfold PySem.W.hasDictIn at z
    cases hq : PySem.W.clsIn X.K D with
    | none =>
      rw [hq] at z
      cases z
    | some c => rfl
  obtain ⟨_, its, rv, o, h1, h2, n, h3⟩ := (show ObjOk X.prog X.w H s.heap tp (.tup cs) from I.hok tp _ hT)
  have e3 := ClsV.all k rv
  subst e3
  obtain ⟨oc, odt, dt, sl⟩ := o
  simp only at h2 h3
  subst h2 h3
  exact PySem.W.kia_tup (PySem.W.kitx_exc hcl C.hg C.hk C.hs C.ha C.hn C.ht C.hm) I.kIn J h1 e (fun z => nomatch z) fun tk => ⟨.bl b, H, I.tok tk, rfl, q⟩
theorem fresh_at {H : Hp} {p : Addr} {o : HO} (n : H p = none) : upd H p o p = some o ∧ Same H (upd H p o) := ⟨upd_same, same_upd n⟩
/-! ### what is said -/
structure TxS (K : PySem.W.Frag) (mg : Str → Option Value) (cB : Addr) (c : Nat → Addr) : Prop where
  gB : mg "BankError" = some (.ref cB)
  g0 : mg "BadWish" = some (.ref (c 0))
  g1 : mg "BadPaper" = some (.ref (c 1))
  g2 : mg "BadSheet" = some (.ref (c 2))
  g3 : mg "BadLine" = some (.ref (c 3))
  g4 : mg "Gone" = some (.ref (c 4))
  g5 : mg "BadQuestion" = some (.ref (c 5))
  g6 : mg "BadText" = some (.ref (c 6))
  g7 : mg "NoSuch" = some (.ref (c 7))
  g8 : mg "NoPlace" = some (.ref (c 8))
  g9 : mg "TooMany" = some (.ref (c 9))
  g10 : mg "BadKind" = some (.ref (c 10))
  g11 : mg "Unmet" = some (.ref (c 11))
  g12 : mg "NoAnswers" = some (.ref (c 12))
  g13 : mg "Twice" = some (.ref (c 13))
abbrev caughtS (cB : Addr) (c : Nat → Addr) : List Value := [.ref cB, .ref (c 5), .ref (c 6), .ref (c 10), .ref (c 12), .ref (c 8), .ref (c 7), .ref (c 9), .ref (c 13), .ref (c 11)]
/-- what isinstance tells of the two errors that come -/
structure TxI (K : PySem.W.Frag) (cB : Addr) (c : Nat → Addr) : Prop where
  ca0 : PySem.W.exmAny K (.ref (c 0)) (caughtS cB c) = some true
  ca10 : PySem.W.exmAny K (.ref (c 10)) (caughtS cB c) = some true
  k00 : PySem.W.kitOne K (.ref (c 0)) (.ref (c 0)) = some true
  k100 : PySem.W.kitOne K (.ref (c 10)) (.ref (c 0)) = some false
  k101 : PySem.W.kitOne K (.ref (c 10)) (.ref (c 1)) = some false
  k108 : PySem.W.kitOne K (.ref (c 10)) (.ref (c 8)) = some false
  k1010 : PySem.W.kitOne K (.ref (c 10)) (.ref (c 10)) = some true
  ca6 : PySem.W.exmAny K (.ref (c 6)) (caughtS cB c) = some true
  k60 : PySem.W.kitOne K (.ref (c 6)) (.ref (c 0)) = some false
  k61 : PySem.W.kitOne K (.ref (c 6)) (.ref (c 1)) = some false
  k68 : PySem.W.kitOne K (.ref (c 6)) (.ref (c 8)) = some false
  k610 : PySem.W.kitOne K (.ref (c 6)) (.ref (c 10)) = some false
  k66 : PySem.W.kitOne K (.ref (c 6)) (.ref (c 6)) = some true
  k65 : PySem.W.kitOne K (.ref (c 6)) (.ref (c 5)) = some false
  k67 : PySem.W.kitOne K (.ref (c 6)) (.ref (c 7)) = some false
  k63 : PySem.W.kitAny K (.ref (c 6)) [.ref (c 3), .ref (c 2), .ref (c 4)] = some false
  ex6 : ExcC K (c 6)
def Pair (H : Hp) (Q : VK) (z : Str) (v : V) : Prop := ∀ (p : Addr) (H' : Hp), Same H H' → H' p = some (.tup [.str z, v]) → Q (.ref p) H'
def TTsaid (cW cK cT : Addr) : (XK → Hp → VK → Prop) → Hp → VK → Prop := fun tl H Q => ∀ (E : XK) (Q1 : VK),
  (∀ (d : Addr) (H' : Hp) (v : V), H' d = some (.xd [(("at" : Str), v)]) → Pair H' Q "wish" v → E (.ref cW) (some d) H') →
  (∀ (d : Addr) (H' : Hp) (v : V), H' d = some (.xd [(("wanted" : Str), v)]) → Pair H' Q "kind" v → E (.ref cK) (some d) H') →
  (∀ (H' : Hp), Pair H' Q "text" (.str "late") → E (.ref cT) none H') →
  (∀ (v : V) (H' : Hp), Pair H' Q "told" v → Q1 v H') → tl E H Q1
abbrev NSaid : List Str := ["_law_deed", "_law_caught", "_law_found", "e", "_law_some", "_law_word", "_law_is_so"]
theorem scSaid : FnScope NSaid ["_law_deed"] (defScope sSaid) := ⟨rfl, rfl, rfl, by decide +kernel, rfl, by decide +kernel, by decide +kernel⟩
theorem said_gives {X : Cx} {g cB fI fJ : Addr} {c : Nat → Addr} {cdg : Value} {q : Str} (T : TxS X.K X.mg cB c) (I : TxI X.K cB c) (TW : TxW X.K X.mg (c 0) fI) (TK : TxK X.K X.mg (c 10) fJ) (mi : X.mg "isinstance" = none) (mt : X.mg "tuple" = none) :
    GivesS X NSaid "_law_said" (defScope sSaid) g cdg (defBody sSaid) "_law_deed" q (TTsaid (c 0) (c 10) (c 6)) := by
  intro f c' s H Q tl act hc h
  refine ⟨_, pss_cons (ps_set (i := 1) scSaid.nd rfl (.inl rfl) pe_non) (pss_cons (ps_set (i := 2) scSaid.nd rfl (.inl rfl) pe_non)
    (pss_cons (ps_try_held (i := 3) (cs := caughtS cB c) (tb := fun W => tAsg (fun τ G Q => τ[0]? = some (some (.ref f)) ∧ G c' = some (LamX.CodeO c' q) ∧ tl (fun cls d G' => W cls d τ G') G Q) (gName 2)) (ts := fun a cls d => tAsg (tVar 3) (gName 1)) (Wout := fun _ _ _ _ => False) rfl rfl scSaid.nd rfl rfl
        (.cons (by rfl) (by decide) T.gB (.cons (by rfl) (by decide) T.g5 (.cons (by rfl) (by decide) T.g6 (.cons (by rfl) (by decide) T.g10 (.cons (by rfl) (by decide) T.g12 (.cons (by rfl) (by decide) T.g8 (.cons (by rfl) (by decide) T.g7 (.cons (by rfl) (by decide) T.g9 (.cons (by rfl) (by decide) T.g13 (.cons (by rfl) (by decide) T.g11 .nil)))))))))) (by decide) LamX.takes0
        (fun W pn xe tk _ => pss_one (ps_set (i := 2) scSaid.nd rfl (.inl rfl) (by exact (act W pn xe _ _ tk))))
        (fun a oe cls d pn hz hf => pss_one (ps_set (i := 1) scSaid.nd rfl (.inl rfl) (by exact (pv 3)))))
    (pss_cons (ps_if (pt_cmpR op_isN (pv 1) pe_non (nomark _)) (pss_one (ps_ret (pe_tup (by exact (pa_cons pe_str (pa_cons (pv 2) pa_nil)))))) pss_nil)
    (pss_cons (ps_if (pt_val (pe_callB call_isK (by rfl) mi (by decide +kernel) (pa_cons (pv 1) (pa_cons (pe_glob (v := .ref (c 0)) (by rfl) T.g0 rfl) pa_nil)))) (pss_one (ps_ret (pe_tup (by exact (pa_cons pe_str (pa_cons (pe_get_at (pv 1)) pa_nil)))))) pss_nil)
    (pss_cons (ps_if (pt_val (pe_callB call_isK (by rfl) mi (by decide +kernel) (pa_cons (pv 1) (pa_cons (pe_glob (v := .ref (c 1)) (by rfl) T.g1 rfl) pa_nil)))) pss_never pss_nil)
    (pss_cons (ps_if (pt_val (pe_callB call_isK (by rfl) mi (by decide +kernel) (pa_cons (pv 1) (pa_cons (pe_glob (v := .ref (c 8)) (by rfl) T.g8 rfl) pa_nil)))) pss_never pss_nil)
    (pss_cons (ps_if (pt_val (pe_callB call_isK (by rfl) mi (by decide +kernel) (pa_cons (pv 1) (pa_cons (pe_glob (v := .ref (c 10)) (by rfl) T.g10 rfl) pa_nil)))) (pss_one (ps_ret (pe_tup (by exact (pa_cons pe_str (pa_cons (pe_get_wanted (pv 1)) pa_nil)))))) pss_nil)
      (pss_cons (ps_set (i := 4) scSaid.nd rfl (.inl rfl) (by exact pe_lst (pa_cons (pe_tup (pa_cons pe_str (pa_cons (pe_callB call_isK (by rfl) mi (by decide +kernel) (pa_cons (pv 1) (pa_cons (pe_glob (v := .ref (c 6)) (by rfl) T.g6 rfl) pa_nil))) pa_nil))) (pa_cons (pe_tup (pa_cons pe_str (pa_cons (pe_callB call_isK (by rfl) mi (by decide +kernel) (pa_cons (pv 1) (pa_cons (pe_glob (v := .ref (c 5)) (by rfl) T.g5 rfl) pa_nil))) pa_nil))) pa_nil))))
      (pss_cons (ps_set (i := 4) scSaid.nd rfl (.inl rfl) (by exact pe_op op_cat (pv 4) (pe_lst (pa_cons (pe_tup (pa_cons pe_str (pa_cons (pe_callB call_isK (by rfl) mi (by decide +kernel) (pa_cons (pv 1) (pa_cons (pe_glob (v := .ref (c 7)) (by rfl) T.g7 rfl) pa_nil))) pa_nil))) (pa_cons (pe_tup (pa_cons pe_str (pa_cons (pe_callB call_isKT (by rfl) mi (by decide +kernel) (pa_cons (pv 1) (pa_cons (pe_tup (pa_cons (pe_glob (v := .ref (c 3)) (by rfl) T.g3 rfl) (pa_cons (pe_glob (v := .ref (c 2)) (by rfl) T.g2 rfl) (pa_cons (pe_glob (v := .ref (c 4)) (by rfl) T.g4 rfl) pa_nil)))) pa_nil))) pa_nil))) pa_nil)))))
      (pss_one (ps_ret (by exact pe_callTy call_tuple_of (by rfl) mt PyProof.Rows.boot_tuple (pa_cons (pe_op op_cat (pe_lc (own := [("_law_word", 5), ("_law_is_so", 6)]) (g := gTup X.K 2 (gCons (gName 5) (gCons (gName 6) gNil))) (tt := tTest (tVar 6)) (te := tVar 5) rfl scSaid.nd (pi_list (pv 4)) (blkOk_by (N := NSaid) (sc := defScope sSaid) (by decide +kernel))
          (fun _ _ _ _ _ => by exact pg_tup rfl (pgs_cons (pg_name (i := 5) scSaid.nd rfl (.inl rfl)) (pgs_cons (pg_name (i := 6) scSaid.nd rfl (.inl rfl)) pgs_nil))) (fun _ _ _ _ _ => by exact pts_one (pt_val (pv 6))) (fun _ _ _ _ _ => by exact pv 5)) (pe_lst (pa_cons pe_str pa_nil))) pa_nil))))))))))))), ?_⟩
  refine ⟨rfl, hc, ?_⟩
  refine h _ _ (fun dd H1 v hd pr => ?_) (fun dd H1 v hd pr => ?_) (fun H1 pr => ?_) (fun v H1 pr => ?_)
  · refine ⟨true, I.ca0, fun _ a na => ⟨_, rfl, fun na' => ?_⟩, fun z => nomatch z⟩
    have s2 : Same H1 (upd H1 a (ExH (.ref (c 0)) (some dd) a)) := same_upd na
    have h2 : upd H1 a (ExH (.ref (c 0)) (some dd) a) a = some (ExH (.ref (c 0)) (some dd) a) := upd_same
    have hd2 := s2 _ _ hd
    generalize upd H1 a (ExH (.ref (c 0)) (some dd) a) = H2 at s2 h2 hd2
    refine ⟨_, rfl, rfl, _, rfl, iteF ?_⟩
    refine ⟨_, rfl, a, c 0, some dd, _, _, _, rfl, h2, .inr ⟨dd, _, rfl, hd2⟩, TW.ex, .own _, I.k00, _, rfl, iteT ?_⟩
    refine ⟨_, rfl, a, c 0, dd, _, rfl, h2, TW.ex, TW.noN, hd2, by show 2 ≤ sizeLine; decide, fun u nu => ?_⟩
    exact pr u _ (s2.trans (same_upd nu)) upd_same
  · refine ⟨true, I.ca10, fun _ a na => ⟨_, rfl, fun na' => ?_⟩, fun z => nomatch z⟩
    have s2 : Same H1 (upd H1 a (ExH (.ref (c 10)) (some dd) a)) := same_upd na
    have h2 : upd H1 a (ExH (.ref (c 10)) (some dd) a) a = some (ExH (.ref (c 10)) (some dd) a) := upd_same
    have hd2 := s2 _ _ hd
    generalize upd H1 a (ExH (.ref (c 10)) (some dd) a) = H2 at s2 h2 hd2
    refine ⟨_, rfl, rfl, _, rfl, iteF ?_⟩
    refine ⟨_, rfl, a, c 10, some dd, _, _, _, rfl, h2, .inr ⟨dd, _, rfl, hd2⟩, TK.ex, .own _, I.k100, _, rfl, iteF ?_⟩
    refine ⟨_, rfl, a, c 10, some dd, _, _, _, rfl, h2, .inr ⟨dd, _, rfl, hd2⟩, TK.ex, .own _, I.k101, _, rfl, iteF ?_⟩
    refine ⟨_, rfl, a, c 10, some dd, _, _, _, rfl, h2, .inr ⟨dd, _, rfl, hd2⟩, TK.ex, .own _, I.k108, _, rfl, iteF ?_⟩
    refine ⟨_, rfl, a, c 10, some dd, _, _, _, rfl, h2, .inr ⟨dd, _, rfl, hd2⟩, TK.ex, .own _, I.k1010, _, rfl, iteT ?_⟩
    refine ⟨_, rfl, a, c 10, dd, _, rfl, h2, TK.ex, TK.noN, hd2, by show 2 ≤ sizeLine; decide, fun u nu => ?_⟩
    exact pr u _ (s2.trans (same_upd nu)) upd_same
  · refine ⟨true, I.ca6, fun _ a na => ⟨_, rfl, fun na' => ?_⟩, fun z => nomatch z⟩
    have s2 : Same H1 (upd H1 a (ExH (.ref (c 6)) none a)) := same_upd na
    have h2 : upd H1 a (ExH (.ref (c 6)) none a) a = some (ExH (.ref (c 6)) none a) := upd_same
    generalize upd H1 a (ExH (.ref (c 6)) none a) = H2 at s2 h2
    refine ⟨_, rfl, rfl, _, rfl, iteF ?_⟩
    refine ⟨_, rfl, a, c 6, none, _, _, _, rfl, h2, .inl rfl, I.ex6, .own _, I.k60, _, rfl, iteF ?_⟩
    refine ⟨_, rfl, a, c 6, none, _, _, _, rfl, h2, .inl rfl, I.ex6, .own _, I.k61, _, rfl, iteF ?_⟩
    refine ⟨_, rfl, a, c 6, none, _, _, _, rfl, h2, .inl rfl, I.ex6, .own _, I.k68, _, rfl, iteF ?_⟩
    refine ⟨_, rfl, a, c 6, none, _, _, _, rfl, h2, .inl rfl, I.ex6, .own _, I.k610, _, rfl, iteF ?_⟩
    refine ⟨_, rfl, a, c 6, none, _, _, _, rfl, h2, .inl rfl, I.ex6, .own _, I.k66, by show 2 ≤ sizeLine; decide, fun p1 n1 => ?_⟩
    have s3 := same_upd (o := .tup [.str "text", .bl true]) n1
    have h3 := s3 _ _ h2
    refine ⟨_, rfl, a, c 6, none, _, _, _, rfl, h3, .inl rfl, I.ex6, .own _, I.k65, by show 2 ≤ sizeLine; decide, fun p2 n2 => ⟨by show 2 ≤ sizeLine; decide, fun l1 m1 => ?_⟩⟩
    have s4 := same_upd (o := .tup [.str "question", .bl false]) n2
    have s5 := same_upd (o := .lst [.ref p1, .ref p2]) m1
    have h5 := s5 _ _ (s4 _ _ h3)
    refine ⟨_, rfl, _, rfl, a, c 6, none, _, _, _, rfl, h5, .inl rfl, I.ex6, .own _, I.k67, by show 2 ≤ sizeLine; decide, fun p3 n3 => ?_⟩
    have s6 := same_upd (o := .tup [.str "such", .bl false]) n3
    have h6 := s6 _ _ h5
    refine ⟨_, rfl, by show 3 ≤ sizeLine; decide, fun tp ntp => ?_⟩
    have s7 := same_upd (o := .tup [.ref (c 3), .ref (c 2), .ref (c 4)]) ntp
    have h7 := s7 _ _ h6
    refine ⟨a, c 6, none, tp, _, _, _, rfl, h7, .inl rfl, I.ex6, upd_same, .cons (.own _) (.cons (.own _) (.cons (.own _) .nil)), I.k63, by show 2 ≤ sizeLine; decide, fun p4 n4 => ⟨by show 2 ≤ sizeLine; decide, fun l2 m2 => ?_⟩⟩
    have s8 := same_upd (o := .tup [.str "other", .bl false]) n4
    have s9 := same_upd (o := .lst [.ref p3, .ref p4]) m2
    refine ⟨l1, l2, _, _, rfl, rfl, s9 _ _ (s8 _ _ (s7 _ _ (s6 _ _ upd_same))), upd_same, by show 2 + 2 ≤ sizeLine; decide, fun l3 m3 => ?_⟩
    have s10 := same_upd (o := .lst ([.ref p1, .ref p2] ++ [.ref p3, .ref p4])) m3
    have e1 := s10 _ _ (s9 _ _ (s8 _ _ (s7 _ _ (s6 _ _ (s5 _ _ (s4 _ _ (fresh_at (o := .tup [.str "text", .bl true]) n1).1))))))
    have e2 := s10 _ _ (s9 _ _ (s8 _ _ (s7 _ _ (s6 _ _ (s5 _ _ (fresh_at (o := .tup [.str "question", .bl false]) n2).1)))))
    have e3 := s10 _ _ (s9 _ _ (s8 _ _ (s7 _ _ (fresh_at (o := .tup [.str "such", .bl false]) n3).1)))
    have e4 := s10 _ _ (s9 _ _ (fresh_at (o := .tup [.str "other", .bl false]) n4).1)
    obtain ⟨e5, _⟩ := fresh_at (o := .lst ([.ref p1, .ref p2] ++ [.ref p3, .ref p4])) m3
    have sA := ((((((((s2.trans s3).trans s4).trans s5).trans s6).trans s7).trans s8).trans s9).trans s10)
    clear s3 s4 s5 s6 s7 s8 s9
    dsimp only [gName]
    show tRet _ _ _ (upd (upd (upd (upd (upd (upd (upd (upd H2 p1 (.tup [.str "text", .bl true])) p2 (.tup [.str "question", .bl false])) l1 (.lst [.ref p1, .ref p2])) p3 (.tup [.str "such", .bl false])) tp (.tup [.ref (c 3), .ref (c 2), .ref (c 4)])) p4 (.tup [.str "other", .bl false])) l2 (.lst [.ref p3, .ref p4])) l3 (.lst ([.ref p1, .ref p2] ++ [.ref p3, .ref p4])))
    generalize (upd (upd (upd (upd (upd (upd (upd (upd H2 p1 (.tup [.str "text", .bl true])) p2 (.tup [.str "question", .bl false])) l1 (.lst [.ref p1, .ref p2])) p3 (.tup [.str "such", .bl false])) tp (.tup [.ref (c 3), .ref (c 2), .ref (c 4)])) p4 (.tup [.str "other", .bl false])) l2 (.lst [.ref p3, .ref p4])) l3 (.lst ([.ref p1, .ref p2] ++ [.ref p3, .ref p4]))) = HA at e1 e2 e3 e4 e5 sA ⊢
    refine ⟨_, rfl, l3, rfl, ⟨_, SqL.of e5⟩, fun D hD => ?_⟩
    have nD : ∀ {b : Addr} {o : HO}, HA b = some o → b ≠ D := fun {b o} e => ne_of_none e hD
    refine lc_it (walk_list (K := X.K) (a := l3) (xs := [.ref p1, .ref p2, .ref p3, .ref p4])) (fun k G => (∀ b o, b ≠ D → HA b = some o → G b = some o) ∧ G D = some (.lst (if k = 0 then [] else [.str "text"]))) ⟨fun b o nb e => by rw [upd_ne nb]; exact e, upd_same⟩ (fun k G _ h => SqL.of (h.1 _ _ (nD e5) e5)) ?_ ?_
    · rintro k x G G' hk ⟨kp, hd⟩ ⟨rfl, fx⟩
      match k, hk, fx, hd with
      | 0, _, fx, hd =>
        cases fx
        refine ⟨p1, _, rfl, SqT.of (kp _ _ (nD e1) e1), rfl, _, _, rfl, _, _, rfl, rfl, rfl, _, rfl, _, rfl, iteT ⟨_, rfl, _, hd, by show 0 < sizeLine; decide, fun b o nb e => by rw [upd_ne nb]; exact kp b o nb e, upd_same⟩⟩
      | 1, _, fx, hd =>
        cases fx
        exact ⟨p2, _, rfl, SqT.of (kp _ _ (nD e2) e2), rfl, _, _, rfl, _, _, rfl, rfl, rfl, _, rfl, _, rfl, iteF ⟨kp, hd⟩⟩
      | 2, _, fx, hd =>
        cases fx
        exact ⟨p3, _, rfl, SqT.of (kp _ _ (nD e3) e3), rfl, _, _, rfl, _, _, rfl, rfl, rfl, _, rfl, _, rfl, iteF ⟨kp, hd⟩⟩
      | 3, _, fx, hd =>
        cases fx
        exact ⟨p4, _, rfl, SqT.of (kp _ _ (nD e4) e4), rfl, _, _, rfl, _, _, rfl, rfl, rfl, _, rfl, _, rfl, iteF ⟨kp, hd⟩⟩
    · rintro G ⟨kp, hd⟩
      have hd : G D = some (.lst [.str "text"]) := hd
      refine ⟨by show 1 ≤ sizeLine; decide, fun l4 m4 => ?_⟩
      have s11 := same_upd (o := .lst [.str "late"]) m4
      refine ⟨D, l4, _, _, rfl, rfl, s11 _ _ hd, upd_same, by show 1 + 1 ≤ sizeLine; decide, fun l5 m5 => ?_⟩
      have s12 := same_upd (o := .lst ([.str "text"] ++ [.str "late"])) m5
      refine ⟨l5, _, rfl, .inl ⟨SqL.of upd_same, fun u nu => ?_⟩⟩
      refine pr u _ (fun b o e => ?_) upd_same
      have e0 := sA _ _ e
      exact same_upd nu _ _ (s12 _ _ (s11 _ _ (kp b o (nD e0) e0)))
  · refine ⟨_, rfl, rfl, _, rfl, iteT ?_⟩
    exact ⟨_, rfl, by show 2 ≤ sizeLine; decide, fun u nu => pr u _ (same_upd nu) upd_same⟩
end Pk
/-! The end of a law that holds lambdas and shows things: tables of code objects are tracked, nothing is being shown around. -/
namespace Pk
open PySem PySem.Spec PyProof.Rows L2
def emptyT : Obj := { cls := .none, data := .fields #[] }
section
variable {P : Program} {w : World} {K : PySem.W.Frag} {mg mb : Str → Option Value} {k : Nat} {fa a : Addr} {cs : List (Addr × Addr)} {fd : FuncData} {x : Str} {sp : Sp} {s : Shared} {vs : List Value} {ns : List Int}
/-- what the head tells of the tables -/
structure TabsE (K : PySem.W.Frag) (mg : Str → Option Value) (h : Heap) (cs : List (Addr × Addr)) : Prop where
  empty : ∀ p ∈ cs, h.get? p.2 = some emptyT
  out : ∀ p ∈ cs, K.lookup p.2 = none
  code : ∀ p ∈ cs, PySem.W.CodeHd h p.1 p.2
theorem lawT_at (H : Hp) (T : TabsE K mg s.heap cs) (tr : ∀ p ∈ cs, H p.2 = some (.tbl #[])) (only : ∀ b, H b = none ∨ (∃ p ∈ cs, p.2 = b) ∨ ∃ o xs, H b = some (.frz o (.lst xs))) (just : ∀ b, H b ≠ none → b = a ∨ ∃ p ∈ cs, p.2 = b) (apart : H a ≠ none → K.lookup a = none)
    (hok : HOk P w H s.heap) (kin : K.In s.heap) (gl : s.heap.Ns mainGlobals mg) (bl : s.heap.Ns builtinsNs mb) (bb : ∀ x : Str, x ≠ "__name__" → mb x = bootBuiltins x) (lim : s.heap.NoLimit) (gens : s.gens = #[])
    (mod : ∃ (bm : Addr) (ob : Obj), mg "__builtins__" = some (.ref bm) ∧ bm ≠ builtinsNs ∧ s.heap.get? bm = some ob ∧ ob.cls = .type "module" ∧ ob.dict = some builtinsNs ∧ ob.data = .plain)
    (obj : s.heap.get? a = some { cls := .type "list", data := .seq vs.toArray }) (room : Room k callerA) (F : ∀ base : Heap, K.In base → base.Ns mainGlobals mg → (∀ p ∈ cs, LamX.TabB base mg p.1 p.2) → FnG P w K mg base CX0 k fa fd [x] sp)
    (bind : ∀ (s : Shared) (u : Value), BindsTo s fd ⟨[u], []⟩ [(x, u)]) (hsp : sp [.ref a] H (fun v _ => v = .bl true) fun _ _ _ => False) :
    codeAny (model P w) callerA (.call (.ref fa) ⟨[.ref a], []⟩) (fun r s' => r = .ok (.ret (.bool true)) ∧ OldK s.heap s'.heap ∧ s'.os = s.os ∧ AllBare s'.gens) s := by
  -- what is neither a sequence nor an empty table is not tracked
  have plain : ∀ {b : Addr} {o : Obj}, s.heap.get? b = some o → (∀ us n, o.data ≠ .seq us n) → o.data ≠ .fields #[] → H b = none := by
    intro b o e n1 n2
    cases q : H b with
    | none => rfl
    | some u =>
      rcases just b (by rw [q]; exact fun z => nomatch z) with rfl | ⟨p, hp, rfl⟩
      · rw [obj] at e
        cases e
        exact absurd rfl (n1 _ _)
      · rw [T.empty p hp] at e
        cases e
        exact absurd rfl n2
  have names : ∀ {b : Addr} {m : Str → Option Value}, s.heap.Ns b m → (hidT s.heap H).Ns b m := by
    rintro b m ⟨o, es, n, e, d, r⟩
    exact ⟨o, es, n, hidT_get e (plain e (fun _ _ z => by rw [d] at z; cases z) fun z => by rw [d] at z; cases z), d, r⟩
  have kin' : K.In (hidT s.heap H) := by
    intro b o e
    refine hidT_get (kin b o e) ?_
    cases q : H b with
    | none => rfl
    | some u =>
      have nn : H b ≠ none := by rw [q]; exact fun z => nomatch z
      rcases just b nn with rfl | ⟨p, hp, rfl⟩
      · rw [apart nn] at e
        cases e
      · rw [T.out p hp] at e
        cases e
  obtain ⟨mc, lm, lv⟩ := lim
  have md : Mod K mg (hidT s.heap H) := ⟨kin', names gl, ⟨mb, names bl, bb⟩, ⟨mc, names lm, lv⟩⟩
  have tabs : ∀ p ∈ cs, LamX.TabB (hidT s.heap H) mg p.1 p.2 := by
    intro p hp
    have e0 := T.empty p hp
    have notG : ∀ {b : Addr} {m : Str → Option Value}, s.heap.Ns b m → b ≠ p.2 := by
      rintro b m ⟨o, es, n, e, d, _⟩ rfl
      rw [e0] at e
      cases e
      cases d
    constructor
    · obtain ⟨oc, us, fl, tf, fg, tg, nf, tx, tt, c1, c2, c3, c4, c5, c6, c7, c8, c9, c10⟩ := T.code p hp
      exact ⟨oc, us, fl, tf, fg, tg, nf, tx, tt, hidT_get c1 (plain c1 (fun _ _ z => by rw [c3] at z; cases z) fun z => by rw [c3] at z; cases z; simp at c4), c2, c3, c4, c5, c6, c7, c8, c9, c10⟩
    · obtain ⟨bm, ob, m1, m2, m3, m4, m5, m6⟩ := mod
      refine ⟨bm, ob, m1, m2, fun z => ?_, fun z => ?_, hidT_get m3 (plain m3 (fun _ _ z => by rw [m6] at z; cases z) fun z => by rw [m6] at z; cases z), m4, m5, m6⟩
      · obtain ⟨o, es, n, e, d, _⟩ := gl
        rw [z, e] at m3
        cases m3
        rw [d] at m6
        cases m6
      · rw [z, e0] at m3
        cases m3
        cases m6
    · exact notG gl
  have env : Env0 P w K mg (hidT s.heap H) callerA [] s H := ⟨rfl, md, fun b o e => of_hidT e, Nat.le_of_eq (hidT_size _ _), trivial, (fun b hb => by cases hb), hok, AllBare.of_eq gens⟩
  refine codeAny_mono ((F _ kin' (names gl) tabs).go callerA rfl room [] s H ⟨[.ref a], []⟩ [.ref a] [.ref a] _ _ env (bind s (.ref a)) (.cons rfl .nil) hsp) ?_
  intro r s' h
  match r, h with
  | .error e, h => exact h.elim
  | .ok .next, h => exact h.elim
  | .ok .brk, h => exact h.elim
  | .ok .cont, h => exact h.elim
  | .ok (.ret u), ⟨v, H', os, bare, un, hok', rv, q⟩ =>
    have q' : v = .bl true := q
    subst q'
    cases (show u = Value.bool true from rv)
    have stay : ∀ b o, (¬ ∃ p ∈ cs, p.2 = b) → s.heap.get? b = some o → s'.heap.get? b = some o := by
      intro b o nb e
      rcases only b with z | z | ⟨ob, xs, z⟩
      · exact un.keep b o e z (fun m => by cases m) (fun m => by cases m)
      · exact absurd z nb
      · have e1 := (hok b _ z).1
        have e2 := (hok' b _ (un.frzs b ob _ z)).1
        rw [e] at e1
        cases e1
        exact e2
    have grow : ∀ p ∈ cs, ∃ more : Array Value, s'.heap.get? p.2 = some { cls := .none, data := .fields more } := by
      intro p hp
      obtain ⟨more, z⟩ := un.tbls p.2 #[] (tr p hp)
      exact ⟨_, hok' p.2 _ z⟩
    refine ⟨rfl, ⟨fun b o e => ?_, fun b o e => ?_⟩, os, bare⟩
    · by_cases hb : ∃ p ∈ cs, p.2 = b
      · obtain ⟨p, hp, rfl⟩ := hb
        obtain ⟨more, hm⟩ := grow p hp
        rw [T.empty p hp] at e
        cases e
        exact .inr (.inl ⟨((T.code p hp).tab (T.empty p hp)).isCodeTable, rfl, #[], more, rfl, by rw [Array.empty_append]; exact hm⟩)
      · exact .inl (stay b o hb e)
    · by_cases hb : ∃ p ∈ cs, p.2 = b
      · obtain ⟨p, hp, rfl⟩ := hb
        obtain ⟨more, hm⟩ := grow p hp
        exact ⟨_, hm⟩
      · exact ⟨o, stay b o hb e⟩
/-- the heap ahead: the script, if it isn't written, and the empty tables -/
noncomputable def ahead (cs : List (Addr × Addr)) (a : Addr) (u : Option HO) : Hp := fun b => open Classical in if ∃ p ∈ cs, p.2 = b then some (.tbl #[]) else if b = a then u else none
theorem ahead_tab {cs : List (Addr × Addr)} {a : Addr} {u : Option HO} {b : Addr} (h : ∃ p ∈ cs, p.2 = b) : ahead cs a u b = some (.tbl #[]) := if_pos h
theorem ahead_at {cs : List (Addr × Addr)} {a : Addr} {u : Option HO} (h : ¬ ∃ p ∈ cs, p.2 = a) : ahead cs a u a = u := (if_neg h).trans (if_pos rfl)
theorem ahead_no {cs : List (Addr × Addr)} {a : Addr} {u : Option HO} {b : Addr} (h : ¬ ∃ p ∈ cs, p.2 = b) (n : b ≠ a) : ahead cs a u b = none := (if_neg h).trans (if_neg n)
theorem lawT_call (T : TabsE K mg s.heap cs) (kin : K.In s.heap) (gl : s.heap.Ns mainGlobals mg) (bl : s.heap.Ns builtinsNs mb) (bb : ∀ x : Str, x ≠ "__name__" → mb x = bootBuiltins x) (lim : s.heap.NoLimit) (gens : s.gens = #[])
    (mod : ∃ (bm : Addr) (ob : Obj), mg "__builtins__" = some (.ref bm) ∧ bm ≠ builtinsNs ∧ s.heap.get? bm = some ob ∧ ob.cls = .type "module" ∧ ob.dict = some builtinsNs ∧ ob.data = .plain)
    (obj : s.heap.get? a = some { cls := .type "list", data := .seq vs.toArray }) (hin : IntsAre vs ns) (short : ns.length ≤ sizeLine) (room : Room k callerA) (F : ∀ base : Heap, K.In base → base.Ns mainGlobals mg → (∀ p ∈ cs, LamX.TabB base mg p.1 p.2) → FnG P w K mg base CX0 k fa fd [x] sp)
    (bind : ∀ (s : Shared) (u : Value), BindsTo s fd ⟨[u], []⟩ [(x, u)]) (hsp : ∀ H : Hp, (∀ p ∈ cs, H p.2 = some (.tbl #[])) → SqL K H a (ns.map V.int) → sp [.ref a] H (fun v _ => v = .bl true) fun _ _ _ => False) :
    codeAny (model P w) callerA (.call (.ref fa) ⟨[.ref a], []⟩) (fun r s' => r = .ok (.ret (.bool true)) ∧ OldK s.heap s'.heap ∧ s'.os = s.os ∧ AllBare s'.gens) s := by
  have rv := vals_ints hin
  have len := hin.length
  have na : ¬ ∃ p ∈ cs, p.2 = a := by
    rintro ⟨p, hp, e⟩
    have z := T.empty p hp
    rw [e, obj] at z
    have z' : Data.seq vs.toArray _ = Data.fields #[] := congrArg Obj.data (Option.some.inj z)
    cases z'
  have tr : ∀ {u : Option HO}, ∀ p ∈ cs, ahead cs a u p.2 = some (.tbl #[]) := fun p hp => ahead_tab ⟨p, hp, rfl⟩
  have just : ∀ {u : Option HO}, ∀ b, ahead cs a u b ≠ none → b = a ∨ ∃ p ∈ cs, p.2 = b := by
    intro u b z
    by_cases h1 : ∃ p ∈ cs, p.2 = b
    · exact .inr h1
    · by_cases h2 : b = a
      · exact .inl h2
      · exact absurd (ahead_no h1 h2) z
  cases hk : K.lookup a with
  | some o =>
    have e := kin a o hk
    rw [obj] at e
    cases e
    refine lawT_at (ahead cs a none) T tr (fun b => ?_) just (fun z => absurd (ahead_at na) z) (fun b u z => ?_) kin gl bl bb lim gens mod obj room F bind (hsp _ tr (.inr ⟨_, vs.toArray, _, hk, rfl, rfl, rfl, by rw [List.size_toArray, len]; exact short, by simpa using rv⟩))
    · by_cases h1 : ∃ p ∈ cs, p.2 = b
      · exact .inr (.inl h1)
      · by_cases h2 : b = a
        · exact .inl (by rw [h2]; exact ahead_at na)
        · exact .inl (ahead_no h1 h2)
    · by_cases h1 : ∃ p ∈ cs, p.2 = b
      · rw [ahead_tab h1] at z
        cases z
        obtain ⟨p, hp, rfl⟩ := h1
        exact T.empty p hp
      · by_cases h2 : b = a
        · rw [h2, ahead_at na] at z
          cases z
        · rw [ahead_no h1 h2] at z
          cases z
  | none =>
    let ob : Obj := { cls := .type "list", data := .seq vs.toArray }
    have at_a : ahead cs a (some (.frz ob (.lst (ns.map V.int)))) a = some (.frz ob (.lst (ns.map V.int))) := ahead_at na
    refine lawT_at (ahead cs a (some (.frz ob (.lst (ns.map V.int))))) T tr (fun b => ?_) just (fun _ => hk) (fun b u z => ?_) kin gl bl bb lim gens mod obj room F bind (hsp _ tr (.inl (.inr ⟨ob, at_a⟩)))
    · by_cases h1 : ∃ p ∈ cs, p.2 = b
      · exact .inr (.inl h1)
      · by_cases h2 : b = a
        · exact .inr (.inr ⟨ob, ns.map V.int, by rw [h2]; exact at_a⟩)
        · exact .inl (ahead_no h1 h2)
    · by_cases h1 : ∃ p ∈ cs, p.2 = b
      · rw [ahead_tab h1] at z
        cases z
        obtain ⟨p, hp, rfl⟩ := h1
        exact T.empty p hp
      · by_cases h2 : b = a
        · rw [h2, at_a] at z
          cases z
          rw [h2]
          exact ⟨obj, by rw [List.length_map]; exact short, vs, _, rv, obj⟩
        · rw [ahead_no h1 h2] at z
          cases z
end
/-- a def by its body, its code object known -/
theorem okGc {P : Program} {w : World} {K : PySem.W.Frag} {mg : Str → Option Value} {base : Heap} {k : Nat} {f : Addr} {fd : FuncData} {ps : List Str} {sp : Sp} {x qual : Str} {st : Stmt} {N : List Str} {cv : Value} (F : Fun K x qual st f fd) (hc : fd.code = cv) (S : FnScope N ps (defScope st)) (size : ∀ vs H Q E, sp vs H Q E → vs.length = ps.length)
    (body : ∀ (A : Around), Calm A → ∀ (outer : List Env) (s : Shared) (H : Hp) (vs : List V) (Q : VK) (E : XK), Room k (A.deeper (envOfC qual (defScope st) s.heap.objs.size f cv)) → sp vs H Q E → ∃ t, PSs (cxOf CX0 P w K mg base N qual (defScope st) f cv A outer s H E).nox (defBody st) t ∧ t { nx := fun _ H' => Q .non H', rt := Q } (start N vs) H) :
    FnG P w K mg base CX0 (k + 1) f fd ps sp := by
  obtain ⟨oc, od, kV, doc, pm, an, cdv, ct, osl, rfl, lk, hcd⟩ := F.ex
  cases (show cdv = cv from hc)
  refine fnG_of lk hcd S size fun A calm outer s H vs Q E hr hsp => ?_
  obtain ⟨t, h, q⟩ := body A calm outer s H vs Q E hr hsp
  exact ⟨t, h.nox, q⟩
theorem walkT {l : PySem.W.OpenLaw} {n k : Nat} {q : Program} {loose : List Str} {XP : (Str → Option Value) → Heap → Prop} {YP : World → Heap → Prop} {d : DefRec} {K : Params → PySem.W.Frag} {x : Str} (hn : l.most = some n) (hn2 : n ≤ sizeLine) (hdf : d.params.defaults = []) (hr : Room k callerA)
    (hY : ∀ (w : World) (h : Heap), YP w h → (K w.params).In h)
    (F : ∀ (w : World) (mg : Str → Option Value) (fa : Addr) (h : Heap), YP w h → (K w.params).In h → h.Ns mainGlobals mg → mg d.name = some (.ref fa) → (∀ (y : Str) (c T : Addr), ((recsOf q).find? fun e => e.name == y).isSome = true → PySem.W.tabIn (K w.params) y = some (c, T) → PySem.W.CodeHd h c T ∧ h.get? T = some emptyT) →
      ∃ (fd : FuncData) (cs : List (Addr × Addr)) (sp : Sp), TabsE (K w.params) mg h cs ∧ (∀ (s : Shared) (u : Value), BindsTo s fd ⟨[u], []⟩ [(x, u)]) ∧
        (∀ (H : Hp) (a : Addr) (ns : List Int), ns.length ≤ n → (∀ z ∈ ns, Builtin.Int.intBits z ≤ 1048576) → (∀ p ∈ cs, H p.2 = some (.tbl #[])) → SqL (K w.params) H a (ns.map V.int) → sp [.ref a] H (fun v _ => v = .bl true) fun _ _ _ => False) ∧
        ∀ base : Heap, (K w.params).In base → base.Ns mainGlobals mg → (∀ p ∈ cs, LamX.TabB base mg p.1 p.2) → FnG l.prog w (K w.params) mg base CX0 k fa fd [x] sp) :
    PySem.W.WalkO q loose XP YP l.row.toRowW d [] (fun f vs => PySem.call f vs) := by
  refine Att.attach_callB hn hdf ?_
  intro w s₀ s₁ mg mb fa o pm cd doc a vs ns G Y ho hd hcd hmg hobj hints hlen hbits hg
  have kin := hY w _ Y
  obtain ⟨fd, cs, sp, T, hb, hsp, hF⟩ := F w mg fa _ Y kin G.T.g hmg fun y c tb hy ht => by
    obtain ⟨r, hr1⟩ := Option.isSome_iff_exists.mp hy
    exact PySem.W.tab_of G.T kin hr1 ht
  exact lawT_call T kin G.T.g G.T.b G.T.builtins G.T.nolimit hg G.T.bmain hobj hints (Nat.le_trans hlen hn2) hr hF hb fun H hH hS => hsp H a ns hlen hbits hH hS
end Pk
namespace Pk
open PySem L2
/-! ### tuples of things, shown -/
structure ShowsL (K : PySem.W.Frag) (H : Hp) (L : List V) (ds : List PyData) (n k : Nat) : Prop where
  dp : DpAll K H L ds
  sh : PyData.showableAll ds = true
  de : PyData.depthAll ds ≤ k
  nd : PyData.hasDictAll ds = false
  sz : ((PyData.shownAll ds).map fun t => t.length + 2).sum ≤ n
section
variable {K : PySem.W.Frag} {H : Hp} {L : List V} {ds : List PyData} {n k : Nat}
theorem ShowsL.nil : ShowsL K H [] [] 0 k := ⟨.nil, by simp [PyData.showableAll], by simp [PyData.depthAll], by simp [PyData.hasDictAll], by simp [PyData.shownAll]⟩
theorem ShowsL.str {z : Str} (hl : z.length ≤ 100) (ho : Sgn z) (h : ShowsL K H L ds n k) : ShowsL K H (.str z :: L) (.str z :: ds) (n + 1004) k where
  dp := .cons (.str z) h.dp
  sh := by simp [PyData.showableAll, PyData.showable, h.sh]
  de := by
    have := h.de
    simp [PyData.depthAll, PyData.depth]
    omega
  nd := by simp [PyData.hasDictAll, PyData.hasDict, h.nd]
  sz := by
    have h1 := h.sz
    have h2 := repr_le hl ho
    simp [PyData.shownAll, PyData.shown]
    omega
theorem small_text {i : Int} (h0 : 0 ≤ i) (h9 : i ≤ 9) : (Str.ofString (toString i)).length ≤ 2 := by
  have : i = 0 ∨ i = 1 ∨ i = 2 ∨ i = 3 ∨ i = 4 ∨ i = 5 ∨ i = 6 ∨ i = 7 ∨ i = 8 ∨ i = 9 := by omega
  rcases this with rfl | rfl | rfl | rfl | rfl | rfl | rfl | rfl | rfl | rfl <;> decide +kernel
theorem small_log {i : Int} (h0 : 0 ≤ i) (h9 : i ≤ 9) : i.natAbs.log2 < 1920 := by
  have : i = 0 ∨ i = 1 ∨ i = 2 ∨ i = 3 ∨ i = 4 ∨ i = 5 ∨ i = 6 ∨ i = 7 ∨ i = 8 ∨ i = 9 := by omega
  rcases this with rfl | rfl | rfl | rfl | rfl | rfl | rfl | rfl | rfl | rfl <;> decide +kernel
theorem ShowsL.int {i : Int} (h0 : 0 ≤ i) (h9 : i ≤ 9) (h : ShowsL K H L ds n k) : ShowsL K H (.int i :: L) (.int i :: ds) (n + 4) k where
  dp := .cons (.int i) h.dp
  sh := by
    have e : PyData.showable (.int i) = true := decide_eq_true (small_log h0 h9)
    simp [PyData.showableAll, e, h.sh]
  de := by
    have := h.de
    simp [PyData.depthAll, PyData.depth]
    omega
  nd := by simp [PyData.hasDictAll, PyData.hasDict, h.nd]
  sz := by
    have h1 := h.sz
    have h2 := small_text h0 h9
    have e : (PyData.int i).shown = Str.ofString (toString i) := by simp [PyData.shown]
    have e2 : ((PyData.shownAll (.int i :: ds)).map fun t => t.length + 2).sum = ((PyData.int i).shown.length + 2) + ((PyData.shownAll ds).map fun t => t.length + 2).sum := by simp [PyData.shownAll]
    rw [e2, e]
    omega
theorem join_le : ∀ ts : List Str, (Str.join ", " ts).length ≤ (ts.map fun t => t.length + 2).sum
  | [] => Nat.zero_le _
  | [x] => by
    show x.length ≤ _
    simp
  | x :: y :: r => by
    have ih := join_le (y :: r)
    show (x ++ ", " ++ Str.join ", " (y :: r)).length ≤ _
    rw [app_len, app_len, show ((", " : String) : Str).length = 2 by decide +kernel, List.map_cons, List.sum_cons]
    omega
theorem tup_le (ts : List Str) : (tupleText ts).length ≤ 3 + (ts.map fun t => t.length + 2).sum := by
  unfold tupleText
  have h := join_le ts
  have h2 : (((if ts.length == 1 then ",)" else ")" : String) : Str)).length ≤ 2 := by split <;> decide +kernel
  rw [app_len, app_len, show (("(" : String) : Str).length = 1 by decide +kernel]
  omega
theorem ShowsL.tup {a : Addr} {L2 : List V} {ds2 : List PyData} {n2 k2 : Nat} (ha : H a = some (.tup L2)) (g : ShowsL K H L2 ds2 n2 k2) (hk : k2 + 1 ≤ k) (h : ShowsL K H L ds n k) : ShowsL K H (.ref a :: L) (.tuple ds2 :: ds) (n + n2 + 5) k where
  dp := .cons (.tup (SqT.of ha) g.dp) h.dp
  sh := by simp [PyData.showableAll, PyData.showable, g.sh, h.sh]
  de := by
    have := h.de
    have := g.de
    simp [PyData.depthAll, PyData.depth]
    omega
  nd := by simp [PyData.hasDictAll, PyData.hasDict, g.nd, h.nd]
  sz := by
    have h1 := h.sz
    have h2 := g.sz
    have h3 := tup_le (PyData.shownAll ds2)
    simp [PyData.shownAll, PyData.shown]
    omega
theorem ShowsL.all {t : Addr} (ht : H t = some (.tup L)) (h : ShowsL K H L ds n k) (hn : n ≤ 100000) (hk : k ≤ 60) : Shows K H (.ref t) (.tuple ds) where
  dq := .of (.tup (SqT.of ht) h.dp) (by simp [PyData.hasDict, h.nd])
  sh := by simp [PyData.showable, h.sh]
  dp := by
    have := h.de
    simp [PyData.depth]
    omega
  sz := by
    have h1 := h.sz
    have h3 := tup_le (PyData.shownAll ds)
    have e : (PyData.tuple ds).shown = tupleText (PyData.shownAll ds) := by simp [PyData.shown]
    rw [e, sizeLine_eq]
    omega
/-- texts -/
theorem ShowsL.texts (k : Nat) : ∀ L : List V, L.all textV = true → (∀ v ∈ L, Thg H v) → ∃ ds, ShowsL K H L ds (1004 * L.length) k
  | [], _, _ => ⟨[], .nil⟩
  | v :: L, h, ht => by
    rw [List.all_cons, Bool.and_eq_true] at h
    obtain ⟨ds, g⟩ := ShowsL.texts k L h.2 (fun u hu => ht u (List.mem_cons_of_mem _ hu))
    have hv := ht v List.mem_cons_self
    have h1 := h.1
    cases hv with
    | str z hl ho =>
      have hz : textT z = true := h1
      unfold textT at hz
      simp only [Bool.and_eq_true, decide_eq_true_iff] at hz
      refine ⟨.str z :: ds, ?_⟩
      have e := ShowsL.str (by omega) ho g
      rw [List.length_cons, show 1004 * (L.length + 1) = 1004 * L.length + 1004 by omega]
      exact e
    | _ => cases h1
end
end Pk
namespace Pk
open PySem L2
theorem ShowsL.intW {K : PySem.W.Frag} {H : Hp} {L : List V} {ds : List PyData} {n k : Nat} {i : Int} (hl : i.natAbs.log2 < 1920) (h : ShowsL K H L ds n k) : ShowsL K H (.int i :: L) (.int i :: ds) (n + 1923) k where
  dp := .cons (.int i) h.dp
  sh := by
    have e : PyData.showable (.int i) = true := decide_eq_true hl
    simp [PyData.showableAll, e, h.sh]
  de := by
    have := h.de
    simp [PyData.depthAll, PyData.depth]
    omega
  nd := by simp [PyData.hasDictAll, PyData.hasDict, h.nd]
  sz := by
    have h1 := h.sz
    have h2 := int_text_length_le (k := 1920) (by decide) hl
    have e : (PyData.int i).shown = Str.ofString (toString i) := by simp [PyData.shown]
    have e2 : ((PyData.shownAll (.int i :: ds)).map fun t => t.length + 2).sum = ((PyData.int i).shown.length + 2) + ((PyData.shownAll ds).map fun t => t.length + 2).sum := by simp [PyData.shownAll]
    rw [e2, e, ofString_length]
    omega
theorem ShowsL.allL {K : PySem.W.Frag} {H : Hp} {L : List V} {ds : List PyData} {n k : Nat} {t : Addr} (h : ShowsL K H L ds n k) (ht : H t = some (.lst L)) (hn : n ≤ 100000) (hk : k ≤ 60) : Shows K H (.ref t) (.list ds) where
  dq := .of (.lst (SqL.of ht) h.dp) (by simp [PyData.hasDict, h.nd])
  sh := by simp [PyData.showable, h.sh]
  dp := by
    have := h.de
    simp [PyData.depth]
    omega
  sz := by
    have h1 := h.sz
    have h3 := list_le (PyData.shownAll ds)
    have e : (PyData.list ds).shown = listText (PyData.shownAll ds) := by simp [PyData.shown]
    rw [e, sizeLine_eq]
    omega
/-- numbers up to 999 as texts -/
theorem mid_ne {i : Int} (h0 : 0 ≤ i) (h9 : i ≤ 999) : Str.ofString (toString i) ≠ "" := by
  obtain ⟨n, rfl⟩ := Int.eq_ofNat_of_zero_le h0
  have h : ∀ n : Fin 1000, Str.ofString (toString ((n : Nat) : Int)) ≠ "" := by decide +kernel
  exact h ⟨n, by omega⟩
theorem told_int {K : PySem.W.Frag} {H : Hp} {i : Int} (h0 : 0 ≤ i) (h9 : i ≤ 999) : Told K H (.int i) (.int i) := by
  have hl : i.natAbs.log2 < 1920 := Nat.lt_of_le_of_lt (Nat.log2_le_self _) (by omega)
  have h2 := int_text_length_le (k := 1920) (by decide) hl
  have e : (PyData.int i).shown = Str.ofString (toString i) := by simp [PyData.shown]
  refine ⟨.int i, by simp [PyData.hasDict], decide_eq_true hl, by simp [PyData.depth], ?_, ?_⟩
  · rw [e, ofString_length]
    omega
  · show (PyData.int i).shown.length ≤ 100000
    rw [e, ofString_length]
    omega
end Pk
namespace Pk
open PySem L2
open LamX (Tabs ExtN TabS CodeO tLam TabB)
/-! ### all but a draw and the tables stays -/
def Keep (d : Addr) (H H' : Hp) : Prop := ∀ b o, b ≠ d → (∀ ps, o ≠ .tbl ps) → H b = some o → H' b = some o
theorem Keep.but {d : Addr} {H H' : Hp} (b : But d H H') : Keep d H H' := fun q o n _ e => b q o n e
theorem Keep.same {d : Addr} {H H' : Hp} (s : Same H H') : Keep d H H' := fun q o _ _ e => s q o e
theorem Keep.ext {d : Addr} {H H' : Hp} (s : ExtN H H') : Keep d H H' := fun q o _ n e => s q o e n
theorem Keep.trans {d : Addr} {H H1 H2 : Hp} (a : Keep d H H1) (b : Keep d H1 H2) : Keep d H H2 := fun q o n t e => b q o n t (a q o n t e)
theorem ExtN.same {H H' : Hp} (s : Same H H') : ExtN H H' := ExtN.of fun b o e => s b o e
theorem DrawAt.ext {H H' : Hp} {d : Addr} {t : Int} (h : DrawAt H d t) (s : ExtN H H') : DrawAt H' d t := by
  obtain ⟨c, ns, l, h1, h2, h3⟩ := h
  exact ⟨c, ns, l, s _ _ h1 (fun _ z => by cases z), s _ _ h2 (fun _ z => by cases z), h3⟩
theorem DrawAt.keep {H H' : Hp} {d e : Addr} {t t' : Int} (h : DrawAt H d t) (k : Keep e H H') (n : d ≠ e) (g : DrawAt H e t') : DrawAt H' d t := by
  obtain ⟨c, ns, l, h1, h2, h3⟩ := h
  exact ⟨c, ns, l, k _ _ n (fun _ z => by cases z) h1, k _ _ (g.ne h2 fun _ z => by cases z) (fun _ z => by cases z) h2, h3⟩
theorem tabs_but {T : List (Addr × Str)} {H H' : Hp} {d : Addr} {t : Int} (h : Tabs T H) (b : But d H H') (D : DrawAt H d t) : Tabs T H' := fun p hp => by
  obtain ⟨ps, h1, h2, h3⟩ := h p hp
  refine ⟨ps, b _ _ (D.ne h1 fun _ z => by cases z) h1, h2, fun pos cv hc => ?_⟩
  obtain ⟨c, e1, e2⟩ := h3 pos cv hc
  exact ⟨c, e1, b _ _ (D.ne e2 fun _ z => by unfold CodeO at z; cases z) e2⟩
theorem tabs_put {T : List (Addr × Str)} {H : Hp} {D : Addr} {L M : List V} (h : Tabs T H) (e : H D = some (.lst L)) : Tabs T (upd H D (.lst M)) := fun p hp => by
  obtain ⟨ps, h1, h2, h3⟩ := h p hp
  refine ⟨ps, by rw [upd_ne (apart h1 e fun z => by cases z)]; exact h1, h2, fun pos cv hc => ?_⟩
  obtain ⟨c, e1, e2⟩ := h3 pos cv hc
  exact ⟨c, e1, by rw [upd_ne (apart e2 e fun z => by unfold CodeO at z; cases z)]; exact e2⟩
def wD (q : WD) : List PyData := [.str q.wd, .str q.wh, .int q.le, .int q.mo]
theorem pair_dp {K : PySem.W.Frag} {H : Hp} {p : Addr} {y z : Str} (h : H p = some (.tup [.str y, .str z])) : Dp K H (.ref p) (.tuple [.str y, .str z]) := .tup (SqT.of h) (.cons (.str _) (.cons (.str _) .nil))
theorem pair_shaped {y z : Str} (hy : PyData.strOk y = true) (hz : PyData.strOk z = true) : SeqAt.shaped (.tuple [.str y, .str z]) = true ∧ PyData.eqv (.tuple [.str y, .str z]) (.tuple [.str y, .str z]) = true := by
  simp [SeqAt.shaped, PyData.canLay0, PyData.canLayAll0, PyData.depth, PyData.depthAll, PyData.eqv, PyData.eqvAll, hy, hz]
theorem WI.keepD {CW x d : Addr} {H H' : Hp} {q : WD} {t : Int} (h : WI CW H x q) (k : Keep d H H') (D : DrawAt H d t) : WI CW H' x q := h.imp fun _ e => k _ _ (D.ne e fun _ z => by cases z) (fun _ z => by cases z) e
theorem lst_keepD {d m : Addr} {H H' : Hp} {L : List V} {t : Int} (h : H m = some (.lst L)) (k : Keep d H H') (D : DrawAt H d t) : H' m = some (.lst L) := k _ _ (D.ne h fun _ z => by cases z) (fun _ z => by cases z) h
theorem GoodI.sok {q : WD} (g : GoodI q) : PyData.strOk q.wd = true ∧ PyData.strOk q.wh = true := by
  have s1 : Sgn q.wd := sgn_dec (words6_all _ g.wd).2
  have s2 : Sgn q.wh := by
    rcases g.name with n | n
    · exact name_sgn n
    · rw [n]
      exact sgn_dec (by decide +kernel)
  exact ⟨(sok_iff _).mpr s1.ok, (sok_iff _).mpr s2.ok⟩
theorem wD_dp {K : PySem.W.Frag} {H : Hp} {m : Addr} {q : WD} (h : H m = some (.lst (wV q))) : Dp K H (.ref m) (.list (wD q)) := .lst (SqL.of h) (.cons (.str _) (.cons (.str _) (.cons (.int _) (.cons (.int _) .nil))))
theorem wD_shaped {q : WD} (g : GoodI q) : SeqAt.shaped (.list (wD q)) = true := by
  obtain ⟨h1, h2⟩ := g.sok
  simp [wD, SeqAt.shaped, PyData.canLay0, PyData.canLayAll0, PyData.depth, PyData.depthAll, h1, h2]
theorem wD_eqv (q1 q2 : WD) : PyData.eqv (.list (wD q1)) (.list (wD q2)) = decide (q1 = q2) := by
  obtain ⟨a1, a2, a3, a4⟩ := q1
  obtain ⟨b1, b2, b3, b4⟩ := q2
  rw [Bool.eq_iff_iff]
  simp [wD, PyData.eqv, PyData.eqvAll]
theorem WI.ext {CW x : Addr} {H H' : Hp} {q : WD} (h : WI CW H x q) (e : ExtN H H') : WI CW H' x q := h.imp fun _ z => e _ _ z (fun _ z => by cases z)
/-! ### read right -/
theorem wishP_good {p : Str × Str × Str × Str} (h : wrongP (some p) = "") : GoodW (wishP p) := by
  obtain ⟨a, b, c, d⟩ := p
  obtain ⟨e1, e2, _, _⟩ := wrongP_some h
  have h : wrongW (.str a) (.str b) (numBy c) (numBy d) = "" := h
  rw [e1, e2] at h
  exact h
def tSaidW (CW : Addr) (T : List (Addr × Str)) : TE := fun σ H Q => ∃ z : Str, σ[5]? = some (some (.str z)) ∧ z.length ≤ 1000 ∧ (∀ v ∈ wordsOf z, Wd v) ∧ Tabs T H ∧
  (wrongP (partsT (wordsOf z)) ≠ "" → ∀ (p : Addr) (H' : Hp), ExtN H H' → Tabs T H' → H' p = some (.tup [.str "wish", .str (wrongP (partsT (wordsOf z)))]) → Q (.ref p) H') ∧
  (∀ p0, partsT (wordsOf z) = some p0 → wrongP (some p0) = "" → ∀ (p y : Addr) (H' : Hp), ExtN H H' → Tabs T H' → H' p = some (.tup [.str "told", .ref y]) → WI CW H' y (wishP p0) → Q (.ref p) H')
theorem saidW_sp {K : PySem.W.Frag} {CW cW cK cT : Addr} {T : List (Addr × Str)} {σ : St} {H : Hp} {Q : VK} (h : tSaidW CW T σ H Q) : ∃ z : Str, σ[5]? = some (some (.str z)) ∧ Tabs T H ∧ ∀ H1, ExtN H H1 → Tabs T H1 → TTsaid cW cK cT (fun E H' Q' => spWishBy K CW cW cT [.str z] H' Q' E) H1 Q := by
  obtain ⟨z, e5, lz, W, hT, bad, good⟩ := h
  refine ⟨z, e5, hT, fun H1 eN T1 E Q1 hW hK hX hTo => ⟨_, rfl, .inl ⟨z, rfl, lz, W, fun h d H' s' hd => hW d H' _ hd fun p H2 s2 hp => ?_, fun p0 e h y H' s' wi => hTo _ _ fun p H2 s2 hp => ?_⟩⟩⟩
  · exact bad h p H2 (eN.trans (ExtN.same (s'.trans s2))) (T1.ext fun b o e => s2 _ _ (s' _ _ e)) hp
  · exact good p0 e h p y H2 (eN.trans (ExtN.same (s'.trans s2))) (T1.ext fun b o e => s2 _ _ (s' _ _ e)) hp (wi.same s2)
theorem saidW_imp {K : PySem.W.Frag} {CW cW cK cT : Addr} {T : List (Addr × Str)} : ∀ σ H Q, tSaidW CW T σ H Q → tLam T (TTsaid cW cK cT) (fun E => tCall (spWishBy K CW cW cT) [] E (tCons (tVar 5) tNil)) σ H Q := by
  intro σ H Q h
  obtain ⟨z, e5, hT, k⟩ := saidW_sp (K := K) (cW := cW) (cK := cK) (cT := cT) h
  exact ⟨hT, fun H1 eN T1 E Q1 hW hK hX hTo => ⟨_, e5, k H1 eN T1 E Q1 hW hK hX hTo⟩⟩
theorem saidW_impK {K : PySem.W.Frag} {CW cW cK cT : Addr} {T : List (Addr × Str)} : ∀ σ H Q, tSaidW CW T σ H Q → tLam T (TTsaid cW cK cT) (fun E => tCallK (spWishBy K CW cW cT) (fun vs zs => vs ++ zs) E tNil (tCons (tVar 5) tNil)) σ H Q := by
  intro σ H Q h
  obtain ⟨z, e5, hT, k⟩ := saidW_sp (K := K) (cW := cW) (cK := cK) (cT := cT) h
  exact ⟨hT, fun H1 eN T1 E Q1 hW hK hX hTo => ⟨_, e5, k H1 eN T1 E Q1 hW hK hX hTo⟩⟩
abbrev readQ : Str := (PyProof.Rows.envOfC "_law_read_right" (defScope sReadR) 0 0 .none).qual ++ "<lambda>"
def spReadR (CW : Addr) (T : List (Addr × Str)) : Sp := fun vs H Q _ => ∃ (d l : Addr) (t : Int) (ws : List Str), vs = [.ref d, .ref l] ∧ DrawAt H d t ∧ 0 ≤ t ∧ t ≤ 50000 ∧ H l = some (.lst (ws.map V.str)) ∧ ws.length ≤ 10 ∧ (∀ v ∈ ws, Wd v) ∧ Tabs T H ∧
  ∀ (H' : Hp) (t' : Int), Keep d H H' → DrawAt H' d t' → t ≤ t' → t' ≤ t + 12 → Tabs T H' → Q (.bl true) H'
theorem wrongP_ok (p : Option (Str × Str × Str × Str)) : PyData.strOk (wrongP p) = true := by
  refine (sok_iff _).mpr ?_
  unfold SOk wrongP
  cases p with
  | none => decide +kernel
  | some p =>
    obtain ⟨a, b, c, d⟩ := p
    dsimp only
    unfold wrongW
    repeat' (first | decide +kernel | split)
section
variable {P : Program} {w : World} {K : PySem.W.Frag} {mg : Str → Option Value} {base : Heap}
abbrev NReadR : List Str := ["_law_draw", "_law_words_here", "_law_due_here", "_law_told", "_law_wish", "_law_own_text"]
theorem scReadR : FnScope NReadR ["_law_draw", "_law_words_here"] (defScope sReadR) := ⟨rfl, rfl, rfl, by decide +kernel, rfl, by decide +kernel, by decide +kernel⟩
theorem kWishBy {f : Addr} {fd : FuncData} (F : Fun K "wish_of" "wish_of" sWishBy f fd) : KBinds K fd ["text"] ["text"] (fun us ws => us ++ ws) (fun vs zs => vs ++ zs) :=
  kbinds_one F (fun _ _ _ _ _ _ _ => rfl) (fun _ _ _ _ _ _ _ => rfl)
theorem ok_readR {f fU fP fB fG fE CW cB cc PT fI fJ : Addr} {c : Nat → Addr} {T : List (Addr × Str)} {fd fdU fdP fdB fdG fdE : FuncData} (F : Fun K "_law_read_right" "_law_read_right" sReadR f fd) (hc : fd.code = .ref cc) (TB : TabB base mg cc PT) (hmT : (PT, readQ) ∈ T) (huT : ∀ p ∈ T, p.1 = PT → p.2 = readQ)
    (mi : mg "isinstance" = none) (ms : mg "str" = none) (mt : mg "tuple" = none) (C : WCls K CW) (O : OTy K CW)
    (GU : FnOk P w K mg base CX0 1 fU fdU ["_law_words_here"] spDue) (kU : PySem.W.keepIn K (.ref fU) = true) (bU : Binds K fdU ["_law_words_here"] []) (gU : mg "_law_due" = some (.ref fU))
    (GP : FnOk P w K mg base CX0 2 fP fdP ["_law_draw", "_law_words_here"] spSpaced) (kP : PySem.W.keepIn K (.ref fP) = true) (bP : Binds K fdP ["_law_draw", "_law_words_here"] []) (gP : mg "_law_spaced" = some (.ref fP))
    (FB : Fun K "wish_of" "wish_of" sWishBy fB fdB) (GB : FnOk P w K mg base (L2.CX P w) 6 fB fdB ["text"] (spWishBy K CW (c 0) (c 6))) (kB : PySem.W.keepIn K (.ref fB) = true) (bB : Binds K fdB ["text"] []) (gB : mg "wish_of" = some (.ref fB))
    (GE : FnOk P w K mg base CX0 1 fE fdE ["self", "other"] (spWEq K CW)) (aE : PySem.W.findIn K (.ref CW) "__eq__" = some (some (.ref fE))) (hE : PySem.W.isFn K (.ref fE) = true) (bE : Binds K fdE ["self", "other"] []) (neE : PySem.W.findIn K (.ref CW) "__ne__" = some (some (.builtin "object.__ne__")))
    (FG : Fun K "_law_said" "_law_said" sSaid fG fdG) (bG : Binds K fdG ["_law_deed"] []) (gG : mg "_law_said" = some (.ref fG)) (TS_ : TxS K mg cB c) (TI_ : TxI K cB c) (TW : TxW K mg (c 0) fI) (TK : TxK K mg (c 10) fJ) :
    FnG P w K mg base CX0 9 f fd ["_law_draw", "_law_words_here"] (spReadR CW T) := by
  have nf : PySem.W.notFirst K CW (.ref CW) = true := by simp [PySem.W.notFirst]
  refine okGc F hc scReadR (fun vs H Q E h => ?_) (fun A calm outer s H vs Q E hr h => ?_)
  · obtain ⟨d, l, t, ws, rfl, _⟩ := h
    rfl
  · obtain ⟨d, l, t, ws, rfl, D, t0, t1, hl, lw, W, hT, fin⟩ := h
    have r1 : Room 1 _ := hr.mono (by decide)
    have r2 : Room 2 _ := hr.mono (by decide)
    have r6 : Room 6 _ := hr.mono (by decide)
    have hu64 : _ + 64 < cLine := Nat.lt_of_le_of_lt (Nat.add_le_add_left (by decide) _) (room_show hr)
    refine ⟨_, pss_cons (ps_asg (pe_tup (pa_cons (pe_call GU r1 (by rfl) gU kU bU .nil pass0 (pa_cons (pv 1) pa_nil)) (pa_cons (pe_call GP r2 (by rfl) gP kP bP .nil pass0 (pa_cons (pv 0) (pa_cons (pv 1) pa_nil))) pa_nil))) (pg_tup rfl (pgs_cons (pg_name (i := 2) scReadR.nd rfl (.inl rfl)) (pgs_cons (pg_name (i := 5) scReadR.nd rfl (.inr rfl)) pgs_nil))))
      (pss_cons (ps_set (i := 3) scReadR.nd rfl (.inl rfl) (pe_imp (tSaidW CW T) (pe_lamS (k := 6) (T := T) (TT := TTsaid (c 0) (c 10) (c 6)) (t := fun E => tCall (spWishBy K CW (c 0) (c 6)) [] E (tCons (tVar 5) tNil)) (by rfl) gG FG bG scSaid rfl (.inl rfl) (fun cdv => said_gives TS_ TI_ TW TK mi mt) TB rfl (by exact hmT) (by exact huT) hr (show LamX.LamS (defScope sReadR) _ from LamX.lamS_by (by decide +kernel)) rfl (fun _ _ _ _ _ => rfl)
          (fun A outer s H E f c' hr2 => by exact pe_call (E := E) GB hr2 (by rfl) gB kB bB .nil (passes_call (takes_of rfl rfl rfl rfl) fun _ _ _ _ h => h) (pa_cons (pv 5) pa_nil))) (fun σ H Q h => saidW_imp _ _ _ h)))
      (pss_cons (ps_if (pt_val (isb (i := 2) mi ms PyProof.Rows.boot_str)) (pss_one (ps_ret (pe_and (pe_cmpR (op_eqD hu64) (pv 3) (pe_tup (pa_cons pe_str (pa_cons (pv 2) pa_nil))) (nomark _)) (pe_one (pe_cmpR (op_eqD hu64) (pe_imp (tSaidW CW T) (pe_lamS (k := 6) (T := T) (TT := TTsaid (c 0) (c 10) (c 6)) (t := fun E => tCallK (spWishBy K CW (c 0) (c 6)) (fun vs zs => vs ++ zs) E tNil (tCons (tVar 5) tNil)) (by rfl) gG FG bG scSaid rfl (.inl rfl) (fun cdv => said_gives TS_ TI_ TW TK mi mt) TB rfl (by exact hmT) (by exact huT) hr (show LamX.LamS (defScope sReadR) _ from LamX.lamS_by (by decide +kernel)) rfl (fun _ _ _ _ _ => rfl)
          (fun A outer s H E f c' hr2 => by exact pe_callK0 (E := E) GB hr2 (by rfl) gB kB (kWishBy FB) (passes_call (takes_of rfl rfl rfl rfl) fun _ _ _ _ h => h) (pk_cons (pv 5) pk_nil))) (fun σ H Q h => saidW_impK _ _ _ h)) (pv 3) (nomark _)))))) pss_nil)
      (pss_cons (ps_if (pt_cmpR (op_neO GE r2 aE neE O.hm hE bE) (pe_callK0 (E := E0) GB r6 (by rfl) gB kB (kWishBy FB) pass_no (pk_cons (pv 5) pk_nil)) (pe_ix ix_tup (pv 3) pe_int (fun _ _ => rfl)) (nomark _)) (pss_one (ps_ret pe_bl)) pss_nil)
      (pss_cons (ps_set (i := 4) scReadR.nd rfl (.inl rfl) (pe_ix ix_tup (pv 3) pe_int (fun _ _ => rfl)))
      (pss_one (ps_ret (pe_and (pe_cmpR op_eq (pe_ix ix_tup (pv 3) pe_int (fun _ _ => rfl)) pe_str (nomark _)) (pe_one (pe_cmpR (op_eqD hu64) (pe_lst (pa_cons (pe_fld (pv 4) rfl) (pa_cons (pe_fld (pv 4) rfl) (pa_cons (pe_fld (pv 4) rfl) (pa_cons (pe_fld (pv 4) rfl) pa_nil))))) (pv 2) (nomark _)))))))))), ?_⟩
    -- the two cases
    refine ⟨_, rfl, l, ws, rfl, hl, by omega, W, fun wr H1 s1 => ?_, fun p0 eP wr r H1 s1 hr1 => ?_⟩
    · have hl1 := s1 _ _ hl
      refine ⟨_, rfl, _, rfl, d, l, t, ws, rfl, D.same s1, t0, by omega, hl1, lw, W, fun z H2 t2 ez lz u2 D2 ta2 tb2 => ⟨by show 2 ≤ sizeLine; decide, fun p np => ?_⟩⟩
      have s3 := same_upd (o := .tup [.str (wrongP (partsT ws)), .str z]) np
      refine ⟨p, _, rfl, SqT.of upd_same, rfl, _, _, rfl, _, _, rfl, rfl, ?_⟩
      have k3 : Keep d H _ := ((Keep.same s1).trans (Keep.but u2)).trans (Keep.same s3)
      have D3 := D2.same s3
      have T3 := (tabs_but (hT.ext s1) u2 (D.same s1)).ext s3
      dsimp only [gName]
      show tSeq _ _ _ _ (upd H2 p (.tup [.str (wrongP (partsT ws)), .str z]))
      generalize upd H2 p (.tup [.str (wrongP (partsT ws)), .str z]) = H3 at k3 D3 T3 ⊢
      refine ⟨z, rfl, lz, by rw [ez]; exact W, T3, fun _ p4 H4 e4 T4 h4 => ?_, fun p0 e h => ?_⟩
      case refine_2 =>
        rw [ez] at e
        rw [e] at wr
        exact absurd h wr
      rw [ez] at h4
      refine ⟨_, rfl, _, _, _, _, true, rfl, .ty "str", .base (.str _), kit_ty (by decide +kernel), _, rfl, iteT ?_⟩
      refine ⟨_, rfl, _, rfl, by show 2 ≤ sizeLine; decide, fun p5 n5 => ?_⟩
      have s5 := same_upd (o := .tup [.str "wish", .str (wrongP (partsT ws))]) n5
      obtain ⟨a1, a2⟩ := pair_shaped (y := "wish") (by decide +kernel) (wrongP_ok (partsT ws))
      refine ⟨_, _, pair_dp (s5 _ _ h4), pair_dp upd_same, a1, a1, _, rfl, ?_⟩
      rw [a2]
      refine iteT ⟨z, rfl, lz, by rw [ez]; exact W, T4.ext s5, fun _ p6 H6 e6 T6 h6 => ?_, fun p0 e h => ?_⟩
      case refine_2 =>
        rw [ez] at e
        rw [e] at wr
        exact absurd h wr
      rw [ez] at h6
      refine ⟨_, rfl, _, _, pair_dp h6, pair_dp (e6 _ _ (s5 _ _ h4) (fun _ z => by cases z)), a1, a1, ?_⟩
      rw [a2]
      exact fin H6 t2 (((k3.trans (Keep.ext e4)).trans (Keep.same s5)).trans (Keep.ext e6)) (((D3.ext e4).same s5).ext e6) (by omega) (by omega) T6
    · have hl1 := s1 _ _ hl
      have g := wishP_good wr
      refine ⟨_, rfl, _, rfl, d, l, t, ws, rfl, D.same s1, t0, by omega, hl1, lw, W, fun z H2 t2 ez lz u2 D2 ta2 tb2 => ⟨by show 2 ≤ sizeLine; decide, fun p np => ?_⟩⟩
      have s3 := same_upd (o := .tup [.ref r, .str z]) np
      have hr2 := u2 _ _ ((D.same s1).ne hr1 fun _ z => by cases z) hr1
      have hr3 := s3 _ _ hr2
      refine ⟨p, _, rfl, SqT.of upd_same, rfl, _, _, rfl, _, _, rfl, rfl, ?_⟩
      have k3 : Keep d H _ := ((Keep.same s1).trans (Keep.but u2)).trans (Keep.same s3)
      have D3 := D2.same s3
      have T3 := (tabs_but (hT.ext s1) u2 (D.same s1)).ext s3
      dsimp only [gName]
      show tSeq _ _ _ _ (upd H2 p (.tup [.ref r, .str z]))
      generalize upd H2 p (.tup [.ref r, .str z]) = H3 at k3 D3 T3 hr3 ⊢
      refine ⟨z, rfl, lz, by rw [ez]; exact W, T3, fun h => ?_, fun p1 e h p4 y H4 e4 T4 h4 wy => ?_⟩
      · rw [ez, eP] at h
        exact absurd wr h
      rw [ez, eP] at e
      cases e
      have hr4 := e4 _ _ hr3 (fun _ z => by cases z)
      refine ⟨_, rfl, _, _, _, _, false, rfl, .ty "str", .base (.lst hr4), kit_ty (by decide +kernel), _, rfl, iteF ?_⟩
      refine ⟨_, rfl, _, rfl, .inl ⟨z, rfl, lz, by rw [ez]; exact W, fun h => ?_, fun p1 e h y2 H5 s5 wy2 => ?_⟩⟩
      · rw [ez, eP] at h
        exact absurd wr h
      rw [ez, eP] at e
      cases e
      obtain ⟨dy, hy5⟩ := wy.same s5
      obtain ⟨dy2, hy25⟩ := wy2
      have h45 := s5 _ _ h4
      refine ⟨_, rfl, p4, _, 1, .ref y, rfl, rfl, SqT.of h45, rfl, y2, dy2, _, _, rfl, hy25, O.ty hy5, nf, y2, .ref y, _, rfl, ⟨dy2, hy25⟩, .inl ⟨y, _, rfl, ⟨dy, hy5⟩, _, rfl, _, rfl, ?_⟩⟩
      rw [decide_eq_true rfl]
      refine iteF ⟨_, rfl, p4, _, 1, .ref y, rfl, rfl, SqT.of h45, rfl, ?_⟩
      refine ⟨_, rfl, p4, _, 0, .str "told", rfl, rfl, SqT.of h45, rfl, rfl, _, rfl, iteT ?_⟩
      refine ⟨_, rfl, y, CW, dy, _, _, rfl, hy5, C.cls, C.no _ (by decide), lw_word _ _ _ _, _, rfl, y, CW, dy, _, _, rfl, hy5, C.cls, C.no _ (by decide), lw_what _ _ _ _, _, rfl, y, CW, dy, _, _, rfl, hy5, C.cls, C.no _ (by decide), lw_least _ _ _ _, _, rfl, y, CW, dy, _, _, rfl, hy5, C.cls, C.no _ (by decide), lw_most _ _ _ _, by show 4 ≤ sizeLine; decide, fun p6 n6 => ?_⟩
      have s6 := same_upd (o := .lst (wV (wishP p0))) n6
      refine ⟨_, rfl, .list (wD (wishP p0)), .list (wD (wishP p0)), wD_dp upd_same, wD_dp (s6 _ _ (s5 _ _ hr4)), wD_shaped g.i, wD_shaped g.i, ?_⟩
      rw [wD_eqv, decide_eq_true rfl]
      exact fin _ t2 (((k3.trans (Keep.ext e4)).trans (Keep.same s5)).trans (Keep.same s6)) (((D3.ext e4).same s5).same s6) (by omega) (by omega) ((T4.ext s5).ext s6)
end
end Pk
namespace Pk
open PySem L2
open LamX (Tabs ExtN TabS CodeO tLam TabB)
/-! ### moved right -/
theorem kMoved {K : PySem.W.Frag} {f : Addr} {fd : FuncData} (F : Fun K "moved" "Wish.moved" sWMoved f fd) : KBn K fd ["self", "by"] 1 ["by"] (fun us ws => us ++ ws) (fun vs zs => vs ++ zs) := by
  obtain ⟨oc, od, kV, doc, pm, an, cdv, ct, osl, rfl, lk, hcd⟩ := F.ex
  exact ⟨fun s us ws X l1 l2 => match us, ws, l1, l2 with
    | [u], [v], _, _ => .of_eq rfl, fun r1 r2 => r1.append r2⟩
theorem lw_moved (a b c d : V) : (wFs a b c d).lookup ("moved" : Str) = none := by kernel_rfl
abbrev movedQ : Str := (PyProof.Rows.envOfC "_law_moved_right" (defScope sMovedR) 0 0 .none).qual ++ "<lambda>"
def tDueM : TE := fun σ H Q => ∃ (m : Addr) (q : WD) (n : Int), σ[1]? = some (some (.ref m)) ∧ H m = some (.lst (wV q)) ∧ σ[3]? = some (some (.int n)) ∧ σ.length = 9 ∧ ∀ (p : Addr) (H' : Hp), Same H H' → H' p = some (.lst (wV (movedW q n))) → Q (.ref p) H'
/-- what is no number -/
def NoNum (H : Hp) (v : V) : Prop := vInt v = false ∧ ∀ G, ExtN H G → Thg G v
def tSaidM (CW : Addr) (T : List (Addr × Str)) : TE := fun σ H Q => ∃ (x : Addr) (q : WD) (y : V), σ[7]? = some (some (.ref x)) ∧ σ[6]? = some (some y) ∧ WI CW H x q ∧ GoodI q ∧ NoNum H y ∧ Tabs T H ∧ ∀ (p : Addr) (H' : Hp), ExtN H H' → Tabs T H' → H' p = some (.tup [.str "kind", .str "number"]) → Q (.ref p) H'
theorem saidM_imp {CW cW cK cT : Addr} {T : List (Addr × Str)} : ∀ σ H Q, tSaidM CW T σ H Q → tLam T (TTsaid cW cK cT) (fun E => tMeth CW "moved" (spMoved CW cK) [] E (tVar 7) (tCons (tVar 6) tNil)) σ H Q := by
  rintro σ H Q ⟨x, q, y, e7, e6, ⟨dx, hx⟩, g, ⟨n1, n2⟩, hT, fin⟩
  refine ⟨hT, fun H1 eN T1 E Q1 hW hK hX hTo => ?_⟩
  have hx1 := eN _ _ hx (fun _ z => by cases z)
  refine ⟨_, e7, x, dx, _, rfl, hx1, lw_moved _ _ _ _, _, e6, x, y, q, rfl, ⟨dx, hx1⟩, g, n2 H1 eN, fun n e => ?_, fun _ d H' s' hd => hK d H' _ hd fun p H2 s2 hp => ?_⟩
  · rw [e] at n1
    cases n1
  · exact fin p H2 (eN.trans (ExtN.same (s'.trans s2))) (T1.ext fun b o e => s2 _ _ (s' _ _ e)) hp
theorem num_two : SeqAt.shaped (.tuple [.str "kind", .str "number"]) = true ∧ PyData.eqv (.tuple [.str "kind", .str "number"]) (.tuple [.str "kind", .str "number"]) = true := pair_shaped (by decide +kernel) (by decide +kernel)
def tOddsM (CW : Addr) (T : List (Addr × Str)) : TS := fun D σ H => ∃ (x : Addr) (q : WD) (v0 v1 v2 v3 v4 v5 v6 v8 : Option V), σ = [v0, v1, v2, v3, v4, v5, v6, some (.ref x), v8] ∧ WI CW H x q ∧ GoodI q ∧ Tabs T H ∧
  ∀ (v6' : Option V) (H' : Hp), ExtN H H' → Tabs T H' → D.nx [v0, v1, v2, v3, v4, v5, v6', some (.ref x), v8] H'
def spMovedR (CW : Addr) (T : List (Addr × Str)) : Sp := fun vs H Q _ => ∃ (d m : Addr) (t : Int) (q : WD), vs = [.ref d, .ref m] ∧ DrawAt H d t ∧ 0 ≤ t ∧ t ≤ 50000 ∧ H m = some (.lst (wV q)) ∧ GoodW q ∧ Tabs T H ∧
  ∀ (H' : Hp) (t' : Int), Keep d H H' → DrawAt H' d t' → t ≤ t' → t' ≤ t + 12 → Tabs T H' → Q (.bl true) H'
section
variable {P : Program} {w : World} {K : PySem.W.Frag} {mg : Str → Option Value} {base : Heap}
abbrev NMovedR : List Str := ["_law_draw", "_law_made_here", "_law_steps", "_law_own_by", "_law_due_here", "_law_other", "_law_odd", "_law_wish", "_law_bound"]
theorem scMovedR : FnScope NMovedR ["_law_draw", "_law_made_here"] (defScope sMovedR) := ⟨rfl, rfl, rfl, by decide +kernel, rfl, by decide +kernel, by decide +kernel⟩
theorem ok_movedR {f fT fM fW fG fE CW cB cc PT fI fJ : Addr} {c : Nat → Addr} {T : List (Addr × Str)} {fd fdT fdM fdW fdG fdE : FuncData} (F : Fun K "_law_moved_right" "_law_moved_right" sMovedR f fd) (hc : fd.code = .ref cc) (TB : TabB base mg cc PT) (hmT : (PT, movedQ) ∈ T) (huT : ∀ p ∈ T, p.1 = PT → p.2 = movedQ)
    (mi : mg "isinstance" = none) (mt : mg "tuple" = none) (mx : mg "max" = none) (mn : mg "min" = none) (C : WCls K CW) (O : OTy K CW)
    (GT : FnOk P w K mg base CX0 1 fT fdT ["_law_draw", "_law_many"] spTake) (kT : PySem.W.keepIn K (.ref fT) = true) (bT : Binds K fdT ["_law_draw", "_law_many"] []) (gT : mg "_law_take" = some (.ref fT))
    (FM : Fun K "moved" "Wish.moved" sWMoved fM fdM) (GM : FnOk P w K mg base (L2.CX P w) 6 fM fdM ["self", "by"] (spMoved CW (c 10))) (MM : Meth K CW "moved" fM) (bM : Binds K fdM ["self", "by"] [])
    (FW : FunW K fW fdW) (GW : FnOk P w K mg base (L2.CX P w) 4 fW fdW psW (spWInit CW (c 0))) (M : Mk K CW fW) (gW : mg "Wish" = some (.ref CW))
    (GE : FnOk P w K mg base CX0 1 fE fdE ["self", "other"] (spWEq K CW)) (aE : PySem.W.findIn K (.ref CW) "__eq__" = some (some (.ref fE))) (hE : PySem.W.isFn K (.ref fE) = true) (bE : Binds K fdE ["self", "other"] []) (neE : PySem.W.findIn K (.ref CW) "__ne__" = some (some (.builtin "object.__ne__")))
    (FG : Fun K "_law_said" "_law_said" sSaid fG fdG) (bG : Binds K fdG ["_law_deed"] []) (gG : mg "_law_said" = some (.ref fG)) (TS_ : TxS K mg cB c) (TI_ : TxI K cB c) (TW : TxW K mg (c 0) fI) (TK : TxK K mg (c 10) fJ) :
    FnG P w K mg base CX0 9 f fd ["_law_draw", "_law_made_here"] (spMovedR CW T) := by
  have nf : PySem.W.notFirst K CW (.ref CW) = true := by simp [PySem.W.notFirst]
  obtain ⟨iM, kM⟩ := kwM FW
  have kV := kMoved FM
  refine okGc F hc scMovedR (fun vs H Q E h => ?_) (fun A calm outer s H vs Q E hr h => ?_)
  · obtain ⟨d, m, t, q, rfl, _⟩ := h
    rfl
  · obtain ⟨d, m, t, q, rfl, D, t0, t1, hm, gw, hT, fin⟩ := h
    have g := gw.i
    have r1 : Room 1 _ := hr.mono (by decide)
    have r2 : Room 2 _ := hr.mono (by decide)
    have r5 : Room 5 _ := hr.mono (by decide)
    have r6 : Room 6 _ := hr.mono (by decide)
    have hu64 : _ + 64 < cLine := Nat.lt_of_le_of_lt (Nat.add_le_add_left (by decide) _) (room_show hr)
    refine ⟨_, pss_cons (ps_set (i := 7) scMovedR.nd rfl (.inr rfl) (pe_makeN (n := 1) (E := E0) M GW r5 (by rfl) gW kM pass_no (by exact (pa_cons (pe_ix ix_list (pv 1) pe_int (fun _ _ => rfl)) pa_nil)) (by exact (pk_cons (pe_ix ix_list (pv 1) pe_int (fun _ _ => rfl)) (pk_cons (pe_ix ix_list (pv 1) pe_int (fun _ _ => rfl)) (pk_cons (pe_ix ix_list (pv 1) pe_int (fun _ _ => rfl)) pk_nil))))))
      (pss_cons (ps_set (i := 2) scMovedR.nd rfl (.inl rfl) (pe_lst (pa_cons (pe_call GT r1 (by rfl) gT kT bT .nil pass0 (pa_cons (pv 0) (pa_cons pe_int pa_nil))) (pa_cons (pe_op op_sub pe_int (pe_call GT r1 (by rfl) gT kT bT .nil pass0 (pa_cons (pv 0) (pa_cons pe_int pa_nil)))) (pa_cons pe_int (pa_cons (pe_op op_pow pe_int pe_int) (pa_cons (pe_op op_sub pe_int (pe_op op_pow pe_int pe_int)) pa_nil)))))))
      (pss_cons (ps_for PassesOwn.never rfl (pi_list (pe_op op_cat (pv 2) (pe_lst (pa_cons (pe_op op_sub pe_int (pe_ix ix_list (pv 1) pe_int (fun _ _ => rfl))) (pa_cons (pe_op op_sub pe_int (pe_ix ix_list (pv 1) pe_int (fun _ _ => rfl))) pa_nil))))) (pg_name (i := 3) scMovedR.nd rfl (.inr rfl))
        (pss_cons (ps_set (i := 4) scMovedR.nd rfl (.inl rfl) (pe_imp tDueM (pe_op op_cat (pe_slice sl_list (pv 1) po_none (po_some pe_int)) (pe_lc (own := [("_law_bound", 8)]) (g := gName 8) rfl scMovedR.nd (pi_list (pe_slice sl_list (pv 1) (po_some pe_int) po_none)) (blkOk_by (N := NMovedR) (sc := defScope sMovedR) (by decide +kernel))
            (fun _ _ _ _ _ => pg_name (i := 8) scMovedR.nd rfl (Or.inl rfl)) (fun _ _ _ _ _ => pts_nil) (fun _ _ _ _ _ => by exact pe_callB (call_max2 rfl) (by rfl) mx (by decide +kernel) (pa_cons pe_int (pa_cons (pe_callB (call_min2 rfl) (by rfl) mn (by decide +kernel) (pa_cons pe_int (pa_cons (pe_op op_add (pv 8) (pv 3)) pa_nil))) pa_nil))))) (by
            rintro σ H Q ⟨m, q, n, e1, hm, e3, hn, q9⟩
            refine ⟨_, e1, 2, rfl, m, _, rfl, SqL.of hm, fun p1 n1 => ?_⟩
            have s1 := same_upd (o := .lst (cutV (wV q) none (some 2))) n1
            have hm1 := s1 _ _ hm
            refine ⟨_, e1, 2, rfl, m, _, rfl, SqL.of hm1, fun p2 n2 => ?_⟩
            have s2 := same_upd (o := .lst (cutV (wV q) (some 2) none)) n2
            have h1 := s2 _ _ (upd_same (H := H) (a := p1) (o := .lst (cutV (wV q) none (some 2))))
            have h2 : upd (upd H p1 (.lst (cutV (wV q) none (some 2)))) p2 (.lst (cutV (wV q) (some 2) none)) p2 = some (.lst [.int q.le, .int q.mo]) := upd_same
            have sA := s1.trans s2
            generalize upd (upd H p1 (.lst (cutV (wV q) none (some 2)))) p2 (.lst (cutV (wV q) (some 2) none)) = HA at h1 h2 sA ⊢
            refine ⟨p2, rfl, ⟨_, SqL.of h2⟩, fun D hD => ?_⟩
            have nD : ∀ {b : Addr} {o : HO}, HA b = some o → b ≠ D := fun {b o} e => ne_of_none e hD
            refine lc_it (walk_list (K := K) (a := p2) (xs := [.int q.le, .int q.mo])) (fun k G => (∀ b o, b ≠ D → HA b = some o → G b = some o) ∧ G D = some (.lst (([V.int (cutZ (q.le + n)), V.int (cutZ (q.mo + n))] : List V).take k))) ⟨fun b o nb e => by rw [upd_ne nb]; exact e, upd_same⟩ (fun k G _ h => SqL.of (h.1 _ _ (nD h2) h2)) ?_ ?_
            · rintro k x G G' hk ⟨kp, hd⟩ ⟨rfl, fx⟩
              have a8 : ∀ {v : Option V}, ((wipe σ [8]).set 8 v)[8]? = some v := fun {v} => set_at (σ := σ) (j := 8) (v := v) (by omega)
              have a3 : ∀ {v : Option V}, ((wipe σ [8]).set 8 v)[3]? = some (some (.int n)) := fun {v} => by
                rw [wipe1, List.set_set, List.getElem?_set_ne (by decide)]
                exact e3
              match k, hk, fx, hd with
              | 0, _, fx, hd =>
                cases fx
                exact ⟨wipe_set, _, a8, _, a3, q.le, n, rfl, rfl, 999, _, rfl, 0, _, rfl, _, hd, by show 0 < sizeLine; decide, fun b o nb e => by rw [upd_ne nb]; exact kp b o nb e, upd_same⟩
              | 1, _, fx, hd =>
                cases fx
                exact ⟨wipe_set, _, a8, _, a3, q.mo, n, rfl, rfl, 999, _, rfl, 0, _, rfl, _, hd, by show 1 < sizeLine; decide, fun b o nb e => by rw [upd_ne nb]; exact kp b o nb e, upd_same⟩
            · rintro G ⟨kp, hd⟩
              refine ⟨p1, D, _, _, rfl, rfl, kp _ _ (nD h1) h1, hd, by show 2 + 2 ≤ sizeLine; decide, fun p3 n3 => ?_⟩
              exact q9 p3 _ (fun b o e => same_upd n3 _ _ (kp b o (nD (sA _ _ e)) (sA _ _ e))) upd_same)))
        (pss_cons (ps_set (i := 5) scMovedR.nd rfl (.inl rfl) (pe_methN0 (E := E0) (pv 7) C.cls MM GM r6 kV pass_no (by exact (pk_cons (pv 3) pk_nil))))
        (pss_cons (ps_if (pt_cmpR (op_neO GE r2 aE neE O.hm hE bE) (pv 5) (pe_meth (E := E0) (pv 7) C.cls MM GM r6 bM .nil pass_no (pa_cons (pv 3) pa_nil)) (nomark _)) (pss_one (ps_ret pe_bl)) pss_nil)
        (pss_one (ps_if (PW.pt (pw_or (pt_cmpR (op_neD hu64) (pe_lst (pa_cons (pe_fld (pv 5) rfl) (pa_cons (pe_fld (pv 5) rfl) (pa_cons (pe_fld (pv 5) rfl) (pa_cons (pe_fld (pv 5) rfl) pa_nil))))) (pv 4) (nomark _)) (pw_or1 (pt_cmpR op_ne (pe_cmpR (op_eqO GE r1 aE hE bE) (pv 5) (pv 7) (nomark _)) (pe_cmpR (op_eqD hu64) (pv 4) (pv 1) (nomark _)) (nomark _))))) (pss_one (ps_ret pe_bl)) pss_nil))))))
      (pss_cons (ps_imp (tOddsM CW T) (ps_for PassesOwn.never rfl (pi_tup (pe_tup (pa_cons pe_non (pa_cons pe_bl (pa_cons pe_bl (pa_cons pe_str (pa_cons (pe_tup (pa_cons pe_int pa_nil)) (pa_cons (pe_lst (pa_cons pe_int pa_nil)) (pa_cons pe_dnewK pa_nil))))))))) (pg_name (i := 6) scMovedR.nd rfl (.inr rfl))
          (pss_one (ps_if (pt_cmpR (op_neD hu64) (pe_imp (tSaidM CW T) (pe_lamS (k := 6) (T := T) (TT := TTsaid (c 0) (c 10) (c 6)) (t := fun E => tMeth CW "moved" (spMoved CW (c 10)) [] E (tVar 7) (tCons (tVar 6) tNil)) (by rfl) gG FG bG scSaid rfl (.inl rfl) (fun cdv => said_gives TS_ TI_ TW TK mi mt) TB rfl (by exact hmT) (by exact huT) hr (show LamX.LamS (defScope sMovedR) _ from LamX.lamS_by (by decide +kernel)) rfl (fun _ _ _ _ _ => rfl)
              (fun A outer s H E f c' hr2 => by exact pe_meth (E := E) (pv 7) C.cls MM GM hr2 bM .nil (passes_call (takes_of rfl rfl rfl rfl) fun _ _ _ _ h => h) (pa_cons (pv 6) pa_nil))) (fun σ H Q h => saidM_imp _ _ _ h)) (pe_tup (pa_cons pe_str (pa_cons pe_str pa_nil))) (nomark _)) (pss_one (ps_ret pe_bl)) pss_nil))) (by
          rintro D σ H ⟨x, q, v0, v1, v2, v3, v4, v5, v6, v8, rfl, wi, g, hT, fin⟩
          refine ⟨by show 1 ≤ sizeLine; decide, fun p1 n1 => ⟨by show 1 ≤ sizeLine; decide, fun p2 n2 p3 n3 => ⟨by show 7 ≤ sizeLine; decide, fun p4 n4 => ?_⟩⟩⟩
          have s1 := same_upd (o := .tup [.int 1]) n1
          have s2 := same_upd (o := .lst [.int 1]) n2
          have s3 := same_upd (o := .dK []) n3
          have s4 := same_upd (o := .tup [.non, .bl true, .bl false, .str "1", .ref p1, .ref p2, .ref p3]) n4
          have e1 := s4 _ _ (s3 _ _ (s2 _ _ (fresh_at (o := .tup [.int 1]) n1).1))
          have e2 := s4 _ _ (s3 _ _ (fresh_at (o := .lst [.int 1]) n2).1)
          have e3 := s4 _ _ (fresh_at (o := .dK []) n3).1
          obtain ⟨e4, _⟩ := fresh_at (o := .tup [.non, .bl true, .bl false, .str "1", .ref p1, .ref p2, .ref p3]) n4
          have sA := ((s1.trans s2).trans s3).trans s4
          refine ⟨p4, rfl, ⟨_, SqT.of e4⟩, ?_⟩
          have TA := hT.ext sA
          have wA := wi.same sA
          generalize upd (upd (upd (upd H p1 (.tup [.int 1])) p2 (.lst [.int 1])) p3 (.dK [])) p4 (.tup [.non, .bl true, .bl false, .str "1", .ref p1, .ref p2, .ref p3]) = HA at sA e1 e2 e3 e4 TA wA ⊢
          refine for_it (walk_tup (K := K) (a := p4) (xs := [.non, .bl true, .bl false, .str "1", .ref p1, .ref p2, .ref p3])) (fun i σ G => ∃ v6' : Option V, σ = [v0, v1, v2, v3, v4, v5, v6', some (.ref x), v8] ∧ ExtN HA G ∧ Tabs T G) ⟨_, rfl, ExtN.refl _, TA⟩ (fun i σ G _ ⟨_, _, e, _⟩ => SqT.of (e _ _ e4 (fun _ z => by cases z))) ?_ ?_
          · rintro i y σ G G' hi ⟨v6', rfl, eG, TG⟩ ⟨rfl, fx⟩
            have ny : NoNum HA y := by
              have mx := List.mem_of_getElem? fx
              simp only [List.mem_cons, List.not_mem_nil, or_false] at mx
              rcases mx with rfl | rfl | rfl | rfl | rfl | rfl | rfl
              · exact ⟨rfl, fun G e => .non⟩
              · exact ⟨rfl, fun G e => .bl _⟩
              · exact ⟨rfl, fun G e => .bl _⟩
              · exact ⟨rfl, fun G e => .str _ (by decide +kernel) (sgn_dec (by decide +kernel))⟩
              · exact ⟨rfl, fun G e => .tup (e _ _ e1 (fun _ z => by cases z))⟩
              · exact ⟨rfl, fun G e => .lst (e _ _ e2 (fun _ z => by cases z))⟩
              · exact ⟨rfl, fun G e => .dct (e _ _ e3 (fun _ z => by cases z))⟩
            refine ⟨x, q, y, rfl, rfl, wA.ext eG, g, ⟨ny.1, fun G e => ny.2 G (eG.trans e)⟩, TG, fun p G4 e4 T4 hp => ⟨by show 2 ≤ sizeLine; decide, fun p5 n5 => ?_⟩⟩
            have s5 := same_upd (o := .tup [.str "kind", .str "number"]) n5
            obtain ⟨ku1, ku2⟩ := num_two
            refine ⟨_, _, pair_dp (s5 _ _ hp), pair_dp upd_same, ku1, ku1, _, rfl, iteF' (by rw [ku2]; decide) ?_⟩
            exact ⟨_, rfl, (eG.trans e4).trans (ExtN.same s5), T4.ext s5⟩
          · rintro σ G ⟨v6', rfl, eG, TG⟩
            exact fin _ G ((ExtN.same sA).trans eG) TG))
      (pss_one (ps_ret (pe_cmpR (op_eqD hu64) (pe_lst (pa_cons (pe_fld (pv 7) rfl) (pa_cons (pe_fld (pv 7) rfl) (pa_cons (pe_fld (pv 7) rfl) (pa_cons (pe_fld (pv 7) rfl) pa_nil))))) (pv 1) (nomark _))))))), ?_⟩
    refine ⟨_, rfl, m, _, 0, .str q.wd, rfl, rfl, SqL.of hm, rfl, _, rfl, m, _, 1, .str q.wh, rfl, rfl, SqL.of hm, rfl, _, rfl, m, _, 2, .int q.le, rfl, rfl, SqL.of hm, rfl, _, rfl, m, _, 3, .int q.mo, rfl, rfl, SqL.of hm, rfl, rfl, rfl, fun x dx nx ndx ne => ?_⟩
    have s0 : Same H (upd (upd H dx (.own x)) x (.ins CW dx [])) := (same_upd ndx).trans (same_upd (by rw [upd_ne (Ne.symm ne)]; exact nx))
    obtain ⟨th1, th2⟩ := g.thg (H := upd (upd H dx (.own x)) x (.ins CW dx []))
    refine ⟨x, dx, _, _, _, _, rfl, upd_same, th1, th2, .int _, .int _, fun H' s' => ⟨fun _ => ⟨rfl, ?_⟩, fun h => absurd gw h⟩⟩
    have s1 : Same H (upd H' x (.ins CW dx (wFs (.str q.wd) (.str q.wh) (.int q.le) (.int q.mo)))) := fun b o e => by
      rw [upd_ne (ne_of_none e nx)]
      exact s' _ _ (s0 _ _ e)
    have hx1 : upd H' x (.ins CW dx (wFs (.str q.wd) (.str q.wh) (.int q.le) (.int q.mo))) x = some (.ins CW dx (wFs (.str q.wd) (.str q.wh) (.int q.le) (.int q.mo))) := upd_same
    dsimp only [gName]
    show tSeq _ _ _ _ (upd H' x (.ins CW dx (wFs (.str q.wd) (.str q.wh) (.int q.le) (.int q.mo))))
    generalize upd H' x (.ins CW dx (wFs (.str q.wd) (.str q.wh) (.int q.le) (.int q.mo))) = H1 at s1 hx1 ⊢
    clear s' s0 th1 th2
    have D1 := D.same s1
    refine ⟨_, rfl, d, t, 30, rfl, D1, t0, by omega, by decide, by decide, fun n1 H2 _ _ u2 D2 => ⟨_, rfl, d, _, 30, rfl, D2, by omega, by omega, by decide, by decide, fun n2 H3 _ _ u3 D3 => ⟨0, n2, rfl, rfl, 10, 20, rfl, rfl, ⟨by decide, by decide, by decide⟩, 10, 20, rfl, rfl, ⟨by decide, by decide, by decide⟩, 0, _, rfl, rfl, by show 5 ≤ sizeLine; decide, fun p np => ?_⟩⟩⟩
    have k3 : Keep d H H3 := ((Keep.same s1).trans (Keep.but u2)).trans (Keep.but u3)
    have T3 := tabs_but (tabs_but (hT.ext s1) u2 D1) u3 D2
    have hm3 := lst_keepD hm k3 D
    have hx3 : H3 x = some (.ins CW dx (wFs (.str q.wd) (.str q.wh) (.int q.le) (.int q.mo))) := u3 _ _ (D2.ne (u2 _ _ (D1.ne hx1 fun _ z => by cases z) hx1) fun _ z => by cases z) (u2 _ _ (D1.ne hx1 fun _ z => by cases z) hx1)
    obtain ⟨ns, ens⟩ : ∃ ns : List Int, ns.map V.int = [.int n1, .int (0 - n2), .int 0, .int (10 ^ (20 : Int).toNat), .int (0 - 10 ^ (20 : Int).toNat)] ∧ ns.length = 5 := ⟨[n1, 0 - n2, 0, 10 ^ (20 : Int).toNat, 0 - 10 ^ (20 : Int).toNat], rfl, rfl⟩
    have s4 := same_upd (o := .lst [.int n1, .int (0 - n2), .int 0, .int (10 ^ (20 : Int).toNat), .int (0 - 10 ^ (20 : Int).toNat)]) np
    have h4 : upd H3 p (.lst [.int n1, .int (0 - n2), .int 0, .int (10 ^ (20 : Int).toNat), .int (0 - 10 ^ (20 : Int).toNat)]) p = some (.lst (ns.map V.int)) := by rw [upd_same, ens.1]
    dsimp only [gName]
    show tSeq _ _ _ _ (upd H3 p (.lst [.int n1, .int (0 - n2), .int 0, .int (10 ^ (20 : Int).toNat), .int (0 - 10 ^ (20 : Int).toNat)]))
    generalize upd H3 p (.lst [.int n1, .int (0 - n2), .int 0, .int (10 ^ (20 : Int).toNat), .int (0 - 10 ^ (20 : Int).toNat)]) = H4 at s4 h4 ⊢
    have hm4 := s4 _ _ hm3
    refine ⟨_, rfl, _, rfl, m, _, 3, .int q.mo, rfl, rfl, SqL.of hm4, rfl, 999, q.mo, rfl, rfl, _, rfl, m, _, 2, .int q.le, rfl, rfl, SqL.of hm4, rfl, 0, q.le, rfl, rfl, by show 2 ≤ sizeLine; decide, fun p5 n5 => ?_⟩
    have s5 := same_upd (o := .lst ([999 - q.mo, 0 - q.le].map V.int)) n5
    refine ⟨p, p5, ns.map V.int, [999 - q.mo, 0 - q.le].map V.int, rfl, rfl, s5 _ _ h4, upd_same, by rw [List.length_map, ens.2]; show 5 + 2 ≤ sizeLine; decide, fun p6 n6 => ?_⟩
    have s6 := same_upd (o := .lst (ns.map V.int ++ [999 - q.mo, 0 - q.le].map V.int)) n6
    obtain ⟨h6, _⟩ := fresh_at (o := .lst (ns.map V.int ++ [999 - q.mo, 0 - q.le].map V.int)) n6
    refine ⟨p6, rfl, ⟨_, SqL.of h6⟩, ?_⟩
    have sB := (s4.trans s5).trans s6
    clear s4 s5 s6
    generalize upd _ p6 (.lst (ns.map V.int ++ [999 - q.mo, 0 - q.le].map V.int)) = H6 at h6 sB ⊢
    rw [← List.map_append] at h6
    generalize ns ++ [999 - q.mo, 0 - q.le] = ms at h6
    refine for_it (walk_list (K := K) (a := p6) (xs := ms.map V.int)) (fun i σ G => ∃ (v3 v4 v5 : Option V), σ = [some (.ref d), some (.ref m), some (.ref p), v3, v4, v5, none, some (.ref x), none] ∧ Same H6 G) ⟨_, _, _, rfl, Same.refl _⟩ (fun i σ G _ ⟨_, _, _, _, e⟩ => SqL.of (e _ _ h6)) ?_ ?_
    · rintro i y0 σ G G' hi ⟨v3, v4, v5, rfl, sG⟩ ⟨rfl, fx⟩
      obtain ⟨n, hn, rfl⟩ := getD_map fx
      have sG' := sG
      have sG := sB.trans sG
      have hmG := sG _ _ hm3
      have hxG := sG _ _ hx3
      have gq := moved_good (n := n) g
      refine ⟨m, q, n, rfl, hmG, rfl, rfl, fun p7 H7 s7 h7 => ?_⟩
      have hx7 := s7 _ _ hxG
      refine ⟨_, rfl, x, dx, _, rfl, hx7, lw_moved _ _ _ _, _, rfl, rfl, x, .int n, q, rfl, ⟨dx, hx7⟩, g, .int _, fun n' en y H8 s8 wy => ?_, fun h => by cases h⟩
      cases en
      obtain ⟨dy, hy⟩ := wy
      have hx8 := s8 _ _ hx7
      refine ⟨_, rfl, _, rfl, x, dx, _, rfl, hx8, lw_moved _ _ _ _, _, rfl, x, .int n, q, rfl, ⟨dx, hx8⟩, g, .int _, fun n' en y2 H9 s9 wy2 => ?_, fun h => by cases h⟩
      cases en
      obtain ⟨dy2, hy2⟩ := wy2
      have hy9 := s9 _ _ hy
      refine ⟨y, dy, _, _, rfl, hy9, O.ty hy2, nf, y, .ref y2, _, rfl, ⟨dy, hy9⟩, .inl ⟨y2, _, rfl, ⟨dy2, hy2⟩, _, rfl, _, rfl, ?_⟩⟩
      rw [decide_eq_true rfl]
      refine iteF ⟨_, rfl, y, CW, dy, _, _, rfl, hy9, C.cls, C.no _ (by decide), lw_word _ _ _ _, _, rfl, y, CW, dy, _, _, rfl, hy9, C.cls, C.no _ (by decide), lw_what _ _ _ _, _, rfl, y, CW, dy, _, _, rfl, hy9, C.cls, C.no _ (by decide), lw_least _ _ _ _, _, rfl, y, CW, dy, _, _, rfl, hy9, C.cls, C.no _ (by decide), lw_most _ _ _ _, by show 4 ≤ sizeLine; decide, fun p10 n10 => ?_⟩
      have s10 := same_upd (o := .lst (wV (movedW q n))) n10
      have h7A := s10 _ _ (s9 _ _ (s8 _ _ h7))
      have hmA := s10 _ _ (s9 _ _ (s8 _ _ (s7 _ _ hmG)))
      have hxA := s10 _ _ (s9 _ _ hx8)
      have hyA := s10 _ _ hy9
      refine ⟨_, rfl, .list (wD (movedW q n)), .list (wD (movedW q n)), wD_dp upd_same, wD_dp h7A, wD_shaped gq.i, wD_shaped gq.i, _, rfl, iteF' (by rw [wD_eqv]; simp) ?_⟩
      refine ⟨_, rfl, _, rfl, y, dy, _, _, rfl, hyA, O.ty hxA, nf, y, .ref x, movedW q n, rfl, ⟨dy, hyA⟩, .inl ⟨x, q, rfl, ⟨dx, hxA⟩, ⟨_, rfl⟩, _, rfl, _, rfl, .list (wD (movedW q n)), .list (wD q), wD_dp h7A, wD_dp hmA, wD_shaped gq.i, wD_shaped g, rfl, _, rfl, ?_⟩⟩
      rw [wD_eqv]
      refine iteF' (by simp) ?_
      exact ⟨_, _, _, rfl, fun b o e => s10 _ _ (s9 _ _ (s8 _ _ (s7 _ _ (sG' _ _ e))))⟩
    · rintro σ G ⟨v3, v4, v5, rfl, sG⟩
      have sG := sB.trans sG
      have hxG := sG _ _ hx3
      refine ⟨x, q, _, _, _, _, _, _, _, _, rfl, ⟨dx, hxG⟩, g, T3.ext sG, fun v6 G7 e7 T7 => ?_⟩
      have hx7 := e7 _ _ hxG (fun _ z => by cases z)
      have hm7 := e7 _ _ (sG _ _ hm3) (fun _ z => by cases z)
      refine ⟨_, rfl, x, CW, dx, _, _, rfl, hx7, C.cls, C.no _ (by decide), lw_word _ _ _ _, _, rfl, x, CW, dx, _, _, rfl, hx7, C.cls, C.no _ (by decide), lw_what _ _ _ _, _, rfl, x, CW, dx, _, _, rfl, hx7, C.cls, C.no _ (by decide), lw_least _ _ _ _, _, rfl, x, CW, dx, _, _, rfl, hx7, C.cls, C.no _ (by decide), lw_most _ _ _ _, by show 4 ≤ sizeLine; decide, fun p8 n8 => ?_⟩
      have s8 := same_upd (o := .lst (wV q)) n8
      refine ⟨_, rfl, .list (wD q), .list (wD q), wD_dp upd_same, wD_dp (s8 _ _ hm7), wD_shaped g, wD_shaped g, ?_⟩
      rw [wD_eqv, decide_eq_true rfl]
      exact fin _ (t + 1 + 1) (((k3.trans (Keep.same sG)).trans (Keep.ext e7)).trans (Keep.same s8)) (((D3.same sG).ext e7).same s8) (by omega) (by omega) (T7.ext s8)
end
end Pk
namespace Pk
open PySem L2
open LamX (Tabs ExtN TabS CodeO tLam TabB)
/-! ### the law -/
abbrev lawQ : Str := (PyProof.Rows.envOfC "law" (defScope sLaw) 0 0 .none).qual ++ "<lambda>"
theorem DrawAt.ne0 {H : Hp} {d p : Addr} {t : Int} (h : DrawAt H d t) (e : H p = some (.dK [])) : p ≠ d := fun z => by
  obtain ⟨c, ns, l, g, _⟩ := h
  rw [z, g] at e
  cases e
def tSaidN (K : PySem.W.Frag) (T : List (Addr × Str)) : TE := fun σ H Q => ∃ y, σ[7]? = some (some y) ∧ (∀ G, ExtN H G → NoText K G y) ∧ Tabs T H ∧ ∀ (p : Addr) (H' : Hp), ExtN H H' → Tabs T H' → H' p = some (.tup [.str "text", .str "late"]) → Q (.ref p) H'
theorem saidN_imp {K : PySem.W.Frag} {CW cW cK cT : Addr} {T : List (Addr × Str)} : ∀ σ H Q, tSaidN K T σ H Q → tLam T (TTsaid cW cK cT) (fun E => tCall (spWishBy K CW cW cT) [] E (tCons (tVar 7) tNil)) σ H Q := by
  rintro σ H Q ⟨y, e7, ny, hT, fin⟩
  refine ⟨hT, fun H1 eN T1 E Q1 hW hK hX hTo => ⟨_, e7, y, rfl, .inr ⟨ny H1 eN, hX H1 fun p H2 s2 hp => ?_⟩⟩⟩
  exact fin p H2 (eN.trans (ExtN.same s2)) (T1.ext s2) hp
def tSaidE (T : List (Addr × Str)) : TE := fun σ H Q => Tabs T H ∧ ∀ (p : Addr) (H' : Hp), ExtN H H' → Tabs T H' → H' p = some (.tup [.str "wish", .str "word"]) → Q (.ref p) H'
theorem words_none : wordsOf "" = [] := by decide +kernel
theorem saidE_imp {K : PySem.W.Frag} {CW cW cK cT : Addr} {T : List (Addr × Str)} : ∀ σ H Q, tSaidE T σ H Q → tLam T (TTsaid cW cK cT) (fun E => tCall (spWishBy K CW cW cT) [] E (tCons (tC (.str "")) tNil)) σ H Q := by
  rintro σ H Q ⟨hT, fin⟩
  refine ⟨hT, fun H1 eN T1 E Q1 hW hK hX hTo => ⟨_, rfl, .inl ⟨"", rfl, by decide +kernel, by rw [words_none]; exact (fun _ h => by cases h), ?_, ?_⟩⟩⟩
  · rw [words_none]
    exact fun _ d H' s' hd => hW d H' _ hd fun p H2 s2 hp => fin p H2 (eN.trans (ExtN.same (s'.trans s2))) (T1.ext fun b o e => s2 _ _ (s' _ _ e)) hp
  · rw [words_none]
    exact fun p0 e => nomatch e
theorem word_two : SeqAt.shaped (.tuple [.str "wish", .str "word"]) = true ∧ PyData.eqv (.tuple [.str "wish", .str "word"]) (.tuple [.str "wish", .str "word"]) = true := pair_shaped (by decide +kernel) (by decide +kernel)
def tOdd6 (K : PySem.W.Frag) : TE := fun σ H Q => ∃ (d : Addr) (t : Int), σ[1]? = some (some (.ref d)) ∧ DrawAt H d t ∧ 0 ≤ t ∧ t ≤ 60000 ∧ ∀ (v : V) (H' : Hp), But d H H' → (∀ G, ExtN H' G → NoText K G v) → DrawAt H' d (t + 1) → Q v H'
def spLaw (K : PySem.W.Frag) (T : List (Addr × Str)) : Sp := fun vs H Q _ => ∃ (a : Addr) (ns : List Int), vs = [.ref a] ∧ SqL K H a (ns.map V.int) ∧ ns.length ≤ 63 ∧ Tabs T H ∧ ∀ H', Q (.bl true) H'
/-- a list of words at l -/
def LW (H : Hp) (l : Addr) : Prop := ∃ ws : List Str, H l = some (.lst (ws.map V.str)) ∧ ws.length ≤ 10 ∧ ∀ v ∈ ws, Wd v
section
variable {P : Program} {w : World} {K : PySem.W.Frag} {mg : Str → Option Value} {base : Heap}
abbrev NLaw : List Str := ["_law_script", "_law_draw", "_law_turn", "_law_made_here", "_law_words_here", "_law_bent_here", "_law_some", "_law_odd"]
theorem scLaw : FnScope NLaw ["_law_script"] (defScope sLaw) := ⟨rfl, rfl, rfl, by decide +kernel, rfl, by decide +kernel, by decide +kernel⟩
theorem ok_law {f fD fT fM fQ fN fR fY fB fG CW cB cc PT fI fJ : Addr} {c : Nat → Addr} {T : List (Addr × Str)} {fd fdD fdT fdM fdQ fdN fdR fdY fdB fdG : FuncData} (F : Fun K "law" "law" sLaw f fd) (hc : fd.code = .ref cc) (TB : TabB base mg cc PT) (hmT : (PT, lawQ) ∈ T) (huT : ∀ p ∈ T, p.1 = PT → p.2 = lawQ)
    (mr : mg "range" = none) (mt : mg "tuple" = none) (mi : mg "isinstance" = none)
    (GD : FnOk P w K mg base CX0 1 fD fdD ["_law_script"] (spDraws K)) (kD : PySem.W.keepIn K (.ref fD) = true) (bD : Binds K fdD ["_law_script"] []) (gD : mg "_law_draws" = some (.ref fD))
    (GT : FnOk P w K mg base CX0 1 fT fdT ["_law_draw", "_law_many"] spTake) (kT : PySem.W.keepIn K (.ref fT) = true) (bT : Binds K fdT ["_law_draw", "_law_many"] []) (gT : mg "_law_take" = some (.ref fT))
    (GM : FnOk P w K mg base CX0 3 fM fdM ["_law_draw"] spMade) (kM : PySem.W.keepIn K (.ref fM) = true) (bM : Binds K fdM ["_law_draw"] []) (gM : mg "_law_made" = some (.ref fM))
    (GQ : FnOk P w K mg base CX0 1 fQ fdQ ["_law_made_here"] spWords) (kQ : PySem.W.keepIn K (.ref fQ) = true) (bQ : Binds K fdQ ["_law_made_here"] []) (gQ : mg "_law_words" = some (.ref fQ))
    (GN : FnOk P w K mg base CX0 2 fN fdN ["_law_draw", "_law_words_here"] spBent) (kN : PySem.W.keepIn K (.ref fN) = true) (bN : Binds K fdN ["_law_draw", "_law_words_here"] []) (gN : mg "_law_bent" = some (.ref fN))
    (GR : FnG P w K mg base CX0 9 fR fdR ["_law_draw", "_law_words_here"] (spReadR CW T)) (kR : PySem.W.keepIn K (.ref fR) = true) (bR : Binds K fdR ["_law_draw", "_law_words_here"] []) (gR : mg "_law_read_right" = some (.ref fR))
    (GY : FnG P w K mg base CX0 9 fY fdY ["_law_draw", "_law_made_here"] (spMovedR CW T)) (kY : PySem.W.keepIn K (.ref fY) = true) (bY : Binds K fdY ["_law_draw", "_law_made_here"] []) (gY : mg "_law_moved_right" = some (.ref fY))
    (GB : FnOk P w K mg base (L2.CX P w) 6 fB fdB ["text"] (spWishBy K CW (c 0) (c 6))) (kB : PySem.W.keepIn K (.ref fB) = true) (bB : Binds K fdB ["text"] []) (gB : mg "wish_of" = some (.ref fB))
    (FG : Fun K "_law_said" "_law_said" sSaid fG fdG) (bG : Binds K fdG ["_law_deed"] []) (gG : mg "_law_said" = some (.ref fG)) (TS_ : TxS K mg cB c) (TI_ : TxI K cB c) (TW : TxW K mg (c 0) fI) (TK : TxK K mg (c 10) fJ) :
    FnG P w K mg base CX0 10 f fd ["_law_script"] (spLaw K T) := by
  refine okGc F hc scLaw (fun vs H Q E h => ?_) (fun A calm outer s H vs Q E hr h => ?_)
  · obtain ⟨a, ns, rfl, _⟩ := h
    rfl
  · obtain ⟨a, ns, rfl, hS0, hlen, hT, fin0⟩ := h
    have r1 : Room 1 _ := hr.mono (by decide)
    have r2 : Room 2 _ := hr.mono (by decide)
    have r3 : Room 3 _ := hr.mono (by decide)
    have r8 : Room 8 _ := hr.mono (by decide)
    have hu64 : _ + 64 < cLine := Nat.lt_of_le_of_lt (Nat.add_le_add_left (by decide) _) (room_show hr)
    refine ⟨_, pss_cons (ps_for PassesOwn.never rfl (pi_list (pe_call GD r1 (by rfl) gD kD bD .nil pass0 (pa_cons (pv 0) pa_nil))) (pg_name (i := 1) scLaw.nd rfl (.inl rfl))
        (pss_cons (ps_for PassesOwn.never rfl (pi_range1 (by rfl) mr (pa_cons pe_int pa_nil)) (pg_name (i := 2) scLaw.nd rfl (.inl rfl))
          (pss_cons (ps_set (i := 3) scLaw.nd rfl (.inl rfl) (pe_call GM r3 (by rfl) gM kM bM .nil pass0 (pa_cons (pv 1) pa_nil)))
          (pss_cons (ps_set (i := 4) scLaw.nd rfl (.inl rfl) (pe_call GQ r1 (by rfl) gQ kQ bQ .nil pass0 (pa_cons (pv 3) pa_nil)))
          (pss_cons (ps_set (i := 5) scLaw.nd rfl (.inl rfl) (pe_call GN r2 (by rfl) gN kN bN .nil pass0 (pa_cons (pv 1) (pa_cons (pv 4) pa_nil))))
          (pss_cons (ps_for PassesOwn.never rfl (pi_tup (pe_tup (pa_cons (pv 4) (pa_cons (pv 5) (pa_cons (pe_call GN r2 (by rfl) gN kN bN .nil pass0 (pa_cons (pv 1) (pa_cons (pv 5) pa_nil))) (pa_cons (pv 4) pa_nil)))))) (pg_name (i := 6) scLaw.nd rfl (.inl rfl))
            (pss_one (ps_if (pt_not (pt_val (pe_callG GR (show Calm _ from calm) hr (by rfl) gR kR bR .nil pass0 (pa_cons (pv 1) (pa_cons (pv 6) pa_nil))))) (pss_one (ps_ret pe_bl)) pss_nil)))
          (pss_one (ps_if (pt_not (pt_val (pe_callG GY (show Calm _ from calm) hr (by rfl) gY kY bY .nil pass0 (pa_cons (pv 1) (pa_cons (pv 3) pa_nil))))) (pss_one (ps_ret pe_bl)) pss_nil)))))))
        (pss_cons (ps_set (i := 7) scLaw.nd rfl (.inr rfl) (pe_imp (tOdd6 K) (pe_ix ix_list (pe_lst (pa_cons pe_non (pa_cons pe_int (pa_cons (pe_lst (pa_cons pe_str (pa_cons pe_str (pa_cons pe_str pa_nil)))) (pa_cons pe_bl (pa_cons (pe_tup (pa_cons pe_str pa_nil)) (pa_cons pe_dnewK pa_nil))))))) (pe_call GT r1 (by rfl) gT kT bT .nil pass0 (pa_cons (pv 1) (pa_cons pe_int pa_nil))) (fun _ _ => rfl)) (by
            rintro σ H Q ⟨d, t, e1, D, t0, t1, fin⟩
            refine ⟨by show 3 ≤ sizeLine; decide, fun p1 n1 => ⟨by show 1 ≤ sizeLine; decide, fun p2 n2 p3 n3 => ⟨by show 6 ≤ sizeLine; decide, fun l nl => ?_⟩⟩⟩
            have s1 := same_upd (o := .lst [.str "many", .str "0", .str "1"]) n1
            have s2 := same_upd (o := .tup [.str "many 0 1"]) n2
            have s3 := same_upd (o := .dK []) n3
            have s4 := same_upd (o := .lst [.non, .int 5, .ref p1, .bl true, .ref p2, .ref p3]) nl
            have h1 := s4 _ _ (s3 _ _ (s2 _ _ (fresh_at (o := .lst [.str "many", .str "0", .str "1"]) n1).1))
            have h2 := s4 _ _ (s3 _ _ (fresh_at (o := .tup [.str "many 0 1"]) n2).1)
            have h3 := s4 _ _ (fresh_at (o := .dK []) n3).1
            obtain ⟨hl, _⟩ := fresh_at (o := .lst [.non, .int 5, .ref p1, .bl true, .ref p2, .ref p3]) nl
            have sA := ((s1.trans s2).trans s3).trans s4
            have DA := D.same sA
            refine ⟨_, e1, d, t, 6, rfl, DA, t0, by omega, by decide, by decide, fun v H2 v0 v6 u2 D2 => ?_⟩
            have uA := (But.same (s := d) sA).trans u2
            have hl2 := u2 _ _ (DA.ne hl fun _ z => by cases z) hl
            have h12 := u2 _ _ (DA.ne h1 fun _ z => by cases z) h1
            have h22 := u2 _ _ (DA.ne h2 fun _ z => by cases z) h2
            have h32 := u2 _ _ (DA.ne0 h3) h3
            obtain rfl | rfl | rfl | rfl | rfl | rfl : v = 0 ∨ v = 1 ∨ v = 2 ∨ v = 3 ∨ v = 4 ∨ v = 5 := by omega
            · exact ⟨l, _, _, _, rfl, rfl, SqL.of hl2, rfl, fin _ _ uA (fun G e => ⟨_, .base .non, by decide +kernel⟩) D2⟩
            · exact ⟨l, _, _, _, rfl, rfl, SqL.of hl2, rfl, fin _ _ uA (fun G e => ⟨_, .base (.int _), by decide +kernel⟩) D2⟩
            · exact ⟨l, _, _, _, rfl, rfl, SqL.of hl2, rfl, fin _ _ uA (fun G e => ⟨_, .base (.lst (e _ _ h12 (fun _ z => by cases z))), by decide +kernel⟩) D2⟩
            · exact ⟨l, _, _, _, rfl, rfl, SqL.of hl2, rfl, fin _ _ uA (fun G e => ⟨_, .base (.bl _), by decide +kernel⟩) D2⟩
            · exact ⟨l, _, _, _, rfl, rfl, SqL.of hl2, rfl, fin _ _ uA (fun G e => ⟨_, .base (.tup (e _ _ h22 (fun _ z => by cases z))), by decide +kernel⟩) D2⟩
            · exact ⟨l, _, _, _, rfl, rfl, SqL.of hl2, rfl, fin _ _ uA (fun G e => ⟨_, .base (.dK (e _ _ h32 (fun _ z => by cases z))), by decide +kernel⟩) D2⟩)))
        (pss_cons (ps_if (pt_cmpR op_ne (pe_ix ix_tup (pe_imp (tSaidN K T) (pe_lamS (k := 6) (T := T) (TT := TTsaid (c 0) (c 10) (c 6)) (t := fun E => tCall (spWishBy K CW (c 0) (c 6)) [] E (tCons (tVar 7) tNil)) (by rfl) gG FG bG scSaid rfl (.inl rfl) (fun cdv => said_gives TS_ TI_ TW TK mi mt) TB rfl (by exact hmT) (by exact huT) r8 (show LamX.LamS (defScope sLaw) _ from LamX.lamS_by (by decide +kernel)) rfl (fun _ _ _ _ _ => rfl)
              (fun A outer s H E f c' hr2 => by exact pe_call (E := E) GB hr2 (by rfl) gB kB bB .nil (passes_call (takes_of rfl rfl rfl rfl) fun _ _ _ _ h => h) (pa_cons (pv 7) pa_nil))) (fun σ H Q h => saidN_imp _ _ _ h)) pe_int (fun _ _ => rfl)) pe_str (nomark _)) (pss_one (ps_ret pe_bl)) pss_nil)
        (pss_one (ps_if (pt_cmpR (op_neD hu64) (pe_imp (tSaidE T) (pe_lamS (k := 6) (T := T) (TT := TTsaid (c 0) (c 10) (c 6)) (t := fun E => tCall (spWishBy K CW (c 0) (c 6)) [] E (tCons (tC (.str "")) tNil)) (by rfl) gG FG bG scSaid rfl (.inl rfl) (fun cdv => said_gives TS_ TI_ TW TK mi mt) TB rfl (by exact hmT) (by exact huT) r8 (show LamX.LamS (defScope sLaw) _ from LamX.lamS_by (by decide +kernel)) rfl (fun _ _ _ _ _ => rfl)
              (fun A outer s H E f c' hr2 => by exact pe_call (E := E) GB hr2 (by rfl) gB kB bB .nil (passes_call (takes_of rfl rfl rfl rfl) fun _ _ _ _ h => h) (pa_cons pe_str pa_nil))) (fun σ H Q h => saidE_imp _ _ _ h)) (pe_tup (pa_cons pe_str (pa_cons pe_str pa_nil))) (nomark _)) (pss_one (ps_ret pe_bl)) pss_nil))))))
      (pss_one (ps_ret pe_bl)), ?_⟩
    refine ⟨_, rfl, a, ns, rfl, hS0, hlen, fun l ds H1 s1 D1 => ⟨l, rfl, ⟨_, SqL.of D1.at_⟩, ?_⟩⟩
    refine for_it (walk_list (K := K) (a := l) (xs := ds.map V.ref)) (fun j σ G => ∃ (v1 v2 v3 v4 v5 v6 v7 : Option V), σ = [some (.ref a), v1, v2, v3, v4, v5, v6, v7] ∧ Draws G l ds j ∧ Tabs T G) ⟨_, _, _, _, _, _, _, rfl, D1, hT.ext s1⟩ (fun j σ G _ h => by obtain ⟨_, _, _, _, _, _, _, _, h, _⟩ := h; exact SqL.of h.at_) ?_ ?_
    · rintro j x σ G G' hj ⟨v1, v2, v3, v4, v5, v6, v7, rfl, DG, TG⟩ ⟨rfl, fx⟩
      obtain ⟨d, hd, rfl⟩ := getD_map fx
      have j8 : j < 8 := Nat.lt_of_lt_of_le (List.getElem?_eq_some_iff.mp hd).1 DG.len
      have Dd := DG.all j d (Nat.le_refl _) hd
      refine ⟨4, rfl, by decide, by decide, ?_⟩
      refine for_it walk_range (fun i σ G => ∃ (v2 v3 v4 v5 v6 v7 : Option V) (t : Int), σ = [some (.ref a), some (.ref d), v2, v3, v4, v5, v6, v7] ∧ Keep d G' G ∧ DrawAt G d t ∧ 0 ≤ t ∧ t ≤ 700 + 200 * i ∧ Tabs T G) ⟨_, _, _, _, _, _, _, rfl, Keep.same (Same.refl _), Dd, by omega, by omega, TG⟩ (fun _ _ _ _ _ => trivial) ?_ ?_
      · rintro i x σ G1 G2 hi ⟨v2, v3, v4, v5, v6, v7, t, rfl, kp, D2, t0, tb, T2⟩ ⟨rfl, rfl⟩
        have i4 : i < 4 := hi
        refine ⟨_, rfl, d, t, rfl, D2, t0, by omega, fun m q G3 t3 u3 nm hm3 gq D3 ta3 tb3 => ?_⟩
        refine ⟨_, rfl, m, q, rfl, hm3, gq.i, fun lw G4 s4 hw4 => ?_⟩
        have D4 := D3.same s4
        have lq : 3 ≤ (wordsQ q).length ∧ (wordsQ q).length ≤ 4 := by
          unfold wordsQ
          split <;> simp
        refine ⟨_, rfl, _, rfl, d, lw, t3, _, rfl, D4, by omega, by omega, hw4, by omega, by omega, wordsQ_wd gq.i, fun lb wb G5 hb5 Wb lb1 lb2 u5 D5 => ?_⟩
        have hw5 := lst_keepD hw4 (Keep.but u5) D4
        refine ⟨_, rfl, _, rfl, _, rfl, _, rfl, d, lb, _, wb, rfl, D5, by omega, by omega, hb5, by omega, by omega, Wb, fun lbb wbb G6 hbb6 Wbb lbb1 lbb2 u6 D6 => ?_⟩
        have hw6 := lst_keepD hw5 (Keep.but u6) D5
        have hb6 := lst_keepD hb5 (Keep.but u6) D5
        refine ⟨_, rfl, by show 4 ≤ sizeLine; decide, fun p7 n7 => ?_⟩
        have s7 := same_upd (o := .tup [.ref lw, .ref lb, .ref lbb, .ref lw]) n7
        obtain ⟨h7, _⟩ := fresh_at (o := .tup [.ref lw, .ref lb, .ref lbb, .ref lw]) n7
        have D7 := D6.same s7
        have k7 : Keep d G2 _ := ((((Keep.but u3).trans (Keep.same s4)).trans (Keep.but u5)).trans (Keep.but u6)).trans (Keep.same s7)
        have T7 := (tabs_but (tabs_but ((tabs_but T2 u3 D2).ext s4) u5 D4) u6 D5).ext s7
        have hm7 := lst_keepD hm3 ((((Keep.same (d := d) s4).trans (Keep.but u5)).trans (Keep.but u6)).trans (Keep.same s7)) D3
        have L1 : LW _ lw := ⟨_, s7 _ _ hw6, by omega, wordsQ_wd gq.i⟩
        have L2 : LW _ lb := ⟨_, s7 _ _ hb6, by omega, Wb⟩
        have L3 : LW _ lbb := ⟨_, s7 _ _ hbb6, by omega, Wbb⟩
        refine ⟨p7, rfl, ⟨_, SqT.of h7⟩, ?_⟩
        generalize upd G6 p7 (.tup [.ref lw, .ref lb, .ref lbb, .ref lw]) = G7 at h7 D7 k7 T7 hm7 L1 L2 L3 ⊢
        refine for_it (walk_tup (K := K) (a := p7) (xs := [.ref lw, .ref lb, .ref lbb, .ref lw])) (fun e σ G => ∃ (v6 : Option V) (t' : Int), σ = [some (.ref a), some (.ref d), some (.int (0 + ((i : Nat) : Int))), some (.ref m), some (.ref lw), some (.ref lb), v6, v7] ∧ Keep d G7 G ∧ DrawAt G d t' ∧ t3 ≤ t' ∧ t' ≤ t3 + 6 + 12 * e ∧ Tabs T G) ⟨_, _, rfl, Keep.same (Same.refl _), D7, by omega, by omega, T7⟩ (fun e σ G _ ⟨_, _, _, k, _⟩ => SqT.of (k _ _ (D7.ne h7 fun _ z => by cases z) (fun _ z => by cases z) h7)) ?_ ?_
        · rintro e y σ G8 G9 he ⟨v6, t', rfl, k8, D8, ta8, tb8, T8⟩ ⟨rfl, fy⟩
          have e4 : e < 4 := he
          obtain ⟨ly, rfl, ws, hws, lws, Wws⟩ : ∃ ly, y = .ref ly ∧ LW G7 ly := by
            have my := List.mem_of_getElem? fy
            simp only [List.mem_cons, List.not_mem_nil, or_false] at my
            rcases my with rfl | rfl | rfl | rfl
            · exact ⟨_, rfl, L1⟩
            · exact ⟨_, rfl, L2⟩
            · exact ⟨_, rfl, L3⟩
            · exact ⟨_, rfl, L1⟩
          have hws8 := lst_keepD hws k8 D7
          refine ⟨_, rfl, _, rfl, d, ly, t', ws, rfl, D8, by omega, by omega, hws8, lws, Wws, T8, fun G10 t10 k10 D10 ta10 tb10 T10 => ⟨_, rfl, iteF ?_⟩⟩
          exact ⟨_, t10, rfl, k8.trans k10, D10, by omega, by omega, T10⟩
        · rintro σ G8 ⟨v6, t', rfl, k8, D8, ta8, tb8, T8⟩
          have tb8 : t' ≤ t3 + 6 + 12 * ((4 : Nat) : Int) := tb8
          have hm8 := lst_keepD hm7 k8 D7
          refine ⟨_, rfl, _, rfl, d, m, t', q, rfl, D8, by omega, by omega, hm8, gq, T8, fun G10 t10 k10 D10 ta10 tb10 T10 => ⟨_, rfl, iteF ?_⟩⟩
          exact ⟨_, _, _, _, _, _, t10, rfl, ((kp.trans k7).trans k8).trans k10, D10, by omega, by omega, T10⟩
      · rintro σ G1 ⟨v2, v3, v4, v5, v6, v7, t, rfl, kA, D2, t0, tb, T2⟩
        have tb : t ≤ 700 + 200 * ((4 : Nat) : Int) := tb
        refine ⟨d, t, rfl, D2, t0, by omega, fun v G3 u3 nv D3 => ?_⟩
        have T3 := tabs_but T2 u3 D2
        refine ⟨v, rfl, nv, T3, fun p G4 e4 T4 hp => ⟨p, _, 0, .str "text", rfl, rfl, SqT.of hp, rfl, rfl, _, rfl, iteF ?_⟩⟩
        refine ⟨T4, fun p5 G5 e5 T5 h5 => ⟨by show 2 ≤ sizeLine; decide, fun p6 n6 => ?_⟩⟩
        have s6 := same_upd (o := .tup [.str "wish", .str "word"]) n6
        obtain ⟨ku1, ku2⟩ := word_two
        refine ⟨_, _, pair_dp (s6 _ _ h5), pair_dp upd_same, ku1, ku1, _, rfl, iteF' (by rw [ku2]; decide) ?_⟩
        have kB : Keep d G' _ := (((kA.trans (Keep.but u3)).trans (Keep.ext e4)).trans (Keep.ext e5)).trans (Keep.same s6)
        refine ⟨_, _, _, _, _, _, _, rfl, ⟨kB _ _ (Dd.ne DG.at_ fun _ z => by cases z) (fun _ z => by cases z) DG.at_, DG.nd, fun i y hi e => ?_, DG.len⟩, T5.ext s6⟩
        refine (DG.all i y (by omega) e).keep kB (fun z => ?_) Dd
        obtain ⟨hi', ei⟩ := List.getElem?_eq_some_iff.mp e
        obtain ⟨hj', ej⟩ := List.getElem?_eq_some_iff.mp hd
        have := (List.getElem_inj DG.nd).mp (ei.trans (z.trans ej.symm))
        omega
    · rintro σ G ⟨v1, v2, v3, v4, v5, v6, v7, rfl, DG, TG⟩
      exact fin0 G
end
end Pk
/-! ### facts that the top has left, by looks -/
namespace Pk
open PySem L2
def pick (l : List Addr) : Nat → Addr := fun i => l.getD i 0
def isNone : Option (Option Value) → Bool
  | some none => true
  | _ => false
theorem isNone_of {x : Option (Option Value)} (h : isNone x = true) : x = some none := by
  cases x with
  | none => cases h
  | some y =>
    cases y with
    | none => rfl
    | some z => cases h
def isBlt (s : String) : Option (Option Value) → Bool
  | some (some (.builtin b)) => decide (b = s)
  | _ => false
theorem isBlt_of {s : String} {x : Option (Option Value)} (h : isBlt s x = true) : x = some (some (.builtin s)) := by
  unfold isBlt at h
  split at h
  · rw [of_decide_eq_true h]
  · cases h
def isTyp (s : String) : Option Value → Bool
  | some (.type b) => decide (b = s)
  | _ => false
theorem isTyp_of {s : String} {x : Option Value} (h : isTyp s x = true) : x = some (.type s) := by
  unfold isTyp at h
  split at h
  · rw [of_decide_eq_true h]
  · cases h
/-- a class of errors, by one look -/
def excB (K : PySem.W.Frag) (D : Addr) : Bool := isBlt "BaseException.__getattribute__" (PySem.W.findIn K (.ref D) "__getattribute__") && (isNone (PySem.W.findIn K (.ref D) "__getattr__") && (PySem.W.subIn K (.ref D) (.type "BaseException") == some true && (PySem.W.hasDictIn K D && (isBlt "object.__class__" (PySem.W.findIn K (.ref D) "__class__") && (PySem.W.mroIn K D (.type "object") == some true && (isBlt "object.__setattr__" (PySem.W.findIn K (.ref D) "__setattr__") && (PySem.W.keepIn K (.ref D) && (isTyp "type" (PySem.W.typeIn K (.ref D)) && PySem.W.kitOne K (.ref D) (.type "Exception") == some true))))))))
structure ExcK (K : PySem.W.Frag) (D : Addr) : Prop where
  h1 : PySem.W.findIn K (.ref D) "__getattribute__" = some (some (.builtin "BaseException.__getattribute__"))
  h2 : PySem.W.findIn K (.ref D) "__getattr__" = some none
  h3 : PySem.W.subIn K (.ref D) (.type "BaseException") = some true
  h4 : PySem.W.hasDictIn K D = true
  h5 : PySem.W.findIn K (.ref D) "__class__" = some (some (.builtin "object.__class__"))
  h8 : PySem.W.mroIn K D (.type "object") = some true
  sa : PySem.W.findIn K (.ref D) "__setattr__" = some (some (.builtin "object.__setattr__"))
  kp : PySem.W.keepIn K (.ref D) = true
  ty : PySem.W.typeIn K (.ref D) = some (.type "type")
  xx : PySem.W.kitOne K (.ref D) (.type "Exception") = some true
theorem exc_of {K : PySem.W.Frag} {D : Addr} (h : excB K D = true) : ExcK K D := by
  unfold excB at h
  simp only [Bool.and_eq_true] at h
  obtain ⟨a1, a2, a3, a4, a5, a6, a7, a8, a9, a10⟩ := h
  exact ⟨isBlt_of a1, isNone_of a2, beq_iff_eq.mp a3, a4, isBlt_of a5, beq_iff_eq.mp a6, isBlt_of a7, a8, isTyp_of a9, beq_iff_eq.mp a10⟩
/-- what isinstance tells of errors of the class D, class by class -/
def kitsL (K : PySem.W.Frag) (D : Addr) (l : List (Addr × Bool)) : Bool := l.all fun p => PySem.W.kitOne K (.ref D) (.ref p.1) == some p.2
theorem kits_at {K : PySem.W.Frag} {D : Addr} {l : List (Addr × Bool)} (h : kitsL K D l = true) {c : Addr} {b : Bool} (hm : (c, b) ∈ l) : PySem.W.kitOne K (.ref D) (.ref c) = some b := beq_iff_eq.mp (List.all_eq_true.mp h _ hm)
/-- an own class, by one look: its fields, what it has of object -/
def clsB (K : PySem.W.Frag) (C : Addr) (fs : List Str) : Bool := PySem.W.plainGet K C Str.empty && (PySem.W.hasDictIn K C && (PySem.W.plainOver K C && (isBlt "object.__setattr__" (PySem.W.findIn K (.ref C) "__setattr__") && ((fs.all fun f => isNone (PySem.W.findIn K (.ref C) f)) && (PySem.W.makesIn K C && (PySem.W.keepIn K (.ref C) && (isBlt "object.__class__" (PySem.W.findIn K (.ref C) "__class__") && (PySem.W.mroIn K C (.type "object") == some true && (PySem.W.kitOne K (.ref C) (.ref C) == some true && (PySem.W.kitAny K (.ref C) [.type "list", .type "tuple"] == some false && oddB K C))))))))))
structure ClsK (K : PySem.W.Frag) (C : Addr) (fs : List Str) : Prop where
  cls : Cls K C
  no : ∀ f ∈ fs, NoAttr K C f
  mks : PySem.W.makesIn K C = true
  kp : PySem.W.keepIn K (.ref C) = true
  hc : PySem.W.findIn K (.ref C) "__class__" = some (some (.builtin "object.__class__"))
  hm : PySem.W.mroIn K C (.type "object") = some true
  hk : PySem.W.kitOne K (.ref C) (.ref C) = some true
  hl : PySem.W.kitAny K (.ref C) [.type "list", .type "tuple"] = some false
  odd : oddB K C = true
theorem cls_of {K : PySem.W.Frag} {C : Addr} {fs : List Str} (h : clsB K C fs = true) : ClsK K C fs := by
  unfold clsB at h
  simp only [Bool.and_eq_true] at h
  obtain ⟨a1, a2, a3, a4, a5, a6, a7, a8, a9, a10, a11, a12⟩ := h
  exact ⟨⟨a1, a2, a3, isBlt_of a4⟩, fun f hf => isNone_of (List.all_eq_true.mp a5 f hf), a6, a7, isBlt_of a8, beq_iff_eq.mp a9, beq_iff_eq.mp a10, beq_iff_eq.mp a11, a12⟩
theorem ClsK.oty {K : PySem.W.Frag} {C : Addr} {fs : List Str} (h : ClsK K C fs) (hn : PySem.W.specialIn K (.builtin "object.__class__") "__get__" = some (some (.builtin "getset_descriptor.__get__"))) (ht : PySem.W.takesIn K (.builtin "object.__class__") = some true) : OTy K C := ⟨h.cls, h.hc, hn, ht, h.hm, h.hk, h.hl, h.odd⟩
/-- a tuple of texts among the constants -/
theorem texts_at {K : PySem.W.Frag} {a : Addr} {oc : Value} {od : Option Addr} {its : Array Value} {n : Nat} {sl : Array (Option Value)} {zs : List Str} (h : K.lookup a = some ⟨oc, od, .seq its n, sl⟩) (hc : oc = .type "tuple") (hs : its.size ≤ 1000) (hv : Vals (zs.map V.str) its.toList) (H : Hp) : SqT K H a (zs.map V.str) :=
  .inr ⟨_, its, n, h, hc, rfl, Nat.le_trans hs (by decide), hv⟩
theorem el_Exception : ErrLine "Exception" [.type "Exception", .type "BaseException", .type "object"] := ⟨⟨by decide +kernel, by decide +kernel, by decide +kernel⟩, F.store_Exception.passes, by decide +kernel⟩
theorem el_ValueError : ErrLine "ValueError" [.type "ValueError", .type "Exception", .type "BaseException", .type "object"] := ⟨⟨by decide +kernel, by decide +kernel, by decide +kernel⟩, F.store_ValueError.passes, by decide +kernel⟩
theorem el_TypeError : ErrLine "TypeError" [.type "TypeError", .type "Exception", .type "BaseException", .type "object"] := ⟨⟨by decide +kernel, by decide +kernel, by decide +kernel⟩, F.store_TypeError.passes, by decide +kernel⟩
theorem el_IndexError : ErrLine "IndexError" [.type "IndexError", .type "LookupError", .type "Exception", .type "BaseException", .type "object"] := ⟨⟨by decide +kernel, by decide +kernel, by decide +kernel⟩, F.store_IndexError.passes, by decide +kernel⟩
theorem el_LookupError : ErrLine "LookupError" [.type "LookupError", .type "Exception", .type "BaseException", .type "object"] := ⟨⟨by decide +kernel, by decide +kernel, by decide +kernel⟩, F.store_LookupError.passes, by decide +kernel⟩
theorem el_KeyError : ErrLine "LookupError" [.type "KeyError", .type "LookupError", .type "Exception", .type "BaseException", .type "object"] := ⟨ky_line, fun self => by kernel_rfl, by decide +kernel⟩
theorem el_OverflowError : ErrLine "OverflowError" [.type "OverflowError", .type "ArithmeticError", .type "Exception", .type "BaseException", .type "object"] := ⟨⟨by decide +kernel, by decide +kernel, by decide +kernel⟩, F.store_OverflowError.passes, by decide +kernel⟩
theorem el_RuntimeError : ErrLine "RuntimeError" [.type "RuntimeError", .type "Exception", .type "BaseException", .type "object"] := ⟨⟨by decide +kernel, by decide +kernel, by decide +kernel⟩, F.store_RuntimeError.passes, by decide +kernel⟩
end Pk
namespace Pk
open PySem L2
/-! ### what the top has left -/
theorem three_tab {P Q R : Addr} {x y z : Str} (n1 : P ≠ Q) (n2 : P ≠ R) (n3 : Q ≠ R) : (∀ p ∈ [(P, x), (Q, y), (R, z)], p.1 = P → p.2 = x) ∧ (∀ p ∈ [(P, x), (Q, y), (R, z)], p.1 = Q → p.2 = y) ∧ (∀ p ∈ [(P, x), (Q, y), (R, z)], p.1 = R → p.2 = z) := by
  refine ⟨?_, ?_, ?_⟩ <;> intro p hp h <;> simp only [List.mem_cons, List.not_mem_nil, or_false] at hp
  · rcases hp with rfl | rfl | rfl
    · rfl
    · exact absurd h.symm n1
    · exact absurd h.symm n2
  · rcases hp with rfl | rfl | rfl
    · exact absurd h n1
    · rfl
    · exact absurd h.symm n3
  · rcases hp with rfl | rfl | rfl
    · exact absurd h n2
    · exact absurd h n3
    · rfl
theorem all_mk {l : PySem.W.OpenLaw} {w : World} {K : PySem.W.Frag} {h : Heap} {mg : Str → Option Value} {fa cB c0 c1 c2 c3 c4 c5 c6 c7 c8 c9 c10 c11 c12 c13 fIc0 fIc10 aXWORDS CW fWI tWI fWE fWM f1 f2 t2 f3 f4 f5 f6 f7 f8 f9 f10 f11 f12 f13 f14 f15 f16 f17 f18 f19 f20 f21 f22 cc0 PT0 cc1 PT1 cc2 PT2 : Addr} (X : K.In h) (G : h.Ns mainGlobals mg) (hfa : mg "law" = some (.ref fa))
    {odIc0 anIc0 odIc10 anIc10 odXWORDS odWI anWI odTWI odWE anWE odWM anWM od1 an1 od2 an2 odT2 od3 an3 od4 an4 od5 an5 od6 an6 od7 an7 od8 an8 od9 an9 od10 an10 od11 an11 od12 an12 od13 an13 od14 an14 od15 an15 od16 an16 od17 an17 od18 an18 od19 an19 od20 an20 od21 an21 od22 an22 : Option Addr} {slIc0 slIc10 slXWORDS slWI slTWI slWE slWM sl1 sl2 slT2 sl3 sl4 sl5 sl6 sl7 sl8 sl9 sl10 sl11 sl12 sl13 sl14 sl15 sl16 sl17 sl18 sl19 sl20 sl21 sl22 : Array (Option Value)} {ocIc0 dcIc0 pmIc0 cdIc0 ctIc0 ocIc10 dcIc10 pmIc10 cdIc10 ctIc10 ocXWORDS ocWI dcWI pmWI cdWI ctWI kVWI ocTWI ocWE dcWE pmWE cdWE ctWE kVWE ocWM dcWM pmWM cdWM ctWM kVWM oc1 dc1 pm1 cd1 ct1 kV1 oc2 dc2 pm2 cd2 ct2 kV2 ocT2 oc3 dc3 pm3 cd3 ct3 kV3 oc4 dc4 pm4 cd4 ct4 kV4 oc5 dc5 pm5 cd5 ct5 kV5 oc6 dc6 pm6 cd6 ct6 kV6 oc7 dc7 pm7 cd7 ct7 kV7 oc8 dc8 pm8 cd8 ct8 kV8 oc9 dc9 pm9 cd9 ct9 kV9 oc10 dc10 pm10 cd10 ct10 kV10 oc11 dc11 pm11 cd11 ct11 kV11 oc12 dc12 pm12 cd12 ct12 kV12 oc13 dc13 pm13 cd13 ct13 kV13 oc14 dc14 pm14 cd14 ct14 kV14 oc15 dc15 pm15 cd15 ct15 kV15 oc16 dc16 pm16 cd16 ct16 kV16 oc17 dc17 pm17 cd17 ct17 kV17 oc18 dc18 pm18 cd18 ct18 kV18 oc19 dc19 pm19 cd19 ct19 kV19 oc20 dc20 pm20 cd20 ct20 kV20 oc21 dc21 pm21 cd21 ct21 kV21 oc22 dc22 pm22 cd22 ct22 kV22 : Value} {uMOST_LETTERS uMOST uMOST_FIGURES uXWORDS_0 uXWORDS_1 uXWORDS_2 uXWORDS_3 uXWORDS_4 uXWORDS_5 uWI_0 uWI_1 uWI_2 u2_0 u2_1 : Tok} {nXWORDS nTWI nT2 : Nat} {zXWORDS_0 zXWORDS_1 zXWORDS_2 zXWORDS_3 zXWORDS_4 zXWORDS_5 zWI_0 : Str} {nmIc0 qlIc0 : Str} {NIc0 : Addr} {bsIc0 : List Value} {snIc0 : List Str} {subIc0 : List Value} {abIc0 : Bool} {colIc0 : Option Bool} {ddIc0 : Option Addr} {m0Ic0 m1Ic0 m2Ic0 m3Ic0 m5Ic0 : Option Value} {nmIc10 qlIc10 : Str} {NIc10 : Addr} {bsIc10 : List Value} {snIc10 : List Str} {subIc10 : List Value} {abIc10 : Bool} {colIc10 : Option Bool} {ddIc10 : Option Addr} {m0Ic10 m1Ic10 m2Ic10 m3Ic10 m5Ic10 : Option Value}
    (e6 : PySem.W.specialIn K (.builtin "object.__class__") "__get__" = some (some (.builtin "getset_descriptor.__get__")))
    (e7 : PySem.W.takesIn K (.builtin "object.__class__") = some true)
    (gcB : PySem.W.nsIn K mainGlobals "BankError" = some (some (.ref cB)))
    (gc0 : PySem.W.nsIn K mainGlobals "BadWish" = some (some (.ref c0)))
    (gc1 : PySem.W.nsIn K mainGlobals "BadPaper" = some (some (.ref c1)))
    (gc2 : PySem.W.nsIn K mainGlobals "BadSheet" = some (some (.ref c2)))
    (gc3 : PySem.W.nsIn K mainGlobals "BadLine" = some (some (.ref c3)))
    (gc4 : PySem.W.nsIn K mainGlobals "Gone" = some (some (.ref c4)))
    (gc5 : PySem.W.nsIn K mainGlobals "BadQuestion" = some (some (.ref c5)))
    (gc6 : PySem.W.nsIn K mainGlobals "BadText" = some (some (.ref c6)))
    (gc7 : PySem.W.nsIn K mainGlobals "NoSuch" = some (some (.ref c7)))
    (gc8 : PySem.W.nsIn K mainGlobals "NoPlace" = some (some (.ref c8)))
    (gc9 : PySem.W.nsIn K mainGlobals "TooMany" = some (some (.ref c9)))
    (gc10 : PySem.W.nsIn K mainGlobals "BadKind" = some (some (.ref c10)))
    (gc11 : PySem.W.nsIn K mainGlobals "Unmet" = some (some (.ref c11)))
    (gc12 : PySem.W.nsIn K mainGlobals "NoAnswers" = some (some (.ref c12)))
    (gc13 : PySem.W.nsIn K mainGlobals "Twice" = some (some (.ref c13)))
    (xkIc0 : excB K c0 = true)
    (xLIc0 : K.lookup c0 = some (excClassObj nmIc0 qlIc0 c0 NIc0 bsIc0 (.ref cB :: [.type "Exception", .type "BaseException", .type "object"]) true snIc0 subIc0 abIc0 colIc0 ddIc0 m0Ic0 m1Ic0 m2Ic0 m3Ic0 m5Ic0 "Exception.__new__"))
    (nbIc0 : PySem.W.findIn K (.ref c0) "at" = some none)
    (aIc0 : PySem.W.findIn K (.ref c0) "__init__" = some (some (.ref fIc0)))
    (tIc0 : PySem.W.typeIn K (.ref fIc0) = some (.type "function"))
    (lIc0 : K.lookup fIc0 = some ⟨ocIc0, odIc0, .func (PySem.W.fnOf "__init__" "BadWish.__init__" (Of_at.iA ⟨6, 17, 6, 21⟩ ⟨6, 23, 6, 25⟩) (Of_at.iB ⟨7, 8, 7, 12⟩ ⟨7, 8, 7, 15⟩ ⟨7, 18, 7, 20⟩ ⟨7, 8, 7, 20⟩) Of_at.iS .none .none dcIc0 pmIc0 anIc0 cdIc0 ctIc0), slIc0⟩)
    (qIc0 : PySem.W.codeIn K cdIc0 "BadWish.__init__" = true)
    (xkIc10 : excB K c10 = true)
    (xLIc10 : K.lookup c10 = some (excClassObj nmIc10 qlIc10 c10 NIc10 bsIc10 [.type "TypeError", .type "Exception", .type "BaseException", .type "object"] true snIc10 subIc10 abIc10 colIc10 ddIc10 m0Ic10 m1Ic10 m2Ic10 m3Ic10 m5Ic10 "TypeError.__new__"))
    (nbIc10 : PySem.W.findIn K (.ref c10) "wanted" = some none)
    (aIc10 : PySem.W.findIn K (.ref c10) "__init__" = some (some (.ref fIc10)))
    (tIc10 : PySem.W.typeIn K (.ref fIc10) = some (.type "function"))
    (lIc10 : K.lookup fIc10 = some ⟨ocIc10, odIc10, .func (PySem.W.fnOf "__init__" "BadKind.__init__" (Of_wanted.iA ⟨52, 17, 52, 21⟩ ⟨52, 23, 52, 29⟩) (Of_wanted.iB ⟨53, 8, 53, 12⟩ ⟨53, 8, 53, 19⟩ ⟨53, 22, 53, 28⟩ ⟨53, 8, 53, 28⟩) Of_wanted.iS .none .none dcIc10 pmIc10 anIc10 cdIc10 ctIc10), slIc10⟩)
    (qIc10 : PySem.W.codeIn K cdIc10 "BadKind.__init__" = true)
    (ca0 : PySem.W.exmAny K (.ref c0) (caughtS cB (pick [c0, c1, c2, c3, c4, c5, c6, c7, c8, c9, c10, c11, c12, c13])) = some true)
    (ca10 : PySem.W.exmAny K (.ref c10) (caughtS cB (pick [c0, c1, c2, c3, c4, c5, c6, c7, c8, c9, c10, c11, c12, c13])) = some true)
    (ca6 : PySem.W.exmAny K (.ref c6) (caughtS cB (pick [c0, c1, c2, c3, c4, c5, c6, c7, c8, c9, c10, c11, c12, c13])) = some true)
    (kt0 : kitsL K c0 [(c0, true)] = true)
    (kt10 : kitsL K c10 [(c0, false), (c1, false), (c8, false), (c10, true)] = true)
    (kt6 : kitsL K c6 [(c0, false), (c1, false), (c8, false), (c10, false), (c6, true), (c5, false), (c7, false)] = true)
    (kt63 : PySem.W.kitAny K (.ref c6) [.ref c3, .ref c2, .ref c4] = some false)
    (xk6 : excB K c6 = true)
    (xi6 : PySem.W.excIn K c6 [.type "ValueError", .type "Exception", .type "BaseException", .type "object"] "ValueError.__new__" = true)
    (kp6 : PySem.W.keepIn K (.ref c6) = true)
    (sb6 : PySem.W.subIn K (.ref c6) (.type "BaseException") = some true)
    (ty6 : PySem.W.typeIn K (.ref c6) = some (.type "type"))
    (z0 : PySem.W.nsIn K mainGlobals "isinstance" = some none)
    (z1 : PySem.W.nsIn K mainGlobals "int" = some none)
    (z2 : PySem.W.nsIn K mainGlobals "bool" = some none)
    (z3 : PySem.W.nsIn K mainGlobals "str" = some none)
    (z4 : PySem.W.nsIn K mainGlobals "len" = some none)
    (z5 : PySem.W.nsIn K mainGlobals "list" = some none)
    (z6 : PySem.W.nsIn K mainGlobals "tuple" = some none)
    (z7 : PySem.W.nsIn K mainGlobals "enumerate" = some none)
    (z8 : PySem.W.nsIn K mainGlobals "range" = some none)
    (z9 : PySem.W.nsIn K mainGlobals "max" = some none)
    (z10 : PySem.W.nsIn K mainGlobals "min" = some none)
    (cMOST_LETTERS : PySem.W.nsIn K mainGlobals "MOST_LETTERS" = some (some (.int 8 uMOST_LETTERS)))
    (cMOST : PySem.W.nsIn K mainGlobals "MOST" = some (some (.int 999 uMOST)))
    (cMOST_FIGURES : PySem.W.nsIn K mainGlobals "MOST_FIGURES" = some (some (.int 3 uMOST_FIGURES)))
    (gaXWORDS : PySem.W.nsIn K mainGlobals "WORDS" = some (some (.ref aXWORDS)))
    (lXWORDS : K.lookup aXWORDS = some ⟨ocXWORDS, odXWORDS, .seq #[.str zXWORDS_0 uXWORDS_0, .str zXWORDS_1 uXWORDS_1, .str zXWORDS_2 uXWORDS_2, .str zXWORDS_3 uXWORDS_3, .str zXWORDS_4 uXWORDS_4, .str zXWORDS_5 uXWORDS_5] nXWORDS, slXWORDS⟩)
    (ycXWORDS : ocXWORDS = .type "tuple")
    (yzXWORDS_0 : zXWORDS_0 = "many")
    (yzXWORDS_1 : zXWORDS_1 = "toil")
    (yzXWORDS_2 : zXWORDS_2 = "marks")
    (yzXWORDS_3 : zXWORDS_3 = "rest")
    (yzXWORDS_4 : zXWORDS_4 = "kin")
    (yzXWORDS_5 : zXWORDS_5 = "with")
    (gCW : PySem.W.nsIn K mainGlobals "Wish" = some (some (.ref CW)))
    (cbCW : clsB K CW ["word", "what", "least", "most"] = true)
    (neCW : PySem.W.findIn K (.ref CW) "__ne__" = some (some (.builtin "object.__ne__")))
    (aWI : PySem.W.findIn K (.ref CW) "__init__" = some (some (.ref fWI)))
    (hWI : PySem.W.isFn K (.ref fWI) = true)
    (lWI : K.lookup fWI = some ⟨ocWI, odWI, .func (PySem.W.fnOf "__init__" "Wish.__init__" (defArgs sWInit) (defBody sWInit) (defScope sWInit) (.ref tWI) kVWI dcWI pmWI anWI cdWI ctWI), slWI⟩)
    (qWI : PySem.W.codeIn K cdWI "Wish.__init__" = true)
    (kWI : PySem.W.keepIn K (.ref fWI) = true)
    (lTWI : K.lookup tWI = some ⟨ocTWI, odTWI, .seq #[.str zWI_0 uWI_0, .int 0 uWI_1, .int 999 uWI_2] nTWI, slTWI⟩)
    (yzWI_0 : zWI_0 = "")
    (ykWI : kVWI = .none)
    (aWE : PySem.W.findIn K (.ref CW) "__eq__" = some (some (.ref fWE)))
    (hWE : PySem.W.isFn K (.ref fWE) = true)
    (lWE : K.lookup fWE = some ⟨ocWE, odWE, .func (PySem.W.fnOf "__eq__" "Wish.__eq__" (defArgs sWEq) (defBody sWEq) (defScope sWEq) .none kVWE dcWE pmWE anWE cdWE ctWE), slWE⟩)
    (qWE : PySem.W.codeIn K cdWE "Wish.__eq__" = true)
    (kWE : PySem.W.keepIn K (.ref fWE) = true)
    (aWM : PySem.W.findIn K (.ref CW) "moved" = some (some (.ref fWM)))
    (hWM : PySem.W.isFn K (.ref fWM) = true)
    (lWM : K.lookup fWM = some ⟨ocWM, odWM, .func (PySem.W.fnOf "moved" "Wish.moved" (defArgs sWMoved) (defBody sWMoved) (defScope sWMoved) .none kVWM dcWM pmWM anWM cdWM ctWM), slWM⟩)
    (qWM : PySem.W.codeIn K cdWM "Wish.moved" = true)
    (kWM : PySem.W.keepIn K (.ref fWM) = true)
    (a1 : PySem.W.nsIn K mainGlobals "is_number" = some (some (.ref f1)))
    (l1 : K.lookup f1 = some ⟨oc1, od1, .func (PySem.W.fnOf "is_number" "is_number" (defArgs sIsNumber) (defBody sIsNumber) (defScope sIsNumber) .none kV1 dc1 pm1 an1 cd1 ct1), sl1⟩)
    (q1 : PySem.W.codeIn K cd1 "is_number" = true)
    (k1 : PySem.W.keepIn K (.ref f1) = true)
    (a2 : PySem.W.nsIn K mainGlobals "is_whole" = some (some (.ref f2)))
    (l2 : K.lookup f2 = some ⟨oc2, od2, .func (PySem.W.fnOf "is_whole" "is_whole" (defArgs sIsWhole) (defBody sIsWhole) (defScope sIsWhole) (.ref t2) kV2 dc2 pm2 an2 cd2 ct2), sl2⟩)
    (q2 : PySem.W.codeIn K cd2 "is_whole" = true)
    (k2 : PySem.W.keepIn K (.ref f2) = true)
    (lT2 : K.lookup t2 = some ⟨ocT2, odT2, .seq #[.int 0 u2_0, .int 9999 u2_1] nT2, slT2⟩)
    (a3 : PySem.W.nsIn K mainGlobals "is_name" = some (some (.ref f3)))
    (l3 : K.lookup f3 = some ⟨oc3, od3, .func (PySem.W.fnOf "is_name" "is_name" (defArgs sIsName) (defBody sIsName) (defScope sIsName) .none kV3 dc3 pm3 an3 cd3 ct3), sl3⟩)
    (q3 : PySem.W.codeIn K cd3 "is_name" = true)
    (k3 : PySem.W.keepIn K (.ref f3) = true)
    (a4 : PySem.W.nsIn K mainGlobals "is_name_or_empty" = some (some (.ref f4)))
    (l4 : K.lookup f4 = some ⟨oc4, od4, .func (PySem.W.fnOf "is_name_or_empty" "is_name_or_empty" (defArgs sIsNameE) (defBody sIsNameE) (defScope sIsNameE) .none kV4 dc4 pm4 an4 cd4 ct4), sl4⟩)
    (q4 : PySem.W.codeIn K cd4 "is_name_or_empty" = true)
    (k4 : PySem.W.keepIn K (.ref f4) = true)
    (a5 : PySem.W.nsIn K mainGlobals "need_any_text" = some (some (.ref f5)))
    (l5 : K.lookup f5 = some ⟨oc5, od5, .func (PySem.W.fnOf "need_any_text" "need_any_text" (defArgs sNeedAny) (defBody sNeedAny) (defScope sNeedAny) .none kV5 dc5 pm5 an5 cd5 ct5), sl5⟩)
    (q5 : PySem.W.codeIn K cd5 "need_any_text" = true)
    (k5 : PySem.W.keepIn K (.ref f5) = true)
    (a6 : PySem.W.nsIn K mainGlobals "words_in" = some (some (.ref f6)))
    (l6 : K.lookup f6 = some ⟨oc6, od6, .func (PySem.W.fnOf "words_in" "words_in" (defArgs sWordsIn) (defBody sWordsIn) (defScope sWordsIn) .none kV6 dc6 pm6 an6 cd6 ct6), sl6⟩)
    (q6 : PySem.W.codeIn K cd6 "words_in" = true)
    (k6 : PySem.W.keepIn K (.ref f6) = true)
    (a7 : PySem.W.nsIn K mainGlobals "number_by" = some (some (.ref f7)))
    (l7 : K.lookup f7 = some ⟨oc7, od7, .func (PySem.W.fnOf "number_by" "number_by" (defArgs sNumberBy) (defBody sNumberBy) (defScope sNumberBy) .none kV7 dc7 pm7 an7 cd7 ct7), sl7⟩)
    (q7 : PySem.W.codeIn K cd7 "number_by" = true)
    (k7 : PySem.W.keepIn K (.ref f7) = true)
    (a8 : PySem.W.nsIn K mainGlobals "can_be_of" = some (some (.ref f8)))
    (l8 : K.lookup f8 = some ⟨oc8, od8, .func (PySem.W.fnOf "can_be_of" "can_be_of" (defArgs sCanBe) (defBody sCanBe) (defScope sCanBe) .none kV8 dc8 pm8 an8 cd8 ct8), sl8⟩)
    (q8 : PySem.W.codeIn K cd8 "can_be_of" = true)
    (k8 : PySem.W.keepIn K (.ref f8) = true)
    (a9 : PySem.W.nsIn K mainGlobals "cut" = some (some (.ref f9)))
    (l9 : K.lookup f9 = some ⟨oc9, od9, .func (PySem.W.fnOf "cut" "cut" (defArgs sCut) (defBody sCut) (defScope sCut) .none kV9 dc9 pm9 an9 cd9 ct9), sl9⟩)
    (q9 : PySem.W.codeIn K cd9 "cut" = true)
    (k9 : PySem.W.keepIn K (.ref f9) = true)
    (a10 : PySem.W.nsIn K mainGlobals "wish_of" = some (some (.ref f10)))
    (l10 : K.lookup f10 = some ⟨oc10, od10, .func (PySem.W.fnOf "wish_of" "wish_of" (defArgs sWishBy) (defBody sWishBy) (defScope sWishBy) .none kV10 dc10 pm10 an10 cd10 ct10), sl10⟩)
    (q10 : PySem.W.codeIn K cd10 "wish_of" = true)
    (k10 : PySem.W.keepIn K (.ref f10) = true)
    (a11 : PySem.W.nsIn K mainGlobals "_law_draws" = some (some (.ref f11)))
    (l11 : K.lookup f11 = some ⟨oc11, od11, .func (PySem.W.fnOf "_law_draws" "_law_draws" (defArgs sDraws) (defBody sDraws) (defScope sDraws) .none kV11 dc11 pm11 an11 cd11 ct11), sl11⟩)
    (q11 : PySem.W.codeIn K cd11 "_law_draws" = true)
    (k11 : PySem.W.keepIn K (.ref f11) = true)
    (a12 : PySem.W.nsIn K mainGlobals "_law_take" = some (some (.ref f12)))
    (l12 : K.lookup f12 = some ⟨oc12, od12, .func (PySem.W.fnOf "_law_take" "_law_take" (defArgs sTake) (defBody sTake) (defScope sTake) .none kV12 dc12 pm12 an12 cd12 ct12), sl12⟩)
    (q12 : PySem.W.codeIn K cd12 "_law_take" = true)
    (k12 : PySem.W.keepIn K (.ref f12) = true)
    (a13 : PySem.W.nsIn K mainGlobals "_law_names" = some (some (.ref f13)))
    (l13 : K.lookup f13 = some ⟨oc13, od13, .func (PySem.W.fnOf "_law_names" "_law_names" (defArgs sNames) (defBody sNames) (defScope sNames) .none kV13 dc13 pm13 an13 cd13 ct13), sl13⟩)
    (q13 : PySem.W.codeIn K cd13 "_law_names" = true)
    (k13 : PySem.W.keepIn K (.ref f13) = true)
    (a14 : PySem.W.nsIn K mainGlobals "_law_said" = some (some (.ref f14)))
    (l14 : K.lookup f14 = some ⟨oc14, od14, .func (PySem.W.fnOf "_law_said" "_law_said" (defArgs sSaid) (defBody sSaid) (defScope sSaid) .none kV14 dc14 pm14 an14 cd14 ct14), sl14⟩)
    (q14 : PySem.W.codeIn K cd14 "_law_said" = true)
    (k14 : PySem.W.keepIn K (.ref f14) = true)
    (a15 : PySem.W.nsIn K mainGlobals "_law_made" = some (some (.ref f15)))
    (l15 : K.lookup f15 = some ⟨oc15, od15, .func (PySem.W.fnOf "_law_made" "_law_made" (defArgs sMade) (defBody sMade) (defScope sMade) .none kV15 dc15 pm15 an15 cd15 ct15), sl15⟩)
    (q15 : PySem.W.codeIn K cd15 "_law_made" = true)
    (k15 : PySem.W.keepIn K (.ref f15) = true)
    (a16 : PySem.W.nsIn K mainGlobals "_law_words" = some (some (.ref f16)))
    (l16 : K.lookup f16 = some ⟨oc16, od16, .func (PySem.W.fnOf "_law_words" "_law_words" (defArgs sWords) (defBody sWords) (defScope sWords) .none kV16 dc16 pm16 an16 cd16 ct16), sl16⟩)
    (q16 : PySem.W.codeIn K cd16 "_law_words" = true)
    (k16 : PySem.W.keepIn K (.ref f16) = true)
    (a17 : PySem.W.nsIn K mainGlobals "_law_spaced" = some (some (.ref f17)))
    (l17 : K.lookup f17 = some ⟨oc17, od17, .func (PySem.W.fnOf "_law_spaced" "_law_spaced" (defArgs sSpaced) (defBody sSpaced) (defScope sSpaced) .none kV17 dc17 pm17 an17 cd17 ct17), sl17⟩)
    (q17 : PySem.W.codeIn K cd17 "_law_spaced" = true)
    (k17 : PySem.W.keepIn K (.ref f17) = true)
    (a18 : PySem.W.nsIn K mainGlobals "_law_bent" = some (some (.ref f18)))
    (l18 : K.lookup f18 = some ⟨oc18, od18, .func (PySem.W.fnOf "_law_bent" "_law_bent" (defArgs sBent) (defBody sBent) (defScope sBent) .none kV18 dc18 pm18 an18 cd18 ct18), sl18⟩)
    (q18 : PySem.W.codeIn K cd18 "_law_bent" = true)
    (k18 : PySem.W.keepIn K (.ref f18) = true)
    (a19 : PySem.W.nsIn K mainGlobals "_law_due" = some (some (.ref f19)))
    (l19 : K.lookup f19 = some ⟨oc19, od19, .func (PySem.W.fnOf "_law_due" "_law_due" (defArgs sDue) (defBody sDue) (defScope sDue) .none kV19 dc19 pm19 an19 cd19 ct19), sl19⟩)
    (q19 : PySem.W.codeIn K cd19 "_law_due" = true)
    (k19 : PySem.W.keepIn K (.ref f19) = true)
    (a20 : PySem.W.nsIn K mainGlobals "_law_read_right" = some (some (.ref f20)))
    (l20 : K.lookup f20 = some ⟨oc20, od20, .func (PySem.W.fnOf "_law_read_right" "_law_read_right" (defArgs sReadR) (defBody sReadR) (defScope sReadR) .none kV20 dc20 pm20 an20 cd20 ct20), sl20⟩)
    (q20 : PySem.W.codeIn K cd20 "_law_read_right" = true)
    (k20 : PySem.W.keepIn K (.ref f20) = true)
    (a21 : PySem.W.nsIn K mainGlobals "_law_moved_right" = some (some (.ref f21)))
    (l21 : K.lookup f21 = some ⟨oc21, od21, .func (PySem.W.fnOf "_law_moved_right" "_law_moved_right" (defArgs sMovedR) (defBody sMovedR) (defScope sMovedR) .none kV21 dc21 pm21 an21 cd21 ct21), sl21⟩)
    (q21 : PySem.W.codeIn K cd21 "_law_moved_right" = true)
    (k21 : PySem.W.keepIn K (.ref f21) = true)
    (a22 : PySem.W.nsIn K mainGlobals "law" = some (some (.ref f22)))
    (l22 : K.lookup f22 = some ⟨oc22, od22, .func (PySem.W.fnOf "law" "law" (defArgs sLaw) (defBody sLaw) (defScope sLaw) .none kV22 dc22 pm22 an22 cd22 ct22), sl22⟩)
    (q22 : PySem.W.codeIn K cd22 "law" = true)
    (k22 : PySem.W.keepIn K (.ref f22) = true)
    (ht0 : PySem.W.tabIn K "_law_read_right" = some (cc0, PT0))
    (tb0 : PySem.W.CodeHd h cc0 PT0 ∧ h.get? PT0 = some emptyT)
    (nt0 : K.lookup PT0 = none)
    (ht1 : PySem.W.tabIn K "_law_moved_right" = some (cc1, PT1))
    (tb1 : PySem.W.CodeHd h cc1 PT1 ∧ h.get? PT1 = some emptyT)
    (nt1 : K.lookup PT1 = none)
    (np0_1 : PT0 ≠ PT1)
    (ht2 : PySem.W.tabIn K "law" = some (cc2, PT2))
    (tb2 : PySem.W.CodeHd h cc2 PT2 ∧ h.get? PT2 = some emptyT)
    (nt2 : K.lookup PT2 = none)
    (np0_2 : PT0 ≠ PT2)
    (np1_2 : PT1 ≠ PT2) :
    ∃ (fd : FuncData) (cs : List (Addr × Addr)) (sp : Sp), TabsE K mg h cs ∧ (∀ (s : Shared) (u : Value), BindsTo s fd ⟨[u], []⟩ [("_law_script", u)]) ∧ (∀ (H : Hp) (a : Addr) (ns : List Int), ns.length ≤ 63 → (∀ z ∈ ns, Builtin.Int.intBits z ≤ 1048576) → (∀ p ∈ cs, H p.2 = some (.tbl #[])) → SqL K H a (ns.map V.int) → sp [.ref a] H (fun v _ => v = .bl true) fun _ _ _ => False) ∧
      ∀ base : Heap, K.In base → base.Ns mainGlobals mg → (∀ p ∈ cs, LamX.TabB base mg p.1 p.2) → FnG l.prog w K mg base CX0 10 fa fd ["_law_script"] sp := by
  have e := hfa.symm.trans (PySem.W.mg_of X G a22)
  cases e
  subst ycXWORDS yzXWORDS_0 yzXWORDS_1 yzXWORDS_2 yzXWORDS_3 yzXWORDS_4 yzXWORDS_5 yzWI_0 ykWI
  have yIc0 := exc_of xkIc0
  have wIc0 : ExcC K c0 := ⟨yIc0.h1, yIc0.h2, yIc0.h3, yIc0.h4, yIc0.h5, e6, e7, yIc0.h8⟩
  have TIc0 : TxW K mg c0 fIc0 := { base := PySem.F.excBase_Exception, gC := PySem.W.mg_of X G gc0, cls := ⟨nmIc0, qlIc0, NIc0, bsIc0, _, snIc0, subIc0, abIc0, colIc0, ddIc0, m0Ic0, m1Ic0, m2Ic0, m3Ic0, m5Ic0, xLIc0, el_Exception.own⟩, sa := yIc0.sa, ex := wIc0, noN := nbIc0, iC := aIc0, tC := tIc0, kC := yIc0.kp, tyC := yIc0.ty, fn := ⟨_, _, _, _, _, _, _, _, _, _, _, _, _, _, lIc0, qIc0⟩ }
  have yIc10 := exc_of xkIc10
  have wIc10 : ExcC K c10 := ⟨yIc10.h1, yIc10.h2, yIc10.h3, yIc10.h4, yIc10.h5, e6, e7, yIc10.h8⟩
  have TIc10 : TxK K mg c10 fIc10 := { base := PySem.F.excBase_TypeError, gC := PySem.W.mg_of X G gc10, cls := ⟨nmIc10, qlIc10, NIc10, bsIc10, _, snIc10, subIc10, abIc10, colIc10, ddIc10, m0Ic10, m1Ic10, m2Ic10, m3Ic10, m5Ic10, xLIc10, el_TypeError⟩, sa := yIc10.sa, ex := wIc10, noN := nbIc10, iC := aIc10, tC := tIc10, kC := yIc10.kp, tyC := yIc10.ty, fn := ⟨_, _, _, _, _, _, _, _, _, _, _, _, _, _, lIc10, qIc10⟩ }
  have y6 := exc_of xk6
  have w6 : ExcC K c6 := ⟨y6.h1, y6.h2, y6.h3, y6.h4, y6.h5, e6, e7, y6.h8⟩
  have B6 : BadTxt K mg c6 := ⟨PySem.W.mg_of X G gc6, xi6, kp6, sb6, ty6⟩
  have WXWORDS : WordsAt K mg "WORDS" ["many", "toil", "marks", "rest", "kin", "with"] := ⟨aXWORDS, PySem.W.mg_of X G gaXWORDS, texts_at lXWORDS rfl (by show 6 ≤ 1000; decide) (.cons ⟨_, rfl⟩ (.cons ⟨_, rfl⟩ (.cons ⟨_, rfl⟩ (.cons ⟨_, rfl⟩ (.cons ⟨_, rfl⟩ (.cons ⟨_, rfl⟩ .nil))))))⟩
  have CCW := cls_of cbCW
  have OCW := CCW.oty e6 e7
  have FWI : FunW K fWI _ := ⟨⟨ocWI, odWI, .ref tWI, .none, dcWI, pmWI, anWI, cdWI, ctWI, slWI, rfl, lWI, qWI, .inr ⟨(fun z => nomatch z), tWI, _, [.str "" uWI_0, .int 0 uWI_1, .int 999 uWI_2], nTWI, rfl, lTWI, rfl, (.cons ⟨_, rfl⟩ (.cons ⟨_, rfl⟩ (.cons ⟨_, rfl⟩ .nil)))⟩, .inl rfl⟩, kWI⟩
  have FWE := fun_mk (st := sWEq) lWE qWE kWE
  have bWE := FWE.binds (ps := (["self", "other"] : List Str)) fun _ _ _ _ _ _ us hl => match us, hl with | [_, _], _ => rfl
  have FWM := fun_mk (st := sWMoved) lWM qWM kWM
  have bWM := FWM.binds (ps := (["self", "by"] : List Str)) fun _ _ _ _ _ _ us hl => match us, hl with | [_, _], _ => rfl
  have F1 := fun_mk (st := sIsNumber) l1 q1 k1
  have b1 := F1.binds (ps := (["thing"] : List Str)) fun _ _ _ _ _ _ us hl => match us, hl with | [_], _ => rfl
  have F2 : FunDf K "is_whole" sIsWhole [.int 0, .int 9999] f2 _ := ⟨⟨oc2, od2, .ref t2, kV2, dc2, pm2, an2, cd2, ct2, sl2, rfl, l2, q2, .inr ⟨(fun z => nomatch z), t2, _, [.int 0 u2_0, .int 9999 u2_1], nT2, rfl, lT2, rfl, (.cons ⟨_, rfl⟩ (.cons ⟨_, rfl⟩ .nil))⟩, .inl rfl⟩, k2⟩
  have b2_3 : ∃ ds, Vals ([] : List V) ds ∧ Binds K _ ["thing", "least", "most"] ds := F2.binds1 3 2 (fun z => nomatch z) rfl fun T kV doc pm an cdv ct us its l1 l2 => match us, its, l1, l2 with
    | [_, _, _], [_, _], _, _ => ⟨_, rfl, rfl⟩
  have F3 := fun_mk (st := sIsName) l3 q3 k3
  have b3 := F3.binds (ps := (["thing"] : List Str)) fun _ _ _ _ _ _ us hl => match us, hl with | [_], _ => rfl
  have F4 := fun_mk (st := sIsNameE) l4 q4 k4
  have b4 := F4.binds (ps := (["thing"] : List Str)) fun _ _ _ _ _ _ us hl => match us, hl with | [_], _ => rfl
  have F5 := fun_mk (st := sNeedAny) l5 q5 k5
  have b5 := F5.binds (ps := (["thing"] : List Str)) fun _ _ _ _ _ _ us hl => match us, hl with | [_], _ => rfl
  have F6 := fun_mk (st := sWordsIn) l6 q6 k6
  have b6 := F6.binds (ps := (["text"] : List Str)) fun _ _ _ _ _ _ us hl => match us, hl with | [_], _ => rfl
  have F7 := fun_mk (st := sNumberBy) l7 q7 k7
  have b7 := F7.binds (ps := (["word", "most"] : List Str)) fun _ _ _ _ _ _ us hl => match us, hl with | [_, _], _ => rfl
  have F8 := fun_mk (st := sCanBe) l8 q8 k8
  have b8 := F8.binds (ps := (["word", "what"] : List Str)) fun _ _ _ _ _ _ us hl => match us, hl with | [_, _], _ => rfl
  have F9 := fun_mk (st := sCut) l9 q9 k9
  have b9 := F9.binds (ps := (["number"] : List Str)) fun _ _ _ _ _ _ us hl => match us, hl with | [_], _ => rfl
  have F10 := fun_mk (st := sWishBy) l10 q10 k10
  have b10 := F10.binds (ps := (["text"] : List Str)) fun _ _ _ _ _ _ us hl => match us, hl with | [_], _ => rfl
  have F11 := fun_mk (st := sDraws) l11 q11 k11
  have b11 := F11.binds (ps := (["_law_script"] : List Str)) fun _ _ _ _ _ _ us hl => match us, hl with | [_], _ => rfl
  have F12 := fun_mk (st := sTake) l12 q12 k12
  have b12 := F12.binds (ps := (["_law_draw", "_law_many"] : List Str)) fun _ _ _ _ _ _ us hl => match us, hl with | [_, _], _ => rfl
  have F13 := fun_mk (st := sNames) l13 q13 k13
  have b13 := F13.binds (ps := (["_law_draw", "_law_many"] : List Str)) fun _ _ _ _ _ _ us hl => match us, hl with | [_, _], _ => rfl
  have F14 := fun_mk (st := sSaid) l14 q14 k14
  have b14 := F14.binds (ps := (["_law_deed"] : List Str)) fun _ _ _ _ _ _ us hl => match us, hl with | [_], _ => rfl
  have F15 := fun_mk (st := sMade) l15 q15 k15
  have b15 := F15.binds (ps := (["_law_draw"] : List Str)) fun _ _ _ _ _ _ us hl => match us, hl with | [_], _ => rfl
  have F16 := fun_mk (st := sWords) l16 q16 k16
  have b16 := F16.binds (ps := (["_law_made_here"] : List Str)) fun _ _ _ _ _ _ us hl => match us, hl with | [_], _ => rfl
  have F17 := fun_mk (st := sSpaced) l17 q17 k17
  have b17 := F17.binds (ps := (["_law_draw", "_law_words_here"] : List Str)) fun _ _ _ _ _ _ us hl => match us, hl with | [_, _], _ => rfl
  have F18 := fun_mk (st := sBent) l18 q18 k18
  have b18 := F18.binds (ps := (["_law_draw", "_law_words_here"] : List Str)) fun _ _ _ _ _ _ us hl => match us, hl with | [_, _], _ => rfl
  have F19 := fun_mk (st := sDue) l19 q19 k19
  have b19 := F19.binds (ps := (["_law_words_here"] : List Str)) fun _ _ _ _ _ _ us hl => match us, hl with | [_], _ => rfl
  have F20 := fun_mk (st := sReadR) l20 q20 k20
  have b20 := F20.binds (ps := (["_law_draw", "_law_words_here"] : List Str)) fun _ _ _ _ _ _ us hl => match us, hl with | [_, _], _ => rfl
  have F21 := fun_mk (st := sMovedR) l21 q21 k21
  have b21 := F21.binds (ps := (["_law_draw", "_law_made_here"] : List Str)) fun _ _ _ _ _ _ us hl => match us, hl with | [_, _], _ => rfl
  have F22 := fun_mk (st := sLaw) l22 q22 k22
  have hcode0 := PySem.W.law_code X G ht0 (PySem.W.mg_of X G a20) (X _ _ l20) rfl
  have hcode1 := PySem.W.law_code X G ht1 (PySem.W.mg_of X G a21) (X _ _ l21) rfl
  have hcode2 := PySem.W.law_code X G ht2 (PySem.W.mg_of X G a22) (X _ _ l22) rfl
  refine ⟨PySem.W.fnOf "law" "law" (defArgs sLaw) (defBody sLaw) (defScope sLaw) .none kV22 dc22 pm22 an22 cd22 ct22, [(cc0, PT0), (cc1, PT1), (cc2, PT2)], spLaw K [(PT0, readQ), (PT1, movedQ), (PT2, lawQ)], ⟨fun p hp => ?_, fun p hp => ?_, fun p hp => ?_⟩, fun s v => .of_eq rfl, fun H a ns hl _ hT hS => ⟨a, ns, rfl, hS, hl, fun p hp => ?_, fun _ => rfl⟩, fun base _ _ hTB => ?_⟩
  · simp only [List.mem_cons, List.not_mem_nil, or_false] at hp
    rcases hp with rfl | rfl | rfl
    · exact tb0.2
    · exact tb1.2
    · exact tb2.2
  · simp only [List.mem_cons, List.not_mem_nil, or_false] at hp
    rcases hp with rfl | rfl | rfl
    · exact nt0
    · exact nt1
    · exact nt2
  · simp only [List.mem_cons, List.not_mem_nil, or_false] at hp
    rcases hp with rfl | rfl | rfl
    · exact tb0.1
    · exact tb1.1
    · exact tb2.1
  · simp only [List.mem_cons, List.not_mem_nil, or_false] at hp
    rcases hp with rfl | rfl | rfl
    · exact LamX.TabS.nil (hT (cc0, PT0) (by simp))
    · exact LamX.TabS.nil (hT (cc1, PT1) (by simp))
    · exact LamX.TabS.nil (hT (cc2, PT2) (by simp))
  have TB0 := hTB (cc0, PT0) (by simp)
  have TB1 := hTB (cc1, PT1) (by simp)
  have TB2 := hTB (cc2, PT2) (by simp)
  have G_is_number : FnOk l.prog w K mg base CX0 1 f1 _ ["thing"] spIsNumber := ok_isNumber F1 (PySem.W.mg_none_of X G z0) (PySem.W.mg_none_of X G z1) (PySem.W.mg_none_of X G z2)
  have G_is_name : FnOk l.prog w K mg base CX0 1 f3 _ ["thing"] spIsName := ok_isName F3 (PySem.W.mg_none_of X G z0) (PySem.W.mg_none_of X G z3) (PySem.W.mg_none_of X G z4) ⟨_, PySem.W.mg_of X G cMOST_LETTERS⟩
  have G_is_whole : FnOk l.prog w K mg base CX0 2 f2 _ ["thing", "least", "most"] spIsWhole := ok_isWhole F2 F1 b1 (PySem.W.mg_of X G a1) (PySem.W.mg_none_of X G z0) (PySem.W.mg_none_of X G z1) (PySem.W.mg_none_of X G z2)
  have G_is_name_or_empty : FnOk l.prog w K mg base CX0 2 f4 _ ["thing"] spIsNameE := ok_isNameE F4 F3 b3 (PySem.W.mg_of X G a3) (PySem.W.mg_none_of X G z0) (PySem.W.mg_none_of X G z3) (PySem.W.mg_none_of X G z4) ⟨_, PySem.W.mg_of X G cMOST_LETTERS⟩
  have G_can_be_of : FnOk l.prog w K mg base CX0 3 f8 _ ["word", "what"] spCanBe := ok_canBe F8 (PySem.W.mg_none_of X G z0) (PySem.W.mg_none_of X G z3) G_is_name k3 b3 (PySem.W.mg_of X G a3) G_is_name_or_empty k4 b4 (PySem.W.mg_of X G a4)
  have WC : WCls K CW := ⟨CCW.cls, fun f hf => CCW.no _ (List.mem_map_of_mem hf)⟩
  have G_init : FnOk l.prog w K mg base (L2.CX l.prog w) 4 fWI _ psW (spWInit CW c0) := ok_wInit FWI TIc0 WC (PySem.W.mg_none_of X G z0) (PySem.W.mg_none_of X G z3) WXWORDS ⟨_, PySem.W.mg_of X G cMOST⟩ G_can_be_of k8 b8 (PySem.W.mg_of X G a8) G_is_whole k2 b2_3 (PySem.W.mg_of X G a2)
  have G_eq : FnOk l.prog w K mg base CX0 1 fWE _ ["self", "other"] (spWEq K CW) := ok_wEq FWE WC OCW (PySem.W.mg_none_of X G z0) (PySem.W.mg_of X G gCW)
  have M : Mk K CW fWI := ⟨CCW.mks, aWI, hWI, CCW.kp⟩
  have G_cut : FnOk l.prog w K mg base CX0 1 f9 _ ["number"] spCut := ok_cut F9 (PySem.W.mg_none_of X G z9) (PySem.W.mg_none_of X G z10) ⟨_, PySem.W.mg_of X G cMOST⟩
  have G_moved : FnOk l.prog w K mg base (L2.CX l.prog w) 6 fWM _ ["self", "by"] (spMoved CW c10) := ok_moved FWM WC TIc10 G_is_number k1 b1 (PySem.W.mg_of X G a1) G_cut k9 b9 (PySem.W.mg_of X G a9) FWI G_init M (PySem.W.mg_of X G gCW)
  have G_need_any_text : FnOk l.prog w K mg base (L2.CX l.prog w) 1 f5 _ ["thing"] (spNeedAny K c6) := ok_needAny F5 B6 (PySem.W.mg_none_of X G z0) (PySem.W.mg_none_of X G z3)
  have G_words_in : FnOk l.prog w K mg base CX0 1 f6 _ ["text"] spWordsIn := ok_wordsIn F6
  have G_number_by : FnOk l.prog w K mg base CX0 1 f7 _ ["word", "most"] spNumberBy := ok_numberBy F7 (PySem.W.mg_none_of X G z4) (PySem.W.mg_none_of X G z1)
  have G_wish_of : FnOk l.prog w K mg base (L2.CX l.prog w) 6 f10 _ ["text"] (spWishBy K CW c0 c6) := ok_wishBy F10 TIc0 (PySem.W.mg_none_of X G z4) ⟨_, PySem.W.mg_of X G cMOST_FIGURES⟩ G_need_any_text k5 b5 (PySem.W.mg_of X G a5) G_words_in k6 b6 (PySem.W.mg_of X G a6) G_number_by k7 b7 (PySem.W.mg_of X G a7) FWI G_init M (PySem.W.mg_of X G gCW)
  have G__law_draws : FnOk l.prog w K mg base CX0 1 f11 _ ["_law_script"] (spDraws K) := ok_draws F11 (PySem.W.mg_none_of X G z5) (PySem.W.mg_none_of X G z7)
  have G__law_take : FnOk l.prog w K mg base CX0 1 f12 _ ["_law_draw", "_law_many"] spTake := ok_take F12 (PySem.W.mg_none_of X G z4)
  have G__law_names : FnOk l.prog w K mg base CX0 2 f13 _ ["_law_draw", "_law_many"] spNames := ok_names F13 (PySem.W.mg_none_of X G z4) (PySem.W.mg_none_of X G z8) G__law_take k12 b12 (PySem.W.mg_of X G a12)
  have G__law_made : FnOk l.prog w K mg base CX0 3 f15 _ ["_law_draw"] spMade := ok_made F15 G__law_take k12 b12 (PySem.W.mg_of X G a12) G__law_names k13 b13 (PySem.W.mg_of X G a13)
  have G__law_words : FnOk l.prog w K mg base CX0 1 f16 _ ["_law_made_here"] spWords := ok_words F16 (PySem.W.mg_none_of X G z1) (PySem.W.mg_none_of X G z3)
  have G__law_spaced : FnOk l.prog w K mg base CX0 2 f17 _ ["_law_draw", "_law_words_here"] spSpaced := ok_spaced F17 G__law_take k12 b12 (PySem.W.mg_of X G a12)
  have G__law_bent : FnOk l.prog w K mg base CX0 2 f18 _ ["_law_draw", "_law_words_here"] spBent := ok_bent F18 (PySem.W.mg_none_of X G z4) G__law_take k12 b12 (PySem.W.mg_of X G a12)
  have G__law_due : FnOk l.prog w K mg base CX0 1 f19 _ ["_law_words_here"] spDue := ok_due F19 (PySem.W.mg_none_of X G z3) (PySem.W.mg_none_of X G z4) (PySem.W.mg_none_of X G z1) (PySem.W.mg_none_of X G z8)
  have TS_ : TxS K mg cB (pick [c0, c1, c2, c3, c4, c5, c6, c7, c8, c9, c10, c11, c12, c13]) := ⟨PySem.W.mg_of X G gcB, PySem.W.mg_of X G gc0, PySem.W.mg_of X G gc1, PySem.W.mg_of X G gc2, PySem.W.mg_of X G gc3, PySem.W.mg_of X G gc4, PySem.W.mg_of X G gc5, PySem.W.mg_of X G gc6, PySem.W.mg_of X G gc7, PySem.W.mg_of X G gc8, PySem.W.mg_of X G gc9, PySem.W.mg_of X G gc10, PySem.W.mg_of X G gc11, PySem.W.mg_of X G gc12, PySem.W.mg_of X G gc13⟩
  have TI_ : TxI K cB (pick [c0, c1, c2, c3, c4, c5, c6, c7, c8, c9, c10, c11, c12, c13]) := ⟨ca0, ca10, kits_at (c := c0) kt0 (by simp), kits_at (c := c0) kt10 (by simp), kits_at (c := c1) kt10 (by simp), kits_at (c := c8) kt10 (by simp), kits_at (c := c10) kt10 (by simp), ca6, kits_at (c := c0) kt6 (by simp), kits_at (c := c1) kt6 (by simp), kits_at (c := c8) kt6 (by simp), kits_at (c := c10) kt6 (by simp), kits_at (c := c6) kt6 (by simp), kits_at (c := c5) kt6 (by simp), kits_at (c := c7) kt6 (by simp), kt63, w6⟩
  obtain ⟨hu0, hu1, hu2⟩ := three_tab (x := readQ) (y := movedQ) (z := lawQ) np0_1 np0_2 np1_2
  have G__law_read_right : FnG l.prog w K mg base CX0 9 f20 _ ["_law_draw", "_law_words_here"] (spReadR CW [(PT0, readQ), (PT1, movedQ), (PT2, lawQ)]) := ok_readR (c := (pick [c0, c1, c2, c3, c4, c5, c6, c7, c8, c9, c10, c11, c12, c13])) F20 hcode0 TB0 List.mem_cons_self hu0 (PySem.W.mg_none_of X G z0) (PySem.W.mg_none_of X G z3) (PySem.W.mg_none_of X G z6) WC OCW G__law_due k19 b19 (PySem.W.mg_of X G a19) G__law_spaced k17 b17 (PySem.W.mg_of X G a17) F10 G_wish_of k10 b10 (PySem.W.mg_of X G a10) G_eq aWE hWE bWE neCW F14 b14 (PySem.W.mg_of X G a14) TS_ TI_ TIc0 TIc10
  have G__law_moved_right : FnG l.prog w K mg base CX0 9 f21 _ ["_law_draw", "_law_made_here"] (spMovedR CW [(PT0, readQ), (PT1, movedQ), (PT2, lawQ)]) := ok_movedR (c := (pick [c0, c1, c2, c3, c4, c5, c6, c7, c8, c9, c10, c11, c12, c13])) F21 hcode1 TB1 (List.mem_cons_of_mem _ List.mem_cons_self) hu1 (PySem.W.mg_none_of X G z0) (PySem.W.mg_none_of X G z6) (PySem.W.mg_none_of X G z9) (PySem.W.mg_none_of X G z10) WC OCW G__law_take k12 b12 (PySem.W.mg_of X G a12) FWM G_moved ⟨aWM, hWM, kWM⟩ bWM FWI G_init M (PySem.W.mg_of X G gCW) G_eq aWE hWE bWE neCW F14 b14 (PySem.W.mg_of X G a14) TS_ TI_ TIc0 TIc10
  exact ok_law (c := (pick [c0, c1, c2, c3, c4, c5, c6, c7, c8, c9, c10, c11, c12, c13])) F22 hcode2 TB2 (List.mem_cons_of_mem _ (List.mem_cons_of_mem _ List.mem_cons_self)) hu2 (PySem.W.mg_none_of X G z8) (PySem.W.mg_none_of X G z6) (PySem.W.mg_none_of X G z0) G__law_draws k11 b11 (PySem.W.mg_of X G a11) G__law_take k12 b12 (PySem.W.mg_of X G a12) G__law_made k15 b15 (PySem.W.mg_of X G a15) G__law_words k16 b16 (PySem.W.mg_of X G a16) G__law_bent k18 b18 (PySem.W.mg_of X G a18) G__law_read_right k20 b20 (PySem.W.mg_of X G a20) G__law_moved_right k21 b21 (PySem.W.mg_of X G a21) G_wish_of k10 b10 (PySem.W.mg_of X G a10) F14 b14 (PySem.W.mg_of X G a14) TS_ TI_ TIc0 TIc10
end Pk
open PySem PySem.W PyProof.Rows
set_option maxRecDepth 100000 in
set_option maxHeartbeats 0 in
theorem PySem.Challenge.cw_paperkin_k18_wishes_as_texts_holds : PySem.Challenge.rw_paperkin_k18_wishes_as_texts.Holds := by
  w_on; o_law; k_head; (case hw => w_witness2)
  k_fill
  refine Pk.walkT (l := PySem.Challenge.rw_paperkin_k18_wishes_as_texts) (n := 63) (k := 10) (x := "_law_script") rfl (by decide) rfl ⟨rfl, by decide, by decide⟩ (fun w h Y => PySem.W.km_in_of Y) ?F
  case F =>
    intro w mg fa h Y KX G hmg tb
    refine' Pk.all_mk KX G hmg ?pk_e6 ?pk_e7 ?pk_gcB ?pk_gc0 ?pk_gc1 ?pk_gc2 ?pk_gc3 ?pk_gc4 ?pk_gc5 ?pk_gc6 ?pk_gc7 ?pk_gc8 ?pk_gc9 ?pk_gc10 ?pk_gc11 ?pk_gc12 ?pk_gc13 ?pk_xkIc0 ?pk_xLIc0 ?pk_nbIc0 ?pk_aIc0 ?pk_tIc0 ?pk_lIc0 ?pk_qIc0 ?pk_xkIc10 ?pk_xLIc10 ?pk_nbIc10 ?pk_aIc10 ?pk_tIc10 ?pk_lIc10 ?pk_qIc10 ?pk_ca0 ?pk_ca10 ?pk_ca6 ?pk_kt0 ?pk_kt10 ?pk_kt6 ?pk_kt63 ?pk_xk6 ?pk_xi6 ?pk_kp6 ?pk_sb6 ?pk_ty6 ?pk_z0 ?pk_z1 ?pk_z2 ?pk_z3 ?pk_z4 ?pk_z5 ?pk_z6 ?pk_z7 ?pk_z8 ?pk_z9 ?pk_z10 ?pk_cMOST_LETTERS ?pk_cMOST ?pk_cMOST_FIGURES ?pk_gaXWORDS ?pk_lXWORDS ?pk_ycXWORDS ?pk_yzXWORDS_0 ?pk_yzXWORDS_1 ?pk_yzXWORDS_2 ?pk_yzXWORDS_3 ?pk_yzXWORDS_4 ?pk_yzXWORDS_5 ?pk_gCW ?pk_cbCW ?pk_neCW ?pk_aWI ?pk_hWI ?pk_lWI ?pk_qWI ?pk_kWI ?pk_lTWI ?pk_yzWI_0 ?pk_ykWI ?pk_aWE ?pk_hWE ?pk_lWE ?pk_qWE ?pk_kWE ?pk_aWM ?pk_hWM ?pk_lWM ?pk_qWM ?pk_kWM ?pk_a1 ?pk_l1 ?pk_q1 ?pk_k1 ?pk_a2 ?pk_l2 ?pk_q2 ?pk_k2 ?pk_lT2 ?pk_a3 ?pk_l3 ?pk_q3 ?pk_k3 ?pk_a4 ?pk_l4 ?pk_q4 ?pk_k4 ?pk_a5 ?pk_l5 ?pk_q5 ?pk_k5 ?pk_a6 ?pk_l6 ?pk_q6 ?pk_k6 ?pk_a7 ?pk_l7 ?pk_q7 ?pk_k7 ?pk_a8 ?pk_l8 ?pk_q8 ?pk_k8 ?pk_a9 ?pk_l9 ?pk_q9 ?pk_k9 ?pk_a10 ?pk_l10 ?pk_q10 ?pk_k10 ?pk_a11 ?pk_l11 ?pk_q11 ?pk_k11 ?pk_a12 ?pk_l12 ?pk_q12 ?pk_k12 ?pk_a13 ?pk_l13 ?pk_q13 ?pk_k13 ?pk_a14 ?pk_l14 ?pk_q14 ?pk_k14 ?pk_a15 ?pk_l15 ?pk_q15 ?pk_k15 ?pk_a16 ?pk_l16 ?pk_q16 ?pk_k16 ?pk_a17 ?pk_l17 ?pk_q17 ?pk_k17 ?pk_a18 ?pk_l18 ?pk_q18 ?pk_k18 ?pk_a19 ?pk_l19 ?pk_q19 ?pk_k19 ?pk_a20 ?pk_l20 ?pk_q20 ?pk_k20 ?pk_a21 ?pk_l21 ?pk_q21 ?pk_k21 ?pk_a22 ?pk_l22 ?pk_q22 ?pk_k22 ?pk_ht0 ?pk_tb0 ?pk_nt0 ?pk_ht1 ?pk_tb1 ?pk_nt1 ?pk_np0_1 ?pk_ht2 ?pk_tb2 ?pk_nt2 ?pk_np0_2 ?pk_np1_2
    (case pk_e6 => k_is)
    (case pk_e7 => k_is)
    (case pk_gcB => k_is)
    (case pk_gc0 => k_is)
    (case pk_gc1 => k_is)
    (case pk_gc2 => k_is)
    (case pk_gc3 => k_is)
    (case pk_gc4 => k_is)
    (case pk_gc5 => k_is)
    (case pk_gc6 => k_is)
    (case pk_gc7 => k_is)
    (case pk_gc8 => k_is)
    (case pk_gc9 => k_is)
    (case pk_gc10 => k_is)
    (case pk_gc11 => k_is)
    (case pk_gc12 => k_is)
    (case pk_gc13 => k_is)
    (case pk_xkIc0 => kernel_rfl)
    (case pk_xLIc0 => k_is)
    (case pk_nbIc0 => k_is)
    (case pk_aIc0 => k_is)
    (case pk_tIc0 => k_is)
    (case pk_lIc0 => k_is)
    (case pk_qIc0 => k_is)
    (case pk_xkIc10 => kernel_rfl)
    (case pk_xLIc10 => k_is)
    (case pk_nbIc10 => k_is)
    (case pk_aIc10 => k_is)
    (case pk_tIc10 => k_is)
    (case pk_lIc10 => k_is)
    (case pk_qIc10 => k_is)
    (case pk_ca0 => kernel_rfl)
    (case pk_ca10 => kernel_rfl)
    (case pk_ca6 => kernel_rfl)
    (case pk_kt0 => kernel_rfl)
    (case pk_kt10 => kernel_rfl)
    (case pk_kt6 => kernel_rfl)
    (case pk_kt63 => kernel_rfl)
    (case pk_xk6 => kernel_rfl)
    (case pk_xi6 => kernel_rfl)
    (case pk_kp6 => kernel_rfl)
    (case pk_sb6 => kernel_rfl)
    (case pk_ty6 => kernel_rfl)
    (case pk_z0 => k_is)
    (case pk_z1 => k_is)
    (case pk_z2 => k_is)
    (case pk_z3 => k_is)
    (case pk_z4 => k_is)
    (case pk_z5 => k_is)
    (case pk_z6 => k_is)
    (case pk_z7 => k_is)
    (case pk_z8 => k_is)
    (case pk_z9 => k_is)
    (case pk_z10 => k_is)
    (case pk_cMOST_LETTERS => k_is)
    (case pk_cMOST => k_is)
    (case pk_cMOST_FIGURES => k_is)
    (case pk_gaXWORDS => k_is)
    (case pk_lXWORDS => k_is)
    (case pk_ycXWORDS => rfl)
    (case pk_yzXWORDS_0 => decide +kernel)
    (case pk_yzXWORDS_1 => decide +kernel)
    (case pk_yzXWORDS_2 => decide +kernel)
    (case pk_yzXWORDS_3 => decide +kernel)
    (case pk_yzXWORDS_4 => decide +kernel)
    (case pk_yzXWORDS_5 => decide +kernel)
    (case pk_gCW => k_is)
    (case pk_cbCW => kernel_rfl)
    (case pk_neCW => k_is)
    (case pk_aWI => k_is)
    (case pk_hWI => k_is)
    (case pk_lWI => k_is)
    (case pk_qWI => k_is)
    (case pk_kWI => k_is)
    (case pk_lTWI => k_is)
    (case pk_yzWI_0 => decide +kernel)
    (case pk_ykWI => rfl)
    (case pk_aWE => k_is)
    (case pk_hWE => k_is)
    (case pk_lWE => k_is)
    (case pk_qWE => k_is)
    (case pk_kWE => k_is)
    (case pk_aWM => k_is)
    (case pk_hWM => k_is)
    (case pk_lWM => k_is)
    (case pk_qWM => k_is)
    (case pk_kWM => k_is)
    (case pk_a1 => k_is)
    (case pk_l1 => k_is)
    (case pk_q1 => k_is)
    (case pk_k1 => k_is)
    (case pk_a2 => k_is)
    (case pk_l2 => k_is)
    (case pk_q2 => k_is)
    (case pk_k2 => k_is)
    (case pk_lT2 => k_is)
    (case pk_a3 => k_is)
    (case pk_l3 => k_is)
    (case pk_q3 => k_is)
    (case pk_k3 => k_is)
    (case pk_a4 => k_is)
    (case pk_l4 => k_is)
    (case pk_q4 => k_is)
    (case pk_k4 => k_is)
    (case pk_a5 => k_is)
    (case pk_l5 => k_is)
    (case pk_q5 => k_is)
    (case pk_k5 => k_is)
    (case pk_a6 => k_is)
    (case pk_l6 => k_is)
    (case pk_q6 => k_is)
    (case pk_k6 => k_is)
    (case pk_a7 => k_is)
    (case pk_l7 => k_is)
    (case pk_q7 => k_is)
    (case pk_k7 => k_is)
    (case pk_a8 => k_is)
    (case pk_l8 => k_is)
    (case pk_q8 => k_is)
    (case pk_k8 => k_is)
    (case pk_a9 => k_is)
    (case pk_l9 => k_is)
    (case pk_q9 => k_is)
    (case pk_k9 => k_is)
    (case pk_a10 => k_is)
    (case pk_l10 => k_is)
    (case pk_q10 => k_is)
    (case pk_k10 => k_is)
    (case pk_a11 => k_is)
    (case pk_l11 => k_is)
    (case pk_q11 => k_is)
    (case pk_k11 => k_is)
    (case pk_a12 => k_is)
    (case pk_l12 => k_is)
    (case pk_q12 => k_is)
    (case pk_k12 => k_is)
    (case pk_a13 => k_is)
    (case pk_l13 => k_is)
    (case pk_q13 => k_is)
    (case pk_k13 => k_is)
    (case pk_a14 => k_is)
    (case pk_l14 => k_is)
    (case pk_q14 => k_is)
    (case pk_k14 => k_is)
    (case pk_a15 => k_is)
    (case pk_l15 => k_is)
    (case pk_q15 => k_is)
    (case pk_k15 => k_is)
    (case pk_a16 => k_is)
    (case pk_l16 => k_is)
    (case pk_q16 => k_is)
    (case pk_k16 => k_is)
    (case pk_a17 => k_is)
    (case pk_l17 => k_is)
    (case pk_q17 => k_is)
    (case pk_k17 => k_is)
    (case pk_a18 => k_is)
    (case pk_l18 => k_is)
    (case pk_q18 => k_is)
    (case pk_k18 => k_is)
    (case pk_a19 => k_is)
    (case pk_l19 => k_is)
    (case pk_q19 => k_is)
    (case pk_k19 => k_is)
    (case pk_a20 => k_is)
    (case pk_l20 => k_is)
    (case pk_q20 => k_is)
    (case pk_k20 => k_is)
    (case pk_a21 => k_is)
    (case pk_l21 => k_is)
    (case pk_q21 => k_is)
    (case pk_k21 => k_is)
    (case pk_a22 => k_is)
    (case pk_l22 => k_is)
    (case pk_q22 => k_is)
    (case pk_k22 => k_is)
    (case pk_ht0 => first | k_is | exact rfl)
    (case pk_tb0 => exact ⟨PySem.W.codeHd_of_K KX (by kernel_rfl), PySem.W.km_tabs_of Y _ (by first | exact List.mem_cons_self | decide)⟩)
    (case pk_nt0 => kernel_rfl)
    (case pk_ht1 => first | k_is | exact rfl)
    (case pk_tb1 => exact ⟨PySem.W.codeHd_of_K KX (by kernel_rfl), PySem.W.km_tabs_of Y _ (by first | exact List.mem_cons_self | decide)⟩)
    (case pk_nt1 => kernel_rfl)
    (case pk_np0_1 => decide)
    (case pk_ht2 => first | k_is | exact rfl)
    (case pk_tb2 => exact ⟨PySem.W.codeHd_of_K KX (by kernel_rfl), PySem.W.km_tabs_of Y _ (by first | exact List.mem_cons_self | decide)⟩)
    (case pk_nt2 => kernel_rfl)
    (case pk_np0_2 => decide)
    (case pk_np1_2 => decide)
