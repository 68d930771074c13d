import PyProof.Rows.All
import Wide.All
import OpenK.AllK
import Wide.FinOn
import KE.KTryMore
import HandS.Base
import HandS.Call
import HandS.List
import HandS.Exc
import HandS.Text
import HandS.ForMost
import HandS.ForExc
import HandS.Defaults
import KE.KExcInit
import KE.KExcIs
import HandS.ExcIs
import HandS.IsInst
import HandS.Walk
import HandS.Strs
import PyProof.StrLawsRepr
import HandS.StrMore
import PyProof.Rows.StrCut
import PyProof.FString5
import KE.KCallOwn
import HandS.FStr
import PyProof.ExcClass
import HandS.ExcInit
import HandS.ExcValue
import PyProof.ReprRoads
import PyProof.CallStr
import PyProof.CallFns
import HandS.More
import PySem.Challenge.RW_paperkin_k03_families_of_refusals
set_option Elab.async false
set_option linter.all false
set_option maxRecDepth 100000
set_option maxHeartbeats 4000000
namespace Pk
open PySem PySem.Spec PyProof.Rows L2
open PySem.W (Looks Frag exmOne exmAny)
/-! ### a text, so many times -/
theorem op_times {X : Cx} : OpR X (binaryOp .Mult) (fun x y H Q => ∃ z n, x = .str z ∧ y = .int n ∧ MulOk z n ∧ Q (.str (Txt.mul z n)) H) := by
  rintro pins s σ H x y v u Q I rx ry ⟨z, n, ex, ey, ok, q⟩
  subst ex ey
  obtain ⟨t1, rfl⟩ := rx
  obtain ⟨t2, rfl⟩ := ry
  exact SB.mul ok fun t3 k => ⟨.str (Txt.mul z n), H, I.tok k, ⟨t3, rfl⟩, q⟩
/-! ### except (A, B, ..): the tuple's classes, one after the other -/
section
variable {M : Model} {K : Frag} {h : Heap}
theorem looks_every {β : Type} {cs : List Value} {b0 : β} {f : Value → β → Sem (ForInStep β)} (hf : ∀ c ∈ cs, Looks M h (f c b0) (.yield b0)) : Looks M h (forIn cs b0 f) b0 := by
  induction cs with
  | nil =>
    rw [List.forIn_nil]
    exact .now
  | cons c r ih =>
    rw [List.forIn_cons]
    exact (hf c List.mem_cons_self).andThen (ih fun d hd => hf d (List.mem_cons_of_mem _ hd))
theorem looks_first {β : Type} {b0 b1 : β} {f : Value → β → Sem (ForInStep β)} {g : Value → Bool} : ∀ {cs : List Value}, (∀ c ∈ cs, Looks M h (f c b0) (if g c = true then .done b1 else .yield b0)) → Looks M h (forIn cs b0 f) (if cs.any g = true then b1 else b0)
  | [], _ => by
    rw [List.forIn_nil]
    exact .now
  | c :: r, hf => by
    rw [List.forIn_cons]
    have h1 := hf c List.mem_cons_self
    have h2 := looks_first (cs := r) fun d hd => hf d (List.mem_cons_of_mem _ hd)
    rw [List.any_cons]
    cases hg : g c with
    | true =>
      rw [hg] at h1
      exact h1.andThen .now
    | false =>
      rw [hg] at h1
      rw [Bool.false_or]
      exact h1.andThen h2
theorem exm_all {cls : Value} : ∀ {cs : List Value} {b : Bool}, exmAny K cls cs = some b → ∀ c ∈ cs, exmOne K cls c = some ((exmOne K cls c).getD false)
  | [], _, _, _, hc => by cases hc
  | d :: r, b, e, c, hc => by
    obtain ⟨b1, d1, x1, y1, _⟩ := PySem.W.exmAny_cons e
    rcases List.mem_cons.mp hc with q | q
    · subst q
      rw [x1]
      rfl
    · exact exm_all y1 c q
theorem exm_any {cls : Value} : ∀ {cs : List Value} {b : Bool}, exmAny K cls cs = some b → b = cs.any fun c => (exmOne K cls c).getD false
  | [], b, e => (Option.some.inj e).symm
  | d :: r, b, e => by
    obtain ⟨b1, d1, x1, y1, z⟩ := PySem.W.exmAny_cons e
    rw [List.any_cons, x1, ← exm_any y1, z]
    rfl
/-- an exception held against a tuple of classes, however many -/
theorem exm_tuple {cls : Value} {cs : List Value} {tp e : Addr} {b : Bool} {n : Nat} {ot : Obj} (X : K.In h) (LT : Looks M h (typeOf (.ref e)) cls) (hp : h.get? tp = some ot) (hc : ot.cls = .type "tuple") (hd : ot.data = .seq cs.toArray n) (hx : exmAny K cls cs = some b) :
    Looks M h (excMatches (.ref e) (.ref tp)) b := by
  have LT0 : Looks M h (isInstance (.ref tp) (.type "tuple")) true := ((Looks.ld hp).andThen (by rw [hc]; exact .now)).andThen (Looks.of_pure isSubtype_tuple_tuple)
  have LS : Looks M h (seqItems? (.ref tp)) (some cs.toArray) := fun A Q E s k q => wpAny_seqItems (k _ _ hp) hd q
  have hall := exm_all hx
  have hany := exm_any hx
  unfold excMatches
  refine LT0.andThen ?_
  dsimp only
  rw [if_pos rfl]
  refine LS.andThen (Looks.andThen (a := cs) (by rw [Option.getD_some, List.toList_toArray]; exact .now) ?_)
  refine (looks_every (b0 := PUnit.unit) fun c hc => ?_).andThen ?_
  · refine (PySem.W.exm_cls X (hall c hc)).1.andThen ?_
    exact .now
  · refine LT.andThen ?_
    refine (looks_first (b0 := ((none, ()) : Option Bool × Unit)) (b1 := (some true, ())) (g := fun c => (exmOne K cls c).getD false) fun c hc => ?_).andThen ?_
    · refine (PySem.W.exm_cls X (hall c hc)).2.andThen ?_
      cases (exmOne K cls c).getD false with
      | true => exact .now
      | false => exact .now
    · rw [← hany]
      cases b with
      | true => exact .now
      | false => exact .now
end

/-! ### a caught exception that is kept -/
/-- an exception that was caught and is held as a value at a: its class, its own dict -/
def ExH (cls : Value) (d : Option Addr) (a : Addr) : HO := .ext fun h => ∃ (oe : Obj) (vs : Array Value), h.get? a = some oe ∧ Zc cls d oe ∧ oe.data = .fields vs
section
variable {X : Cx} {pins : List (Addr × Obj)} {σ : L2.St} {H : Hp} {s : Shared}
theorem held_ok {P : Program} {w : World} {h : Heap} {a : Addr} {cls : Value} {d : Option Addr} {oe : Obj} {vs : Array Value} (e : h.get? a = some oe) (z : Zc cls d oe) (hv : oe.data = .fields vs) : ObjOk P w H h a (ExH cls d a) :=
  ⟨⟨oe, vs, e, z, hv⟩, ⟨oe, e⟩, fun _ _ ⟨o, v, q, r⟩ k => ⟨o, v, k o q, r⟩⟩
/-- what was pinned is tracked -/
theorem inv_hold {a : Addr} {oe : Obj} {vs : Array Value} {cls : Value} {d : Option Addr} (J : Inv X ((a, oe) :: pins) σ H s) (z : Zc cls d oe) (hv : oe.data = .fields vs)
    (n0 : ∀ b o, X.s_0.heap.get? b = some o → b ∉ X.ex → b ≠ a) (nc : ∀ x c, X.env.cells.lookup x = some c → c ≠ a) (np : ∀ p ∈ X.pn ++ pins, p.1 ≠ a) : Inv X pins σ (upd H a (ExH cls d a)) s := by
  obtain ⟨ea, na, aL, aF, _⟩ := J.pin (a, oe) (List.mem_append_right _ List.mem_cons_self)
  have ne : ∀ {b : Addr} {o : HO}, H b = some o → b ≠ a := fun {b o} q => ne_of_none q na
  refine ⟨J.ok, J.os, J.bare, ⟨J.base.keep, J.base.slot, ?_, J.base.there, ?_, ?_, ?_⟩, J.loc, J.cell, ?_, ?_, ?_, ?_, J.len⟩
  · intro b o e n hx
    rw [upd_ne (n0 b o e hx)]
    exact J.base.free b o e n hx
  · intro b xs e
    have q := J.base.tups b xs e
    rw [upd_ne (ne q)]
    exact q
  · intro b o u e
    have q := J.base.frzs b o u e
    rw [upd_ne (ne q)]
    exact q
  · intro b ps e
    obtain ⟨m, q⟩ := J.base.tbls b ps e
    exact ⟨m, by rw [upd_ne (ne q)]; exact q⟩
  · rw [upd_ne (Ne.symm aL)]
    exact J.free
  · intro x c e
    rw [upd_ne (nc x c e)]
    exact J.freeC x c e
  · intro p hp
    have hq : p ∈ X.pn ++ (a, oe) :: pins := by
      rcases List.mem_append.mp hp with q | q
      · exact List.mem_append_left _ q
      · exact List.mem_append_right _ (List.mem_cons_of_mem _ q)
    obtain ⟨e, n, r⟩ := J.pin p hq
    exact ⟨e, by rw [upd_ne (np p hp)]; exact n, r⟩
  · intro b u e
    by_cases hb : b = a
    · subst hb
      rw [upd_same] at e
      cases e
      exact held_ok ea z hv
    · rw [upd_ne hb] at e
      exact (J.hok b u e).stay (fun _ _ _ q => q) (fun c q => by rw [upd_ne (ne q)]; exact q) fun c xs q => by rw [upd_ne (ne q)]; exact q
end
/-- what 'except (A, B, ..) as n: suite' wishes of an exception of the body, where the suite may keep it: behind the suite it is tracked -/
def wHeld (K : Frag) (cs : List Value) (i : Nat) (ts : Addr → Value → Option Addr → TS) (Wout : WX) (D : Ends) : WX := fun cls d σ H =>
  ∃ b, exmAny K cls cs = some b ∧
    (b = true → ∀ a, H a = none → ts a cls d { nx := fun σ' H' => H' a = none → D.nx (σ'.set i none) (upd H' a (ExH cls d a)), rt := fun _ _ => False, bk := fun _ _ => False, ct := fun _ _ => False } (σ.set i (some (.ref a))) H) ∧
    (b = false → Wout cls d σ H)
/-- the names of a written tuple of classes -/
inductive NamesAll (X : Cx) : List Expr → List Value → Prop
  | nil : NamesAll X [] []
  | cons {x : Str} {c : Value} {np : Pos} {es : List Expr} {cs : List Value} (hg : Gl X x) (hd : (x == ("__debug__" : Str)) = false) (hm : X.mg x = some c) (r : NamesAll X es cs) : NamesAll X (.Name x np :: es) (c :: cs)
section
variable {X : Cx} {n : Str} {cs : List Value} {es : List Expr} {i kk : Nat} {body suite : List Stmt} {b₀ : Stmt} {tpos pos pos' : Pos} {tb : WX → TS} {ts : Addr → Value → Option Addr → TS} {Wout : WX}
/-- the tuple of the clause is laid, nothing else is done -/
theorem names_run {a : Addr} {pn : List (Addr × Obj)} {σ : L2.St} {H : Hp} {s : Shared} {pins : List (Addr × Obj)} {E : Value → Shared → Prop} (S : Inv (X.suite a pn) pins σ H s) : ∀ {es : List Expr} {cs : List Value}, NamesAll X es cs → ∀ {Q : List Value → Shared → Prop}, Q cs s →
    wpAny (model X.prog X.w) (X.A.mark (some (.ref a))) (spliced (backTo tpos (starEach es X.env))) Q E s
  | _, _, .nil, Q, q => wpAny_items_nil q
  | _, _, .cons hg hd hm r, Q, q => wpAny_items_cons (ld_glob (X := X.suite a pn) S hg hm (names_run S r q) hd)
theorem names_len : ∀ {es : List Expr} {cs : List Value}, NamesAll X es cs → cs.length = es.length
  | _, _, .nil => rfl
  | _, _, .cons _ _ _ r => by rw [List.length_cons, List.length_cons, names_len r]
theorem flying_more {B : Heap} {l : List Env} {a : Addr} {Z : Obj → Prop} {h h' : Heap} (k : ∀ b o, h.get? b = some o → h'.get? b = some o) (f : HandSPX.FlyingZ B l a Z h) : HandSPX.FlyingZ B l a Z h' := by
  obtain ⟨f1, f2, f3, oe, vs, T, oT, tts, e1, e2, e3, e4, e5, e6, e7, e8⟩ := f
  exact ⟨fun b o q => k b o (f1 b o q), f2, f3.of_keeps fun b o q _ => ⟨o, k b o q, rfl⟩, oe, vs, T, oT, tts, k _ _ e1, e2, e3, e4, e5, e6, k _ _ e7, e8⟩
theorem ps_try_held (hs : X.stack = X.env :: X.outer) (hf : X.env.frame = some X.env.locals) (hN : X.N.Nodup) (hi : X.N[i]? = some n) (hln : X.env.kindOf n = some .local) (hc : NamesAll X es cs) (hz : es.length ≤ 1000) (tk : Takes X Wout)
    (hb : ∀ (W : WX) (pn : List (Addr × Obj)) (xe : Value → Shared → Prop), Takes (X.tr pn xe) W → PassesOwn (model X.prog X.w) X.A X.env xe → PSs (X.tr pn xe) body (tb W))
    (hsu : ∀ (a : Addr) (oe : Obj) (cls : Value) (d : Option Addr) (pn : List (Addr × Obj)), Zc cls d oe → (∃ vs, oe.data = .fields vs) → PSs (X.suite a ((a, oe) :: pn)) (b₀ :: suite) (ts a cls d)) :
    PS X (.Try body [.ExceptHandler (some (.Tuple es kk tpos)) (some n) (b₀ :: suite) pos'] [] [] pos) (fun D σ H => tb (wHeld X.K cs i ts Wout D) D σ H) := by
  constructor
  intro pins s σ H D I h
  have ok := I.ok
  have hfr : X.A.frames = some (X.env :: X.outer) := ok.frames.trans (congrArg some hs)
  refine wpAny_Try_except ?_
  have body_ := hb (wHeld X.K cs i ts Wout D) (X.pn ++ pins) (fun e s₁ => wpAny (model X.prog X.w) X.A (noteFrame e X.env) (fun _ s₂ => wpAny (model X.prog X.w) X.A (setFlight e none)
    (fun _ s₃ => wpAny (model X.prog X.w) X.A (handleBy e X.env [.ExceptHandler (some (.Tuple es kk tpos)) (some n) (b₀ :: suite) pos']) (SP X pins D) X.xe s₃) X.xe s₂) X.xe s₁) ?caught PassesOwn.looking
  refine wpAny_mono (body_.run [] s σ H D (I.toTry _) h) ?through fun e s1 he => he
  case through =>
    intro f s1 hsp
    cases f with
    | next =>
      obtain ⟨σ', H', J', q⟩ := hsp
      exact wpAny_execs_nil ⟨σ', H', J'.ofTry ok, q⟩
    | brk =>
      obtain ⟨σ', H', J', q⟩ := hsp
      exact ⟨σ', H', J'.ofTry ok, q⟩
    | cont =>
      obtain ⟨σ', H', J', q⟩ := hsp
      exact ⟨σ', H', J'.ofTry ok, q⟩
    | ret u =>
      obtain ⟨v, σ', H', J', r, q⟩ := hsp
      exact ⟨v, σ', H', J'.ofTry ok, r, q⟩
  case caught =>
    rintro u s' ⟨a, B, sI, pins', σ', H', cls, d, rfl, J', nb, up, sky, na, os, ag, b, hb1, hyes, hno⟩
    have J : Inv X pins σ' H' sI := J'.ofTry ok
    rw [hs] at sky
    show wpAny (model X.prog X.w) X.A (noteFrame (.ref a) X.env) _ _ _
    refine Sky.land Zc.steady hfr hf sky fun h3 fl3 up3 => ?_
    obtain ⟨oe3, vs3, he3, hz3, hd3⟩ := fl3.there
    -- where the exception stands: in no frame, new
    have nfr : a ∉ frs (X.env :: X.outer) := fun hm => by
      obtain ⟨_, o', e', hnf⟩ := fl3.2.2.1.mem hm
      rw [he3] at e'
      cases e'
      exact hnf _ hd3
    have nL : a ≠ X.env.locals := fun z => nfr (List.mem_filterMap.mpr ⟨X.env, List.mem_cons_self, by rw [hf, z]⟩)
    have nF : a ∉ X.fs := fun hm => by
      obtain ⟨e, he, q⟩ := List.mem_filterMap.mp hm
      exact nfr (List.mem_filterMap.mpr ⟨e, List.mem_cons_of_mem _ he, q⟩)
    have new : sI.heap.get? a = none := by
      cases q : sI.heap.get? a with
      | none => rfl
      | some o =>
        have z := nb a o q (by rw [hs]; exact nfr)
        rw [fl3.2.1] at z
        cases z
    have ne_ : ∀ {b : Addr} {o : Obj}, sI.heap.get? b = some o → b ≠ a := fun {b o} q z => by
      rw [z, new] at q
      cases q
    have n0 : ∀ b o, X.s_0.heap.get? b = some o → b ∉ X.ex → b ≠ a := fun b o e hx => by
      obtain ⟨o', q⟩ := J.base.there b o e hx
      exact ne_ q
    have nc : ∀ x c, X.env.cells.lookup x = some c → c ≠ a := fun x c e => by
      obtain ⟨v, o, q, _⟩ := J.cell x c e
      exact ne_ q
    have np : ∀ p ∈ X.pn ++ pins, p.1 ≠ a := fun p hp => ne_ (J.pin p hp).1
    have J3 : Inv X pins σ' H' { s' with heap := h3 } := J.landed nb fl3.1 (up.trans up3) os ag
    have S3 := J3.suite he3 hd3 na nL nF
    refine wpAny_handleBy_cons (codeAny_handlers_test ?_) (by intro q; cases q)
    -- the tuple
    refine wpAny_Tuple (names_run S3 hc ⟨by rw [names_len hc]; exact Nat.le_trans hz (by decide), ?_⟩)
    have kp : ∀ q o, h3.get? q = some o → (h3.push { cls := .type "tuple", data := .seq cs.toArray }).get? q = some o := fun _ _ z => Heap.get?_push_of_some _ z
    have fl5 := flying_more kp fl3
    have up5 : sI.heap.UpToSlots (h3.push { cls := .type "tuple", data := .seq cs.toArray }) := (up.trans up3).trans (.of_keeps kp)
    generalize hh5 : h3.push { cls := .type "tuple", data := .seq cs.toArray } = h5 at kp fl5 up5
    have htp : h5.get? h3.objs.size = some { cls := .type "tuple", data := .seq cs.toArray } := by
      rw [← hh5]
      exact Heap.get?_push_size h3 rfl
    have J5 : Inv X pins σ' H' { s' with heap := h5 } := J.landed nb fl5.1 up5 os ag
    have LT : Looks (model X.prog X.w) h5 (typeOf (.ref a)) cls := fun A Q E s k q => wpAny_typeOf_ref (k _ _ (kp _ _ he3)) (by rw [hz3.1]; exact q)
    refine (exm_tuple J5.kIn LT htp rfl rfl hb1).here ?_
    cases b with
    | true =>
      refine codeAny_handlers_suite_as ?_
      refine HandSPX.lands_againZ fl5 fun h4 fl4 up4 => ?_
      have J4 : Inv X pins σ' H' { s' with heap := h4 } := J.landed nb fl4.1 (up5.trans up4) os ag
      obtain ⟨oe4, vs4, he4, hz4, hd4⟩ := fl4.there
      have S4 := J4.suite he4 hd4 na nL nF
      refine store_ok (X := X.suite a ((a, oe4) :: (X.pn ++ pins))) (v := .ref a) S4 hN hi (.inl hln) rfl (fun s5 S5 => ?_) (.inr hln)
      refine wpAny_mono ((hsu a oe4 cls d (X.pn ++ pins) hz4 ⟨_, hd4⟩).run [] s5 _ H' _ S5 (hyes rfl a na)) (fun f s6 hsp => ?_) fun _ _ z => False.elim z
      cases f with
      | next =>
        obtain ⟨σ6, H6, S6, q6⟩ := hsp
        have U6 : Inv X ((a, oe4) :: pins) σ6 H6 s6 := ⟨ok, S6.os, S6.bare, S6.base, S6.loc, S6.cell, S6.free, S6.freeC, fun p hp => S6.pin p (by
          rw [List.append_nil]
          rcases List.mem_append.mp hp with q | q
          · exact List.mem_cons_of_mem _ (List.mem_append_left _ q)
          · rcases List.mem_cons.mp q with q | q
            · rw [q]
              exact List.mem_cons_self
            · exact List.mem_cons_of_mem _ (List.mem_append_right _ q)), S6.hok, S6.len⟩
        refine gone_ok U6 hN hi hln fun s7 J7 => ?_
        have na7 := (J7.pin (a, oe4) (List.mem_append_right _ List.mem_cons_self)).2.1
        exact ⟨_, _, inv_hold J7 hz4 hd4 n0 nc np, q6 na7⟩
      | brk =>
        obtain ⟨σ6, H6, S6, q6⟩ := hsp
        exact q6.elim
      | cont =>
        obtain ⟨σ6, H6, S6, q6⟩ := hsp
        exact q6.elim
      | ret u =>
        obtain ⟨v6, σ6, H6, S6, r6, q6⟩ := hsp
        exact q6.elim
    | false =>
      show wpAny _ X.A (handleBy (.ref a) X.env []) _ _ _
      refine wpAny_handleBy_nil ?_
      obtain ⟨k1, k2, k3, oe, vs, T, oT, tts, he, hz, hd, h1, hr⟩ := id fl5
      unfold PySem.passOn
      refine wpAny_bind (wpAny_field he hd h1 ?_)
      rw [if_neg (show ¬ ((Value.ref T == Value.none) = true) from by simp)]
      have fin : wpAny (model X.prog X.w) X.A (setFlight (.ref a) X.env.frame) (fun _ s4 => wpAny (model X.prog X.w) X.A (throw (.ref a) : Sem Flow) (SP X pins D) X.xe s4) X.xe { s' with heap := h5 } := by
        rw [hf]
        refine HandSPX.setFlight_upZ fl5 fun h4 hh4 up4 => wpAny_throw (tk _ _ ?_)
        exact ⟨a, B, sI, pins, σ', H', cls, d, rfl, J, nb, up5.trans up4, .inr (.inr (by rw [hs]; exact hh4)), na, os, ag, hno rfl⟩
      first
        | exact wpAny_bind (wpAny_pure (wpAny_bind fin))
        | exact wpAny_bind fin
end
end Pk
/-! Defs that are called while nothing is being shown (no repr runs around them): for repr of lists. -/
namespace Pk
open PySem PySem.Spec PyProof.Rows L2
/-- nothing is being shown around -/
def Calm (A : Around) : Prop := A.guards = some []
/-- a def's promise, where nothing is being shown around its call -/
structure FnG (P : Program) (w : World) (K : PySem.W.Frag) (mg : Str → Option Value) (base : Heap) (CX : CXT) (k : Nat) (f : Addr) (fd : FuncData) (ps : List Str) (sp : Sp) : Prop where
  size : ∀ vs H Q E, sp vs H Q E → vs.length = ps.length
  go : ∀ (A : Around), Calm A → Room k A → ∀ (outer : List Env) (s : Shared) (H : Hp) (args : Args) (us : List Value) (vs : List V) (Q : VK) (E : XK), Env0 P w K mg base A outer s H →
    BindsTo s fd args (ps.zip us) → Vals vs us → sp vs H Q E → codeAny (model P w) A (.call (.ref f) args) (CR CX outer P w H s Q E) s
section
variable {P : Program} {w : World} {K : PySem.W.Frag} {mg : Str → Option Value} {base : Heap} {CX : CXT} {k : Nat} {f : Addr} {fd : FuncData} {ps : List Str} {sp : Sp}
theorem FnG.of (F : FnOk P w K mg base CX k f fd ps sp) : FnG P w K mg base CX k f fd ps sp := ⟨F.len, fun A _ hr outer s H args us vs Q E e0 hb r h => F.run A outer s H args us vs Q E hr e0 hb r h⟩
/-- a def by its body -/
theorem fnG_of {name qual : Str} {params : Arguments} {body : List Stmt} {scope : Scope} {dV kV doc pm cdv ct oc : Value} {an od : Option Addr} {osl : Array (Option Value)} {N : List Str}
    (lk : K.lookup f = some ⟨oc, od, .func (PySem.W.fnOf name qual params body scope dV kV doc pm an cdv ct), osl⟩) (hcd : PySem.W.codeIn K cdv qual = true) (S : FnScope N ps scope) (size : ∀ vs H Q E, sp vs H Q E → vs.length = ps.length)
    (hbody : ∀ (A : Around), Calm A → ∀ (outer : List Env) (s : Shared) (H : Hp) (vs : List V) (Q : VK) (E : XK), Room k (A.deeper (envOfC qual scope s.heap.objs.size f cdv)) → sp vs H Q E →
      ∃ t, PSs (cxOf CX P w K mg base N qual scope f cdv A outer s H E) body t ∧ t { nx := fun _ H' => Q .non H', rt := Q } (start N vs) H) :
    FnG P w K mg base CX (k + 1) f (PySem.W.fnOf name qual params body scope dV kV doc pm an cdv ct) ps sp := by
  refine ⟨size, ?_⟩
  intro A calm hr outer s H args us vs Q E e0 hb r hsp
  have keep := fun b o e => (e0.bs b o e).1
  have KX := e0.mod.kin.keeps keep
  obtain ⟨t, ht, hq⟩ := hbody A calm outer s H vs Q E (hr.deeper _) hsp
  refine codeAny_call_function hr.depth (KX _ _ lk) rfl S.co S.gen rfl (PySem.W.codeRec_of KX hcd) (hb _ _ _ _ (wpAny_newFunctionEnv_cells S.kind ?kinds ?inside))
  case kinds =>
    rintro ⟨n, v⟩ hy
    rcases S.par n (List.of_mem_zip hy).1 with q | q
    · exact .inl q
    · exact .inr ⟨q, PySem.W.cellsFrom_some _ _ _ (.inl q)⟩
  case inside =>
    rintro env rfl s1 x
    refine ⟨(e0.mod.nolimit.keeps keep).keeps x.toInCall.keep, codeAny_func ?_⟩
    have I := inv_start (CX := CX) (E := E) S hr.hd e0 (size _ _ _ _ hsp) r x
    refine wpAny_mono (ht.run [] s1 (start N vs) H _ I hq) ?_ fun e s' hs => hs
    intro fl s' hs
    cases fl with
    | ret u =>
      obtain ⟨v, σ', H', J, rv, q⟩ := hs
      exact ⟨v, H', J.os, J.bare, J.base, J.hok, rv, q⟩
    | next =>
      obtain ⟨σ', H', J, q⟩ := hs
      exact ⟨.non, H', J.os, J.bare, J.base, J.hok, rfl, q⟩
    | brk =>
      obtain ⟨_, _, _, q⟩ := hs
      exact q.elim
    | cont =>
      obtain ⟨_, _, _, q⟩ := hs
      exact q.elim
/-- as Fun.ok -/
theorem okG {x qual : Str} {st : Stmt} {N : List Str} (F : Fun K x qual st f fd) (S : FnScope N ps (defScope st)) (size : ∀ vs H Q E, sp vs H Q E → vs.length = ps.length)
    (hbody : ∀ (cdv : Value) (A : Around), Calm A → ∀ (outer : List Env) (s : Shared) (H : Hp) (vs : List V) (Q : VK) (E : XK), Room k (A.deeper (envOfC qual (defScope st) s.heap.objs.size f cdv)) → sp vs H Q E →
      ∃ t, PSs (cxOf CX0 P w K mg base N qual (defScope st) f cdv A outer s H E).nox (defBody st) t ∧ t { nx := fun _ H' => Q .non H', rt := Q } (start N vs) H) : FnG P w K mg base CX0 (k + 1) f fd ps sp := by
  obtain ⟨oc, od, kV, doc, pm, an, cdv, ct, osl, rfl, lk, hcd⟩ := F.ex
  refine fnG_of lk hcd S size ?_
  intro A calm outer s H vs Q E hr hsp
  obtain ⟨t, h, q⟩ := hbody cdv A calm outer s H vs Q E hr hsp
  exact ⟨t, h.nox, q⟩
end
/-! ### calls of such defs -/
section
variable {X : Cx} {CX : CXT} {k : Nat} {f : Addr} {fd : FuncData} {ps ks : List Str} {sp : Sp} {E : XK} {x : Str} {p pos : Pos} {e : Expr} {es : List Expr} {t tk : TA} {ds : List Value} {dvs : List V}
theorem runG {pins : List (Addr × Obj)} {σ : L2.St} {H : Hp} {s : Shared} {Q : VK} {us : List Value} {vs : List V} (F : FnG X.prog X.w X.K X.mg X.base CX k f fd ps sp) (calm : Calm X.A) (hr : Room k X.A) (hb : Binds X.K fd ps ds) (hd : Vals dvs ds) (hx : Passes CX X E)
    (I : L2.Inv X pins σ H s) (r : Vals vs us) (h : sp (vs ++ dvs) H Q E) : wpAny (model X.prog X.w) X.A (call (.ref f) us) (EP X pins σ Q) X.xe s := by
  have r2 := r.append hd
  have hl : (us ++ ds).length = ps.length := r2.length.symm.trans (F.size _ _ _ _ h)
  refine wpAny_call (codeAny_mono (F.go X.A calm hr X.stack s H ⟨us, []⟩ (us ++ ds) (vs ++ dvs) Q E I.env0 (hb s us I.kIn hl) r2 h) ?_)
  intro r s' hq
  match r, hq with
  | .error e, hq => exact hx pins σ H s e s' I hq
  | .ok (.ret u), hq => exact I.after hq
  | .ok .next, hq => exact hq.elim
  | .ok .brk, hq => exact hq.elim
  | .ok .cont, hq => exact hq.elim
theorem pe_callG (F : FnG X.prog X.w X.K X.mg X.base CX k f fd ps sp) (calm : Calm X.A) (hr : Room k X.A) (hg : Gl X x) (hm : X.mg x = some (.ref f)) (hk : PySem.W.keepIn X.K (.ref f) = true) (hb : Binds X.K fd ps ds) (hd : Vals dvs ds) (hx : Passes CX X E)
    (ha : PA X (e :: es) t) (hdb : (x == ("__debug__" : Str)) = false := by decide) (he : starEach (e :: es) X.env = (false, eval e X.env) :: starEach es X.env := by rfl) (hpl : (backTo pos (starEach es X.env)).any (·.1) = false := by rfl) :
    PE X (.Call (.Name x p) (e :: es) [] pos) (tCall sp dvs E t) := by
  constructor
  intro pins s σ H Q I h
  refine wpAny_Call_Name_kw (ld_glob I hg hm (PySem.W.callWith_K (h₀ := X.base) I.ok.mod.kin hk (thn (ha.run pos pins s σ H _ I h) ?_) he hpl) hdb)
  rintro us s1 ⟨vs, H1, I1, r, q⟩
  exact ⟨I1.kIn, runG F calm hr hb hd hx I1 r q⟩
theorem pe_call0G (F : FnG X.prog X.w X.K X.mg X.base CX k f fd ps sp) (calm : Calm X.A) (hr : Room k X.A) (hg : Gl X x) (hm : X.mg x = some (.ref f)) (hk : PySem.W.keepIn X.K (.ref f) = true) (hb : Binds X.K fd ps ds) (hd : Vals dvs ds) (hx : Passes CX X E)
    (hdb : (x == ("__debug__" : Str)) = false := by decide) : PE X (.Call (.Name x p) [] [] pos) (tCall sp dvs E tNil) := by
  constructor
  intro pins s σ H Q I h
  refine wpAny_Call_Name_kw (ld_glob I hg hm ?_ hdb)
  exact PySem.W.callWith_K0 I.kIn hk (runG (us := []) (vs := []) F calm hr hb hd hx I .nil h)
end
/-! ### repr -/
section
variable {X : Cx}
/-- data as it is shown: of texts, numbers, truths, None, lists and tuples; or an empty dict -/
inductive Dq (K : PySem.W.Frag) (H : Hp) : V → PyData → Prop
  | of {v : V} {d : PyData} (h : Dp K H v d) (n : d.hasDict = false) : Dq K H v d
  | emp {a : Addr} (h : H a = some (.dK [])) : Dq K H (.ref a) (.dict [])
/-- repr(x) -/
def rShow (K : PySem.W.Frag) : List V → Hp → VK → Prop := fun xs H Q => ∃ x d, xs = [x] ∧ Dq K H x d ∧ d.showable = true ∧ d.depth ≤ 64 ∧ d.shown.length ≤ sizeLine ∧ Q (.str d.shown) H
theorem call_show (calm : Calm X.A) (hu : X.A.units + 70 < cLine) : CallR X (.builtin "repr") (rShow X.K) := by
  rintro pins s σ H xs us Q I r ⟨x, d, rfl, hd, hs, hdep, hsz, q⟩
  obtain ⟨u, rfl, rx⟩ := vals1 r
  have leaf : ∀ {t k : Nat}, EP X pins σ Q (.str d.shown t) { s with toks := k } := fun {t k} => ⟨.str d.shown, H, I.tok _, ⟨_, rfl⟩, q⟩
  have big : ∀ {a : Addr} {as : List Addr}, u = .ref a → Reads s.heap (.ref a) d as → (d.hasDict = true → sysModules ∉ as) → wpAny (model X.prog X.w) X.A (call (.builtin "repr") [u]) (EP X pins σ Q) X.xe s := by
    intro a as e rd nd
    subst e
    exact repr_of_reads' rd hs nd calm (by omega) (fun _ _ z => z) (fun h' t tk keep => ⟨.str d.shown, H, I.kept keep, ⟨_, rfl⟩, q⟩) hsz
  cases hd with
  | of h n =>
    obtain ⟨as, rd⟩ := Dp.reads I d x u h rx
    cases h with
    | non =>
      cases rx
      exact P.repr_of_none leaf
    | bl b =>
      cases rx
      exact P.repr_of_bool leaf
    | int i =>
      obtain ⟨t, rfl⟩ := rx
      exact P.repr_of_int (of_decide_eq_true hs) leaf
    | str y =>
      obtain ⟨t, rfl⟩ := rx
      exact P.repr_of_str leaf hsz
    | lst h1 h2 =>
      cases rx
      exact big rfl rd fun z => by rw [n] at z; cases z
    | tup h1 h2 =>
      cases rx
      exact big rfl rd fun z => by rw [n] at z; cases z
  | @emp a h =>
    cases rx
    obtain ⟨_, ns, vs, kv, o, es, ep, h1, h2, h3, h4⟩ := I.hok a _ h
    cases kv
    have e0 : es.toList = [] := by
      have z := h4.2.1
      cases hes : es.toList with
      | nil => rfl
      | cons e r =>
        rw [hes] at z
        cases z
    have rd : Reads s.heap (.ref a) (.dict []) (a :: [] ++ []) := .dict h1 h2.1 h3 (by rw [e0]; exact .nil) (by rw [e0]; exact .nil)
    refine big rfl rd fun _ hm => ?_
    rw [List.append_nil, List.mem_singleton] at hm
    rw [hm, beq_self_eq_true] at ns
    cases ns
end
/-! ### the end: the law is called while nothing is being shown -/
section
variable {P : Program} {w : World} {K : PySem.W.Frag} {mg mb : Str → Option Value} {k : Nat} {fa a : Addr} {fd : FuncData} {x : Str} {sp : Sp} {s : Shared} {vs : List Value} {ns : List Int}
/-- at the law's call at most the script is tracked -/
theorem lawG_at (H : Hp) (only : Only H) (just : ∀ b, H b ≠ none → b = a) (apart : H a ≠ none → K.lookup a = none) (hok : HOk P w H s.heap) (kin : K.In s.heap) (gl : s.heap.Ns mainGlobals mg) (bl : s.heap.Ns builtinsNs mb) (bb : ∀ x : Str, x ≠ "__name__" → mb x = bootBuiltins x)
    (lim : s.heap.NoLimit) (gens : s.gens = #[]) (obj : s.heap.get? a = some { cls := .type "list", data := .seq vs.toArray }) (room : Room k callerA) (F : ∀ base : Heap, K.In base → base.Ns mainGlobals mg → FnG P w K mg base CX0 k fa fd [x] sp)
    (bind : ∀ (s : Shared) (u : Value), BindsTo s fd ⟨[u], []⟩ [(x, u)]) (hsp : sp [.ref a] H (fun v _ => v = .bl true) fun _ _ _ => False) :
    codeAny (model P w) callerA (.call (.ref fa) ⟨[.ref a], []⟩) (fun r s' => r = .ok (.ret (.bool true)) ∧ OldK s.heap s'.heap ∧ s'.os = s.os ∧ AllBare s'.gens) s := by
  have at_a : ∀ {b : Addr} {u : HO}, H b = some u → b = a := fun {b u} q => just b (by rw [q]; exact fun z => nomatch z)
  have untracked : ∀ {b : Addr} {o : Obj} {es : Array DictEntry} {n : Nat}, s.heap.get? b = some o → o.data = .dict es n → H b = none := by
    intro b o es n e d
    cases q : H b with
    | none => rfl
    | some u =>
      rw [at_a q, obj] at e
      cases e
      cases d
  have names : ∀ {b : Addr} {m : Str → Option Value}, s.heap.Ns b m → (hidT s.heap H).Ns b m := by
    rintro b m ⟨o, es, n, e, d, r⟩
    exact ⟨o, es, n, hidT_get e (untracked e d), d, r⟩
  have kin' : K.In (hidT s.heap H) := by
    intro b o e
    refine hidT_get (kin b o e) ?_
    cases q : H b with
    | none => rfl
    | some u =>
      have z := apart (by rw [← at_a q, q]; exact fun z => nomatch z)
      rw [at_a q, z] at e
      cases e
  obtain ⟨mc, lm, lv⟩ := lim
  have md : Mod K mg (hidT s.heap H) := ⟨kin', names gl, ⟨mb, names bl, bb⟩, ⟨mc, names lm, lv⟩⟩
  have env : Env0 P w K mg (hidT s.heap H) callerA [] s H := ⟨rfl, md, fun b o e => of_hidT e, Nat.le_of_eq (hidT_size _ _), trivial, (fun b hb => by cases hb), hok, AllBare.of_eq gens⟩
  refine codeAny_mono ((F _ kin' (names gl)).go callerA rfl room [] s H ⟨[.ref a], []⟩ [.ref a] [.ref a] _ _ env (bind s (.ref a)) (.cons rfl .nil) hsp) ?_
  intro r s' h
  match r, h with
  | .error e, h => exact h.elim
  | .ok .next, h => exact h.elim
  | .ok .brk, h => exact h.elim
  | .ok .cont, h => exact h.elim
  | .ok (.ret u), ⟨v, H', os, bare, un, hok', rv, q⟩ =>
    have q' : v = .bl true := q
    subst q'
    cases (show u = Value.bool true from rv)
    refine ⟨rfl, OldK.of_keep fun b o e => ?_, os, bare⟩
    rcases only b with z | ⟨ob, xs, z⟩
    · exact un.keep b o e z (fun m => by cases m) (fun m => by cases m)
    · have e1 := (hok b _ z).1
      have e2 := (hok' b _ (un.frzs b ob _ z)).1
      rw [e] at e1
      cases e1
      exact e2
theorem lawG_call (kin : K.In s.heap) (gl : s.heap.Ns mainGlobals mg) (bl : s.heap.Ns builtinsNs mb) (bb : ∀ x : Str, x ≠ "__name__" → mb x = bootBuiltins x) (lim : s.heap.NoLimit) (gens : s.gens = #[]) (obj : s.heap.get? a = some { cls := .type "list", data := .seq vs.toArray })
    (hin : IntsAre vs ns) (short : ns.length ≤ sizeLine) (room : Room k callerA) (F : ∀ base : Heap, K.In base → base.Ns mainGlobals mg → FnG P w K mg base CX0 k fa fd [x] sp) (bind : ∀ (s : Shared) (u : Value), BindsTo s fd ⟨[u], []⟩ [(x, u)])
    (hsp : ∀ H : Hp, SqL K H a (ns.map V.int) → sp [.ref a] H (fun v _ => v = .bl true) fun _ _ _ => False) :
    codeAny (model P w) callerA (.call (.ref fa) ⟨[.ref a], []⟩) (fun r s' => r = .ok (.ret (.bool true)) ∧ OldK s.heap s'.heap ∧ s'.os = s.os ∧ AllBare s'.gens) s := by
  have rv := vals_ints hin
  have len := hin.length
  cases hk : K.lookup a with
  | some o =>
    have e := kin a o hk
    rw [obj] at e
    cases e
    refine lawG_at (fun _ => none) (fun _ => .inl rfl) (fun b z => absurd rfl z) (fun z => absurd rfl z) (fun b u z => by cases z) kin gl bl bb lim gens obj room F bind (hsp _ (.inr ?_))
    exact ⟨_, vs.toArray, _, hk, rfl, rfl, rfl, by rw [List.size_toArray, len]; exact short, by simpa using rv⟩
  | none =>
    let ob : Obj := { cls := .type "list", data := .seq vs.toArray }
    have at_ : ∀ {b : Addr} {u : HO}, upd (fun _ => none) a (.frz ob (.lst (ns.map V.int))) b = some u → b = a ∧ u = .frz ob (.lst (ns.map V.int)) := by
      intro b u e
      by_cases hb : b = a
      · subst hb
        rw [upd_same] at e
        cases e
        exact ⟨rfl, rfl⟩
      · rw [upd_ne hb] at e
        cases e
    refine lawG_at (upd (fun _ => none) a (.frz ob (.lst (ns.map V.int)))) (fun b => ?_) (fun b z => ?_) (fun _ => hk) (fun b u e => ?_) kin gl bl bb lim gens obj room F bind (hsp _ (.inl (.inr ⟨ob, upd_same⟩)))
    · by_cases hb : b = a
      · rw [hb]
        exact .inr ⟨ob, ns.map V.int, upd_same⟩
      · exact .inl (upd_ne hb)
    · cases q : upd (fun _ => none) a (.frz ob (.lst (ns.map V.int))) b with
      | none => exact absurd q z
      | some u => exact (at_ q).1
    · obtain ⟨rfl, rfl⟩ := at_ e
      exact ⟨obj, by rw [List.length_map]; exact short, vs, _, rv, obj⟩
end
theorem walkG {l : PySem.W.OpenLaw} {n k : Nat} {q : Program} {loose : List Str} {XP : (Str → Option Value) → Heap → Prop} {YP : World → Heap → Prop} {d : DefRec} {K : Params → PySem.W.Frag} {sp : PySem.W.Frag → Sp} {x : Str} (hn : l.most = some n) (hn2 : n ≤ sizeLine) (hdf : d.params.defaults = []) (hr : Room k callerA)
    (hY : ∀ (w : World) (h : Heap), YP w h → (K w.params).In h)
    (F : ∀ (w : World) (mg : Str → Option Value) (fa : Addr) (h : Heap), (K w.params).In h → h.Ns mainGlobals mg → mg d.name = some (.ref fa) →
      ∃ fd : FuncData, (∀ (s : Shared) (u : Value), BindsTo s fd ⟨[u], []⟩ [(x, u)]) ∧ ∀ base : Heap, (K w.params).In base → base.Ns mainGlobals mg → FnG l.prog w (K w.params) mg base CX0 k fa fd [x] (sp (K w.params)))
    (hsp : ∀ (K : PySem.W.Frag) (H : Hp) (a : Addr) (ns : List Int), ns.length ≤ n → SqL K H a (ns.map V.int) → sp K [.ref a] H (fun v _ => v = .bl true) fun _ _ _ => False) :
    PySem.W.WalkO q loose XP YP l.row.toRowW d [] (fun f vs => PySem.call f vs) := by
  refine Att.attach_call hn hdf ?_
  intro w s₀ s₁ mg mb fa o pm cd doc a vs ns G Y ho hd hcd hmg hobj hints hlen hg
  obtain ⟨fd, hb, hF⟩ := F w mg fa _ (hY w _ Y) G.T.g hmg
  exact lawG_call (hY w _ Y) G.T.g G.T.b G.T.builtins G.T.nolimit hg hobj hints (Nat.le_trans hlen hn2) hr hF hb fun H hS => hsp _ H a ns hlen hS
end Pk
/-! Own errors that keep what they are made of in one field: made, raised, caught, kept, read. -/
namespace Pk
open PySem PySem.Spec PySem.W PySem.Calls PyProof.Rows PySem.HandSPX
open Builtin Builtin.ObjectAttr
/-- what a class's line of ancestors must bear, so that its errors are made and their fields stored -/
structure Line (bm bmB : List Value) : Prop where
  has : ∀ X : String, bm.contains (.type X) = bmB.contains (.type X)
  pass : ∀ self : Value, refuseLoop self "__setattr__" bm = pure ()
  obj : bmB.contains (.type "object") = true
theorem Line.own {bm bmB : List Value} {c : Addr} (l : Line bm bmB) : Line (.ref c :: bm) bmB where
  has := fun X => by
    rw [List.contains_cons, l.has X]
    rfl
  pass := fun self => by
    rw [refuseLoop_ref]
    exact l.pass self
  obj := l.obj
section
variable {prog : Program} {w : World} {A : Around} {E : Value → Shared → Prop} {R : Result → Shared → Prop} {hp : Heap} {g : Array GenState} {d : Drawn} {t : Nat} {os : OsState}
/-- self.name = v on an error that has no dict yet, whatever its built-in base -/
theorem store_err {K : Frag} {name : Str} {tk : Tok} {v : Value} {x C : Addr} {fv : Array Value} {cd : ClassData} {bmB : List Value} (X : K.In hp) (hx : hp.get? x = some { cls := .ref C, data := .fields fv }) (hcd : clsIn K C = some cd) (ln : Line cd.mro bmB) (ne : cd.mro.isEmpty = false)
    (hh : cd.hasDict = true) (ha : findIn K (.ref C) name = some none)
    (hq : ∀ h' tk' dx, (∀ b o, b ≠ x → hp.get? b = some o → h'.get? b = some o) → hp.objs.size ≤ dx → dx ≠ x → h'.get? x = some { cls := .ref C, dict := some dx, data := .fields fv } → h'.Ns1 dx (fun y => if y = name then some v else none) → R (.ok (.ret .none)) ⟨h', g, d, tk', os⟩) :
    codeAny (model prog w) A (.call (.builtin "object.__setattr__") ⟨[.ref x, .str name tk, v], []⟩) R ⟨hp, g, d, t, os⟩ := by
  have I : InstAt hp x { cls := .ref C, data := .fields fv } C none := ⟨hx, rfl, rfl, trivial⟩
  have hob : cd.mro.contains (.type "object") = true := (ln.has "object").trans ln.obj
  have hxs : x ≠ hp.objs.size := Nat.ne_of_lt (Heap.lt_size hx)
  have mro_ : mroIn K C (.type "object") = some true := by
    unfold mroIn
    rw [hcd, Option.bind_some, if_neg (by rw [ne]; exact Bool.false_ne_true), hob]
  have isObj : Looks (model prog w) hp (isInstance (.ref x) (.type "object")) true := I.type.andThen (looks_mroIn X mro_)
  refine codeAny_call_builtin F.store_object.slot.plain F.store_object.entry (@check_slot (model prog w) _ _ ⟨hp, g, d, t, os⟩ "object.__setattr__" "object" "__setattr__" (.ref x) [.str name tk, v] [] _ F.store_object.kind F.store_object.split isObj (F.store_object.args (.ref x) (.str name tk) v) ?_)
  have Lm : Looks (model prog w) hp (mroOf (.ref C)) cd.mro := (looks_clsIn X hcd).andThen .now
  have Lt : Looks (model prog w) hp (storeTaker? none) none := .now
  have Lc : Looks (model prog w) hp (classData C) cd := looks_clsIn X hcd
  rw [osa_eq, refuse_eq]
  refine wpAny_bind (wpAny_bind (I.type.at (wpAny_bind (Lm.at ?_))))
  rw [ln.pass]
  refine wpAny_pure (wpAny_bind (I.type.at (wpAny_bind ((looks_findIn X ha).at (wpAny_bind (Lt.at ?_))))))
  show wpAny _ _ (storeInOwnDict (.ref x) (.ref C) (.str name tk) name v false) _ _ _
  obtain ⟨nm, bs, mro, ns, qn, hd, sn, sb, ab, col, del⟩ := cd
  dsimp only at hh
  subst hh
  unfold storeInOwnDict ownDictForStores
  repeat (first | with_reducible refine store_in_new ?_ ?_ | with_reducible refine wpAny_loadPart_at hx ?_ | with_reducible refine Lc.at ?_ | wp_step)
  · exact ⟨_, #[], _, (Heap.get?_update_ne _ _ _ _ hxs.symm).trans (Heap.get?_push_at rfl rfl), rfl, fun e he => absurd he (by simp), fun _ => rfl⟩
  · intro h' tk' hn' hs
    refine hq h' tk' hp.objs.size ?_ (Nat.le_refl _) hxs.symm ?_ hn'
    · intro b o hb ho
      exact (hs.2 b (Nat.ne_of_lt (Heap.lt_size ho))).trans ((Heap.get?_update_ne _ _ _ _ hb).trans (Heap.get?_push_of_some _ ho))
    · exact (hs.2 x hxs).trans (Heap.get?_update_self _ (Heap.get?_push_of_some _ hx) rfl)
end
theorem one_size (v : Value) : [v].length ≤ sizeLine := by
  rw [sizeLine_eq]
  exact (by decide : 1 ≤ 16777216)
theorem ldC {M : Model} {s : Shared} {name : Str} {scope : Scope} {L a : Addr} {cd : Value} {m : Str → Option Value} {x : Str} {pos : Pos} {v : Value} {Q : Value → Shared → Prop} {A : Around} {E : Value → Shared → Prop} (hn : s.heap.Ns L m) (hv : m x = some v) (h : Q v s)
    (hk : scope.kind = .function := by rfl) (hl : (envOfC name scope L a cd).kindOf x = some .local := by rfl) (hd : (x == ("__debug__" : Str)) = false := by decide) :
    wpAny M A (eval (.Name x pos) (envOfC name scope L a cd)) Q E s := wpAny_Name (wpAny_loadName_local hk hl hn hv h) hd
end Pk
namespace Pk
open PySem PySem.Spec PyProof.Rows L2
/-! ### isinstance of an error that is kept, with a dict of its own or without -/
/-- where the dict of a kept error is tracked, if it has one -/
def DictOk (H : Hp) (d : Option Addr) : Prop := d = none ∨ ∃ (dd : Addr) (fs : List (Str × V)), d = some dd ∧ H dd = some (.xd fs)
def rIsK (K : PySem.W.Frag) : List V → Hp → VK → Prop := fun xs H Q => ∃ (a D : Addr) (d : Option Addr) (c : V) (cv : Value) (b : Bool), xs = [.ref a, c] ∧ H a = some (ExH (.ref D) d a) ∧ DictOk H d ∧ ExcC K D ∧ ClsV c cv ∧ PySem.W.kitOne K (.ref D) cv = some b ∧ Q (.bl b) H
theorem held_at {X : Cx} {pins : List (Addr × Obj)} {σ : L2.St} {H : Hp} {s : Shared} {a D : Addr} {d : Option Addr} (I : L2.Inv X pins σ H s) (hH : H a = some (ExH (.ref D) d a)) (hd : DictOk H d) : ∃ oe od, PySem.W.InstAt s.heap a oe D od ∧ (∀ dd fs, d = some dd → H dd = some (.xd fs) → ∃ o, od = some o ∧ s.heap.get? dd = some o) := by
  obtain ⟨⟨oe, vs, hget, hz, hv⟩, _, _⟩ := I.hok a _ hH
  obtain ⟨oc, odt, oda, osl⟩ := oe
  obtain ⟨h1, h2⟩ := hz
  dsimp only at h1 h2 hv
  subst h1 h2 hv
  rcases hd with rfl | ⟨dd, fs, rfl, hdd⟩
  · exact ⟨_, none, ⟨hget, rfl, rfl, trivial⟩, fun _ _ z => nomatch z⟩
  · obtain ⟨mA, hns, hr⟩ := I.hok dd _ hdd
    obtain ⟨o, ho, _⟩ := lookIn_ns hns
    refine ⟨_, some o, ⟨hget, rfl, rfl, ho⟩, fun dd' fs' e _ => ?_⟩
    cases e
    exact ⟨o, rfl, ho⟩
theorem call_isK {X : Cx} : CallR X (.builtin "isinstance") (rIsK X.K) := by
  rintro pins s σ H xs us Q I r ⟨a, D, d, c, cv, b, rfl, hH, hd, C, hc, e, q⟩
  obtain ⟨u1, u2, rfl, r1, r2⟩ := vals2 r
  cases (show u1 = Value.ref a from r1)
  have ec := hc.eq r2
  subst ec
  obtain ⟨oe, od, J, _⟩ := held_at I hH hd
  have hcl : (PySem.W.clsIn X.K D).isSome = true := by
    have z := C.hd
    unfold PySem.W.hasDictIn at z
    cases hq : PySem.W.clsIn X.K D with
    | none =>
      rw [hq] at z
      cases z
    | some c => rfl
  exact PySem.W.kia_one (PySem.W.kitx_exc hcl C.hg C.hk C.hs C.ha C.hn C.ht C.hm) I.kIn J e (fun z => nomatch z) fun tk => ⟨.bl b, H, I.tok tk, rfl, q⟩
/-! ### errors of the field part -/
namespace Of_part
open PySem.W PySem.Calls PySem.HandSPX
def iA (p1 p2 : Pos) : Arguments := { posonlyargs := [], args := [{ arg := "self", annotation := none, pos := p1 }, { arg := "part", annotation := none, pos := p2 }], vararg := none, kwonlyargs := [], kw_defaults := [], kwarg := none, defaults := [] }
def iB (q1 q2 q3 q4 : Pos) : List Stmt := [.Assign [.Attribute (.Name "self" q1) "part" q2] (.Name "part" q3) q4]
def iS : Scope := { kind := .function, names := [(PySem.Str.ofString "self", .local), (PySem.Str.ofString "part", .local)], isGenerator := false, isCoroutine := false, more := [] }
/-- the class called nm, at C, and its __init__, at fI, as the top has left them -/
structure Tx (K : Frag) (mg : Str → Option Value) (nm ql : Str) (C fI : Addr) (B newId initId : String) (bmB : List Value) : Prop where
  base : ExcBaseFacts B newId initId bmB
  gC : mg nm = some (.ref C)
  cls : ∃ n1 q N bs bm sn sub ab col dd k0 k1 k2 k3 k5, K.lookup C = some (excClassObj n1 q C N bs bm true sn sub ab col dd k0 k1 k2 k3 k5 newId) ∧ Line bm bmB
  sa : findIn K (.ref C) "__setattr__" = some (some (.builtin "object.__setattr__"))
  ex : ExcC K C
  noN : findIn K (.ref C) "part" = some none
  iC : findIn K (.ref C) "__init__" = some (some (.ref fI))
  tC : typeIn K (.ref fI) = some (.type "function")
  kC : keepIn K (.ref C) = true
  tyC : typeIn K (.ref C) = some (.type "type")
  fn : ∃ (oc : Value) (od : Option Addr) (doc pm : Value) (an : Option Addr) (cdv ct : Value) (osl : Array (Option Value)) (p1 p2 q1 q2 q3 q4 : Pos),
    K.lookup fI = some ⟨oc, od, .func (fnOf "__init__" ql (iA p1 p2) (iB q1 q2 q3 q4) iS .none .none doc pm an cdv ct), osl⟩ ∧ codeIn K cdv ql = true
/-- an error made of v, at e, its own dict at d -/
structure Made (h h' : Heap) (e C d : Addr) (v : Value) : Prop where
  keep : ∀ b o, h.get? b = some o → h'.get? b = some o
  new : h.objs.size ≤ e
  obj : ∃ oe vs, h'.get? e = some oe ∧ oe.cls = .ref C ∧ oe.dict = some d ∧ oe.data = .fields vs ∧ vs[1]? = some .none
  dbig : h.objs.size ≤ d
  dne : d ≠ e
  ns : h'.Ns1 d (fun y => if y = "part" then some v else none)
section
variable {prog : Program} {w : World} {A : Around} {E : Value → Shared → Prop} {R : Result → Shared → Prop} {s : Shared} {K : Frag} {mg : Str → Option Value} {nm ql : Str} {C fI : Addr} {B newId initId : String} {bmB : List Value}
theorem made (T : Tx K mg nm ql C fI B newId initId bmB) {v : Value} (X : K.In s.heap) (hlim : s.heap.NoLimit) (hroom : A.depth + 1 < recursionLimit) (hq : ∀ h' tk e d, Made s.heap h' e C d v → R (.ok (.ret (.ref e))) { s with heap := h', toks := tk }) :
    codeAny (model prog w) A (.call (.ref C) ⟨[v], []⟩) R s := by
  obtain ⟨n1, q, N, bs, bm, sn, sub, ab, col, dd, k0, k1, k2, k3, k5, hC, ln⟩ := T.cls
  obtain ⟨oc, od, doc, pm, an, cdv, ct, osl, p1, p2, q1, q2, q3, q4, ho, hcd⟩ := T.fn
  have hcl : clsIn K C = some { name := n1, bases := bs, mro := .ref C :: bm, ns := N, qualname := q, hasDict := true, slotNames := sn, subclasses := sub, abstract := ab, collection := col, hasDel := false } := by
    unfold clsIn
    rw [hC]
  obtain ⟨hp, g, dr, tk, os⟩ := s
  have k : ∀ b o, hp.get? b = some o → ((hp.push (kdv_tup [v])).push (excO C hp.objs.size)).get? b = some o := fun b o e => Heap.get?_push_of_some _ (Heap.get?_push_of_some _ e)
  have hx : ((hp.push (kdv_tup [v])).push (excO C hp.objs.size)).get? (hp.objs.size + 1) = some (excO C hp.objs.size) := by heap_get
  refine call_own T.base ln.has (X _ _ hC) (looks_findIn X T.iC) (fun self => bind_fn X self T.tC) (one_size v) ?_
  have X1 := X.keeps k
  have lim1 : ((hp.push (kdv_tup [v])).push (excO C hp.objs.size)).NoLimit := hlim.keeps k
  have size1 : ((hp.push (kdv_tup [v])).push (excO C hp.objs.size)).objs.size = hp.objs.size + 1 + 1 := by rw [Heap.size_push, Heap.size_push]
  generalize (hp.push (kdv_tup [v])).push (excO C hp.objs.size) = h1 at k hx X1 lim1 size1 ⊢
  refine Att.call_fn (binds := [("self", .ref (hp.objs.size + 1)), ("part", v)]) X1 lim1 ho hcd hroom (BindsTo.of_eq (by first | rfl | with_unfolding_all rfl)) (by first | rfl | decide | with_unfolding_all rfl) (fun s₁ IC => ?_) rfl rfl rfl
  obtain ⟨h₁, tk₁, rfl⟩ := IC.toInCall.same
  have k1' : ∀ b o, h1.get? b = some o → h₁.get? b = some o := IC.toInCall.keep
  have hn := IC.toInCall.ns
  show wpAny _ _ (execs _ _) _ _ _
  refine wpAny_execs_cons (plainObj_wpAny_Assign_Attribute ?_)
  refine ldC (v := v) hn (by first | rfl | with_unfolding_all rfl | kernel_rfl) (ldC (v := .ref (hp.objs.size + 1)) hn (by first | rfl | with_unfolding_all rfl | kernel_rfl) ?_)
  refine set_plain (X1.keeps k1') (ox := excO C hp.objs.size) (od := none) ⟨k1' _ _ hx, rfl, rfl, trivial⟩ T.sa ?_
  refine store_err (X1.keeps k1') (k1' _ _ hx) hcl (bmB := bmB) ln.own rfl rfl T.noN (fun h₃ tk₃ dx k₃ dn dne hx₃ hn₃ => ?_)
  show wpAny _ _ (execs _ _) _ _ _
  have z : h1.objs.size < h₁.objs.size := hn.lt
  have lt_ : ∀ {b : Addr} {o : Obj}, hp.get? b = some o → b ≠ hp.objs.size + 1 := fun {b o} e => Nat.ne_of_lt (Nat.lt_succ_of_lt (Heap.lt_size e))
  refine wpAny_execs_nil ⟨rfl, hq h₃ tk₃ (hp.objs.size + 1) dx ⟨fun b o e => k₃ b o (lt_ e) (k1' b o (k b o e)), Nat.le_succ _, ⟨_, _, hx₃, rfl, rfl, rfl, rfl⟩, ?_, dne, hn₃⟩⟩
  have dn' : h₁.objs.size ≤ dx := dn
  show hp.objs.size ≤ dx
  omega
end
end Of_part
section
variable {X : Cx} {nm ql : Str} {C fI : Addr} {B newId initId : String} {bmB : List Value}
theorem relO_part {v : V} {v' : Value} (r : RelV v v') (f : Str) : RelO (List.lookup f [(("part" : Str), v)]) (if f = "part" then some v' else none) := by
  by_cases hw : f = "part"
  · subst hw
    rw [if_pos rfl]
    have q : List.lookup ("part" : Str) [(("part" : Str), v)] = some v := by simp [List.lookup]
    rw [q]
    exact r
  · rw [if_neg hw]
    have qw : (f == ("part" : Str)) = false := by simpa using hw
    have q2 : List.lookup f [(("part" : Str), v)] = none := by simp [List.lookup, qw]
    rw [q2]
    trivial
/-- nm(e) -/
def tMk_part (C : Addr) (ta : TA) : L2.St → Hp → XK → Prop := fun σ H Q => ta σ H fun vs H1 => ∃ v, vs = [v] ∧ ∀ d, H1 d = none → Q (.ref C) (some d) (upd H1 d (.xd [(("part" : Str), v)]))
theorem pmk_part {a : Expr} {ta : TA} {p pos : Pos} {k : Nat} (T : Of_part.Tx X.K X.mg nm ql C fI B newId initId bmB) (hr : Room k X.A) (ha : PA X [a] ta) (hg : Gl X nm := by rfl) (hdb : (nm == ("__debug__" : Str)) = false := by decide)
    (he : starEach (a :: []) X.env = (false, eval a X.env) :: starEach [] X.env := by rfl) (hpl : (backTo pos (starEach [] X.env)).any (·.1) = false := by rfl) :
    PMk X (.Call (.Name nm p) [a] [] pos) (tMk_part C ta) := by
  intro pins s σ H Q I h
  refine wpAny_Call_Name_kw (ld_glob I hg T.gC ?_ hdb)
  refine PySem.W.callWith_K (h₀ := X.base) I.ok.mod.kin T.kC (thn (ha.run pos pins s σ H _ I h) fun us s1 hh => ?_) he hpl
  obtain ⟨vs, H1, I1, r1, v, ev, q1⟩ := hh
  subst ev
  refine ⟨I1.kIn, ?_⟩
  cases r1 with
  | cons rv rn =>
    rename_i v' us'
    cases rn
    show wpAny _ _ (call (.ref C) [v']) _ _ _
    have hlim := I1.nolimit
    obtain ⟨hp, g, dr, tk, os⟩ := s1
    refine wpAny_call (Of_part.made T I1.kIn hlim (by have := hr.dp; omega) fun h' tk' e d M => ?_)
    show MkP X pins σ Q (.ref e) ⟨h', g, dr, tk', os⟩
    obtain ⟨oe, fv, hoe, hc, hd, hdat, h1⟩ := M.obj
    have hns := M.ns
    obtain ⟨G', g1, g2⟩ := restrict h' fun b => decide (b ≠ e)
    have gk : ∀ b, b ≠ e → G'.get? b = h'.get? b := fun b hb => g1 b (decide_eq_true hb)
    have ge : G'.get? e = none := g2 e (by simp)
    have old : ∀ b o, hp.get? b = some o → G'.get? b = some o := fun b o q => (gk b (Nat.ne_of_lt (Nat.lt_of_lt_of_le (Heap.lt_size q) M.new))).trans (M.keep b o q)
    have ob : ObjOk X.prog X.w (upd H1 d (.xd [(("part" : Str), v)])) G' d (.xd [(("part" : Str), v)]) :=
      ⟨_, hns.at (fun o q => (gk d M.dne).trans q), fun f => relO_part rv f⟩
    have J : L2.Inv X pins σ (upd H1 d (.xd [(("part" : Str), v)])) ⟨G', g, dr, tk', os⟩ := I1.laid (t' := tk') old M.dbig ob
    refine ⟨e, oe, fv, ⟨G', g, dr, tk', os⟩, _, .ref C, some d, rfl, J, fun b o q => ?_, ge, hoe, ⟨hc, hd⟩, hdat, h1, ?_, rfl, I1.bare, raises_own T.ex.hs T.tyC, q1 d (I1.hok.fresh M.dbig)⟩
    · by_cases hb : b = e
      · have q' : G'.get? b = some o := q
        rw [hb, ge] at q'
        cases q'
      · exact (gk b hb).symm.trans q
    · rw [upd_ne (Ne.symm M.dne)]
      exact I1.hok.fresh M.new
/-- raise nm(e) -/
def tRaise_part (C : Addr) (W : WX) (ta : TA) : TS := fun _ σ H => tMk_part C ta σ H fun cls d H' => W cls d σ H'
theorem ps_raise_part {a : Expr} {ta : TA} {W : WX} {p pos pos2 : Pos} {k : Nat} (hc : X.calm = true) (T : Of_part.Tx X.K X.mg nm ql C fI B newId initId bmB) (hr : Room k X.A) (tk : Takes X W) (ha : PA X [a] ta) (hg : Gl X nm := by rfl) (hdb : (nm == ("__debug__" : Str)) = false := by decide)
    (he : starEach (a :: []) X.env = (false, eval a X.env) :: starEach [] X.env := by rfl) (hpl : (backTo pos (starEach [] X.env)).any (·.1) = false := by rfl) :
    PS X (.Raise (some (.Call (.Name nm p) [a] [] pos)) none pos2) (tRaise_part C W ta) := ps_raise hc tk (pmk_part T hr ha hg hdb he hpl)
/-- e.part, e a kept error -/
def tGet_part (K : PySem.W.Frag) (te : TE) : TE := fun σ H Q => te σ H fun x H1 => ∃ (a C dd : Addr) (v : V), x = .ref a ∧ H1 a = some (ExH (.ref C) (some dd) a) ∧ ExcC K C ∧ PySem.W.findIn K (.ref C) "part" = some none ∧ H1 dd = some (.xd [(("part" : Str), v)]) ∧ Q v H1
theorem pe_get_part {e : Expr} {te : TE} {pos : Pos} (he : PE X e te) (hb : attributeBase e "part" X.env (eval e X.env) = eval e X.env := by rfl) : PE X (.Attribute e "part" pos) (tGet_part X.K te) := by
  constructor
  intro pins s σ H Q I h
  refine attr_of hb (thn (he.run pins s σ H _ I h) ?_)
  rintro u s1 ⟨x, H1, I1, rx, a, C, dd, v, rfl, ha, EC, noN, hdd, q⟩
  cases (show u = Value.ref a from rx)
  obtain ⟨oe, od, J, hod⟩ := held_at I1 ha (.inr ⟨dd, _, rfl, hdd⟩)
  obtain ⟨mA, hns, hr⟩ := I1.hok dd _ hdd
  obtain ⟨o, ho, hl⟩ := lookIn_ns hns
  obtain ⟨o', eo, ho'⟩ := hod dd _ rfl hdd
  rw [ho] at ho'
  cases ho'
  subst eo
  have l : List.lookup ("part" : Str) [(("part" : Str), v)] = some v := by simp [List.lookup]
  obtain ⟨u, hu, ru⟩ := RelO.some_of (v := v) (o := mA "part") (by rw [← l]; exact hr "part")
  exact HandSPX.exc_get I1.kIn J EC.hg EC.hk EC.hs (PySem.W.findObj_own EC.hd noN rfl (by rw [hl, hu])) (handed_of ru) ⟨v, H1, I1.tok _, ru, q⟩
end
/-! ### errors of the field wanted -/
namespace Of_wanted
open PySem.W PySem.Calls PySem.HandSPX
def iA (p1 p2 : Pos) : Arguments := { posonlyargs := [], args := [{ arg := "self", annotation := none, pos := p1 }, { arg := "wanted", annotation := none, pos := p2 }], vararg := none, kwonlyargs := [], kw_defaults := [], kwarg := none, defaults := [] }
def iB (q1 q2 q3 q4 : Pos) : List Stmt := [.Assign [.Attribute (.Name "self" q1) "wanted" q2] (.Name "wanted" q3) q4]
def iS : Scope := { kind := .function, names := [(PySem.Str.ofString "self", .local), (PySem.Str.ofString "wanted", .local)], isGenerator := false, isCoroutine := false, more := [] }
/-- the class called nm, at C, and its __init__, at fI, as the top has left them -/
structure Tx (K : Frag) (mg : Str → Option Value) (nm ql : Str) (C fI : Addr) (B newId initId : String) (bmB : List Value) : Prop where
  base : ExcBaseFacts B newId initId bmB
  gC : mg nm = some (.ref C)
  cls : ∃ n1 q N bs bm sn sub ab col dd k0 k1 k2 k3 k5, K.lookup C = some (excClassObj n1 q C N bs bm true sn sub ab col dd k0 k1 k2 k3 k5 newId) ∧ Line bm bmB
  sa : findIn K (.ref C) "__setattr__" = some (some (.builtin "object.__setattr__"))
  ex : ExcC K C
  noN : findIn K (.ref C) "wanted" = some none
  iC : findIn K (.ref C) "__init__" = some (some (.ref fI))
  tC : typeIn K (.ref fI) = some (.type "function")
  kC : keepIn K (.ref C) = true
  tyC : typeIn K (.ref C) = some (.type "type")
  fn : ∃ (oc : Value) (od : Option Addr) (doc pm : Value) (an : Option Addr) (cdv ct : Value) (osl : Array (Option Value)) (p1 p2 q1 q2 q3 q4 : Pos),
    K.lookup fI = some ⟨oc, od, .func (fnOf "__init__" ql (iA p1 p2) (iB q1 q2 q3 q4) iS .none .none doc pm an cdv ct), osl⟩ ∧ codeIn K cdv ql = true
/-- an error made of v, at e, its own dict at d -/
structure Made (h h' : Heap) (e C d : Addr) (v : Value) : Prop where
  keep : ∀ b o, h.get? b = some o → h'.get? b = some o
  new : h.objs.size ≤ e
  obj : ∃ oe vs, h'.get? e = some oe ∧ oe.cls = .ref C ∧ oe.dict = some d ∧ oe.data = .fields vs ∧ vs[1]? = some .none
  dbig : h.objs.size ≤ d
  dne : d ≠ e
  ns : h'.Ns1 d (fun y => if y = "wanted" then some v else none)
section
variable {prog : Program} {w : World} {A : Around} {E : Value → Shared → Prop} {R : Result → Shared → Prop} {s : Shared} {K : Frag} {mg : Str → Option Value} {nm ql : Str} {C fI : Addr} {B newId initId : String} {bmB : List Value}
theorem made (T : Tx K mg nm ql C fI B newId initId bmB) {v : Value} (X : K.In s.heap) (hlim : s.heap.NoLimit) (hroom : A.depth + 1 < recursionLimit) (hq : ∀ h' tk e d, Made s.heap h' e C d v → R (.ok (.ret (.ref e))) { s with heap := h', toks := tk }) :
    codeAny (model prog w) A (.call (.ref C) ⟨[v], []⟩) R s := by
  obtain ⟨n1, q, N, bs, bm, sn, sub, ab, col, dd, k0, k1, k2, k3, k5, hC, ln⟩ := T.cls
  obtain ⟨oc, od, doc, pm, an, cdv, ct, osl, p1, p2, q1, q2, q3, q4, ho, hcd⟩ := T.fn
  have hcl : clsIn K C = some { name := n1, bases := bs, mro := .ref C :: bm, ns := N, qualname := q, hasDict := true, slotNames := sn, subclasses := sub, abstract := ab, collection := col, hasDel := false } := by
    unfold clsIn
    rw [hC]
  obtain ⟨hp, g, dr, tk, os⟩ := s
  have k : ∀ b o, hp.get? b = some o → ((hp.push (kdv_tup [v])).push (excO C hp.objs.size)).get? b = some o := fun b o e => Heap.get?_push_of_some _ (Heap.get?_push_of_some _ e)
  have hx : ((hp.push (kdv_tup [v])).push (excO C hp.objs.size)).get? (hp.objs.size + 1) = some (excO C hp.objs.size) := by heap_get
  refine call_own T.base ln.has (X _ _ hC) (looks_findIn X T.iC) (fun self => bind_fn X self T.tC) (one_size v) ?_
  have X1 := X.keeps k
  have lim1 : ((hp.push (kdv_tup [v])).push (excO C hp.objs.size)).NoLimit := hlim.keeps k
  have size1 : ((hp.push (kdv_tup [v])).push (excO C hp.objs.size)).objs.size = hp.objs.size + 1 + 1 := by rw [Heap.size_push, Heap.size_push]
  generalize (hp.push (kdv_tup [v])).push (excO C hp.objs.size) = h1 at k hx X1 lim1 size1 ⊢
  refine Att.call_fn (binds := [("self", .ref (hp.objs.size + 1)), ("wanted", v)]) X1 lim1 ho hcd hroom (BindsTo.of_eq (by first | rfl | with_unfolding_all rfl)) (by first | rfl | decide | with_unfolding_all rfl) (fun s₁ IC => ?_) rfl rfl rfl
  obtain ⟨h₁, tk₁, rfl⟩ := IC.toInCall.same
  have k1' : ∀ b o, h1.get? b = some o → h₁.get? b = some o := IC.toInCall.keep
  have hn := IC.toInCall.ns
  show wpAny _ _ (execs _ _) _ _ _
  refine wpAny_execs_cons (plainObj_wpAny_Assign_Attribute ?_)
  refine ldC (v := v) hn (by first | rfl | with_unfolding_all rfl | kernel_rfl) (ldC (v := .ref (hp.objs.size + 1)) hn (by first | rfl | with_unfolding_all rfl | kernel_rfl) ?_)
  refine set_plain (X1.keeps k1') (ox := excO C hp.objs.size) (od := none) ⟨k1' _ _ hx, rfl, rfl, trivial⟩ T.sa ?_
  refine store_err (X1.keeps k1') (k1' _ _ hx) hcl (bmB := bmB) ln.own rfl rfl T.noN (fun h₃ tk₃ dx k₃ dn dne hx₃ hn₃ => ?_)
  show wpAny _ _ (execs _ _) _ _ _
  have z : h1.objs.size < h₁.objs.size := hn.lt
  have lt_ : ∀ {b : Addr} {o : Obj}, hp.get? b = some o → b ≠ hp.objs.size + 1 := fun {b o} e => Nat.ne_of_lt (Nat.lt_succ_of_lt (Heap.lt_size e))
  refine wpAny_execs_nil ⟨rfl, hq h₃ tk₃ (hp.objs.size + 1) dx ⟨fun b o e => k₃ b o (lt_ e) (k1' b o (k b o e)), Nat.le_succ _, ⟨_, _, hx₃, rfl, rfl, rfl, rfl⟩, ?_, dne, hn₃⟩⟩
  have dn' : h₁.objs.size ≤ dx := dn
  show hp.objs.size ≤ dx
  omega
end
end Of_wanted
section
variable {X : Cx} {nm ql : Str} {C fI : Addr} {B newId initId : String} {bmB : List Value}
theorem relO_wanted {v : V} {v' : Value} (r : RelV v v') (f : Str) : RelO (List.lookup f [(("wanted" : Str), v)]) (if f = "wanted" then some v' else none) := by
  by_cases hw : f = "wanted"
  · subst hw
    rw [if_pos rfl]
    have q : List.lookup ("wanted" : Str) [(("wanted" : Str), v)] = some v := by simp [List.lookup]
    rw [q]
    exact r
  · rw [if_neg hw]
    have qw : (f == ("wanted" : Str)) = false := by simpa using hw
    have q2 : List.lookup f [(("wanted" : Str), v)] = none := by simp [List.lookup, qw]
    rw [q2]
    trivial
/-- nm(e) -/
def tMk_wanted (C : Addr) (ta : TA) : L2.St → Hp → XK → Prop := fun σ H Q => ta σ H fun vs H1 => ∃ v, vs = [v] ∧ ∀ d, H1 d = none → Q (.ref C) (some d) (upd H1 d (.xd [(("wanted" : Str), v)]))
theorem pmk_wanted {a : Expr} {ta : TA} {p pos : Pos} {k : Nat} (T : Of_wanted.Tx X.K X.mg nm ql C fI B newId initId bmB) (hr : Room k X.A) (ha : PA X [a] ta) (hg : Gl X nm := by rfl) (hdb : (nm == ("__debug__" : Str)) = false := by decide)
    (he : starEach (a :: []) X.env = (false, eval a X.env) :: starEach [] X.env := by rfl) (hpl : (backTo pos (starEach [] X.env)).any (·.1) = false := by rfl) :
    PMk X (.Call (.Name nm p) [a] [] pos) (tMk_wanted C ta) := by
  intro pins s σ H Q I h
  refine wpAny_Call_Name_kw (ld_glob I hg T.gC ?_ hdb)
  refine PySem.W.callWith_K (h₀ := X.base) I.ok.mod.kin T.kC (thn (ha.run pos pins s σ H _ I h) fun us s1 hh => ?_) he hpl
  obtain ⟨vs, H1, I1, r1, v, ev, q1⟩ := hh
  subst ev
  refine ⟨I1.kIn, ?_⟩
  cases r1 with
  | cons rv rn =>
    rename_i v' us'
    cases rn
    show wpAny _ _ (call (.ref C) [v']) _ _ _
    have hlim := I1.nolimit
    obtain ⟨hp, g, dr, tk, os⟩ := s1
    refine wpAny_call (Of_wanted.made T I1.kIn hlim (by have := hr.dp; omega) fun h' tk' e d M => ?_)
    show MkP X pins σ Q (.ref e) ⟨h', g, dr, tk', os⟩
    obtain ⟨oe, fv, hoe, hc, hd, hdat, h1⟩ := M.obj
    have hns := M.ns
    obtain ⟨G', g1, g2⟩ := restrict h' fun b => decide (b ≠ e)
    have gk : ∀ b, b ≠ e → G'.get? b = h'.get? b := fun b hb => g1 b (decide_eq_true hb)
    have ge : G'.get? e = none := g2 e (by simp)
    have old : ∀ b o, hp.get? b = some o → G'.get? b = some o := fun b o q => (gk b (Nat.ne_of_lt (Nat.lt_of_lt_of_le (Heap.lt_size q) M.new))).trans (M.keep b o q)
    have ob : ObjOk X.prog X.w (upd H1 d (.xd [(("wanted" : Str), v)])) G' d (.xd [(("wanted" : Str), v)]) :=
      ⟨_, hns.at (fun o q => (gk d M.dne).trans q), fun f => relO_wanted rv f⟩
    have J : L2.Inv X pins σ (upd H1 d (.xd [(("wanted" : Str), v)])) ⟨G', g, dr, tk', os⟩ := I1.laid (t' := tk') old M.dbig ob
    refine ⟨e, oe, fv, ⟨G', g, dr, tk', os⟩, _, .ref C, some d, rfl, J, fun b o q => ?_, ge, hoe, ⟨hc, hd⟩, hdat, h1, ?_, rfl, I1.bare, raises_own T.ex.hs T.tyC, q1 d (I1.hok.fresh M.dbig)⟩
    · by_cases hb : b = e
      · have q' : G'.get? b = some o := q
        rw [hb, ge] at q'
        cases q'
      · exact (gk b hb).symm.trans q
    · rw [upd_ne (Ne.symm M.dne)]
      exact I1.hok.fresh M.new
/-- raise nm(e) -/
def tRaise_wanted (C : Addr) (W : WX) (ta : TA) : TS := fun _ σ H => tMk_wanted C ta σ H fun cls d H' => W cls d σ H'
theorem ps_raise_wanted {a : Expr} {ta : TA} {W : WX} {p pos pos2 : Pos} {k : Nat} (hc : X.calm = true) (T : Of_wanted.Tx X.K X.mg nm ql C fI B newId initId bmB) (hr : Room k X.A) (tk : Takes X W) (ha : PA X [a] ta) (hg : Gl X nm := by rfl) (hdb : (nm == ("__debug__" : Str)) = false := by decide)
    (he : starEach (a :: []) X.env = (false, eval a X.env) :: starEach [] X.env := by rfl) (hpl : (backTo pos (starEach [] X.env)).any (·.1) = false := by rfl) :
    PS X (.Raise (some (.Call (.Name nm p) [a] [] pos)) none pos2) (tRaise_wanted C W ta) := ps_raise hc tk (pmk_wanted T hr ha hg hdb he hpl)
/-- e.wanted, e a kept error -/
def tGet_wanted (K : PySem.W.Frag) (te : TE) : TE := fun σ H Q => te σ H fun x H1 => ∃ (a C dd : Addr) (v : V), x = .ref a ∧ H1 a = some (ExH (.ref C) (some dd) a) ∧ ExcC K C ∧ PySem.W.findIn K (.ref C) "wanted" = some none ∧ H1 dd = some (.xd [(("wanted" : Str), v)]) ∧ Q v H1
theorem pe_get_wanted {e : Expr} {te : TE} {pos : Pos} (he : PE X e te) (hb : attributeBase e "wanted" X.env (eval e X.env) = eval e X.env := by rfl) : PE X (.Attribute e "wanted" pos) (tGet_wanted X.K te) := by
  constructor
  intro pins s σ H Q I h
  refine attr_of hb (thn (he.run pins s σ H _ I h) ?_)
  rintro u s1 ⟨x, H1, I1, rx, a, C, dd, v, rfl, ha, EC, noN, hdd, q⟩
  cases (show u = Value.ref a from rx)
  obtain ⟨oe, od, J, hod⟩ := held_at I1 ha (.inr ⟨dd, _, rfl, hdd⟩)
  obtain ⟨mA, hns, hr⟩ := I1.hok dd _ hdd
  obtain ⟨o, ho, hl⟩ := lookIn_ns hns
  obtain ⟨o', eo, ho'⟩ := hod dd _ rfl hdd
  rw [ho] at ho'
  cases ho'
  subst eo
  have l : List.lookup ("wanted" : Str) [(("wanted" : Str), v)] = some v := by simp [List.lookup]
  obtain ⟨u, hu, ru⟩ := RelO.some_of (v := v) (o := mA "wanted") (by rw [← l]; exact hr "wanted")
  exact HandSPX.exc_get I1.kIn J EC.hg EC.hk EC.hs (PySem.W.findObj_own EC.hd noN rfl (by rw [hl, hu])) (handed_of ru) ⟨v, H1, I1.tok _, ru, q⟩
end
/-! ### errors of the field at -/
namespace Of_at
open PySem.W PySem.Calls PySem.HandSPX
def iA (p1 p2 : Pos) : Arguments := { posonlyargs := [], args := [{ arg := "self", annotation := none, pos := p1 }, { arg := "at", annotation := none, pos := p2 }], vararg := none, kwonlyargs := [], kw_defaults := [], kwarg := none, defaults := [] }
def iB (q1 q2 q3 q4 : Pos) : List Stmt := [.Assign [.Attribute (.Name "self" q1) "at" q2] (.Name "at" q3) q4]
def iS : Scope := { kind := .function, names := [(PySem.Str.ofString "self", .local), (PySem.Str.ofString "at", .local)], isGenerator := false, isCoroutine := false, more := [] }
/-- the class called nm, at C, and its __init__, at fI, as the top has left them -/
structure Tx (K : Frag) (mg : Str → Option Value) (nm ql : Str) (C fI : Addr) (B newId initId : String) (bmB : List Value) : Prop where
  base : ExcBaseFacts B newId initId bmB
  gC : mg nm = some (.ref C)
  cls : ∃ n1 q N bs bm sn sub ab col dd k0 k1 k2 k3 k5, K.lookup C = some (excClassObj n1 q C N bs bm true sn sub ab col dd k0 k1 k2 k3 k5 newId) ∧ Line bm bmB
  sa : findIn K (.ref C) "__setattr__" = some (some (.builtin "object.__setattr__"))
  ex : ExcC K C
  noN : findIn K (.ref C) "at" = some none
  iC : findIn K (.ref C) "__init__" = some (some (.ref fI))
  tC : typeIn K (.ref fI) = some (.type "function")
  kC : keepIn K (.ref C) = true
  tyC : typeIn K (.ref C) = some (.type "type")
  fn : ∃ (oc : Value) (od : Option Addr) (doc pm : Value) (an : Option Addr) (cdv ct : Value) (osl : Array (Option Value)) (p1 p2 q1 q2 q3 q4 : Pos),
    K.lookup fI = some ⟨oc, od, .func (fnOf "__init__" ql (iA p1 p2) (iB q1 q2 q3 q4) iS .none .none doc pm an cdv ct), osl⟩ ∧ codeIn K cdv ql = true
/-- an error made of v, at e, its own dict at d -/
structure Made (h h' : Heap) (e C d : Addr) (v : Value) : Prop where
  keep : ∀ b o, h.get? b = some o → h'.get? b = some o
  new : h.objs.size ≤ e
  obj : ∃ oe vs, h'.get? e = some oe ∧ oe.cls = .ref C ∧ oe.dict = some d ∧ oe.data = .fields vs ∧ vs[1]? = some .none
  dbig : h.objs.size ≤ d
  dne : d ≠ e
  ns : h'.Ns1 d (fun y => if y = "at" then some v else none)
section
variable {prog : Program} {w : World} {A : Around} {E : Value → Shared → Prop} {R : Result → Shared → Prop} {s : Shared} {K : Frag} {mg : Str → Option Value} {nm ql : Str} {C fI : Addr} {B newId initId : String} {bmB : List Value}
theorem made (T : Tx K mg nm ql C fI B newId initId bmB) {v : Value} (X : K.In s.heap) (hlim : s.heap.NoLimit) (hroom : A.depth + 1 < recursionLimit) (hq : ∀ h' tk e d, Made s.heap h' e C d v → R (.ok (.ret (.ref e))) { s with heap := h', toks := tk }) :
    codeAny (model prog w) A (.call (.ref C) ⟨[v], []⟩) R s := by
  obtain ⟨n1, q, N, bs, bm, sn, sub, ab, col, dd, k0, k1, k2, k3, k5, hC, ln⟩ := T.cls
  obtain ⟨oc, od, doc, pm, an, cdv, ct, osl, p1, p2, q1, q2, q3, q4, ho, hcd⟩ := T.fn
  have hcl : clsIn K C = some { name := n1, bases := bs, mro := .ref C :: bm, ns := N, qualname := q, hasDict := true, slotNames := sn, subclasses := sub, abstract := ab, collection := col, hasDel := false } := by
    unfold clsIn
    rw [hC]
  obtain ⟨hp, g, dr, tk, os⟩ := s
  have k : ∀ b o, hp.get? b = some o → ((hp.push (kdv_tup [v])).push (excO C hp.objs.size)).get? b = some o := fun b o e => Heap.get?_push_of_some _ (Heap.get?_push_of_some _ e)
  have hx : ((hp.push (kdv_tup [v])).push (excO C hp.objs.size)).get? (hp.objs.size + 1) = some (excO C hp.objs.size) := by heap_get
  refine call_own T.base ln.has (X _ _ hC) (looks_findIn X T.iC) (fun self => bind_fn X self T.tC) (one_size v) ?_
  have X1 := X.keeps k
  have lim1 : ((hp.push (kdv_tup [v])).push (excO C hp.objs.size)).NoLimit := hlim.keeps k
  have size1 : ((hp.push (kdv_tup [v])).push (excO C hp.objs.size)).objs.size = hp.objs.size + 1 + 1 := by rw [Heap.size_push, Heap.size_push]
  generalize (hp.push (kdv_tup [v])).push (excO C hp.objs.size) = h1 at k hx X1 lim1 size1 ⊢
  refine Att.call_fn (binds := [("self", .ref (hp.objs.size + 1)), ("at", v)]) X1 lim1 ho hcd hroom (BindsTo.of_eq (by first | rfl | with_unfolding_all rfl)) (by first | rfl | decide | with_unfolding_all rfl) (fun s₁ IC => ?_) rfl rfl rfl
  obtain ⟨h₁, tk₁, rfl⟩ := IC.toInCall.same
  have k1' : ∀ b o, h1.get? b = some o → h₁.get? b = some o := IC.toInCall.keep
  have hn := IC.toInCall.ns
  show wpAny _ _ (execs _ _) _ _ _
  refine wpAny_execs_cons (plainObj_wpAny_Assign_Attribute ?_)
  refine ldC (v := v) hn (by first | rfl | with_unfolding_all rfl | kernel_rfl) (ldC (v := .ref (hp.objs.size + 1)) hn (by first | rfl | with_unfolding_all rfl | kernel_rfl) ?_)
  refine set_plain (X1.keeps k1') (ox := excO C hp.objs.size) (od := none) ⟨k1' _ _ hx, rfl, rfl, trivial⟩ T.sa ?_
  refine store_err (X1.keeps k1') (k1' _ _ hx) hcl (bmB := bmB) ln.own rfl rfl T.noN (fun h₃ tk₃ dx k₃ dn dne hx₃ hn₃ => ?_)
  show wpAny _ _ (execs _ _) _ _ _
  have z : h1.objs.size < h₁.objs.size := hn.lt
  have lt_ : ∀ {b : Addr} {o : Obj}, hp.get? b = some o → b ≠ hp.objs.size + 1 := fun {b o} e => Nat.ne_of_lt (Nat.lt_succ_of_lt (Heap.lt_size e))
  refine wpAny_execs_nil ⟨rfl, hq h₃ tk₃ (hp.objs.size + 1) dx ⟨fun b o e => k₃ b o (lt_ e) (k1' b o (k b o e)), Nat.le_succ _, ⟨_, _, hx₃, rfl, rfl, rfl, rfl⟩, ?_, dne, hn₃⟩⟩
  have dn' : h₁.objs.size ≤ dx := dn
  show hp.objs.size ≤ dx
  omega
end
end Of_at
section
variable {X : Cx} {nm ql : Str} {C fI : Addr} {B newId initId : String} {bmB : List Value}
theorem relO_at {v : V} {v' : Value} (r : RelV v v') (f : Str) : RelO (List.lookup f [(("at" : Str), v)]) (if f = "at" then some v' else none) := by
  by_cases hw : f = "at"
  · subst hw
    rw [if_pos rfl]
    have q : List.lookup ("at" : Str) [(("at" : Str), v)] = some v := by simp [List.lookup]
    rw [q]
    exact r
  · rw [if_neg hw]
    have qw : (f == ("at" : Str)) = false := by simpa using hw
    have q2 : List.lookup f [(("at" : Str), v)] = none := by simp [List.lookup, qw]
    rw [q2]
    trivial
/-- nm(e) -/
def tMk_at (C : Addr) (ta : TA) : L2.St → Hp → XK → Prop := fun σ H Q => ta σ H fun vs H1 => ∃ v, vs = [v] ∧ ∀ d, H1 d = none → Q (.ref C) (some d) (upd H1 d (.xd [(("at" : Str), v)]))
theorem pmk_at {a : Expr} {ta : TA} {p pos : Pos} {k : Nat} (T : Of_at.Tx X.K X.mg nm ql C fI B newId initId bmB) (hr : Room k X.A) (ha : PA X [a] ta) (hg : Gl X nm := by rfl) (hdb : (nm == ("__debug__" : Str)) = false := by decide)
    (he : starEach (a :: []) X.env = (false, eval a X.env) :: starEach [] X.env := by rfl) (hpl : (backTo pos (starEach [] X.env)).any (·.1) = false := by rfl) :
    PMk X (.Call (.Name nm p) [a] [] pos) (tMk_at C ta) := by
  intro pins s σ H Q I h
  refine wpAny_Call_Name_kw (ld_glob I hg T.gC ?_ hdb)
  refine PySem.W.callWith_K (h₀ := X.base) I.ok.mod.kin T.kC (thn (ha.run pos pins s σ H _ I h) fun us s1 hh => ?_) he hpl
  obtain ⟨vs, H1, I1, r1, v, ev, q1⟩ := hh
  subst ev
  refine ⟨I1.kIn, ?_⟩
  cases r1 with
  | cons rv rn =>
    rename_i v' us'
    cases rn
    show wpAny _ _ (call (.ref C) [v']) _ _ _
    have hlim := I1.nolimit
    obtain ⟨hp, g, dr, tk, os⟩ := s1
    refine wpAny_call (Of_at.made T I1.kIn hlim (by have := hr.dp; omega) fun h' tk' e d M => ?_)
    show MkP X pins σ Q (.ref e) ⟨h', g, dr, tk', os⟩
    obtain ⟨oe, fv, hoe, hc, hd, hdat, h1⟩ := M.obj
    have hns := M.ns
    obtain ⟨G', g1, g2⟩ := restrict h' fun b => decide (b ≠ e)
    have gk : ∀ b, b ≠ e → G'.get? b = h'.get? b := fun b hb => g1 b (decide_eq_true hb)
    have ge : G'.get? e = none := g2 e (by simp)
    have old : ∀ b o, hp.get? b = some o → G'.get? b = some o := fun b o q => (gk b (Nat.ne_of_lt (Nat.lt_of_lt_of_le (Heap.lt_size q) M.new))).trans (M.keep b o q)
    have ob : ObjOk X.prog X.w (upd H1 d (.xd [(("at" : Str), v)])) G' d (.xd [(("at" : Str), v)]) :=
      ⟨_, hns.at (fun o q => (gk d M.dne).trans q), fun f => relO_at rv f⟩
    have J : L2.Inv X pins σ (upd H1 d (.xd [(("at" : Str), v)])) ⟨G', g, dr, tk', os⟩ := I1.laid (t' := tk') old M.dbig ob
    refine ⟨e, oe, fv, ⟨G', g, dr, tk', os⟩, _, .ref C, some d, rfl, J, fun b o q => ?_, ge, hoe, ⟨hc, hd⟩, hdat, h1, ?_, rfl, I1.bare, raises_own T.ex.hs T.tyC, q1 d (I1.hok.fresh M.dbig)⟩
    · by_cases hb : b = e
      · have q' : G'.get? b = some o := q
        rw [hb, ge] at q'
        cases q'
      · exact (gk b hb).symm.trans q
    · rw [upd_ne (Ne.symm M.dne)]
      exact I1.hok.fresh M.new
/-- raise nm(e) -/
def tRaise_at (C : Addr) (W : WX) (ta : TA) : TS := fun _ σ H => tMk_at C ta σ H fun cls d H' => W cls d σ H'
theorem ps_raise_at {a : Expr} {ta : TA} {W : WX} {p pos pos2 : Pos} {k : Nat} (hc : X.calm = true) (T : Of_at.Tx X.K X.mg nm ql C fI B newId initId bmB) (hr : Room k X.A) (tk : Takes X W) (ha : PA X [a] ta) (hg : Gl X nm := by rfl) (hdb : (nm == ("__debug__" : Str)) = false := by decide)
    (he : starEach (a :: []) X.env = (false, eval a X.env) :: starEach [] X.env := by rfl) (hpl : (backTo pos (starEach [] X.env)).any (·.1) = false := by rfl) :
    PS X (.Raise (some (.Call (.Name nm p) [a] [] pos)) none pos2) (tRaise_at C W ta) := ps_raise hc tk (pmk_at T hr ha hg hdb he hpl)
/-- e.at, e a kept error -/
def tGet_at (K : PySem.W.Frag) (te : TE) : TE := fun σ H Q => te σ H fun x H1 => ∃ (a C dd : Addr) (v : V), x = .ref a ∧ H1 a = some (ExH (.ref C) (some dd) a) ∧ ExcC K C ∧ PySem.W.findIn K (.ref C) "at" = some none ∧ H1 dd = some (.xd [(("at" : Str), v)]) ∧ Q v H1
theorem pe_get_at {e : Expr} {te : TE} {pos : Pos} (he : PE X e te) (hb : attributeBase e "at" X.env (eval e X.env) = eval e X.env := by rfl) : PE X (.Attribute e "at" pos) (tGet_at X.K te) := by
  constructor
  intro pins s σ H Q I h
  refine attr_of hb (thn (he.run pins s σ H _ I h) ?_)
  rintro u s1 ⟨x, H1, I1, rx, a, C, dd, v, rfl, ha, EC, noN, hdd, q⟩
  cases (show u = Value.ref a from rx)
  obtain ⟨oe, od, J, hod⟩ := held_at I1 ha (.inr ⟨dd, _, rfl, hdd⟩)
  obtain ⟨mA, hns, hr⟩ := I1.hok dd _ hdd
  obtain ⟨o, ho, hl⟩ := lookIn_ns hns
  obtain ⟨o', eo, ho'⟩ := hod dd _ rfl hdd
  rw [ho] at ho'
  cases ho'
  subst eo
  have l : List.lookup ("at" : Str) [(("at" : Str), v)] = some v := by simp [List.lookup]
  obtain ⟨u, hu, ru⟩ := RelO.some_of (v := v) (o := mA "at") (by rw [← l]; exact hr "at")
  exact HandSPX.exc_get I1.kIn J EC.hg EC.hk EC.hs (PySem.W.findObj_own EC.hd noN rfl (by rw [hl, hu])) (handed_of ru) ⟨v, H1, I1.tok _, ru, q⟩
end
/-! ### errors of the field name -/
namespace Of_name
open PySem.W PySem.Calls PySem.HandSPX
def iA (p1 p2 : Pos) : Arguments := { posonlyargs := [], args := [{ arg := "self", annotation := none, pos := p1 }, { arg := "name", annotation := none, pos := p2 }], vararg := none, kwonlyargs := [], kw_defaults := [], kwarg := none, defaults := [] }
def iB (q1 q2 q3 q4 : Pos) : List Stmt := [.Assign [.Attribute (.Name "self" q1) "name" q2] (.Name "name" q3) q4]
def iS : Scope := { kind := .function, names := [(PySem.Str.ofString "self", .local), (PySem.Str.ofString "name", .local)], isGenerator := false, isCoroutine := false, more := [] }
/-- the class called nm, at C, and its __init__, at fI, as the top has left them -/
structure Tx (K : Frag) (mg : Str → Option Value) (nm ql : Str) (C fI : Addr) (B newId initId : String) (bmB : List Value) : Prop where
  base : ExcBaseFacts B newId initId bmB
  gC : mg nm = some (.ref C)
  cls : ∃ n1 q N bs bm sn sub ab col dd k0 k1 k2 k3 k5, K.lookup C = some (excClassObj n1 q C N bs bm true sn sub ab col dd k0 k1 k2 k3 k5 newId) ∧ Line bm bmB
  sa : findIn K (.ref C) "__setattr__" = some (some (.builtin "object.__setattr__"))
  ex : ExcC K C
  noN : findIn K (.ref C) "name" = some none
  iC : findIn K (.ref C) "__init__" = some (some (.ref fI))
  tC : typeIn K (.ref fI) = some (.type "function")
  kC : keepIn K (.ref C) = true
  tyC : typeIn K (.ref C) = some (.type "type")
  fn : ∃ (oc : Value) (od : Option Addr) (doc pm : Value) (an : Option Addr) (cdv ct : Value) (osl : Array (Option Value)) (p1 p2 q1 q2 q3 q4 : Pos),
    K.lookup fI = some ⟨oc, od, .func (fnOf "__init__" ql (iA p1 p2) (iB q1 q2 q3 q4) iS .none .none doc pm an cdv ct), osl⟩ ∧ codeIn K cdv ql = true
/-- an error made of v, at e, its own dict at d -/
structure Made (h h' : Heap) (e C d : Addr) (v : Value) : Prop where
  keep : ∀ b o, h.get? b = some o → h'.get? b = some o
  new : h.objs.size ≤ e
  obj : ∃ oe vs, h'.get? e = some oe ∧ oe.cls = .ref C ∧ oe.dict = some d ∧ oe.data = .fields vs ∧ vs[1]? = some .none
  dbig : h.objs.size ≤ d
  dne : d ≠ e
  ns : h'.Ns1 d (fun y => if y = "name" then some v else none)
section
variable {prog : Program} {w : World} {A : Around} {E : Value → Shared → Prop} {R : Result → Shared → Prop} {s : Shared} {K : Frag} {mg : Str → Option Value} {nm ql : Str} {C fI : Addr} {B newId initId : String} {bmB : List Value}
theorem made (T : Tx K mg nm ql C fI B newId initId bmB) {v : Value} (X : K.In s.heap) (hlim : s.heap.NoLimit) (hroom : A.depth + 1 < recursionLimit) (hq : ∀ h' tk e d, Made s.heap h' e C d v → R (.ok (.ret (.ref e))) { s with heap := h', toks := tk }) :
    codeAny (model prog w) A (.call (.ref C) ⟨[v], []⟩) R s := by
  obtain ⟨n1, q, N, bs, bm, sn, sub, ab, col, dd, k0, k1, k2, k3, k5, hC, ln⟩ := T.cls
  obtain ⟨oc, od, doc, pm, an, cdv, ct, osl, p1, p2, q1, q2, q3, q4, ho, hcd⟩ := T.fn
  have hcl : clsIn K C = some { name := n1, bases := bs, mro := .ref C :: bm, ns := N, qualname := q, hasDict := true, slotNames := sn, subclasses := sub, abstract := ab, collection := col, hasDel := false } := by
    unfold clsIn
    rw [hC]
  obtain ⟨hp, g, dr, tk, os⟩ := s
  have k : ∀ b o, hp.get? b = some o → ((hp.push (kdv_tup [v])).push (excO C hp.objs.size)).get? b = some o := fun b o e => Heap.get?_push_of_some _ (Heap.get?_push_of_some _ e)
  have hx : ((hp.push (kdv_tup [v])).push (excO C hp.objs.size)).get? (hp.objs.size + 1) = some (excO C hp.objs.size) := by heap_get
  refine call_own T.base ln.has (X _ _ hC) (looks_findIn X T.iC) (fun self => bind_fn X self T.tC) (one_size v) ?_
  have X1 := X.keeps k
  have lim1 : ((hp.push (kdv_tup [v])).push (excO C hp.objs.size)).NoLimit := hlim.keeps k
  have size1 : ((hp.push (kdv_tup [v])).push (excO C hp.objs.size)).objs.size = hp.objs.size + 1 + 1 := by rw [Heap.size_push, Heap.size_push]
  generalize (hp.push (kdv_tup [v])).push (excO C hp.objs.size) = h1 at k hx X1 lim1 size1 ⊢
  refine Att.call_fn (binds := [("self", .ref (hp.objs.size + 1)), ("name", v)]) X1 lim1 ho hcd hroom (BindsTo.of_eq (by first | rfl | with_unfolding_all rfl)) (by first | rfl | decide | with_unfolding_all rfl) (fun s₁ IC => ?_) rfl rfl rfl
  obtain ⟨h₁, tk₁, rfl⟩ := IC.toInCall.same
  have k1' : ∀ b o, h1.get? b = some o → h₁.get? b = some o := IC.toInCall.keep
  have hn := IC.toInCall.ns
  show wpAny _ _ (execs _ _) _ _ _
  refine wpAny_execs_cons (plainObj_wpAny_Assign_Attribute ?_)
  refine ldC (v := v) hn (by first | rfl | with_unfolding_all rfl | kernel_rfl) (ldC (v := .ref (hp.objs.size + 1)) hn (by first | rfl | with_unfolding_all rfl | kernel_rfl) ?_)
  refine set_plain (X1.keeps k1') (ox := excO C hp.objs.size) (od := none) ⟨k1' _ _ hx, rfl, rfl, trivial⟩ T.sa ?_
  refine store_err (X1.keeps k1') (k1' _ _ hx) hcl (bmB := bmB) ln.own rfl rfl T.noN (fun h₃ tk₃ dx k₃ dn dne hx₃ hn₃ => ?_)
  show wpAny _ _ (execs _ _) _ _ _
  have z : h1.objs.size < h₁.objs.size := hn.lt
  have lt_ : ∀ {b : Addr} {o : Obj}, hp.get? b = some o → b ≠ hp.objs.size + 1 := fun {b o} e => Nat.ne_of_lt (Nat.lt_succ_of_lt (Heap.lt_size e))
  refine wpAny_execs_nil ⟨rfl, hq h₃ tk₃ (hp.objs.size + 1) dx ⟨fun b o e => k₃ b o (lt_ e) (k1' b o (k b o e)), Nat.le_succ _, ⟨_, _, hx₃, rfl, rfl, rfl, rfl⟩, ?_, dne, hn₃⟩⟩
  have dn' : h₁.objs.size ≤ dx := dn
  show hp.objs.size ≤ dx
  omega
end
end Of_name
section
variable {X : Cx} {nm ql : Str} {C fI : Addr} {B newId initId : String} {bmB : List Value}
theorem relO_name {v : V} {v' : Value} (r : RelV v v') (f : Str) : RelO (List.lookup f [(("name" : Str), v)]) (if f = "name" then some v' else none) := by
  by_cases hw : f = "name"
  · subst hw
    rw [if_pos rfl]
    have q : List.lookup ("name" : Str) [(("name" : Str), v)] = some v := by simp [List.lookup]
    rw [q]
    exact r
  · rw [if_neg hw]
    have qw : (f == ("name" : Str)) = false := by simpa using hw
    have q2 : List.lookup f [(("name" : Str), v)] = none := by simp [List.lookup, qw]
    rw [q2]
    trivial
/-- nm(e) -/
def tMk_name (C : Addr) (ta : TA) : L2.St → Hp → XK → Prop := fun σ H Q => ta σ H fun vs H1 => ∃ v, vs = [v] ∧ ∀ d, H1 d = none → Q (.ref C) (some d) (upd H1 d (.xd [(("name" : Str), v)]))
theorem pmk_name {a : Expr} {ta : TA} {p pos : Pos} {k : Nat} (T : Of_name.Tx X.K X.mg nm ql C fI B newId initId bmB) (hr : Room k X.A) (ha : PA X [a] ta) (hg : Gl X nm := by rfl) (hdb : (nm == ("__debug__" : Str)) = false := by decide)
    (he : starEach (a :: []) X.env = (false, eval a X.env) :: starEach [] X.env := by rfl) (hpl : (backTo pos (starEach [] X.env)).any (·.1) = false := by rfl) :
    PMk X (.Call (.Name nm p) [a] [] pos) (tMk_name C ta) := by
  intro pins s σ H Q I h
  refine wpAny_Call_Name_kw (ld_glob I hg T.gC ?_ hdb)
  refine PySem.W.callWith_K (h₀ := X.base) I.ok.mod.kin T.kC (thn (ha.run pos pins s σ H _ I h) fun us s1 hh => ?_) he hpl
  obtain ⟨vs, H1, I1, r1, v, ev, q1⟩ := hh
  subst ev
  refine ⟨I1.kIn, ?_⟩
  cases r1 with
  | cons rv rn =>
    rename_i v' us'
    cases rn
    show wpAny _ _ (call (.ref C) [v']) _ _ _
    have hlim := I1.nolimit
    obtain ⟨hp, g, dr, tk, os⟩ := s1
    refine wpAny_call (Of_name.made T I1.kIn hlim (by have := hr.dp; omega) fun h' tk' e d M => ?_)
    show MkP X pins σ Q (.ref e) ⟨h', g, dr, tk', os⟩
    obtain ⟨oe, fv, hoe, hc, hd, hdat, h1⟩ := M.obj
    have hns := M.ns
    obtain ⟨G', g1, g2⟩ := restrict h' fun b => decide (b ≠ e)
    have gk : ∀ b, b ≠ e → G'.get? b = h'.get? b := fun b hb => g1 b (decide_eq_true hb)
    have ge : G'.get? e = none := g2 e (by simp)
    have old : ∀ b o, hp.get? b = some o → G'.get? b = some o := fun b o q => (gk b (Nat.ne_of_lt (Nat.lt_of_lt_of_le (Heap.lt_size q) M.new))).trans (M.keep b o q)
    have ob : ObjOk X.prog X.w (upd H1 d (.xd [(("name" : Str), v)])) G' d (.xd [(("name" : Str), v)]) :=
      ⟨_, hns.at (fun o q => (gk d M.dne).trans q), fun f => relO_name rv f⟩
    have J : L2.Inv X pins σ (upd H1 d (.xd [(("name" : Str), v)])) ⟨G', g, dr, tk', os⟩ := I1.laid (t' := tk') old M.dbig ob
    refine ⟨e, oe, fv, ⟨G', g, dr, tk', os⟩, _, .ref C, some d, rfl, J, fun b o q => ?_, ge, hoe, ⟨hc, hd⟩, hdat, h1, ?_, rfl, I1.bare, raises_own T.ex.hs T.tyC, q1 d (I1.hok.fresh M.dbig)⟩
    · by_cases hb : b = e
      · have q' : G'.get? b = some o := q
        rw [hb, ge] at q'
        cases q'
      · exact (gk b hb).symm.trans q
    · rw [upd_ne (Ne.symm M.dne)]
      exact I1.hok.fresh M.new
/-- raise nm(e) -/
def tRaise_name (C : Addr) (W : WX) (ta : TA) : TS := fun _ σ H => tMk_name C ta σ H fun cls d H' => W cls d σ H'
theorem ps_raise_name {a : Expr} {ta : TA} {W : WX} {p pos pos2 : Pos} {k : Nat} (hc : X.calm = true) (T : Of_name.Tx X.K X.mg nm ql C fI B newId initId bmB) (hr : Room k X.A) (tk : Takes X W) (ha : PA X [a] ta) (hg : Gl X nm := by rfl) (hdb : (nm == ("__debug__" : Str)) = false := by decide)
    (he : starEach (a :: []) X.env = (false, eval a X.env) :: starEach [] X.env := by rfl) (hpl : (backTo pos (starEach [] X.env)).any (·.1) = false := by rfl) :
    PS X (.Raise (some (.Call (.Name nm p) [a] [] pos)) none pos2) (tRaise_name C W ta) := ps_raise hc tk (pmk_name T hr ha hg hdb he hpl)
/-- e.name, e a kept error -/
def tGet_name (K : PySem.W.Frag) (te : TE) : TE := fun σ H Q => te σ H fun x H1 => ∃ (a C dd : Addr) (v : V), x = .ref a ∧ H1 a = some (ExH (.ref C) (some dd) a) ∧ ExcC K C ∧ PySem.W.findIn K (.ref C) "name" = some none ∧ H1 dd = some (.xd [(("name" : Str), v)]) ∧ Q v H1
theorem pe_get_name {e : Expr} {te : TE} {pos : Pos} (he : PE X e te) (hb : attributeBase e "name" X.env (eval e X.env) = eval e X.env := by rfl) : PE X (.Attribute e "name" pos) (tGet_name X.K te) := by
  constructor
  intro pins s σ H Q I h
  refine attr_of hb (thn (he.run pins s σ H _ I h) ?_)
  rintro u s1 ⟨x, H1, I1, rx, a, C, dd, v, rfl, ha, EC, noN, hdd, q⟩
  cases (show u = Value.ref a from rx)
  obtain ⟨oe, od, J, hod⟩ := held_at I1 ha (.inr ⟨dd, _, rfl, hdd⟩)
  obtain ⟨mA, hns, hr⟩ := I1.hok dd _ hdd
  obtain ⟨o, ho, hl⟩ := lookIn_ns hns
  obtain ⟨o', eo, ho'⟩ := hod dd _ rfl hdd
  rw [ho] at ho'
  cases ho'
  subst eo
  have l : List.lookup ("name" : Str) [(("name" : Str), v)] = some v := by simp [List.lookup]
  obtain ⟨u, hu, ru⟩ := RelO.some_of (v := v) (o := mA "name") (by rw [← l]; exact hr "name")
  exact HandSPX.exc_get I1.kIn J EC.hg EC.hk EC.hs (PySem.W.findObj_own EC.hd noN rfl (by rw [hl, hu])) (handed_of ru) ⟨v, H1, I1.tok _, ru, q⟩
end
/-! ### errors of the field most -/
namespace Of_most
open PySem.W PySem.Calls PySem.HandSPX
def iA (p1 p2 : Pos) : Arguments := { posonlyargs := [], args := [{ arg := "self", annotation := none, pos := p1 }, { arg := "most", annotation := none, pos := p2 }], vararg := none, kwonlyargs := [], kw_defaults := [], kwarg := none, defaults := [] }
def iB (q1 q2 q3 q4 : Pos) : List Stmt := [.Assign [.Attribute (.Name "self" q1) "most" q2] (.Name "most" q3) q4]
def iS : Scope := { kind := .function, names := [(PySem.Str.ofString "self", .local), (PySem.Str.ofString "most", .local)], isGenerator := false, isCoroutine := false, more := [] }
/-- the class called nm, at C, and its __init__, at fI, as the top has left them -/
structure Tx (K : Frag) (mg : Str → Option Value) (nm ql : Str) (C fI : Addr) (B newId initId : String) (bmB : List Value) : Prop where
  base : ExcBaseFacts B newId initId bmB
  gC : mg nm = some (.ref C)
  cls : ∃ n1 q N bs bm sn sub ab col dd k0 k1 k2 k3 k5, K.lookup C = some (excClassObj n1 q C N bs bm true sn sub ab col dd k0 k1 k2 k3 k5 newId) ∧ Line bm bmB
  sa : findIn K (.ref C) "__setattr__" = some (some (.builtin "object.__setattr__"))
  ex : ExcC K C
  noN : findIn K (.ref C) "most" = some none
  iC : findIn K (.ref C) "__init__" = some (some (.ref fI))
  tC : typeIn K (.ref fI) = some (.type "function")
  kC : keepIn K (.ref C) = true
  tyC : typeIn K (.ref C) = some (.type "type")
  fn : ∃ (oc : Value) (od : Option Addr) (doc pm : Value) (an : Option Addr) (cdv ct : Value) (osl : Array (Option Value)) (p1 p2 q1 q2 q3 q4 : Pos),
    K.lookup fI = some ⟨oc, od, .func (fnOf "__init__" ql (iA p1 p2) (iB q1 q2 q3 q4) iS .none .none doc pm an cdv ct), osl⟩ ∧ codeIn K cdv ql = true
/-- an error made of v, at e, its own dict at d -/
structure Made (h h' : Heap) (e C d : Addr) (v : Value) : Prop where
  keep : ∀ b o, h.get? b = some o → h'.get? b = some o
  new : h.objs.size ≤ e
  obj : ∃ oe vs, h'.get? e = some oe ∧ oe.cls = .ref C ∧ oe.dict = some d ∧ oe.data = .fields vs ∧ vs[1]? = some .none
  dbig : h.objs.size ≤ d
  dne : d ≠ e
  ns : h'.Ns1 d (fun y => if y = "most" then some v else none)
section
variable {prog : Program} {w : World} {A : Around} {E : Value → Shared → Prop} {R : Result → Shared → Prop} {s : Shared} {K : Frag} {mg : Str → Option Value} {nm ql : Str} {C fI : Addr} {B newId initId : String} {bmB : List Value}
theorem made (T : Tx K mg nm ql C fI B newId initId bmB) {v : Value} (X : K.In s.heap) (hlim : s.heap.NoLimit) (hroom : A.depth + 1 < recursionLimit) (hq : ∀ h' tk e d, Made s.heap h' e C d v → R (.ok (.ret (.ref e))) { s with heap := h', toks := tk }) :
    codeAny (model prog w) A (.call (.ref C) ⟨[v], []⟩) R s := by
  obtain ⟨n1, q, N, bs, bm, sn, sub, ab, col, dd, k0, k1, k2, k3, k5, hC, ln⟩ := T.cls
  obtain ⟨oc, od, doc, pm, an, cdv, ct, osl, p1, p2, q1, q2, q3, q4, ho, hcd⟩ := T.fn
  have hcl : clsIn K C = some { name := n1, bases := bs, mro := .ref C :: bm, ns := N, qualname := q, hasDict := true, slotNames := sn, subclasses := sub, abstract := ab, collection := col, hasDel := false } := by
    unfold clsIn
    rw [hC]
  obtain ⟨hp, g, dr, tk, os⟩ := s
  have k : ∀ b o, hp.get? b = some o → ((hp.push (kdv_tup [v])).push (excO C hp.objs.size)).get? b = some o := fun b o e => Heap.get?_push_of_some _ (Heap.get?_push_of_some _ e)
  have hx : ((hp.push (kdv_tup [v])).push (excO C hp.objs.size)).get? (hp.objs.size + 1) = some (excO C hp.objs.size) := by heap_get
  refine call_own T.base ln.has (X _ _ hC) (looks_findIn X T.iC) (fun self => bind_fn X self T.tC) (one_size v) ?_
  have X1 := X.keeps k
  have lim1 : ((hp.push (kdv_tup [v])).push (excO C hp.objs.size)).NoLimit := hlim.keeps k
  have size1 : ((hp.push (kdv_tup [v])).push (excO C hp.objs.size)).objs.size = hp.objs.size + 1 + 1 := by rw [Heap.size_push, Heap.size_push]
  generalize (hp.push (kdv_tup [v])).push (excO C hp.objs.size) = h1 at k hx X1 lim1 size1 ⊢
  refine Att.call_fn (binds := [("self", .ref (hp.objs.size + 1)), ("most", v)]) X1 lim1 ho hcd hroom (BindsTo.of_eq (by first | rfl | with_unfolding_all rfl)) (by first | rfl | decide | with_unfolding_all rfl) (fun s₁ IC => ?_) rfl rfl rfl
  obtain ⟨h₁, tk₁, rfl⟩ := IC.toInCall.same
  have k1' : ∀ b o, h1.get? b = some o → h₁.get? b = some o := IC.toInCall.keep
  have hn := IC.toInCall.ns
  show wpAny _ _ (execs _ _) _ _ _
  refine wpAny_execs_cons (plainObj_wpAny_Assign_Attribute ?_)
  refine ldC (v := v) hn (by first | rfl | with_unfolding_all rfl | kernel_rfl) (ldC (v := .ref (hp.objs.size + 1)) hn (by first | rfl | with_unfolding_all rfl | kernel_rfl) ?_)
  refine set_plain (X1.keeps k1') (ox := excO C hp.objs.size) (od := none) ⟨k1' _ _ hx, rfl, rfl, trivial⟩ T.sa ?_
  refine store_err (X1.keeps k1') (k1' _ _ hx) hcl (bmB := bmB) ln.own rfl rfl T.noN (fun h₃ tk₃ dx k₃ dn dne hx₃ hn₃ => ?_)
  show wpAny _ _ (execs _ _) _ _ _
  have z : h1.objs.size < h₁.objs.size := hn.lt
  have lt_ : ∀ {b : Addr} {o : Obj}, hp.get? b = some o → b ≠ hp.objs.size + 1 := fun {b o} e => Nat.ne_of_lt (Nat.lt_succ_of_lt (Heap.lt_size e))
  refine wpAny_execs_nil ⟨rfl, hq h₃ tk₃ (hp.objs.size + 1) dx ⟨fun b o e => k₃ b o (lt_ e) (k1' b o (k b o e)), Nat.le_succ _, ⟨_, _, hx₃, rfl, rfl, rfl, rfl⟩, ?_, dne, hn₃⟩⟩
  have dn' : h₁.objs.size ≤ dx := dn
  show hp.objs.size ≤ dx
  omega
end
end Of_most
section
variable {X : Cx} {nm ql : Str} {C fI : Addr} {B newId initId : String} {bmB : List Value}
theorem relO_most {v : V} {v' : Value} (r : RelV v v') (f : Str) : RelO (List.lookup f [(("most" : Str), v)]) (if f = "most" then some v' else none) := by
  by_cases hw : f = "most"
  · subst hw
    rw [if_pos rfl]
    have q : List.lookup ("most" : Str) [(("most" : Str), v)] = some v := by simp [List.lookup]
    rw [q]
    exact r
  · rw [if_neg hw]
    have qw : (f == ("most" : Str)) = false := by simpa using hw
    have q2 : List.lookup f [(("most" : Str), v)] = none := by simp [List.lookup, qw]
    rw [q2]
    trivial
/-- nm(e) -/
def tMk_most (C : Addr) (ta : TA) : L2.St → Hp → XK → Prop := fun σ H Q => ta σ H fun vs H1 => ∃ v, vs = [v] ∧ ∀ d, H1 d = none → Q (.ref C) (some d) (upd H1 d (.xd [(("most" : Str), v)]))
theorem pmk_most {a : Expr} {ta : TA} {p pos : Pos} {k : Nat} (T : Of_most.Tx X.K X.mg nm ql C fI B newId initId bmB) (hr : Room k X.A) (ha : PA X [a] ta) (hg : Gl X nm := by rfl) (hdb : (nm == ("__debug__" : Str)) = false := by decide)
    (he : starEach (a :: []) X.env = (false, eval a X.env) :: starEach [] X.env := by rfl) (hpl : (backTo pos (starEach [] X.env)).any (·.1) = false := by rfl) :
    PMk X (.Call (.Name nm p) [a] [] pos) (tMk_most C ta) := by
  intro pins s σ H Q I h
  refine wpAny_Call_Name_kw (ld_glob I hg T.gC ?_ hdb)
  refine PySem.W.callWith_K (h₀ := X.base) I.ok.mod.kin T.kC (thn (ha.run pos pins s σ H _ I h) fun us s1 hh => ?_) he hpl
  obtain ⟨vs, H1, I1, r1, v, ev, q1⟩ := hh
  subst ev
  refine ⟨I1.kIn, ?_⟩
  cases r1 with
  | cons rv rn =>
    rename_i v' us'
    cases rn
    show wpAny _ _ (call (.ref C) [v']) _ _ _
    have hlim := I1.nolimit
    obtain ⟨hp, g, dr, tk, os⟩ := s1
    refine wpAny_call (Of_most.made T I1.kIn hlim (by have := hr.dp; omega) fun h' tk' e d M => ?_)
    show MkP X pins σ Q (.ref e) ⟨h', g, dr, tk', os⟩
    obtain ⟨oe, fv, hoe, hc, hd, hdat, h1⟩ := M.obj
    have hns := M.ns
    obtain ⟨G', g1, g2⟩ := restrict h' fun b => decide (b ≠ e)
    have gk : ∀ b, b ≠ e → G'.get? b = h'.get? b := fun b hb => g1 b (decide_eq_true hb)
    have ge : G'.get? e = none := g2 e (by simp)
    have old : ∀ b o, hp.get? b = some o → G'.get? b = some o := fun b o q => (gk b (Nat.ne_of_lt (Nat.lt_of_lt_of_le (Heap.lt_size q) M.new))).trans (M.keep b o q)
    have ob : ObjOk X.prog X.w (upd H1 d (.xd [(("most" : Str), v)])) G' d (.xd [(("most" : Str), v)]) :=
      ⟨_, hns.at (fun o q => (gk d M.dne).trans q), fun f => relO_most rv f⟩
    have J : L2.Inv X pins σ (upd H1 d (.xd [(("most" : Str), v)])) ⟨G', g, dr, tk', os⟩ := I1.laid (t' := tk') old M.dbig ob
    refine ⟨e, oe, fv, ⟨G', g, dr, tk', os⟩, _, .ref C, some d, rfl, J, fun b o q => ?_, ge, hoe, ⟨hc, hd⟩, hdat, h1, ?_, rfl, I1.bare, raises_own T.ex.hs T.tyC, q1 d (I1.hok.fresh M.dbig)⟩
    · by_cases hb : b = e
      · have q' : G'.get? b = some o := q
        rw [hb, ge] at q'
        cases q'
      · exact (gk b hb).symm.trans q
    · rw [upd_ne (Ne.symm M.dne)]
      exact I1.hok.fresh M.new
/-- raise nm(e) -/
def tRaise_most (C : Addr) (W : WX) (ta : TA) : TS := fun _ σ H => tMk_most C ta σ H fun cls d H' => W cls d σ H'
theorem ps_raise_most {a : Expr} {ta : TA} {W : WX} {p pos pos2 : Pos} {k : Nat} (hc : X.calm = true) (T : Of_most.Tx X.K X.mg nm ql C fI B newId initId bmB) (hr : Room k X.A) (tk : Takes X W) (ha : PA X [a] ta) (hg : Gl X nm := by rfl) (hdb : (nm == ("__debug__" : Str)) = false := by decide)
    (he : starEach (a :: []) X.env = (false, eval a X.env) :: starEach [] X.env := by rfl) (hpl : (backTo pos (starEach [] X.env)).any (·.1) = false := by rfl) :
    PS X (.Raise (some (.Call (.Name nm p) [a] [] pos)) none pos2) (tRaise_most C W ta) := ps_raise hc tk (pmk_most T hr ha hg hdb he hpl)
/-- e.most, e a kept error -/
def tGet_most (K : PySem.W.Frag) (te : TE) : TE := fun σ H Q => te σ H fun x H1 => ∃ (a C dd : Addr) (v : V), x = .ref a ∧ H1 a = some (ExH (.ref C) (some dd) a) ∧ ExcC K C ∧ PySem.W.findIn K (.ref C) "most" = some none ∧ H1 dd = some (.xd [(("most" : Str), v)]) ∧ Q v H1
theorem pe_get_most {e : Expr} {te : TE} {pos : Pos} (he : PE X e te) (hb : attributeBase e "most" X.env (eval e X.env) = eval e X.env := by rfl) : PE X (.Attribute e "most" pos) (tGet_most X.K te) := by
  constructor
  intro pins s σ H Q I h
  refine attr_of hb (thn (he.run pins s σ H _ I h) ?_)
  rintro u s1 ⟨x, H1, I1, rx, a, C, dd, v, rfl, ha, EC, noN, hdd, q⟩
  cases (show u = Value.ref a from rx)
  obtain ⟨oe, od, J, hod⟩ := held_at I1 ha (.inr ⟨dd, _, rfl, hdd⟩)
  obtain ⟨mA, hns, hr⟩ := I1.hok dd _ hdd
  obtain ⟨o, ho, hl⟩ := lookIn_ns hns
  obtain ⟨o', eo, ho'⟩ := hod dd _ rfl hdd
  rw [ho] at ho'
  cases ho'
  subst eo
  have l : List.lookup ("most" : Str) [(("most" : Str), v)] = some v := by simp [List.lookup]
  obtain ⟨u, hu, ru⟩ := RelO.some_of (v := v) (o := mA "most") (by rw [← l]; exact hr "most")
  exact HandSPX.exc_get I1.kIn J EC.hg EC.hk EC.hs (PySem.W.findObj_own EC.hd noN rfl (by rw [hl, hu])) (handed_of ru) ⟨v, H1, I1.tok _, ru, q⟩
end
end Pk
namespace Pk
open PySem L2
theorem same_upd {H : Hp} {p : Addr} {o : HO} (h : H p = none) : Same H (upd H p o) := fun b x e => by
  rw [upd_ne (ne_of_none e h)]
  exact e
end Pk
namespace Pk
open PySem L2
def top (i : Nat) : Stmt := PySem.Challenge.pw_paperkin_k03_families_of_refusals.main.body.getD i (.Pass ⟨0, 0, 0, 0⟩)
abbrev sMixed : Stmt := top 17
abbrev sStream : Stmt := top 18
abbrev sTake : Stmt := top 19
abbrev sWord : Stmt := top 20
abbrev sNameBy : Stmt := top 21
abbrev sKinds : Stmt := top 22
abbrev sThingBy : Stmt := top 23
abbrev sRows : Stmt := top 24
abbrev sLaw : Stmt := top 25
def inCls (st : Stmt) (i : Nat) : Stmt := match st with
  | .ClassDef (body := b) .. => b.getD i (.Pass ⟨0, 0, 0, 0⟩)
  | _ => st
abbrev sBadStr : Stmt := inCls (top 7) 1
abbrev sSuchStr : Stmt := inCls (top 9) 1
abbrev sManyStr : Stmt := inCls (top 11) 1
/-! ### promises of the law's helpers -/
/-- some number that isn't negative -/
def spMixed : Sp := fun vs H Q _ => ∃ (n k : Int), vs = [.int n, .int k] ∧ 0 ≤ k ∧ k ≤ 100000 ∧ ∀ v : Int, 0 ≤ v → Q (.int v) H
/-- a stream's list, t numbers taken -/
def StrmAt (H : Hp) (s : Addr) (t : Int) : Prop := ∃ (b : Bool) (c m : Int), H s = some (.lst [.bl b, .int c, .int t, .int m])
def spStream : Sp := fun vs H Q _ => ∃ (c k : Int), vs = [.int c, .int k] ∧ 0 ≤ k ∧ k ≤ 100000 ∧ ∀ (p : Addr) (o : HO), H p = none → StrmAt (upd H p o) p 0 → Q (.ref p) (upd H p o)
/-- a number below many; only the stream's own list is otherwise -/
def But (s : Addr) (H H' : Hp) : Prop := ∀ q o, q ≠ s → H q = some o → H' q = some o
theorem But.refl {s : Addr} {H : Hp} : But s H H := fun _ _ _ h => h
theorem But.trans {s : Addr} {H H1 H2 : Hp} (a : But s H H1) (b : But s H1 H2) : But s H H2 := fun q o n h => b q o n (a q o n h)
theorem But.new {s p : Addr} {H : Hp} {o : HO} (h : H p = none) : But s H (upd H p o) := fun q u _ e => by
  rw [upd_ne (ne_of_none e h)]
  exact e
theorem But.at {s : Addr} {H : Hp} {o : HO} : But s H (upd H s o) := fun q u n e => by
  rw [upd_ne n]
  exact e
theorem But.same {s : Addr} {H H' : Hp} (a : Same H H') : But s H H' := fun q o _ e => a q o e
def spTake : Sp := fun vs H Q _ => ∃ (s : Addr) (t many : Int), vs = [.ref s, .int many] ∧ StrmAt H s t ∧ 0 ≤ t ∧ t < 100000 ∧ 0 < many ∧ many < 1000000 ∧
  ∀ (v : Int) (H' : Hp), 0 ≤ v → v < many → But s H H' → StrmAt H' s (t + 1) → Q (.int v) H'
section
variable {P : Program} {w : World} {K : PySem.W.Frag} {mg : Str → Option Value} {base : Heap}
theorem scMixed : FnScope ["_law_number", "_law_k"] ["_law_number", "_law_k"] (defScope sMixed) := ⟨rfl, rfl, rfl, by decide +kernel, rfl, by decide +kernel, by decide +kernel⟩
theorem ok_mixed {f : Addr} {fd : FuncData} (F : Fun K "_law_mixed" "_law_mixed" sMixed f fd) : FnOk P w K mg base CX0 1 f fd ["_law_number", "_law_k"] spMixed := by
  refine F.ok scMixed (fun vs H Q E h => ?_) (fun cdv A outer s H vs Q E hr h => ?_)
  · obtain ⟨n, k, rfl, _⟩ := h
    rfl
  · obtain ⟨n, k, rfl, k0, k1, q⟩ := h
    refine ⟨_, pss_cons (ps_set (i := 0) scMixed.nd rfl (.inl rfl) (pe_op op_mod (pe_op op_pow (pe_op op_add (pe_op op_add (pe_op op_add (pe_op op_mod (pv 0) pe_int) (pe_op op_mul (pe_op op_mul pe_int (pv 1)) (pv 1))) (pe_op op_mul pe_int (pv 1))) pe_int) pe_int) pe_int))
      (pss_one (ps_ret (pe_op op_fdiv (pe_op op_mod (pe_op op_mul (pv 0) (pe_op op_add pe_int (pe_op op_mul pe_int (pv 1)))) pe_int) pe_int))), ?_⟩
    have b1 : n % 2147483647 < 2147483647 := Int.emod_lt_of_pos _ (by decide)
    have b0 : 0 ≤ n % 2147483647 := Int.emod_nonneg _ (by decide)
    have kk : 7919 * k * k ≤ 7919 * 100000 * 100000 := Int.mul_le_mul (by omega) k1 k0 (by decide)
    have kk0 : 0 ≤ 7919 * k * k := Int.mul_nonneg (by omega) k0
    refine ⟨_, rfl, _, _, rfl, rfl, (by show (0 : Int) < 2147483647; decide), _, rfl, _, _, rfl, rfl, .inl ⟨by decide, by decide⟩, _, rfl, _, _, rfl, rfl, .inl ⟨by omega, by omega⟩, _, _, rfl, rfl, _, rfl, _, _, rfl, rfl, .inl ⟨by decide, by decide⟩, _, _, rfl, rfl, _, _, rfl, rfl, _, _, rfl, rfl, ⟨by decide, by decide, by omega⟩, _, _, rfl, rfl, (by show (0 : Int) < 2147483629; decide), ?_⟩
    refine ⟨_, rfl, _, rfl, _, _, rfl, rfl, .inl ⟨by decide, by decide⟩, _, _, rfl, rfl, _, _, rfl, rfl, .inr ⟨by omega, by omega⟩, _, _, rfl, rfl, (by show (0 : Int) < 2147483587; decide), _, _, rfl, rfl, ⟨by decide, by decide⟩, ?_⟩
    exact q _ (Int.ediv_nonneg (Int.emod_nonneg _ (by decide)) (by decide))
theorem scStream : FnScope ["_law_cell", "_law_k"] ["_law_cell", "_law_k"] (defScope sStream) := ⟨rfl, rfl, rfl, by decide +kernel, rfl, by decide +kernel, by decide +kernel⟩
theorem ok_stream {f fM : Addr} {fd fdM : FuncData} (F : Fun K "_law_stream" "_law_stream" sStream f fd) (FM : Fun K "_law_mixed" "_law_mixed" sMixed fM fdM) (bM : Binds K fdM ["_law_number", "_law_k"] []) (gM : mg "_law_mixed" = some (.ref fM)) :
    FnOk P w K mg base CX0 2 f fd ["_law_cell", "_law_k"] spStream := by
  have GM : FnOk P w K mg base CX0 1 fM fdM ["_law_number", "_law_k"] spMixed := ok_mixed FM
  refine F.ok scStream (fun vs H Q E h => ?_) (fun cdv A outer s H vs Q E hr h => ?_)
  · obtain ⟨n, k, rfl, _⟩ := h
    rfl
  · obtain ⟨c, k, rfl, k0, k1, q⟩ := h
    refine ⟨_, pss_one (ps_ret (pe_lst (pa_cons (pe_cmpR op_ge (pv 0) (pe_op op_pow pe_int pe_int) (nomark _)) (pa_cons (pv 0) (pa_cons pe_int (pa_cons (pe_call GM hr (by rfl) gM FM.kp bM .nil pass0 (pa_cons (pv 0) (pa_cons (pv 1) pa_nil))) pa_nil)))))), ?_⟩
    refine ⟨_, rfl, _, _, rfl, rfl, ⟨by decide, by decide, by decide⟩, _, _, rfl, rfl, _, rfl, _, rfl, _, rfl, c, k, rfl, k0, k1, fun v v0 => ?_⟩
    exact ⟨by show 4 ≤ sizeLine; decide, fun p hp => q p _ hp ⟨_, _, _, upd_same⟩⟩
theorem scTake : FnScope ["_law_stream_here", "_law_many", "_law_number"] ["_law_stream_here", "_law_many"] (defScope sTake) := ⟨rfl, rfl, rfl, by decide +kernel, rfl, by decide +kernel, by decide +kernel⟩
theorem upd_upd {H : Hp} {a : Addr} {o o' : HO} : upd (upd H a o) a o' = upd H a o' := by
  funext b
  unfold upd
  by_cases h : b = a
  · rw [if_pos h, if_pos h]
  · rw [if_neg h, if_neg h, if_neg h]
theorem ok_take {f fM : Addr} {fd fdM : FuncData} (F : Fun K "_law_take" "_law_take" sTake f fd) (FM : Fun K "_law_mixed" "_law_mixed" sMixed fM fdM) (bM : Binds K fdM ["_law_number", "_law_k"] []) (gM : mg "_law_mixed" = some (.ref fM)) :
    FnOk P w K mg base CX0 2 f fd ["_law_stream_here", "_law_many"] spTake := by
  have GM : FnOk P w K mg base CX0 1 fM fdM ["_law_number", "_law_k"] spMixed := ok_mixed FM
  refine F.ok scTake (fun vs H Q E h => ?_) (fun cdv A outer s H vs Q E hr h => ?_)
  · obtain ⟨n, k, m, rfl, _⟩ := h
    rfl
  · obtain ⟨a, t, many, rfl, ⟨b, c, m, ha⟩, t0, t1, m0, m1, q⟩ := h
    refine ⟨_, pss_cons (ps_asg (pe_op op_add (pe_ix ix_list (pv 0) pe_int (fun _ _ => rfl)) pe_int) (pg_sub (pv 0) pe_int set_list))
      (pss_cons (ps_if (PW.pt (pw_or (pt_not (pt_val (pe_ix ix_list (pv 0) pe_int (fun _ _ => rfl)))) (pw_or (pt_cmpR op_in_seq (pe_ix ix_list (pv 0) pe_int (fun _ _ => rfl)) (pe_tup (pa_cons pe_int (pa_cons (pe_un un_neg pe_int) pa_nil))) (by rfl))
          (pw_or1 (pt_cmpR op_gt (pe_ix ix_list (pv 0) pe_int (fun _ _ => rfl)) pe_int (nomark _))))))
        (pss_one (ps_ret (pe_op op_mod (pe_op op_fdiv (pe_call GM hr (by rfl) gM FM.kp bM .nil pass0 (pa_cons (pe_op op_add (pe_ix ix_list (pv 0) pe_int (fun _ _ => rfl)) (pe_op op_mul pe_int (pe_ix ix_list (pv 0) pe_int (fun _ _ => rfl)))) (pa_cons (pe_ix ix_list (pv 0) pe_int (fun _ _ => rfl)) pa_nil))) pe_int) (pv 1)))) pss_nil)
      (pss_cons (ps_set (i := 2) scTake.nd rfl (.inl rfl) (pe_op op_mod (pe_ix ix_list (pv 0) pe_int (fun _ _ => rfl)) (pv 1)))
      (pss_cons (ps_asg (pe_op op_fdiv (pe_ix ix_list (pv 0) pe_int (fun _ _ => rfl)) (pv 1)) (pg_sub (pv 0) pe_int set_list))
      (pss_one (ps_ret (pv 2)))))), ?_⟩
    refine ⟨_, rfl, a, _, _, _, rfl, rfl, SqL.of ha, atI_nat (j := 2) rfl, _, _, rfl, rfl, _, rfl, a, _, _, 2, rfl, rfl, ha, rfl, ?_⟩
    have h1 : upd H a (.lst [.bl b, .int c, .int (t + 1), .int m]) a = some (.lst [.bl b, .int c, .int (t + 1), .int m]) := upd_same
    have u1 : But a H (upd H a (.lst [.bl b, .int c, .int (t + 1), .int m])) := But.at
    show tSeq _ _ _ _ (upd H a (.lst [.bl b, .int c, .int (t + 1), .int m]))
    generalize upd H a (.lst [.bl b, .int c, .int (t + 1), .int m]) = H1 at h1 u1
    -- not stream[0]
    refine ⟨_, rfl, a, _, _, _, rfl, rfl, SqL.of h1, atI_nat (j := 0) rfl, _, rfl, ?_⟩
    cases b with
    | false =>
      refine iteT ?_
      have h2 := h1
      have u2 := u1
      refine ⟨_, rfl, a, _, _, _, rfl, rfl, SqL.of h2, atI_nat (j := 3) rfl, _, rfl, a, _, _, _, rfl, rfl, SqL.of h2, atI_nat (j := 2) rfl, _, _, rfl, rfl, .inl ⟨by decide, by decide⟩, _, _, rfl, rfl, _, rfl, a, _, _, _, rfl, rfl, SqL.of h2, atI_nat (j := 2) rfl, _, _, rfl, by omega, by omega, fun v v0 => ?_⟩
      exact ⟨_, _, rfl, rfl, ⟨by decide, by decide⟩, _, rfl, _, _, rfl, rfl, m0, q _ _ (Int.emod_nonneg _ (by omega)) (Int.emod_lt_of_pos _ m0) u2 ⟨_, _, _, h2⟩⟩
    | true =>
      refine iteF ?_
      -- stream[1] in (0, -1)
      refine ⟨_, rfl, a, _, _, _, rfl, rfl, SqL.of h1, atI_nat (j := 1) rfl, _, rfl, by show 2 ≤ sizeLine; decide, fun p hp => ?_⟩
      have h2 : upd H1 p (.tup [.int 0, .int (-1)]) a = some (.lst [.bl true, .int c, .int (t + 1), .int m]) := by
        rw [upd_ne (ne_of_none h1 hp)]
        exact h1
      have u2 : But a H (upd H1 p (.tup [.int 0, .int (-1)])) := u1.trans (But.new hp)
      refine ⟨p, _, rfl, .inr (SqT.of upd_same), rfl, rfl, _, rfl, ?_⟩
      generalize upd H1 p (.tup [.int 0, .int (-1)]) = H2 at h2 u2
      refine ite2 (fun _ => ?_) (fun _ => ?_)
      · refine ⟨_, rfl, a, _, _, _, rfl, rfl, SqL.of h2, atI_nat (j := 3) rfl, _, rfl, a, _, _, _, rfl, rfl, SqL.of h2, atI_nat (j := 2) rfl, _, _, rfl, rfl, .inl ⟨by decide, by decide⟩, _, _, rfl, rfl, _, rfl, a, _, _, _, rfl, rfl, SqL.of h2, atI_nat (j := 2) rfl, _, _, rfl, by omega, by omega, fun v v0 => ?_⟩
        exact ⟨_, _, rfl, rfl, ⟨by decide, by decide⟩, _, rfl, _, _, rfl, rfl, m0, q _ _ (Int.emod_nonneg _ (by omega)) (Int.emod_lt_of_pos _ m0) u2 ⟨_, _, _, h2⟩⟩
      · -- stream[2] > 60
        refine ⟨_, rfl, a, _, _, _, rfl, rfl, SqL.of h2, atI_nat (j := 2) rfl, _, _, rfl, rfl, _, rfl, ?_⟩
        refine ite2 (fun _ => ?_) (fun _ => ?_)
        · refine ⟨_, rfl, a, _, _, _, rfl, rfl, SqL.of h2, atI_nat (j := 3) rfl, _, rfl, a, _, _, _, rfl, rfl, SqL.of h2, atI_nat (j := 2) rfl, _, _, rfl, rfl, .inl ⟨by decide, by decide⟩, _, _, rfl, rfl, _, rfl, a, _, _, _, rfl, rfl, SqL.of h2, atI_nat (j := 2) rfl, _, _, rfl, by omega, by omega, fun v v0 => ?_⟩
          exact ⟨_, _, rfl, rfl, ⟨by decide, by decide⟩, _, rfl, _, _, rfl, rfl, m0, q _ _ (Int.emod_nonneg _ (by omega)) (Int.emod_lt_of_pos _ m0) u2 ⟨_, _, _, h2⟩⟩
        · refine ⟨_, rfl, a, _, _, _, rfl, rfl, SqL.of h2, atI_nat (j := 1) rfl, _, rfl, _, _, rfl, rfl, m0, ?_⟩
          refine ⟨_, rfl, a, _, _, _, rfl, rfl, SqL.of h2, atI_nat (j := 1) rfl, _, rfl, _, _, rfl, rfl, ⟨m0, by omega⟩, _, rfl, a, _, _, 1, rfl, rfl, h2, rfl, ?_⟩
          exact ⟨_, rfl, q _ _ (Int.emod_nonneg _ (by omega)) (Int.emod_lt_of_pos _ m0) (u2.trans But.at) ⟨_, _, _, upd_same⟩⟩
end
/-! ### the word of a refusal -/
def lawWords : List Str := ["wish", "paper", "sheet", "line", "gone", "question", "text", "such", "place", "many", "kind", "unmet", "answers", "twice"]
/-- the words whose class it is -/
def told (bs : List Bool) : List Str := ((lawWords.zip bs).filter (·.2)).map (·.1)
def wordOf (bs : List Bool) : Str := match told bs with
  | [x] => x
  | _ => "another"
/-- the fourteen classes, as the top has left them -/
structure Fourteen (mg : Str → Option Value) (c : Nat → Addr) : Prop where
  g0 : mg "BadWish" = some (.ref (c 0))
  g1 : mg "BadPaper" = some (.ref (c 1))
  g2 : mg "BadSheet" = some (.ref (c 2))
  g3 : mg "BadLine" = some (.ref (c 3))
  g4 : mg "Gone" = some (.ref (c 4))
  g5 : mg "BadQuestion" = some (.ref (c 5))
  g6 : mg "BadText" = some (.ref (c 6))
  g7 : mg "NoSuch" = some (.ref (c 7))
  g8 : mg "NoPlace" = some (.ref (c 8))
  g9 : mg "TooMany" = some (.ref (c 9))
  g10 : mg "BadKind" = some (.ref (c 10))
  g11 : mg "Unmet" = some (.ref (c 11))
  g12 : mg "NoAnswers" = some (.ref (c 12))
  g13 : mg "Twice" = some (.ref (c 13))
/-- which of them the class D is -/
def Kits (K : PySem.W.Frag) (c : Nat → Addr) (D : Addr) (bs : Nat → Bool) : Prop := ∀ i, i < 14 → PySem.W.kitOne K (.ref D) (.ref (c i)) = some (bs i)
def list14 (bs : Nat → Bool) : List Bool := [bs 0, bs 1, bs 2, bs 3, bs 4, bs 5, bs 6, bs 7, bs 8, bs 9, bs 10, bs 11, bs 12, bs 13]
theorem DictOk.same {H H' : Hp} {d : Option Addr} (h : DictOk H d) (s : Same H H') : DictOk H' d := by
  rcases h with h | ⟨dd, fs, e, q⟩
  · exact .inl h
  · exact .inr ⟨dd, fs, e, s _ _ q⟩
def spWord (K : PySem.W.Frag) (c : Nat → Addr) : Sp := fun vs H Q _ => ∃ (a D : Addr) (d : Option Addr) (bs : Nat → Bool), vs = [.ref a] ∧ H a = some (ExH (.ref D) d a) ∧ DictOk H d ∧ ExcC K D ∧ Kits K c D bs ∧ ∀ H' : Hp, Same H H' → Q (.str (wordOf (list14 bs))) H'
section
variable {P : Program} {w : World} {K : PySem.W.Frag} {mg : Str → Option Value} {base : Heap}
theorem scWord : FnScope ["_law_error", "_law_found", "_law_words", "_law_told", "_law_word_here", "_law_good"] ["_law_error"] (defScope sWord) := ⟨rfl, rfl, rfl, by decide +kernel, rfl, by decide +kernel, by decide +kernel⟩
theorem isi {X : Cx} {x : Str} {p p1 p2 pos : Pos} {a : Addr} (mi : X.mg "isinstance" = none) (g : X.mg x = some (.ref a)) (hi : Gl X "isinstance" := by rfl) (hg : Gl X x := by rfl) (hN : X.N[0]? = some ("_law_error" : Str) := by rfl) (hv : Vis X.env.scope "_law_error" := by exact Or.inl rfl) (hd : (x == ("__debug__" : Str)) = false := by decide) :
    PE X (.Call (.Name "isinstance" p) [.Name "_law_error" p1, .Name x p2] [] pos) (tCB (rIsK X.K) (tCons (tVar 0) (tCons (tC (.ref a)) tNil))) :=
  pe_callB call_isK hi mi (by decide +kernel) (pa_cons (pe_var hN hv) (pa_cons (pe_glob (v := .ref a) hg g rfl hd) pa_nil))
theorem ok_word {f : Addr} {fd : FuncData} {c : Nat → Addr} (F : Fun K "_law_word" "_law_word" sWord f fd) (T : Fourteen mg c) (mi : mg "isinstance" = none) (mz : mg "zip" = none) (ml : mg "len" = none) : FnOk P w K mg base CX0 1 f fd ["_law_error"] (spWord K c) := by
  refine F.ok scWord (fun vs H Q E h => ?_) (fun cdv A outer s H vs Q E hr h => ?_)
  · obtain ⟨a, D, d, bs, rfl, _⟩ := h
    rfl
  · obtain ⟨a, D, d, bs, rfl, ha, hdk, XC, kt, q⟩ := h
    refine ⟨_, pss_cons (ps_if (pt_cmpR op_isN (pv 0) pe_non (nomark _)) (pss_one (ps_ret pe_str)) pss_nil)
      (pss_cons (ps_set (i := 1) scWord.nd rfl (.inl rfl) (pe_lst (pa_cons (isi mi T.g0) (pa_cons (isi mi T.g1) (pa_cons (isi mi T.g2) pa_nil)))))
      (pss_cons (ps_set (i := 1) scWord.nd rfl (.inl rfl) (pe_op op_cat (pv 1) (pe_lst (pa_cons (isi mi T.g3) (pa_cons (isi mi T.g4) (pa_cons (isi mi T.g5) pa_nil))))))
      (pss_cons (ps_set (i := 1) scWord.nd rfl (.inl rfl) (pe_op op_cat (pv 1) (pe_lst (pa_cons (isi mi T.g6) (pa_cons (isi mi T.g7) (pa_cons (isi mi T.g8) pa_nil))))))
      (pss_cons (ps_set (i := 1) scWord.nd rfl (.inl rfl) (pe_op op_cat (pv 1) (pe_lst (pa_cons (isi mi T.g9) (pa_cons (isi mi T.g10) (pa_cons (isi mi T.g11) pa_nil))))))
      (pss_cons (ps_set (i := 1) scWord.nd rfl (.inl rfl) (pe_op op_cat (pv 1) (pe_lst (pa_cons (isi mi T.g12) (pa_cons (isi mi T.g13) pa_nil)))))
      (pss_cons (ps_set (i := 2) scWord.nd rfl (.inl rfl) (pe_lst (pa_cons pe_str (pa_cons pe_str (pa_cons pe_str (pa_cons pe_str (pa_cons pe_str (pa_cons pe_str (pa_cons pe_str (pa_cons pe_str (pa_cons pe_str (pa_cons pe_str (pa_cons pe_str pa_nil)))))))))))))
      (pss_cons (ps_setLc (i := 3) (own := [("_law_word_here", 4), ("_law_good", 5)]) (g := gTup K 2 (gCons (gName 4) (gCons (gName 5) gNil))) rfl scWord.nd rfl rfl (sw_true rfl rfl rfl (by decide +kernel)) (pi_zip (by rfl) mz (pa_cons (pe_op op_cat (pv 2) (pe_lst (pa_cons pe_str (pa_cons pe_str (pa_cons pe_str pa_nil))))) (pa_cons (pv 1) pa_nil)))
          (blkOk_by (N := ["_law_error", "_law_found", "_law_words", "_law_told", "_law_word_here", "_law_good"]) (sc := defScope sWord) (by decide +kernel))
          (fun _ _ _ _ _ => by exact pg_tup rfl (pgs_cons (pg_name (i := 4) scWord.nd rfl (.inl rfl)) (pgs_cons (pg_name (i := 5) scWord.nd rfl (.inl rfl)) pgs_nil))) (fun _ _ _ _ _ => pts_one (pt_val (pv 5))) (fun _ _ _ _ _ => pv 4))
      (pss_one (ps_ret (pe_ifExp (pt_cmpR op_eq (pe_callB call_len_seq (by rfl) ml PySem.boot_len (pa_cons (pv 3) pa_nil)) pe_int (nomark _)) (pe_ix ix_list (pv 3) pe_int (fun _ _ => rfl)) pe_str)))))))))), ?_⟩
    refine ⟨_, rfl, rfl, _, rfl, ite2 (fun e => absurd (of_decide_eq_true e) (by intro z; cases z)) (fun _ => ?_)⟩
    refine ⟨_, rfl, a, D, d, _, _, _, rfl, ha, hdk, XC, .own _, kt 0 (by decide), _, rfl, a, D, d, _, _, _, rfl, ha, hdk, XC, .own _, kt 1 (by decide), _, rfl, a, D, d, _, _, _, rfl, ha, hdk, XC, .own _, kt 2 (by decide), by show 3 ≤ sizeLine; decide, fun p1 hp1 => ?_⟩
    have s1 := same_upd (o := .lst [.bl (bs 0), .bl (bs 1), .bl (bs 2)]) hp1
    have l1 : upd H p1 (.lst [.bl (bs 0), .bl (bs 1), .bl (bs 2)]) p1 = some (.lst [.bl (bs 0), .bl (bs 1), .bl (bs 2)]) := upd_same
    generalize upd H p1 (.lst [.bl (bs 0), .bl (bs 1), .bl (bs 2)]) = H1 at s1 l1
    have a1 := s1 _ _ ha
    refine ⟨_, rfl, _, rfl, a, D, d, _, _, _, rfl, a1, (hdk.same s1), XC, .own _, kt 3 (by decide), _, rfl, a, D, d, _, _, _, rfl, a1, (hdk.same s1), XC, .own _, kt 4 (by decide), _, rfl, a, D, d, _, _, _, rfl, a1, (hdk.same s1), XC, .own _, kt 5 (by decide), by show 3 ≤ sizeLine; decide, fun t1 ht1 => ?_⟩
    have v1 := same_upd (o := .lst [.bl (bs 3), .bl (bs 4), .bl (bs 5)]) ht1
    refine ⟨p1, t1, _, _, rfl, rfl, v1 _ _ l1, upd_same, by show 6 ≤ sizeLine; decide, fun p2 hp2 => ?_⟩
    have s2 := (s1.trans v1).trans (same_upd (o := .lst [.bl (bs 0), .bl (bs 1), .bl (bs 2), .bl (bs 3), .bl (bs 4), .bl (bs 5)]) hp2)
    have l2 : upd (upd H1 t1 (.lst [.bl (bs 3), .bl (bs 4), .bl (bs 5)])) p2 (.lst [.bl (bs 0), .bl (bs 1), .bl (bs 2), .bl (bs 3), .bl (bs 4), .bl (bs 5)]) p2 = some (.lst [.bl (bs 0), .bl (bs 1), .bl (bs 2), .bl (bs 3), .bl (bs 4), .bl (bs 5)]) := upd_same
    show tSeq _ _ _ _ (upd (upd H1 t1 (.lst [.bl (bs 3), .bl (bs 4), .bl (bs 5)])) p2 (.lst [.bl (bs 0), .bl (bs 1), .bl (bs 2), .bl (bs 3), .bl (bs 4), .bl (bs 5)]))
    generalize upd (upd H1 t1 (.lst [.bl (bs 3), .bl (bs 4), .bl (bs 5)])) p2 (.lst [.bl (bs 0), .bl (bs 1), .bl (bs 2), .bl (bs 3), .bl (bs 4), .bl (bs 5)]) = H2 at s2 l2
    have a2 := s2 _ _ ha
    refine ⟨_, rfl, _, rfl, a, D, d, _, _, _, rfl, a2, (hdk.same s2), XC, .own _, kt 6 (by decide), _, rfl, a, D, d, _, _, _, rfl, a2, (hdk.same s2), XC, .own _, kt 7 (by decide), _, rfl, a, D, d, _, _, _, rfl, a2, (hdk.same s2), XC, .own _, kt 8 (by decide), by show 3 ≤ sizeLine; decide, fun t2 ht2 => ?_⟩
    have v2 := same_upd (o := .lst [.bl (bs 6), .bl (bs 7), .bl (bs 8)]) ht2
    refine ⟨p2, t2, _, _, rfl, rfl, v2 _ _ l2, upd_same, by show 9 ≤ sizeLine; decide, fun p3 hp3 => ?_⟩
    have s3 := (s2.trans v2).trans (same_upd (o := .lst [.bl (bs 0), .bl (bs 1), .bl (bs 2), .bl (bs 3), .bl (bs 4), .bl (bs 5), .bl (bs 6), .bl (bs 7), .bl (bs 8)]) hp3)
    have l3 : upd (upd H2 t2 (.lst [.bl (bs 6), .bl (bs 7), .bl (bs 8)])) p3 (.lst [.bl (bs 0), .bl (bs 1), .bl (bs 2), .bl (bs 3), .bl (bs 4), .bl (bs 5), .bl (bs 6), .bl (bs 7), .bl (bs 8)]) p3 = some (.lst [.bl (bs 0), .bl (bs 1), .bl (bs 2), .bl (bs 3), .bl (bs 4), .bl (bs 5), .bl (bs 6), .bl (bs 7), .bl (bs 8)]) := upd_same
    show tSeq _ _ _ _ (upd (upd H2 t2 (.lst [.bl (bs 6), .bl (bs 7), .bl (bs 8)])) p3 (.lst [.bl (bs 0), .bl (bs 1), .bl (bs 2), .bl (bs 3), .bl (bs 4), .bl (bs 5), .bl (bs 6), .bl (bs 7), .bl (bs 8)]))
    generalize upd (upd H2 t2 (.lst [.bl (bs 6), .bl (bs 7), .bl (bs 8)])) p3 (.lst [.bl (bs 0), .bl (bs 1), .bl (bs 2), .bl (bs 3), .bl (bs 4), .bl (bs 5), .bl (bs 6), .bl (bs 7), .bl (bs 8)]) = H3 at s3 l3
    have a3 := s3 _ _ ha
    refine ⟨_, rfl, _, rfl, a, D, d, _, _, _, rfl, a3, (hdk.same s3), XC, .own _, kt 9 (by decide), _, rfl, a, D, d, _, _, _, rfl, a3, (hdk.same s3), XC, .own _, kt 10 (by decide), _, rfl, a, D, d, _, _, _, rfl, a3, (hdk.same s3), XC, .own _, kt 11 (by decide), by show 3 ≤ sizeLine; decide, fun t3 ht3 => ?_⟩
    have v3 := same_upd (o := .lst [.bl (bs 9), .bl (bs 10), .bl (bs 11)]) ht3
    refine ⟨p3, t3, _, _, rfl, rfl, v3 _ _ l3, upd_same, by show 12 ≤ sizeLine; decide, fun p4 hp4 => ?_⟩
    have s4 := (s3.trans v3).trans (same_upd (o := .lst [.bl (bs 0), .bl (bs 1), .bl (bs 2), .bl (bs 3), .bl (bs 4), .bl (bs 5), .bl (bs 6), .bl (bs 7), .bl (bs 8), .bl (bs 9), .bl (bs 10), .bl (bs 11)]) hp4)
    have l4 : upd (upd H3 t3 (.lst [.bl (bs 9), .bl (bs 10), .bl (bs 11)])) p4 (.lst [.bl (bs 0), .bl (bs 1), .bl (bs 2), .bl (bs 3), .bl (bs 4), .bl (bs 5), .bl (bs 6), .bl (bs 7), .bl (bs 8), .bl (bs 9), .bl (bs 10), .bl (bs 11)]) p4 = some (.lst [.bl (bs 0), .bl (bs 1), .bl (bs 2), .bl (bs 3), .bl (bs 4), .bl (bs 5), .bl (bs 6), .bl (bs 7), .bl (bs 8), .bl (bs 9), .bl (bs 10), .bl (bs 11)]) := upd_same
    show tSeq _ _ _ _ (upd (upd H3 t3 (.lst [.bl (bs 9), .bl (bs 10), .bl (bs 11)])) p4 (.lst [.bl (bs 0), .bl (bs 1), .bl (bs 2), .bl (bs 3), .bl (bs 4), .bl (bs 5), .bl (bs 6), .bl (bs 7), .bl (bs 8), .bl (bs 9), .bl (bs 10), .bl (bs 11)]))
    generalize upd (upd H3 t3 (.lst [.bl (bs 9), .bl (bs 10), .bl (bs 11)])) p4 (.lst [.bl (bs 0), .bl (bs 1), .bl (bs 2), .bl (bs 3), .bl (bs 4), .bl (bs 5), .bl (bs 6), .bl (bs 7), .bl (bs 8), .bl (bs 9), .bl (bs 10), .bl (bs 11)]) = H4 at s4 l4
    have a4 := s4 _ _ ha
    refine ⟨_, rfl, _, rfl, a, D, d, _, _, _, rfl, a4, (hdk.same s4), XC, .own _, kt 12 (by decide), _, rfl, a, D, d, _, _, _, rfl, a4, (hdk.same s4), XC, .own _, kt 13 (by decide), by show 2 ≤ sizeLine; decide, fun t4 ht4 => ?_⟩
    have v4 := same_upd (o := .lst [.bl (bs 12), .bl (bs 13)]) ht4
    refine ⟨p4, t4, _, _, rfl, rfl, v4 _ _ l4, upd_same, by show 14 ≤ sizeLine; decide, fun p5 hp5 => ?_⟩
    have s5 := (s4.trans v4).trans (same_upd (o := .lst [.bl (bs 0), .bl (bs 1), .bl (bs 2), .bl (bs 3), .bl (bs 4), .bl (bs 5), .bl (bs 6), .bl (bs 7), .bl (bs 8), .bl (bs 9), .bl (bs 10), .bl (bs 11), .bl (bs 12), .bl (bs 13)]) hp5)
    have l5 : upd (upd H4 t4 (.lst [.bl (bs 12), .bl (bs 13)])) p5 (.lst [.bl (bs 0), .bl (bs 1), .bl (bs 2), .bl (bs 3), .bl (bs 4), .bl (bs 5), .bl (bs 6), .bl (bs 7), .bl (bs 8), .bl (bs 9), .bl (bs 10), .bl (bs 11), .bl (bs 12), .bl (bs 13)]) p5 = some (.lst [.bl (bs 0), .bl (bs 1), .bl (bs 2), .bl (bs 3), .bl (bs 4), .bl (bs 5), .bl (bs 6), .bl (bs 7), .bl (bs 8), .bl (bs 9), .bl (bs 10), .bl (bs 11), .bl (bs 12), .bl (bs 13)]) := upd_same
    show tSeq _ _ _ _ (upd (upd H4 t4 (.lst [.bl (bs 12), .bl (bs 13)])) p5 (.lst [.bl (bs 0), .bl (bs 1), .bl (bs 2), .bl (bs 3), .bl (bs 4), .bl (bs 5), .bl (bs 6), .bl (bs 7), .bl (bs 8), .bl (bs 9), .bl (bs 10), .bl (bs 11), .bl (bs 12), .bl (bs 13)]))
    generalize upd (upd H4 t4 (.lst [.bl (bs 12), .bl (bs 13)])) p5 (.lst [.bl (bs 0), .bl (bs 1), .bl (bs 2), .bl (bs 3), .bl (bs 4), .bl (bs 5), .bl (bs 6), .bl (bs 7), .bl (bs 8), .bl (bs 9), .bl (bs 10), .bl (bs 11), .bl (bs 12), .bl (bs 13)]) = H5 at s5 l5
    refine ⟨by show 11 ≤ sizeLine; decide, fun w1 hw1 => ?_⟩
    have z1 := same_upd (o := .lst ((lawWords.take 11).map V.str)) hw1
    have y1 : upd H5 w1 (.lst ((lawWords.take 11).map V.str)) w1 = some (.lst ((lawWords.take 11).map V.str)) := upd_same
    show tSeq _ _ _ _ (upd H5 w1 (.lst ((lawWords.take 11).map V.str)))
    generalize upd H5 w1 (.lst ((lawWords.take 11).map V.str)) = H6 at z1 y1
    refine ⟨_, rfl, by show 3 ≤ sizeLine; decide, fun w2 hw2 => ?_⟩
    have z2 := same_upd (o := .lst ((lawWords.drop 11).map V.str)) hw2
    refine ⟨w1, w2, _, _, rfl, rfl, z2 _ _ y1, upd_same, by show 14 ≤ sizeLine; decide, fun w3 hw3 => ?_⟩
    have l6 := z1 _ _ l5
    have z3 := same_upd (o := .lst (lawWords.map V.str)) hw3
    have l7 := z3 _ _ (z2 _ _ l6)
    refine ⟨_, rfl, w3, p5, lawWords.map V.str, (list14 bs).map V.bl, rfl, SqL.of upd_same, SqL.of l7, fun D hD => ?_⟩
    have s7 := ((s5.trans z1).trans z2).trans z3
    have nD : ∀ {b : Addr} {o : HO}, upd (upd H6 w2 (.lst ((lawWords.drop 11).map V.str))) w3 (.lst (lawWords.map V.str)) b = some o → b ≠ D := fun {b o} e => ne_of_none e hD
    have w3D := nD upd_same
    have p5D := nD l7
    refine lc_it (walk_zip (K := K) (a := w3) (b := p5) (xs := lawWords.map V.str) (ys := (list14 bs).map V.bl) (n := 14) rfl) (fun i H' => (Same H H' ∧ H' w3 = some (.lst (lawWords.map V.str)) ∧ H' p5 = some (.lst ((list14 bs).map V.bl))) ∧ H' D = some (.lst ((((lawWords.zip (list14 bs)).take i).filter (·.2)).map fun x => V.str x.1))) ⟨⟨?_, ?_, ?_⟩, ?_⟩ ?_ ?_ ?_
    · exact fun b o e => by
        rw [upd_ne (nD (s7 b o e))]
        exact s7 b o e
    · rw [upd_ne w3D]
      exact upd_same
    · rw [upd_ne p5D]
      exact l7
    · exact upd_same
    · exact fun i H' _ h => ⟨SqL.of h.1.2.1, SqL.of h.1.2.2⟩
    · rintro i x H' H'' hi ⟨⟨k1, k2, k3⟩, hd⟩ ⟨T, x1, x2, rfl, nT, rfl, f1, f2⟩
      have sT := same_upd (o := .tup [x1, x2]) nT
      dsimp only at f1 f2
      have h1 : i < lawWords.length := hi
      have h2 : i < (list14 bs).length := hi
      have e1 : x1 = V.str lawWords[i] := by
        rw [List.getElem?_map, List.getElem?_eq_getElem h1] at f1
        exact (Option.some.inj f1).symm
      have e2 : x2 = V.bl (list14 bs)[i] := by
        rw [List.getElem?_map, List.getElem?_eq_getElem h2] at f2
        exact (Option.some.inj f2).symm
      subst e1 e2
      have tk : (lawWords.zip (list14 bs)).take (i + 1) = (lawWords.zip (list14 bs)).take i ++ [(lawWords[i], (list14 bs)[i])] := by
        rw [List.take_add_one, List.getElem?_eq_getElem (by rw [List.length_zip]; omega), List.getElem_zip]
        rfl
      refine ⟨T, _, rfl, SqT.of upd_same, rfl, _, _, rfl, _, _, rfl, rfl, rfl, _, rfl, _, rfl, ?_⟩
      have hdT := sT _ _ hd
      have k1T := k1.trans sT
      have k2T := sT _ _ k2
      have k3T := sT _ _ k3
      generalize upd H' T (.tup [V.str lawWords[i], V.bl (list14 bs)[i]]) = H2 at hdT k1T k2T k3T ⊢
      cases hg : (list14 bs)[i] with
      | false =>
        refine iteF ⟨⟨k1T, k2T, k3T⟩, ?_⟩
        rw [tk, hg, List.filter_append]
        show H2 D = some (.lst (List.map _ (List.filter _ _ ++ [])))
        rw [List.append_nil]
        exact hdT
      | true =>
        have off : ∀ {b : Addr} {o o' : HO}, b ≠ D → H2 b = some o → upd H2 D o' b = some o := fun {b o o'} n e => by
          rw [upd_ne n]
          exact e
        refine iteT ⟨_, rfl, _, hdT, ?_, ⟨fun b o e => off (nD (s7 b o e)) (k1T b o e), off w3D k2T, off p5D k3T⟩, ?_⟩
        · rw [List.length_map]
          refine Nat.lt_of_le_of_lt (List.length_filter_le _ _) ?_
          rw [List.length_take, sizeLine_eq]
          omega
        · rw [upd_same, tk, hg, List.filter_append, List.map_append]
          rfl
    · rintro H' ⟨⟨k1, k2, k3⟩, hd⟩
      have hd' : H' D = some (.lst ((told (list14 bs)).map V.str)) := by
        rw [hd]
        unfold told
        rw [List.map_map, List.take_of_length_le (show 14 ≤ 14 from Nat.le_refl _)]
        rfl
      refine ⟨_, rfl, D, _, rfl, .inl (SqL.of hd'), rfl, _, rfl, ?_⟩
      have qq := q H' k1
      unfold wordOf at qq
      revert qq hd'
      generalize told (list14 bs) = ts
      intro hd' qq
      match ts, hd', qq with
      | [], hd', qq => exact iteF qq
      | [x], hd', qq => exact iteT ⟨_, rfl, D, _, _, _, rfl, rfl, SqL.of hd', atI_nat (j := 0) rfl, qq⟩
      | x :: y :: r, hd', qq =>
        refine ite2 (fun e => ?_) (fun _ => qq)
        have e2 := V.int.inj (of_decide_eq_true e)
        rw [List.length_map, List.length_cons, List.length_cons] at e2
        omega
end
end Pk
namespace Pk
open PySem L2
theorem len_is (z : Str) : z.length = z.cps.toList.length := TL.len_tl z
theorem blank_tl : TL.tl (" " : Str) = [32] := by decide +kernel
theorem empty_tl : TL.tl ("" : Str) = [] := by decide +kernel
/-! ### a text so many times -/
theorem mul_ok {z : Str} {n : Int} (hz : z.length ≤ 100000) (n0 : 0 ≤ n) (n1 : n ≤ 100) : MulOk z n := by
  refine ⟨?_, fun h1 _ h3 => ?_, fun h1 _ => ?_⟩
  · rw [Bool.or_eq_false_iff]
    exact ⟨decide_eq_false (by omega), decide_eq_false (by omega)⟩
  · have : (100000 : Int) ≤ (2 ^ 63 - 1 : Int) / n := Int.le_ediv_of_mul_le (by omega) (by omega)
    omega
  · have h : z.length * n.toNat ≤ 100000 * 100 := Nat.mul_le_mul hz (by omega)
    show decide (z.length * n.toNat > sizeLine) = false
    refine decide_eq_false ?_
    rw [sizeLine_eq]
    omega
theorem fold_app : ∀ (n : Nat) (x : Array Nat) (a : Array Nat), ((List.replicate n x).foldl (· ++ ·) a).toList = a.toList ++ (List.replicate n x.toList).flatten
  | 0, x, a => by simp
  | n + 1, x, a => by
    rw [List.replicate_succ, List.foldl_cons, fold_app n x (a ++ x), Array.toList_append, List.replicate_succ, List.flatten_cons, List.append_assoc]
theorem mul_tl (z : Str) {n : Int} (n0 : 0 ≤ n) : TL.tl (Txt.mul z n) = (List.replicate n.toNat (TL.tl z)).flatten := by
  unfold Txt.mul
  by_cases h1 : n < 1
  · have e : n = 0 := by omega
    subst e
    rw [if_pos h1]
    rfl
  · rw [if_neg h1]
    by_cases h2 : n = 1
    · subst h2
      show z.cps.toList = _
      simp
    · by_cases h3 : z.length = 0
      · rw [if_pos (by simp [h3])]
        have e : TL.tl z = [] := List.length_eq_zero_iff.mp (by rw [← TL.len_tl]; exact h3)
        rw [e]
        simp
      · rw [if_neg (by simp [h2, h3])]
        show ((List.replicate n.toNat z.cps).foldl (· ++ ·) #[]).toList = _
        rw [fold_app]
        rfl
theorem mul_len (z : Str) {n : Int} (n0 : 0 ≤ n) : (Txt.mul z n).length = n.toNat * z.length := by
  rw [TL.len_tl, mul_tl z n0, TL.len_tl]
  simp
/-- all signs are code points -/
def SOk (z : Str) : Prop := ∀ c ∈ z.cps.toList, c < 0x110000
theorem sok_iff (z : Str) : PyData.strOk z = true ↔ SOk z := by
  unfold PyData.strOk SOk
  rw [← Array.all_toList, List.all_eq_true]
  exact ⟨fun h c hc => of_decide_eq_true (h c hc), fun h c hc => decide_eq_true (h c hc)⟩
theorem sok_app {x y : Str} (hx : SOk x) (hy : SOk y) : SOk (x ++ y) := fun c hc => by
  rw [show (x ++ y).cps.toList = x.cps.toList ++ y.cps.toList from TL.tl_append x y] at hc
  rcases List.mem_append.mp hc with h | h
  · exact hx c h
  · exact hy c h
theorem sok_mul {x : Str} (hx : SOk x) {n : Int} (n0 : 0 ≤ n) : SOk (Txt.mul x n) := fun c hc => by
  rw [show (Txt.mul x n).cps.toList = _ from mul_tl x n0] at hc
  obtain ⟨l, hl, h⟩ := List.mem_flatten.mp hc
  rw [(List.mem_replicate.mp hl).2] at h
  exact hx c h
theorem joinL_mem {c : Nat} : ∀ l : List (List Nat), c ∈ TL.joinL [] l → ∃ p ∈ l, c ∈ p
  | [], h => by cases h
  | [p], h => ⟨p, List.mem_cons_self, h⟩
  | p :: q :: r, h => by
    have h' : c ∈ p ++ ([] ++ TL.joinL [] (q :: r)) := h
    rcases List.mem_append.mp h' with h | h
    · exact ⟨p, List.mem_cons_self, h⟩
    · obtain ⟨x, hx, hc⟩ := joinL_mem (q :: r) h
      exact ⟨x, List.mem_cons_of_mem _ hx, hc⟩
theorem sok_join {ys : List Str} (h : ∀ y ∈ ys, SOk y) : SOk (Txt.join "" ys) := fun c hc => by
  rw [show (Txt.join "" ys).cps.toList = TL.joinL (TL.tl "") (ys.map TL.tl) from by rw [TL.join_eq]; exact TL.tl_join "" ys, empty_tl] at hc
  obtain ⟨p, hp, hm⟩ := joinL_mem _ hc
  obtain ⟨y, hy, rfl⟩ := List.mem_map.mp hp
  exact h y hy c hm
theorem sok_blank : SOk " " := fun c hc => by
  rw [show (" " : Str).cps.toList = [32] from blank_tl, List.mem_singleton] at hc
  rw [hc]
  decide
theorem at_some {α : Type} {l : List α} {i : Int} (h0 : 0 ≤ i) (h1 : i < l.length) : ∃ c, atI l i = some c ∧ c ∈ l := by
  obtain ⟨j, rfl⟩ := Int.eq_ofNat_of_zero_le h0
  have hj : j < l.length := by omega
  exact ⟨l[j], atI_nat (List.getElem?_eq_getElem hj), List.getElem_mem hj⟩
theorem joinL_len : ∀ l : List (List Nat), (TL.joinL [] l).length = (l.map List.length).sum
  | [] => rfl
  | [p] => by simp [TL.joinL]
  | p :: q :: r => by
    have ih := joinL_len (q :: r)
    show (p ++ ([] ++ TL.joinL [] (q :: r))).length = _
    rw [List.nil_append, List.length_append, ih]
    simp
theorem join0_len (ys : List Str) : (Txt.join "" ys).length = (ys.map (·.length)).sum := by
  rw [TL.len_tl, TL.join_eq, TL.tl_join, empty_tl, joinL_len, List.map_map]
  exact congrArg List.sum (List.map_congr_left fun p _ => (TL.len_tl p).symm)
theorem app_len (x y : Str) : (x ++ y).length = x.length + y.length := by
  rw [TL.len_tl, TL.tl_append, List.length_append, ← TL.len_tl, ← TL.len_tl]
def S (l : List Nat) : Str := ⟨l.toArray⟩
theorem S_tl (l : List Nat) : TL.tl (S l) = l := rfl
theorem S_len (l : List Nat) : (S l).length = l.length := TL.len_tl _
end Pk
namespace Pk
open PySem L2
/-! ### things that are handed in -/
/-- signs that the texts have: from the blank to ~ but the percent sign, and line ends -/
def Sgn (z : Str) : Prop := ∀ c ∈ z.cps.toList, (32 ≤ c ∧ c ≤ 126 ∧ c ≠ 37) ∨ c = 10
theorem Sgn.ok {z : Str} (h : Sgn z) : SOk z := fun c hc => by
  rcases h c hc with q | q
  · omega
  · rw [q]
    decide
inductive Itm (H : Hp) : V → Prop
  | non : Itm H .non
  | bl (b : Bool) : Itm H (.bl b)
  | int (i : Int) (h : i.natAbs.log2 < 300) : Itm H (.int i)
  | str (z : Str) (hl : z.length ≤ 100) (ho : Sgn z) : Itm H (.str z)
  | lst {a : Addr} {v : V} (h : H a = some (.lst [v])) (hv : v = .int 1 ∨ ∃ z, v = .str z ∧ z.length ≤ 100 ∧ Sgn z) : Itm H (.ref a)
  | tup {a : Addr} (h : H a = some (.tup [.int 1])) : Itm H (.ref a)
  | dct {a : Addr} (h : H a = some (.dK [])) : Itm H (.ref a)
theorem Itm.same {H H' : Hp} {x : V} (h : Itm H x) (s : Same H H') : Itm H' x := by
  cases h with
  | non => exact .non
  | bl b => exact .bl b
  | int i h => exact .int i h
  | str z hl ho => exact .str z hl ho
  | lst h hv => exact .lst (s _ _ h) hv
  | tup h => exact .tup (s _ _ h)
  | dct h => exact .dct (s _ _ h)
def vInt : V → Bool
  | .int _ => true
  | _ => false
def vBool : V → Bool
  | .bl _ => true
  | _ => false
def vStr : V → Bool
  | .str _ => true
  | _ => false
theorem Itm.ty {K : PySem.W.Frag} {H : Hp} {x : V} (h : Itm H x) : ∃ t : String, TyX K H x (.type t) ∧ kitB t "int" = some (vInt x || vBool x) ∧ kitB t "bool" = some (vBool x) ∧ kitB t "str" = some (vStr x) := by
  cases h with
  | non => exact ⟨_, .base .non, by decide +kernel, by decide +kernel, by decide +kernel⟩
  | bl b => exact ⟨_, .base (.bl b), (by decide +kernel : kitB "bool" "int" = some true), (by decide +kernel : kitB "bool" "bool" = some true), (by decide +kernel : kitB "bool" "str" = some false)⟩
  | int i h => exact ⟨_, .base (.int i), (by decide +kernel : kitB "int" "int" = some true), (by decide +kernel : kitB "int" "bool" = some false), (by decide +kernel : kitB "int" "str" = some false)⟩
  | str z hl ho => exact ⟨_, .base (.str z), (by decide +kernel : kitB "str" "int" = some false), (by decide +kernel : kitB "str" "bool" = some false), (by decide +kernel : kitB "str" "str" = some true)⟩
  | lst h hv => exact ⟨_, .base (.lst h), (by decide +kernel : kitB "list" "int" = some false), (by decide +kernel : kitB "list" "bool" = some false), (by decide +kernel : kitB "list" "str" = some false)⟩
  | tup h => exact ⟨_, .base (.tup h), (by decide +kernel : kitB "tuple" "int" = some false), (by decide +kernel : kitB "tuple" "bool" = some false), (by decide +kernel : kitB "tuple" "str" = some false)⟩
  | dct h => exact ⟨_, .base (.dK h), (by decide +kernel : kitB "dict" "int" = some false), (by decide +kernel : kitB "dict" "bool" = some false), (by decide +kernel : kitB "dict" "str" = some false)⟩
/-- whether it is a whole number from lo to hi -/
def whole (x : V) (lo hi : Int) : Bool := match x with
  | .int i => decide (lo ≤ i) && decide (i ≤ hi)
  | _ => false
def letters : Str := "abcdefghijklmnopqrstuvwxyz"
def nameT (z : Str) : Bool := decide (1 ≤ z.length) && decide (z.length ≤ 8) && z.cps.toList.all fun c => decide (c ∈ letters.cps.toList)
def nameV : V → Bool
  | .str z => nameT z
  | _ => false
def signOk (c : Nat) : Bool := decide (32 ≤ c) && decide (c ≤ 126) && !decide (c = 37)
def textT (z : Str) : Bool := decide (1 ≤ z.length) && decide (z.length ≤ 30) && !decide (z.cps.toList[0]? = some 32) && !decide (z.cps.toList.getLast? = some 32) && z.cps.toList.all signOk
def textV : V → Bool
  | .str z => textT z
  | _ => false
end Pk
/-! ### how many texts of a tuple are unlike: len(set(texts)) -/
namespace Pk
open PySem PyProof.Rows
/-- which of the first i there are, and how many unlike ones -/
def seen (zs : List Str) (i : Nat) (k : Str) : Bool := (zs.take i).any (· == k)
def unlike (zs : List Str) : Nat → Nat
  | 0 => 0
  | i + 1 => if seen zs i (zs.getD i Str.empty) = true then unlike zs i else unlike zs i + 1
theorem unlike_le (zs : List Str) : ∀ i, unlike zs i ≤ i
  | 0 => Nat.le_refl _
  | i + 1 => by
    have := unlike_le zs i
    unfold unlike
    split <;> omega
theorem seen_next {zs : List Str} {i : Nat} (h : i < zs.length) (k : Str) : (seen zs i k || decide (k = zs.getD i Str.empty)) = seen zs (i + 1) k := by
  unfold seen
  have e1 : zs.getD i Str.empty = zs[i] := by rw [List.getD_eq_getElem?_getD, List.getElem?_eq_getElem h]; rfl
  rw [List.take_add_one, List.getElem?_eq_getElem h, List.any_append, e1]
  show _ = (_ || ((zs[i] == k) || false))
  rw [Bool.or_false]
  congr 1
  by_cases e : k = zs[i]
  · rw [decide_eq_true e, e]
    exact (beq_self_eq_true _).symm
  · rw [decide_eq_false e]
    exact (beq_eq_false_iff_ne.mpr (fun q => e q.symm)).symm
section
variable {prog : Program} {w : World} {A : Around} {R : Result → Shared → Prop} {it : Addr} {fp wr : List Addr} {G : Array GenState → Array GenState → Prop} {n : Nat} {Pv : Nat → Value → Prop} {St : Nat → Shared → Prop}
theorem fill_texts (W : WalksS prog w A.in1 it fp wr G n Pv St) (b : Addr) (hb : b ∉ fp) (zs : List Str) (hz : zs.length = n) (room : n + 1 < scanBound)
    (hv : ∀ i v, Pv i v → ∃ t, v = .str (zs.getD i Str.empty) t) :
    ∀ (m i : Nat) (s : Shared), n - i = m → i ≤ n → St i s → s.heap.SetOf (PySem.strKind prog w) b (seen zs i) (unlike zs i) →
      (∀ s', Moved (b :: wr) G s s' → s'.heap.SetOf (PySem.strKind prog w) b (seen zs n) (unlike zs n) → R (.ok (.ret .none)) s') →
      codeAny (model prog w) A (.builtin "set.update.loop" ⟨[.ref b, .ref it], []⟩) R s := by
  have nw : b ∉ wr := fun h => hb (W.sub _ h)
  have up : ∀ c ∈ wr, c ∈ b :: wr := fun c hc => List.mem_cons_of_mem _ hc
  have keepS : ∀ {s s' : Shared} {i : Nat}, Moved wr G s s' → s.heap.SetOf (PySem.strKind prog w) b (seen zs i) (unlike zs i) → s'.heap.SetOf (PySem.strKind prog w) b (seen zs i) (unlike zs i) := fun mv hS => by
    obtain ⟨o, es, ep, t, ho, rest⟩ := hS
    exact ⟨o, es, ep, t, mv.heap b _ nw ho, rest⟩
  intro m
  induction m with
  | zero =>
    intro i s e1 e2 e3 e4 e5
    have e6 : i = n := by omega
    subst e6
    refine codeAny_builtin F.entry_set_update_loop ?_
    rw [Around.under_plainId F.plain_set_update_loop _]
    show wpAny _ A.in1 (pyNext (.ref it) >>= _) _ _ s
    refine wpAny_bind (W.done s _ _ e3 fun s' mv => ?_)
    show wpAny _ A.in1 (ret Value.none) _ _ s'
    exact wpAny_pure (e5 s' (mv.mono up) (keepS mv e4))
  | succ m ih =>
    intro i s e1 e2 e3 e4 e5
    have lt : i < n := by omega
    have li := unlike_le zs i
    refine codeAny_builtin F.entry_set_update_loop ?_
    rw [Around.under_plainId F.plain_set_update_loop _]
    show wpAny _ A.in1 (pyNext (.ref it) >>= _) _ _ s
    refine wpAny_bind (W.item i s _ _ lt e3 fun v s' pv st' mv => ?_)
    obtain ⟨t, rfl⟩ := hv i v pv
    have e7 : s'.heap.SetOf (PySem.strKind prog w) b (seen zs i) (unlike zs i) := keepS mv e4
    show wpAny _ A.in1 (holding [Value.str (zs.getD i Str.empty) t] (setAdd b (.str (zs.getD i Str.empty) t)) >>= _) _ _ s'
    refine wpAny_bind (wpAny_holding ?_)
    unfold setAdd
    refine wpAny_holding (wpAny_bind ((PySem.strKind prog w).pyHash (k := zs.getD i Str.empty) (strKind_is _ _ _ _) ?_))
    refine wpAny_setAddHashed_of (knd := PySem.strKind prog w) (s := { s' with toks := s'.toks + 1 }) (strKind_is _ _ _ _) rfl e7 (by omega) fun h' hsb hS2 => ?_
    have hSi : h'.SetOf (PySem.strKind prog w) b (seen zs (i + 1)) (unlike zs (i + 1)) :=
      SetOf_congr hS2 (fun k => seen_next (by omega) k) rfl
    refine wpAny_pure ⟨plainId_quiet F.plain_set_update_loop _, ih (i + 1) _ (by omega) lt (W.frame _ s' _ _ st' (Nat.le_succ _) fun c hc o e => ?_) hSi fun s'' mv2 hS3 => ?_⟩
    · rw [hsb.2 c (fun h : c = b => hb (h ▸ hc))]
      exact e
    · refine e5 s'' (Moved.trans W.gtrans ((mv.mono up).then_heap (Nat.le_succ _) fun c o hc e => ?_) mv2) hS3
      rw [hsb.2 c (fun h : c = b => hc (by rw [h]; exact List.mem_cons_self))]
      exact e
end

section
variable {prog : Program} {w : World} {A : Around} {E : Value → Shared → Prop} {s : Shared}
abbrev bare (d : Bool) : Obj := { cls := .type "set", dict := none, data := .set #[] 0 (.fresh 0 0 d) }
/-- set(texts), of a tuple of texts -/
theorem set_of_texts {l : Addr} {its : Array Value} {zs : List Str} {Q : Value → Shared → Prop} (hh : A.handled = none) (hl : s.heap.IsTuple l its) (hi : StrsAre its.toList zs) (room : zs.length + 1 < scanBound)
    (h : ∀ (h' : Heap) (tk : Nat), h'.SetOf (PySem.strKind prog w) s.heap.objs.size (seen zs zs.length) (unlike zs zs.length) →
      (∀ c o, c < s.heap.objs.size → s.heap.get? c = some o → h'.get? c = some o) → Q (.ref s.heap.objs.size) { s with heap := h', toks := tk }) :
    wpAny (model prog w) A (call (.type "set") [.ref l]) Q E s := by
  have hsz : zs.length = its.size := by rw [← StrsAre.len_eq hi, Array.length_toList]
  obtain ⟨c0, tl0, m0⟩ := PySem.F.called_set.mro
  have m1 := PySem.F.called_set.made
  have m2 := PySem.F.called_set.sub
  refine wpAny_call (codeAny_of_tree ?_)
  show wpAny _ _ (callAny (.type "set") _) _ _ _
  refine wpAny_pure ⟨Code.quiet_builtin _ (by decide +kernel), codeAny_builtin PySem.F.entry_type_call ?_⟩
  rw [Around.under_plain (weight_type_call_type "set" [.ref l] []) rfl]
  have m3 := PySem.F.called_set.notType
  have m4 := PySem.F.called_set.canCreate
  have m5 := PySem.F.typeCall_set_1 (.ref l)
  repeat (any_goals (first | assumption | wp_step))
  refine codeAny_mono (code_set_new_1 (.ref l) (E := E) (Q₁ := fun x s₁ => ∃ d : Bool, x = .ref s.heap.objs.size ∧ s₁ = { s with heap := s.heap.push (bare d) }) fun d => ⟨d, rfl, rfl⟩) fun r s₁ hr => ?_
  cases r with
  | error e => exact hr
  | ok fl =>
    cases fl with
    | ret x =>
      obtain ⟨d, rfl, rfl⟩ := hr
      have n1 : (s.heap.push (bare d)).get? s.heap.objs.size = some (bare d) := Heap.get?_push_size _ rfl
      have n2 : Shared.TypeIs { s with heap := s.heap.push (bare d) } (.ref s.heap.objs.size) "set" := ⟨_, n1, rfl⟩
      have n3 := PySem.F.called_set.init.lookup
      have n4 := PySem.F.called_set.init.bind (.ref s.heap.objs.size)
      repeat (any_goals (first | assumption | wp_step))
      refine codeAny_mono (codeAny_call_builtin (R := wants (fun r s₂ => r = .none ∧ ∃ h' tk, s₂ = { s with heap := h', toks := tk } ∧
          h'.SetOf (PySem.strKind prog w) s.heap.objs.size (seen zs zs.length) (unlike zs zs.length) ∧
          (∀ c o, c < s.heap.objs.size → s.heap.get? c = some o → h'.get? c = some o)) E) PySem.F.called_set.init.plain PySem.F.entry_set_init (check_set_init_1 n2 ?_)) fun r₂ s₂ hr₂ => ?_
      · obtain ⟨⟨oc, od, odt, osl⟩, hol, hcl, nl, hdl⟩ := hl
        simp only at hcl hdl
        subst hcl; subst hdl
        have k1 : (s.heap.push (bare d)).get? l = some { cls := .type "tuple", dict := od, data := .seq its nl, slots := osl } := Heap.get?_push_of_some _ hol
        have k2 := PySem.F.sub_tuple_set
        have k3 := PySem.F.sub_tuple_frozenset
        have k4 : (Value.type "tuple" == Value.type "dict") = false := by decide
        have k5 : (s.heap.push (bare d)).IsTuple l its := ⟨_, k1, rfl, nl, rfl⟩
        have k6 : l < s.heap.objs.size := Heap.lt_size hol
        unfold Builtin.«set.__init__» noKeywords Builtin.Frozenset.updateFrom
        generalize hPI : pyIter = PI
        wp_walk
        subst hPI
        refine wpAny_pyIter_tuple k5 ?_
        refine wpAny_bind (wpAny_runValue ?_)
        have k7 : l ≠ (s.heap.push (bare d)).objs.size := by
          rw [Heap.size_push]
          exact Nat.ne_of_lt (Nat.lt_succ_of_lt k6)
        have k8 : s.heap.objs.size ∉ [(s.heap.push (bare d)).objs.size, l] := by
          rw [Heap.size_push]
          intro q
          rcases List.mem_cons.mp q with q | q
          · exact absurd q (Nat.ne_of_lt (Nat.lt_succ_self _))
          · exact absurd (List.mem_singleton.mp q) (Nat.ne_of_gt k6)
        refine fill_texts ((Walks.tuple (by simp [hh]) _ l k7 its).toS) s.heap.objs.size k8 zs hsz (by omega)
          (fun i v hv => SS.strs_at hi i v (by rw [Array.getElem?_toList]; exact hv)) (its.size - 0) 0 _ (by omega) (Nat.zero_le _)
          ⟨⟨_, Heap.get?_push_size _ rfl, rfl, rfl⟩, k5.push _⟩ ?pk_s0 ?pk_s1
        case pk_s0 =>
          exact SetOf_congr ((setObjOf_fresh (knd := PySem.strKind prog w) d).setOf (Heap.get?_push_of_some _ n1) (by unfold scanBound; omega)) (fun _ => rfl) rfl
        case pk_s1 =>
          rintro ⟨h', g', d', tk', os'⟩ mv hS'
          obtain rfl : g' = s.gens := mv.gens
          obtain rfl : d' = s.drawn := mv.drawn
          obtain rfl : os' = s.os := mv.os
          show wpAny _ _ _ _ _ _
          refine wpAny_pure ?_
          show wpAny _ _ (ret Value.none) _ _ _
          refine wpAny_pure ⟨rfl, h', tk', rfl, by rw [hsz]; exact hS', fun c o hc e => ?_⟩
          refine mv.heap c o (fun q => ?_) (Heap.get?_push_of_some _ (Heap.get?_push_of_some _ e))
          rw [Heap.size_push] at q
          rcases List.mem_cons.mp q with q | q
          · exact absurd q (Nat.ne_of_lt hc)
          · exact absurd (List.mem_singleton.mp q) (Nat.ne_of_lt (Nat.lt_succ_of_lt hc))
      · cases r₂ with
        | error e => exact hr₂
        | ok fl₂ =>
          cases fl₂ with
          | ret r =>
            obtain ⟨rfl, h', tk, rfl, hS', hk'⟩ := hr₂
            repeat (any_goals (first | assumption | wp_step))
            exact h _ _ hS' hk'
          | _ => exact hr₂.elim
    | _ => exact hr.elim
end
end Pk
namespace Pk
open PySem PySem.Spec L2
/-- len(set(texts)) -/
def tLenTexts (K : PySem.W.Frag) (ta : TE) : TE := fun σ H Q => ta σ H fun x H1 => ∃ (l : Addr) (zs : List Str), x = .ref l ∧ SqT K H1 l (zs.map V.str) ∧ zs.length ≤ 1000 ∧ Q (.int (unlike zs zs.length : Nat)) H1
theorem pe_lenTexts {X : Cx} {a : Expr} {ta : TE} {p p2 q pos : Pos} (hg : Gl X "len") (hm : X.mg "len" = none) (hg2 : Gl X "set") (hm2 : X.mg "set" = none) (ha : PE X a ta) (hc : X.calm = true := by rfl)
    (na : starEach [a] X.env = (false, eval a X.env) :: starEach [] X.env := by rfl) : PE X (.Call (.Name "len" p) [.Call (.Name "set" p2) [a] [] q] [] pos) (tLenTexts X.K ta) := by
  constructor
  intro pins s σ H Q I h
  refine PyProof.Rows.Call_ (ld_blt I hg hm boot_len (PyProof.Rows.callWith_builtin1 (PyProof.Rows.args_cons ?_ rfl) rfl rfl))
  refine PyProof.Rows.Call_ (ld_blt I hg2 hm2 PyProof.Rows.boot_set ?_)
  refine PyProof.Rows.callWith_type1 (PyProof.Rows.args_cons (thn (ha.run pins s σ H _ I h) ?_) na) na rfl
  rintro v s1 ⟨x, H1, I1, r1, l, zs, rfl, hq, hl, q1⟩
  cases r1
  obtain ⟨its, r, pl, hz⟩ := I1.tuple hq
  refine PyProof.Rows.args_nil (set_of_texts (I1.ok.hd hc) pl (by simpa using strsAre_of r) (by unfold scanBound; omega) fun h' tk hS hk => PyProof.Rows.args_nil ?_)
  obtain ⟨o, es, ep, t, ho, hex, hd, _, _, _, hf, hn⟩ := hS
  have hu := unlike_le zs zs.length
  refine call_len_set ho hex hd hf (by rw [hn]; omega) ⟨.int (unlike zs zs.length : Nat), H1, (I1.kept fun c o e => hk c o (Heap.lt_size e) e).tok _, ⟨_, by rw [hn]⟩, q1⟩
end Pk
namespace Pk
open PySem L2
/-! ### things of any of the plain kinds -/
inductive Thg (H : Hp) : V → Prop
  | non : Thg H .non
  | bl (b : Bool) : Thg H (.bl b)
  | int (i : Int) : Thg H (.int i)
  | str (z : Str) (hl : z.length ≤ 1000) (ho : Sgn z) : Thg H (.str z)
  | lst {a : Addr} {vs : List V} (h : H a = some (.lst vs)) : Thg H (.ref a)
  | tup {a : Addr} {vs : List V} (h : H a = some (.tup vs)) : Thg H (.ref a)
  | dct {a : Addr} {kvs : List (Key × V)} (h : H a = some (.dK kvs)) : Thg H (.ref a)
theorem Thg.same {H H' : Hp} {x : V} (h : Thg H x) (s : Same H H') : Thg H' x := by
  cases h with
  | non => exact .non
  | bl b => exact .bl b
  | int i => exact .int i
  | str z hl ho => exact .str z hl ho
  | lst h => exact .lst (s _ _ h)
  | tup h => exact .tup (s _ _ h)
  | dct h => exact .dct (s _ _ h)
/-- the things of a tuple -/
def tupO : Option HO → Option (List V)
  | some (.tup vs) => some vs
  | _ => none
def tupV (H : Hp) : V → Option (List V)
  | .ref a => tupO (H a)
  | _ => none
theorem tupV_ref (H : Hp) (a : Addr) : tupV H (.ref a) = tupO (H a) := rfl
theorem tupV_at {H : Hp} {a : Addr} {vs : List V} (h : H a = some (.tup vs)) : tupV H (.ref a) = some vs := by
  rw [tupV_ref, h]
  rfl
theorem tupV_of {H : Hp} {x : V} {vs : List V} (h : tupV H x = some vs) : ∃ a, x = .ref a ∧ H a = some (.tup vs) := by
  cases x with
  | ref a =>
    rw [tupV_ref] at h
    refine ⟨a, rfl, ?_⟩
    generalize H a = o at h
    cases o with
    | none => cases h
    | some o =>
      cases o with
      | tup ws =>
        cases h
        rfl
      | _ => cases h
  | _ => cases h
theorem Thg.tupS {H H' : Hp} {x : V} (h : Thg H x) (s : Same H H') : tupV H' x = tupV H x := by
  cases h with
  | non => rfl
  | bl b => rfl
  | int i => rfl
  | str z hl ho => rfl
  | lst h =>
    have e := s _ _ h
    rw [tupV_ref, tupV_ref, h, e]
  | tup h => rw [tupV_at h, tupV_at (s _ _ h)]
  | dct h =>
    have e := s _ _ h
    rw [tupV_ref, tupV_ref, h, e]
theorem Thg.ty {K : PySem.W.Frag} {H : Hp} {x : V} (h : Thg H x) : ∃ t : String, TyX K H x (.type t) ∧ kitB t "int" = some (vInt x || vBool x) ∧ kitB t "bool" = some (vBool x) ∧ kitB t "str" = some (vStr x) ∧ kitB t "tuple" = some (tupV H x).isSome := by
  cases h with
  | non => exact ⟨_, .base .non, by decide +kernel, by decide +kernel, by decide +kernel, (by decide +kernel : kitB "NoneType" "tuple" = some false)⟩
  | bl b => exact ⟨_, .base (.bl b), (by decide +kernel : kitB "bool" "int" = some true), (by decide +kernel : kitB "bool" "bool" = some true), (by decide +kernel : kitB "bool" "str" = some false), (by decide +kernel : kitB "bool" "tuple" = some false)⟩
  | int i => exact ⟨_, .base (.int i), (by decide +kernel : kitB "int" "int" = some true), (by decide +kernel : kitB "int" "bool" = some false), (by decide +kernel : kitB "int" "str" = some false), (by decide +kernel : kitB "int" "tuple" = some false)⟩
  | str z hl ho => exact ⟨_, .base (.str z), (by decide +kernel : kitB "str" "int" = some false), (by decide +kernel : kitB "str" "bool" = some false), (by decide +kernel : kitB "str" "str" = some true), (by decide +kernel : kitB "str" "tuple" = some false)⟩
  | lst h =>
    refine ⟨_, .base (.lst h), (by decide +kernel : kitB "list" "int" = some false), (by decide +kernel : kitB "list" "bool" = some false), (by decide +kernel : kitB "list" "str" = some false), ?_⟩
    rw [tupV_ref, h]
    exact (by decide +kernel : kitB "list" "tuple" = some false)
  | tup h =>
    refine ⟨_, .base (.tup h), (by decide +kernel : kitB "tuple" "int" = some false), (by decide +kernel : kitB "tuple" "bool" = some false), (by decide +kernel : kitB "tuple" "str" = some false), ?_⟩
    rw [tupV_at h]
    exact (by decide +kernel : kitB "tuple" "tuple" = some true)
  | dct h =>
    refine ⟨_, .base (.dK h), (by decide +kernel : kitB "dict" "int" = some false), (by decide +kernel : kitB "dict" "bool" = some false), (by decide +kernel : kitB "dict" "str" = some false), ?_⟩
    rw [tupV_ref, h]
    exact (by decide +kernel : kitB "dict" "tuple" = some false)
def nameE (x : V) : Bool := nameV x || decide (x = .str "")
def strV : V → Str
  | .str z => z
  | _ => ""
/-- whether these things are two to six unlike texts -/
def answersL (vs : List V) : Bool := decide (2 ≤ vs.length) && decide (vs.length ≤ 6) && vs.all textV && decide (unlike (vs.map strV) vs.length = vs.length)
def answersV (H : Hp) (x : V) : Bool := match tupV H x with
  | some vs => answersL vs
  | none => false
theorem strs_of : ∀ {vs : List V}, vs.all textV = true → vs = (vs.map strV).map V.str
  | [], _ => rfl
  | v :: vs, h => by
    rw [List.all_cons, Bool.and_eq_true] at h
    obtain ⟨h1, h2⟩ := h
    rw [List.map_cons, List.map_cons, ← strs_of h2]
    congr 1
    cases v with
    | str z => rfl
    | _ => cases h1
end Pk
namespace Pk
open PySem L2
/-! ### how things are shown -/
theorem from_le : ∀ (ts : List Str) (k : Nat) (acc : Str), (textFrom k acc ts).length ≤ acc.length + (ts.map fun t => t.length + 2).sum
  | [], k, acc => by
    show acc.length ≤ _
    omega
  | t :: r, k, acc => by
    have h := from_le r (k + 1) (acc ++ (if k > 0 then ", " else "" : String) ++ t)
    rw [app_len, app_len] at h
    have h2 : ((if k > 0 then ", " else "" : String) : Str).length ≤ 2 := by
      split <;> decide +kernel
    rw [List.map_cons, List.sum_cons]
    have h3 : textFrom k acc (t :: r) = textFrom (k + 1) (acc ++ (if k > 0 then ", " else "" : String) ++ t) r := rfl
    rw [h3]
    omega
theorem list_le (ts : List Str) : (listText ts).length ≤ 2 + (ts.map fun t => t.length + 2).sum := by
  unfold listText
  rw [app_len, show ("]" : Str).length = 1 by decide +kernel]
  have := from_le ts 0 "["
  rw [show ("[" : Str).length = 1 by decide +kernel] at this
  omega
/-- fit to be shown -/
structure Shows (K : PySem.W.Frag) (H : Hp) (x : V) (d : PyData) : Prop where
  dq : Dq K H x d
  sh : d.showable = true
  dp : d.depth ≤ 64
  sz : d.shown.length ≤ sizeLine
theorem repr_le {z : Str} (hl : z.length ≤ 100) (ho : Sgn z) : (reprText z).length ≤ 1002 := by
  have h := StrLaws.reprText_len z fun c hc => by
    have := ho.ok c hc
    omega
  omega
theorem bools_le : ∀ bs : List Bool, ((PyData.shownAll (bs.map .bool)).map fun t => t.length + 2).sum ≤ 7 * bs.length
  | [] => Nat.le_refl _
  | b :: r => by
    have ih := bools_le r
    show ((PyData.shown (.bool b)).length + 2) + ((PyData.shownAll (r.map .bool)).map fun t => t.length + 2).sum ≤ 7 * (r.length + 1)
    have : (PyData.shown (.bool b)).length ≤ 5 := by
      cases b <;> decide +kernel
    omega
theorem bools_show : ∀ bs : List Bool, PyData.showableAll (bs.map .bool) = true
  | [] => by simp [PyData.showableAll]
  | b :: r => by simp [PyData.showableAll, PyData.showable, bools_show r]
theorem bools_depth : ∀ bs : List Bool, PyData.depthAll (bs.map .bool) = 0
  | [] => by simp [PyData.depthAll]
  | b :: r => by simp [PyData.depthAll, PyData.depth, bools_depth r]
theorem bools_dict : ∀ bs : List Bool, PyData.hasDictAll (bs.map .bool) = false
  | [] => by simp [PyData.hasDictAll]
  | b :: r => by simp [PyData.hasDictAll, PyData.hasDict, bools_dict r]
theorem bools_dp {K : PySem.W.Frag} {H : Hp} : ∀ bs : List Bool, DpAll K H (bs.map V.bl) (bs.map .bool)
  | [] => .nil
  | b :: r => .cons (.bl b) (bools_dp r)
/-- a list of truths -/
theorem shows_bools {K : PySem.W.Frag} {H : Hp} {p : Addr} (bs : List Bool) (h : H p = some (.lst (bs.map V.bl))) (n : bs.length ≤ 100) : Shows K H (.ref p) (.list (bs.map .bool)) where
  dq := .of (.lst (SqL.of h) (bools_dp bs)) (by simp [PyData.hasDict, bools_dict])
  sh := by simp [PyData.showable, bools_show]
  dp := by simp [PyData.depth, bools_depth]
  sz := by
    have h1 := list_le (PyData.shownAll (bs.map .bool))
    have h2 := bools_le bs
    have e : (PyData.list (bs.map .bool)).shown = listText (PyData.shownAll (bs.map .bool)) := by simp [PyData.shown]
    rw [e, sizeLine_eq]
    omega
theorem Itm.shows {K : PySem.W.Frag} {H : Hp} {x : V} (h : Itm H x) : ∃ d, Shows K H x d := by
  cases h with
  | non => exact ⟨.none, .of .non rfl, rfl, by decide, by decide +kernel⟩
  | bl b => exact ⟨.bool b, .of (.bl b) (by simp [PyData.hasDict]), by simp [PyData.showable], by simp [PyData.depth], by cases b <;> decide +kernel⟩
  | int i h =>
    refine ⟨.int i, .of (.int i) (by simp [PyData.hasDict]), decide_eq_true (by omega), by simp [PyData.depth], ?_⟩
    have e : (PyData.int i).shown = Str.ofString (toString i) := by simp [PyData.shown]
    rw [e]
    exact int_text_fits (by omega)
  | str z hl ho =>
    refine ⟨.str z, .of (.str z) (by simp [PyData.hasDict]), by simp [PyData.showable], by simp [PyData.depth], ?_⟩
    have e : (PyData.str z).shown = reprText z := by simp [PyData.shown]
    have := repr_le hl ho
    rw [e, sizeLine_eq]
    omega
  | @lst a v h hv =>
    rcases hv with rfl | ⟨z, rfl, hl, ho⟩
    · refine ⟨.list [.int 1], .of (.lst (SqL.of h) (.cons (.int 1) .nil)) (by simp [PyData.hasDict, PyData.hasDictAll]), by decide +kernel, by decide +kernel, by decide +kernel⟩
    · refine ⟨.list [.str z], .of (.lst (SqL.of h) (.cons (.str z) .nil)) (by simp [PyData.hasDict, PyData.hasDictAll]), by simp [PyData.showable, PyData.showableAll], by simp [PyData.depth, PyData.depthAll], ?_⟩
      have e : (PyData.list [.str z]).shown = listText [reprText z] := by simp [PyData.shown, PyData.shownAll]
      have h1 := list_le [reprText z]
      have h2 := repr_le hl ho
      rw [e, sizeLine_eq]
      simp at h1
      omega
  | tup h => exact ⟨.tuple [.int 1], .of (.tup (SqT.of h) (.cons (.int 1) .nil)) (by simp [PyData.hasDict, PyData.hasDictAll]), by decide +kernel, by decide +kernel, by decide +kernel⟩
  | dct h => exact ⟨.dict [], .emp h, by decide +kernel, by decide +kernel, by decide +kernel⟩
theorem Dq.same {K : PySem.W.Frag} {H H' : Hp} {x : V} {d : PyData} (s : Same H H') (h : Itm H x) (g : Shows K H x d) : True := trivial
end Pk
namespace Pk
open PySem L2
theorem room_show {k : Nat} {A : Around} (hr : Room k A) : A.units + 70 < cLine := by
  have := hr.un
  omega
/-- a reading that asks for more -/
theorem pe_imp {X : Cx} {e : Expr} {t : TE} (t' : TE) (h : PE X e t) (k : ∀ σ H Q, t' σ H Q → t σ H Q) : PE X e t' := ⟨fun pins s σ H Q I w => h.run pins s σ H Q I (k σ H Q w)⟩
/-- signs as texts -/
def sgnD (l : List Nat) : PyData := .list (l.map fun c => .str ⟨#[c]⟩)
theorem sgn_lay : ∀ l : List Nat, (∀ c ∈ l, c < 0x110000) → PyData.canLayAll0 (l.map fun c => .str ⟨#[c]⟩) = true
  | [], _ => by simp [PyData.canLayAll0]
  | c :: r, h => by
    have h1 : PyData.strOk ⟨#[c]⟩ = true := (sok_iff _).mpr fun d hd => by
      rw [List.mem_singleton.mp hd]
      exact h c List.mem_cons_self
    have h2 := sgn_lay r fun d hd => h d (List.mem_cons_of_mem _ hd)
    simp [PyData.canLayAll0, PyData.canLay0, h1, h2]
theorem sgn_depth : ∀ l : List Nat, PyData.depthAll (l.map fun c => .str ⟨#[c]⟩) = 0
  | [] => by simp [PyData.depthAll]
  | c :: r => by simp [PyData.depthAll, PyData.depth, sgn_depth r]
theorem sgn_shaped (l : List Nat) (h : ∀ c ∈ l, c < 0x110000) : SeqAt.shaped (sgnD l) = true := by
  unfold sgnD
  simp [SeqAt.shaped, PyData.canLay0, PyData.depth, sgn_lay l h, sgn_depth]
theorem sgn_dp {K : PySem.W.Frag} {H : Hp} {p : Addr} {l : List Nat} (h : H p = some (.lst (l.map fun c => V.str ⟨#[c]⟩))) : Dp K H (.ref p) (sgnD l) := by
  refine .lst (SqL.of h) ?_
  clear h
  induction l with
  | nil => exact .nil
  | cons c r ih => exact .cons (.str _) ih
theorem sgn_nil (l : List Nat) : PyData.eqv (sgnD l) (sgnD []) = decide (l = []) := by
  cases l with
  | nil => simp [sgnD, PyData.eqv, PyData.eqvAll]
  | cons c r => simp [sgnD, PyData.eqv, PyData.eqvAll]
theorem name_filter (z : Str) : nameT z = (decide (0 < z.length) && (decide (z.length < 9) && decide (z.cps.toList.filter (fun c => !decide (c ∈ letters.cps.toList)) = []))) := by
  unfold nameT
  have e : (z.cps.toList.all fun c => decide (c ∈ letters.cps.toList)) = decide (z.cps.toList.filter (fun c => !decide (c ∈ letters.cps.toList)) = []) := by
    rw [Bool.eq_iff_iff, List.all_eq_true, decide_eq_true_iff, List.filter_eq_nil_iff]
    constructor
    · intro h c hc
      rw [h c hc]
      decide
    · intro h c hc
      have := h c hc
      simpa using this
  rw [e]
  have e1 : decide (1 ≤ z.length) = decide (0 < z.length) := decide_eq_decide.mpr (by omega)
  have e2 : decide (z.length ≤ 8) = decide (z.length < 9) := decide_eq_decide.mpr (by omega)
  rw [e1, e2, Bool.and_assoc]
theorem sign_ten {z : Str} (ho : Sgn z) : z.cps.toList.all signOk = !decide (10 ∈ z.cps.toList) := by
  rw [Bool.eq_iff_iff, List.all_eq_true]
  constructor
  · intro h
    have : ¬ (10 ∈ z.cps.toList) := fun hm => by
      have := h 10 hm
      revert this
      decide
    rw [decide_eq_false this]
    rfl
  · intro h c hc
    have hn : ¬ (10 ∈ z.cps.toList) := by
      intro hm
      rw [decide_eq_true hm] at h
      cases h
    rcases ho c hc with q | q
    · unfold signOk
      rw [decide_eq_true q.1, decide_eq_true q.2.1, decide_eq_false q.2.2]
      rfl
    · rw [q] at hc
      exact absurd hc hn
theorem text_law {z : Str} (ho : Sgn z) : textT z = ((decide (0 < z.length) && (decide (z.length < 31) && !decide (10 ∈ z.cps.toList))) && (!decide (z.cps.toList[0]? = some 32) && !decide (z.cps.toList.getLast? = some 32))) := by
  unfold textT
  rw [sign_ten ho]
  have e1 : decide (1 ≤ z.length) = decide (0 < z.length) := decide_eq_decide.mpr (by omega)
  have e2 : decide (z.length ≤ 30) = decide (z.length < 31) := decide_eq_decide.mpr (by omega)
  rw [e1, e2]
  cases decide (0 < z.length) <;> cases decide (z.length < 31) <;> cases decide (10 ∈ z.cps.toList) <;> cases decide (z.cps.toList[0]? = some 32) <;> cases decide (z.cps.toList.getLast? = some 32) <;> rfl

theorem one_blank (c : Nat) : decide (V.str ⟨#[c]⟩ = V.str " ") = decide (c = 32) := decide_eq_decide.mpr ⟨fun z => by
  have e := congrArg TL.tl (V.str.inj z)
  rw [blank_tl] at e
  exact (List.cons.inj e).1, fun z => by rw [z]; exact congrArg V.str (by decide +kernel)⟩
theorem last_at {l : List Nat} (h : l ≠ []) : atI l (-1) = some (l.getLast h) :=
  (congrArg (fun x => atI x (-1)) (List.dropLast_concat_getLast h).symm).trans (atI_last _ _)
end Pk
namespace Pk
open PySem L2
/-! ### a text without blanks at its ends -/
theorem strip_is (x : Str) : ∃ lo hi, lo ≤ hi ∧ hi ≤ x.length ∧ (Txt.stripChars x " ").cps.toList = (x.cps.toList.drop lo).take (hi - lo) ∧ (lo = hi ∨ (x.cps.getD lo 0 ≠ 32 ∧ x.cps.getD (hi - 1) 0 ≠ 32)) := by
  have e : Txt.stripChars x " " = Txt.stripBy (" " : Str).cps.contains true true x := rfl
  obtain ⟨a1, a2, a3⟩ := PyProof.Rows.lo_facts (" " : Str).cps.contains x
  obtain ⟨b1, b2, b3, b4⟩ := PyProof.Rows.hi_facts (" " : Str).cps.contains x _ a1
  have no : ∀ c : Nat, (" " : Str).cps.contains c = false → c ≠ 32 := fun c h z => by
    rw [z] at h
    revert h
    decide +kernel
  rw [PyProof.Rows.stripBy_eq] at e
  refine ⟨_, _, b1, b2, ?_, ?_⟩
  · rw [e]
    show (x.cps.extract _ _).toList = _
    rw [Array.toList_extract]
  · rcases b4 with h | h
    · exact .inl h.symm
    · rcases a3 with g | g
      · exact .inl (by omega)
      · exact .inr ⟨no _ g, no _ h⟩
theorem getD_at {x : Str} {k : Nat} (h : k < x.length) : x.cps.toList[k]? = some (x.cps.getD k 0) := by
  have h' : k < x.cps.toList.length := by rw [← len_is]; exact h
  rw [← PyProof.Rows.getD_list, List.getD_eq_getElem?_getD, List.getElem?_eq_getElem h']
  rfl
/-- such a text of good signs is a TEXT, unless nothing is left -/
theorem strip_text {x : Str} (hl : x.length ≤ 30) (hs : ∀ c ∈ x.cps.toList, signOk c = true) (hn : Txt.stripChars x " " ≠ "") : textT (Txt.stripChars x " ") = true := by
  obtain ⟨lo, hi, h1, h2, e, h3⟩ := strip_is x
  have ll : x.cps.toList.length = x.length := (len_is x).symm
  have hlen : (Txt.stripChars x " ").length = hi - lo := by
    rw [len_is, e, List.length_take, List.length_drop, ll]
    omega
  have ne : lo ≠ hi := fun z => hn (TL.ext_tl (by
    rw [empty_tl]
    show (Txt.stripChars x " ").cps.toList = []
    rw [e, z, Nat.sub_self, List.take_zero]))
  obtain ⟨c1, c2⟩ := h3.resolve_left ne
  have g0 : (Txt.stripChars x " ").cps.toList[0]? = some (x.cps.getD lo 0) := by
    rw [e, List.getElem?_take, if_pos (by omega), List.getElem?_drop, Nat.add_zero]
    exact getD_at (by omega)
  have gl : (Txt.stripChars x " ").cps.toList.getLast? = some (x.cps.getD (hi - 1) 0) := by
    rw [List.getLast?_eq_getElem?, ← len_is, hlen, e, List.getElem?_take, if_pos (by omega), List.getElem?_drop, show lo + (hi - lo - 1) = hi - 1 by omega]
    exact getD_at (by omega)
  have al : (Txt.stripChars x " ").cps.toList.all signOk = true := List.all_eq_true.mpr fun c hc => by
    rw [e] at hc
    exact hs c (List.mem_of_mem_drop (List.mem_of_mem_take hc))
  unfold textT
  rw [g0, gl, al, hlen, decide_eq_true (show 1 ≤ hi - lo by omega), decide_eq_true (show hi - lo ≤ 30 by omega), decide_eq_false (fun z => c1 (Option.some.inj z)), decide_eq_false (fun z => c2 (Option.some.inj z))]
  rfl
/-- signs one by one, put together -/
theorem joins_of {p : Nat → Prop} {ys : List Str} (h : ∀ y ∈ ys, ∃ c, y = ⟨#[c]⟩ ∧ p c) : (Txt.join "" ys).length = ys.length ∧ ∀ c ∈ (Txt.join "" ys).cps.toList, p c := by
  constructor
  · rw [join0_len]
    induction ys with
    | nil => rfl
    | cons y r ih =>
      obtain ⟨c, rfl, _⟩ := h y List.mem_cons_self
      rw [List.map_cons, List.sum_cons, ih fun x hx => h x (List.mem_cons_of_mem _ hx), List.length_cons]
      show 1 + _ = _
      omega
  · intro c hc
    rw [show (Txt.join "" ys).cps.toList = TL.joinL (TL.tl "") (ys.map TL.tl) from by rw [TL.join_eq]; exact TL.tl_join "" ys, empty_tl] at hc
    obtain ⟨q, hq, hm⟩ := joinL_mem _ hc
    obtain ⟨y, hy, rfl⟩ := List.mem_map.mp hq
    obtain ⟨d, rfl, hd⟩ := h y hy
    have : c = d := List.mem_singleton.mp hm
    rw [this]
    exact hd
end Pk
/-! ### what own errors say of themselves: str(e), and {x!s} -/
namespace Pk
open PySem PySem.Spec L2
section
variable {X : Cx}
/-- {x!s} of a text -/
def tFmtS (te : TE) : TE := fun σ H Q => te σ H fun x H1 => ∃ y : Str, x = .str y ∧ y.length ≤ sizeLine ∧ Q (.str y) H1
theorem pe_fmtS {e : Expr} {te : TE} {pos : Pos} (he : PE X e te) : PE X (.FormattedValue e 115 none pos) (tFmtS te) := by
  constructor
  intro pins s σ H Q I h
  refine wpAny_FormattedValue_s (thn (he.run pins s σ H _ I h) ?_)
  rintro v s1 ⟨x, H1, I1, r1, y, rfl, hz, q⟩
  obtain ⟨t, rfl⟩ := r1
  have fin : ∀ (t' : Tok) (tk : Nat), wpAny (model X.prog X.w) X.A (formatField (.str y t') Str.empty) (EP X pins σ Q) X.xe { s1 with toks := tk } := fun t' tk =>
    wpAny_formatField_str (s := { s1 with toks := tk }) ⟨.str y, H1, I1.tok _, ⟨_, rfl⟩, q⟩ ⟨.str y, H1, I1.tok _, ⟨_, rfl⟩, q⟩ hz
  refine wpAny_habitSame_str (fin t s1.toks) (fin _ _)
variable {k : Nat} {f C : Addr} {fd : FuncData} {sp : Sp} {e : Expr} {te : TE} {p pos : Pos}
/-- str(e), e a kept error whose class says how it is told -/
def tStrErr (C : Addr) (sp : Sp) (te : TE) : TE := fun σ H Q => te σ H fun x H1 => ∃ (a : Addr) (d : Option Addr), x = .ref a ∧ H1 a = some (ExH (.ref C) d a) ∧ DictOk H1 d ∧ sp [.ref a] H1 (fun v H2 => (∃ z, v = .str z) ∧ Q v H2) E0
theorem pe_strErr (F : FnOk X.prog X.w X.K X.mg X.base CX0 k f fd ["self"] sp) (hr : Room (k + 2) X.A) (hs : PySem.W.findIn X.K (.ref C) "__str__" = some (some (.ref f))) (hf : PySem.W.isFn X.K (.ref f) = true) (hb : Binds X.K fd ["self"] []) (hg : Gl X "str") (hm : X.mg "str" = none) (he : PE X e te)
    (na : starEach [e] X.env = (false, eval e X.env) :: starEach [] X.env := by rfl) : PE X (.Call (.Name "str" p) [e] [] pos) (tStrErr C sp te) := by
  constructor
  intro pins s σ H Q I h
  refine PyProof.Rows.Call_ (ld_blt I hg hm PyProof.Rows.boot_str ?_)
  refine PyProof.Rows.callWith_type1 (PyProof.Rows.args_cons (thn (he.run pins s σ H _ I h) ?_) na) na rfl
  rintro v s1 ⟨x, H1, I1, r1, a, d, rfl, ha, hd, q⟩
  cases (show v = Value.ref a from r1)
  obtain ⟨oe, od, J, -⟩ := held_at I1 ha hd
  refine PyProof.Rows.args_nil (PySem.W.kso_call (by have := hr.un; show X.A.in1.in1.units < cLine; have e1 := (hr.in1.in1).un; omega) I1.kIn J hs hf ?_)
  refine wpAny_call (codeAny_mono (F.run _ X.stack s1 H1 ⟨[.ref a], []⟩ [.ref a] [.ref a] _ E0 hr.in1.in1 I1.env0.in1.in1 (hb s1 [.ref a] I1.kIn rfl) (.cons rfl .nil) q) fun r s' hq => ?_)
  cases r with
  | error e => exact hq.elim
  | ok fl =>
    cases fl with
    | ret u =>
      obtain ⟨v, H2, I2, rv, ⟨z, rfl⟩, q2⟩ := I1.after hq
      obtain ⟨t, rfl⟩ := rv
      exact ⟨.str z, H2, I2, ⟨t, rfl⟩, q2⟩
    | next => exact False.elim hq
    | brk => exact False.elim hq
    | cont => exact False.elim hq
end
end Pk
/-! Own errors whose built-in base makes its objects by another one's making (KeyError by LookupError's). -/
namespace Pk
open PySem PySem.Spec PySem.W PySem.Calls PyProof.Rows PySem.HandSPX
open Builtin Builtin.ObjectAttr
abbrev KyLine : List Value := [.type "KeyError", .type "LookupError", .type "Exception", .type "BaseException", .type "object"]
/-- what the making asks of a line of ancestors -/
structure MkLine (B : String) (line : List Value) : Prop where
  hb : line.contains (.type B) = true
  ha : line.contains (.type "AttributeError") = false
  hn : line.contains (.type "NameError") = false
section
variable {P : Program} {w : World} {M : Model} {Ar : Around} {Ex : Value → Shared → Prop} {Rs : Result → Shared → Prop} {hp : Heap} {gs : Array GenState} {dr : Drawn} {tk : Nat} {oo : OsState}
variable {c1 c2 : Str} {C ns : Addr} {bases line lineB : List Value} {dct : Bool} {slots : List Str} {subs : List Value} {abs : Bool} {coll : Option Bool} {del : Option Addr} {a0 a1 a2 a3 a5 : Option Value} {B newB iniB : String}
theorem mk_check (F : ExcBaseFacts B newB iniB lineB) (L : MkLine B line) {args : List Value} {Q : Unit → Shared → Prop} (cl : hp.get? C = some (excClassObj c1 c2 C ns bases line dct slots subs abs coll del a0 a1 a2 a3 a5 newB)) (q : Q () ⟨hp, gs, dr, tk, oo⟩) :
    wpAny M Ar (checkBuiltinCall newB ⟨.ref C :: args, []⟩) Q Ex ⟨hp, gs, dr, tk, oo⟩ := by
  have in_ : (Value.ref C :: line).contains (.type B) = true := by
    rw [List.contains_cons, L.hb]
    exact Bool.or_true _
  have star := F.noStar
  simp only [checkBuiltinCall, F.newRow, F.newKind, F.newSplit]
  repeat (first
    | refine wpAny_loadPart_at cl ?_
    | (refine wpAny_isSubtype_exc cl ?_; rw [in_])
    | refine wpAny_staticBase_exc cl ?_
    | refine wpAny_madeBy_exc cl ?_
    | simp only [bne_self_eq_false, if_false, Bool.false_eq_true]
    | wp_step)
  exact q
theorem mk_new (F : ExcBaseFacts B newB iniB lineB) (L : MkLine B line) {args : List Value} (cl : hp.get? C = some (excClassObj c1 c2 C ns bases line dct slots subs abs coll del a0 a1 a2 a3 a5 newB)) (size : args.length ≤ sizeLine)
    (q : Rs (.ok (.ret (.ref (hp.objs.size + 1)))) ⟨(hp.push (kdv_tup args)).push (excO C hp.objs.size), gs, dr, tk, oo⟩) : codeAny (model P w) Ar (.builtin newB ⟨.ref C :: args, []⟩) Rs ⟨hp, gs, dr, tk, oo⟩ := by
  have en := F.ends
  have iB : (Value.ref C :: line).contains (.type B) = true := by
    rw [List.contains_cons, L.hb]
    exact Bool.or_true _
  have iA : (Value.ref C :: line).contains (.type "AttributeError") = false := by
    rw [List.contains_cons, L.ha]
    rfl
  have iN : (Value.ref C :: line).contains (.type "NameError") = false := by
    rw [List.contains_cons, L.hn]
    rfl
  refine codeAny_builtinAt F.entry ?_
  unfold Builtin.«BaseException.__new__»
  refine PySem.wpAt_bind ?_
  show PySem.wpAt _ _ _ (stack >>= _) _ _ _
  refine PySem.wpAt_bind (PySem.wpAt_stack fun p below => PySem.wpAt_of_wpAny ?_)
  wp_walk
  refine PySem.wpAt_of_wpAny ?_
  rw [F.owner]
  repeat (first
    | with_reducible refine wpAny_madeHere_exc F.canon cl ?_
    | with_reducible refine wpAny_loadPart_at cl ?_
    | (with_reducible refine wpAny_isSubtype_exc cl ?_; first | rw [iB] | rw [iA] | rw [iN])
    | wp_step)
  show Rs _ _
  rw [Heap.size_push]
  exact q
theorem mk_type (F : ExcBaseFacts B newB iniB lineB) (L : MkLine B line) {args : List Value} {fn : Addr} {Q : Fin → Shared → Prop} (cl : hp.get? C = some (excClassObj c1 c2 C ns bases line dct slots subs abs coll del a0 a1 a2 a3 a5 newB))
    (li : Looks (model P w) hp (typeLookup (.ref C) "__init__") (some (.ref fn))) (lb : ∀ self, Looks (model P w) hp (bindSpecial (.ref fn) self) (.ref fn, [self])) (size : args.length ≤ sizeLine)
    (q : codeAny (model P w) Ar (.call (.ref fn) ⟨.ref (hp.objs.size + 1) :: args, []⟩) (fun r s' => match r with | .ok (.ret v) => v = .none ∧ Q (.done (.ret (.ref (hp.objs.size + 1)))) s' | .ok _ => False | .error e => Ex e s') ⟨(hp.push (kdv_tup args)).push (excO C hp.objs.size), gs, dr, tk, oo⟩) :
    wpAny (model P w) Ar (Builtin.«type.__call__» ⟨.ref C :: args, []⟩) Q Ex ⟨hp, gs, dr, tk, oo⟩ := by
  repeat (first
    | with_reducible refine wpAny_loadPart_at cl ?_
    | with_reducible refine wpAny_madeBy_exc cl ?_
    | wp_step)
  refine codeAny_call_builtin_code (Code.quiet_builtin _ F.quiet) (mk_check F L cl (mk_new F L cl size ?_))
  show wpAny _ _ _ _ _ _
  have kp : ∀ b o, hp.get? b = some o → ((hp.push (kdv_tup args)).push (excO C hp.objs.size)).get? b = some o := fun b o e => Heap.get?_push_of_some _ (Heap.get?_push_of_some _ e)
  have cl1 := kp _ _ cl
  have at_ : ((hp.push (kdv_tup args)).push (excO C hp.objs.size)).get? (hp.objs.size + 1) = some (excO C hp.objs.size) := by heap_get
  have own : (Value.ref C :: line).contains (.ref C) = true := by simp
  have li1 := li.keeps kp
  have lb1 := (lb (.ref (hp.objs.size + 1))).keeps kp
  unfold isInstance
  repeat (first
    | with_reducible refine wpAny_loadPart_at at_ ?_
    | (with_reducible refine wpAny_isSubtype_exc cl1 ?_; rw [own])
    | wp_step)
  show wpAny _ _ (typeLookup (.ref C) _) _ _ _
  refine li1.at (wpAny_holding (wpAny_bind (lb1.at (wpAny_bind (wpAny_call (codeAny_mono q fun r s' z => ?_))))))
  rcases r with e | (v | _ | _ | _) <;> first | exact z | exact z.elim | skip
  obtain ⟨rfl, z⟩ := z
  first
    | exact wpAny_pure (wpAny_pure z)
    | (wp_walk; exact z)
theorem mk_call (F : ExcBaseFacts B newB iniB lineB) (L : MkLine B line) {args : List Value} {fn : Addr} (cl : hp.get? C = some (excClassObj c1 c2 C ns bases line dct slots subs abs coll del a0 a1 a2 a3 a5 newB))
    (li : Looks (model P w) hp (typeLookup (.ref C) "__init__") (some (.ref fn))) (lb : ∀ self, Looks (model P w) hp (bindSpecial (.ref fn) self) (.ref fn, [self])) (size : args.length ≤ sizeLine)
    (q : codeAny (model P w) (Ar.under (.builtin "type.__call__" ⟨.ref C :: args, []⟩)) (.call (.ref fn) ⟨.ref (hp.objs.size + 1) :: args, []⟩) (InitBack (hp.objs.size + 1) Rs) ⟨(hp.push (kdv_tup args)).push (excO C hp.objs.size), gs, dr, tk, oo⟩) :
    codeAny (model P w) Ar (.call (.ref C) ⟨args, []⟩) Rs ⟨hp, gs, dr, tk, oo⟩ := by
  have t1 := tc_lookup
  have t2 := tc_bind (.ref C)
  have ty : (⟨hp, gs, dr, tk, oo⟩ : Shared).TypeIs (.ref C) "type" := ⟨_, cl, rfl⟩
  refine codeAny_of_tree (show wpAny _ _ (callAny (.ref C) _) _ _ _ from ?_)
  repeat (any_goals (first
    | assumption
    | with_reducible refine wpAny_loadPart_at cl ?_
    | wp_step))
  refine ⟨rfl, ?_⟩
  refine codeAny_call_builtin_at (Code.quiet_builtin _ (by decide +kernel)) entry_typeCall (wpAny_check_type_call_sub cl (mk_type F L cl li lb size ?_))
  refine codeAny_mono q fun r s' z => ?_
  rcases r with e | (v | _ | _ | _) <;> exact z
end
theorem ky_line : MkLine "LookupError" KyLine := ⟨by decide +kernel, by decide +kernel, by decide +kernel⟩
theorem MkLine.own {B : String} {line : List Value} {c : Addr} (l : MkLine B line) : MkLine B (.ref c :: line) := ⟨by rw [List.contains_cons, l.hb]; exact Bool.or_true _, by rw [List.contains_cons, l.ha]; rfl, by rw [List.contains_cons, l.hn]; rfl⟩
end Pk
namespace Pk
open PySem PySem.Spec PySem.W PySem.Calls PyProof.Rows PySem.HandSPX
open Builtin Builtin.ObjectAttr
/-- what a class's line of ancestors must bear: that its errors are made, and their fields stored -/
structure ErrLine (B : String) (line : List Value) : Prop where
  mkl : MkLine B line
  pass : ∀ self : Value, refuseLoop self "__setattr__" line = pure ()
  obj : line.contains (.type "object") = true
theorem ErrLine.own {B : String} {line : List Value} {c : Addr} (l : ErrLine B line) : ErrLine B (.ref c :: line) where
  mkl := l.mkl.own
  pass := fun self => by
    rw [refuseLoop_ref]
    exact l.pass self
  obj := by
    rw [List.contains_cons, l.obj]
    exact Bool.or_true _
section
variable {prog : Program} {w : World} {A : Around} {E : Value → Shared → Prop} {R : Result → Shared → Prop} {hp : Heap} {g : Array GenState} {d : Drawn} {t : Nat} {os : OsState}
/-- the first field of an error -/
theorem err_first {K : Frag} {name : Str} {tk : Tok} {v : Value} {x C : Addr} {fv : Array Value} {cd : ClassData} (X : K.In hp) (hx : hp.get? x = some { cls := .ref C, data := .fields fv }) (hcd : clsIn K C = some cd) (hob : cd.mro.contains (.type "object") = true) (pass : ∀ self : Value, refuseLoop self "__setattr__" cd.mro = pure ()) (ne : cd.mro.isEmpty = false)
    (hh : cd.hasDict = true) (ha : findIn K (.ref C) name = some none)
    (hq : ∀ h' tk' dx, (∀ b o, b ≠ x → hp.get? b = some o → h'.get? b = some o) → hp.objs.size ≤ dx → dx ≠ x → h'.get? x = some { cls := .ref C, dict := some dx, data := .fields fv } → h'.Ns1 dx (fun y => if y = name then some v else none) → R (.ok (.ret .none)) ⟨h', g, d, tk', os⟩) :
    codeAny (model prog w) A (.call (.builtin "object.__setattr__") ⟨[.ref x, .str name tk, v], []⟩) R ⟨hp, g, d, t, os⟩ := by
  have I : InstAt hp x { cls := .ref C, data := .fields fv } C none := ⟨hx, rfl, rfl, trivial⟩
  have hxs : x ≠ hp.objs.size := Nat.ne_of_lt (Heap.lt_size hx)
  have mro_ : mroIn K C (.type "object") = some true := by
    unfold mroIn
    rw [hcd, Option.bind_some, if_neg (by rw [ne]; exact Bool.false_ne_true), hob]
  have isObj : Looks (model prog w) hp (isInstance (.ref x) (.type "object")) true := I.type.andThen (looks_mroIn X mro_)
  refine codeAny_call_builtin F.store_object.slot.plain F.store_object.entry (@check_slot (model prog w) _ _ ⟨hp, g, d, t, os⟩ "object.__setattr__" "object" "__setattr__" (.ref x) [.str name tk, v] [] _ F.store_object.kind F.store_object.split isObj (F.store_object.args (.ref x) (.str name tk) v) ?_)
  have Lm : Looks (model prog w) hp (mroOf (.ref C)) cd.mro := (looks_clsIn X hcd).andThen .now
  have Lt : Looks (model prog w) hp (storeTaker? none) none := .now
  have Lc : Looks (model prog w) hp (classData C) cd := looks_clsIn X hcd
  rw [osa_eq, refuse_eq]
  refine wpAny_bind (wpAny_bind (I.type.at (wpAny_bind (Lm.at ?_))))
  rw [pass]
  refine wpAny_pure (wpAny_bind (I.type.at (wpAny_bind ((looks_findIn X ha).at (wpAny_bind (Lt.at ?_))))))
  show wpAny _ _ (storeInOwnDict (.ref x) (.ref C) (.str name tk) name v false) _ _ _
  obtain ⟨nm, bs, mro, ns, qn, hd, sn, sb, ab, col, del⟩ := cd
  dsimp only at hh
  subst hh
  unfold storeInOwnDict ownDictForStores
  repeat (first | with_reducible refine store_in_new ?_ ?_ | with_reducible refine wpAny_loadPart_at hx ?_ | with_reducible refine Lc.at ?_ | wp_step)
  · exact ⟨_, #[], _, (Heap.get?_update_ne _ _ _ _ hxs.symm).trans (Heap.get?_push_at rfl rfl), rfl, fun e he => absurd he (by simp), fun _ => rfl⟩
  · intro h' tk' hn' hs
    refine hq h' tk' hp.objs.size ?_ (Nat.le_refl _) hxs.symm ?_ hn'
    · intro b o hb ho
      exact (hs.2 b (Nat.ne_of_lt (Heap.lt_size ho))).trans ((Heap.get?_update_ne _ _ _ _ hb).trans (Heap.get?_push_of_some _ ho))
    · exact (hs.2 x hxs).trans (Heap.get?_update_self _ (Heap.get?_push_of_some _ hx) rfl)
/-- a further field -/
theorem err_next {K : Frag} {name : Str} {tk : Tok} {v : Value} {x C dx : Addr} {fv : Array Value} {cd : ClassData} {m0 : Str → Option Value} {nl : List Str} (X : K.In hp) (hx : hp.get? x = some { cls := .ref C, dict := some dx, data := .fields fv }) (hns : hp.Ns1 dx m0) (hw : Within m0 nl) (hz : nl.length ≤ 1000)
    (hcd : clsIn K C = some cd) (hob : cd.mro.contains (.type "object") = true) (pass : ∀ self : Value, refuseLoop self "__setattr__" cd.mro = pure ()) (ne : cd.mro.isEmpty = false) (hh : cd.hasDict = true) (ha : findIn K (.ref C) name = some none)
    (hq : ∀ h' tk', (∀ b o, b ≠ dx → hp.get? b = some o → h'.get? b = some o) → h'.Ns1 dx (fun y => if y = name then some v else m0 y) → R (.ok (.ret .none)) ⟨h', g, d, tk', os⟩) :
    codeAny (model prog w) A (.call (.builtin "object.__setattr__") ⟨[.ref x, .str name tk, v], []⟩) R ⟨hp, g, d, t, os⟩ := by
  obtain ⟨oD, eD, pD, gD, _, _⟩ := hns.count hw
  have I : InstAt hp x { cls := .ref C, dict := some dx, data := .fields fv } C (some oD) := ⟨hx, rfl, rfl, gD⟩
  have mro_ : mroIn K C (.type "object") = some true := by
    unfold mroIn
    rw [hcd, Option.bind_some, if_neg (by rw [ne]; exact Bool.false_ne_true), hob]
  have isObj : Looks (model prog w) hp (isInstance (.ref x) (.type "object")) true := I.type.andThen (looks_mroIn X mro_)
  refine codeAny_call_builtin F.store_object.slot.plain F.store_object.entry (@check_slot (model prog w) _ _ ⟨hp, g, d, t, os⟩ "object.__setattr__" "object" "__setattr__" (.ref x) [.str name tk, v] [] _ F.store_object.kind F.store_object.split isObj (F.store_object.args (.ref x) (.str name tk) v) ?_)
  have Lm : Looks (model prog w) hp (mroOf (.ref C)) cd.mro := (looks_clsIn X hcd).andThen .now
  have Lt : Looks (model prog w) hp (storeTaker? none) none := .now
  have Lc : Looks (model prog w) hp (classData C) cd := looks_clsIn X hcd
  rw [osa_eq, refuse_eq]
  refine wpAny_bind (wpAny_bind (I.type.at (wpAny_bind (Lm.at ?_))))
  rw [pass]
  refine wpAny_pure (wpAny_bind (I.type.at (wpAny_bind ((looks_findIn X ha).at (wpAny_bind (Lt.at ?_))))))
  show wpAny _ _ (storeInOwnDict (.ref x) (.ref C) (.str name tk) name v false) _ _ _
  obtain ⟨nm, bs, mro, ns, qn, hd, sn, sb, ab, col, del⟩ := cd
  dsimp only at hh
  subst hh
  unfold storeInOwnDict ownDictForStores
  repeat (first | with_reducible refine PySem.OEX.store_in_old hns hw hz ?_ | with_reducible refine wpAny_loadPart_at hx ?_ | with_reducible refine Lc.at ?_ | wp_step)
  intro h' tk' hn' hs
  exact hq h' tk' (fun b o hb ho => (hs.2 b hb).trans ho) hn'
end
end Pk
namespace Pk
open PySem PySem.Spec PyProof.Rows L2
/-! ### errors of the field part, over any base -/
namespace Er_part
open PySem.W PySem.Calls PySem.HandSPX
/-- the class called nm, at C, and its __init__, at fI, as the top has left them -/
structure Tx (K : Frag) (mg : Str → Option Value) (nm ql : Str) (C fI : Addr) (B newId initId : String) (bmB : List Value) : Prop where
  base : ExcBaseFacts B newId initId bmB
  gC : mg nm = some (.ref C)
  cls : ∃ n1 q N bs bm sn sub ab col dd k0 k1 k2 k3 k5, K.lookup C = some (excClassObj n1 q C N bs bm true sn sub ab col dd k0 k1 k2 k3 k5 newId) ∧ ErrLine B bm
  sa : findIn K (.ref C) "__setattr__" = some (some (.builtin "object.__setattr__"))
  ex : ExcC K C
  noN : findIn K (.ref C) "part" = some none
  iC : findIn K (.ref C) "__init__" = some (some (.ref fI))
  tC : typeIn K (.ref fI) = some (.type "function")
  kC : keepIn K (.ref C) = true
  tyC : typeIn K (.ref C) = some (.type "type")
  fn : ∃ (oc : Value) (od : Option Addr) (doc pm : Value) (an : Option Addr) (cdv ct : Value) (osl : Array (Option Value)) (p1 p2 q1 q2 q3 q4 : Pos),
    K.lookup fI = some ⟨oc, od, .func (fnOf "__init__" ql (Of_part.iA p1 p2) (Of_part.iB q1 q2 q3 q4) Of_part.iS .none .none doc pm an cdv ct), osl⟩ ∧ codeIn K cdv ql = true
section
variable {prog : Program} {w : World} {A : Around} {E : Value → Shared → Prop} {R : Result → Shared → Prop} {s : Shared} {K : Frag} {mg : Str → Option Value} {nm ql : Str} {C fI : Addr} {B newId initId : String} {bmB : List Value}
theorem made (T : Tx K mg nm ql C fI B newId initId bmB) {v : Value} (X : K.In s.heap) (hlim : s.heap.NoLimit) (hroom : A.depth + 1 < recursionLimit) (hq : ∀ h' tk e d, Of_part.Made s.heap h' e C d v → R (.ok (.ret (.ref e))) { s with heap := h', toks := tk }) :
    codeAny (model prog w) A (.call (.ref C) ⟨[v], []⟩) R s := by
  obtain ⟨n1, q, N, bs, bm, sn, sub, ab, col, dd, k0, k1, k2, k3, k5, hC, ln⟩ := T.cls
  obtain ⟨oc, od, doc, pm, an, cdv, ct, osl, p1, p2, q1, q2, q3, q4, ho, hcd⟩ := T.fn
  have hcl : clsIn K C = some { name := n1, bases := bs, mro := .ref C :: bm, ns := N, qualname := q, hasDict := true, slotNames := sn, subclasses := sub, abstract := ab, collection := col, hasDel := false } := by
    unfold clsIn
    rw [hC]
  obtain ⟨hp, g, dr, tk, os⟩ := s
  have k : ∀ b o, hp.get? b = some o → ((hp.push (kdv_tup [v])).push (excO C hp.objs.size)).get? b = some o := fun b o e => Heap.get?_push_of_some _ (Heap.get?_push_of_some _ e)
  have hx : ((hp.push (kdv_tup [v])).push (excO C hp.objs.size)).get? (hp.objs.size + 1) = some (excO C hp.objs.size) := by heap_get
  refine mk_call T.base ln.mkl (X _ _ hC) (looks_findIn X T.iC) (fun self => bind_fn X self T.tC) (one_size v) ?_
  have X1 := X.keeps k
  have lim1 : ((hp.push (kdv_tup [v])).push (excO C hp.objs.size)).NoLimit := hlim.keeps k
  have size1 : ((hp.push (kdv_tup [v])).push (excO C hp.objs.size)).objs.size = hp.objs.size + 1 + 1 := by rw [Heap.size_push, Heap.size_push]
  generalize (hp.push (kdv_tup [v])).push (excO C hp.objs.size) = h1 at k hx X1 lim1 size1 ⊢
  refine Att.call_fn (binds := [("self", .ref (hp.objs.size + 1)), ("part", v)]) X1 lim1 ho hcd hroom (BindsTo.of_eq (by first | rfl | with_unfolding_all rfl)) (by first | rfl | decide | with_unfolding_all rfl) (fun s₁ IC => ?_) rfl rfl rfl
  obtain ⟨h₁, tk₁, rfl⟩ := IC.toInCall.same
  have k1' : ∀ b o, h1.get? b = some o → h₁.get? b = some o := IC.toInCall.keep
  have hn := IC.toInCall.ns
  show wpAny _ _ (execs _ _) _ _ _
  refine wpAny_execs_cons (plainObj_wpAny_Assign_Attribute ?_)
  refine ldC (v := v) hn (by first | rfl | with_unfolding_all rfl | kernel_rfl) (ldC (v := .ref (hp.objs.size + 1)) hn (by first | rfl | with_unfolding_all rfl | kernel_rfl) ?_)
  refine set_plain (X1.keeps k1') (ox := excO C hp.objs.size) (od := none) ⟨k1' _ _ hx, rfl, rfl, trivial⟩ T.sa ?_
  refine err_first (X1.keeps k1') (k1' _ _ hx) hcl ln.own.obj ln.own.pass rfl rfl T.noN (fun h₃ tk₃ dx k₃ dn dne hx₃ hn₃ => ?_)
  show wpAny _ _ (execs _ _) _ _ _
  have z : h1.objs.size < h₁.objs.size := hn.lt
  have lt_ : ∀ {b : Addr} {o : Obj}, hp.get? b = some o → b ≠ hp.objs.size + 1 := fun {b o} e => Nat.ne_of_lt (Nat.lt_succ_of_lt (Heap.lt_size e))
  refine wpAny_execs_nil ⟨rfl, hq h₃ tk₃ (hp.objs.size + 1) dx ⟨fun b o e => k₃ b o (lt_ e) (k1' b o (k b o e)), Nat.le_succ _, ⟨_, _, hx₃, rfl, rfl, rfl, rfl⟩, ?_, dne, hn₃⟩⟩
  have dn' : h₁.objs.size ≤ dx := dn
  show hp.objs.size ≤ dx
  omega
end
end Er_part
section
variable {X : Cx} {nm ql : Str} {C fI : Addr} {B newId initId : String} {bmB : List Value}
/-- raise nm(e) -/
theorem pmkE_part {a : Expr} {ta : TA} {p pos : Pos} {k : Nat} (T : Er_part.Tx X.K X.mg nm ql C fI B newId initId bmB) (hr : Room k X.A) (ha : PA X [a] ta) (hg : Gl X nm := by rfl) (hdb : (nm == ("__debug__" : Str)) = false := by decide)
    (he : starEach (a :: []) X.env = (false, eval a X.env) :: starEach [] X.env := by rfl) (hpl : (backTo pos (starEach [] X.env)).any (·.1) = false := by rfl) :
    PMk X (.Call (.Name nm p) [a] [] pos) (tMk_part C ta) := by
  intro pins s σ H Q I h
  refine wpAny_Call_Name_kw (ld_glob I hg T.gC ?_ hdb)
  refine PySem.W.callWith_K (h₀ := X.base) I.ok.mod.kin T.kC (thn (ha.run pos pins s σ H _ I h) fun us s1 hh => ?_) he hpl
  obtain ⟨vs, H1, I1, r1, v, ev, q1⟩ := hh
  subst ev
  refine ⟨I1.kIn, ?_⟩
  cases r1 with
  | cons rv rn =>
    rename_i v' us'
    cases rn
    show wpAny _ _ (call (.ref C) [v']) _ _ _
    have hlim := I1.nolimit
    obtain ⟨hp, g, dr, tk, os⟩ := s1
    refine wpAny_call (Er_part.made T I1.kIn hlim (by have := hr.dp; omega) fun h' tk' e d M => ?_)
    show MkP X pins σ Q (.ref e) ⟨h', g, dr, tk', os⟩
    obtain ⟨oe, fv, hoe, hc, hd, hdat, h1⟩ := M.obj
    have hns := M.ns
    obtain ⟨G', g1, g2⟩ := restrict h' fun b => decide (b ≠ e)
    have gk : ∀ b, b ≠ e → G'.get? b = h'.get? b := fun b hb => g1 b (decide_eq_true hb)
    have ge : G'.get? e = none := g2 e (by simp)
    have old : ∀ b o, hp.get? b = some o → G'.get? b = some o := fun b o q => (gk b (Nat.ne_of_lt (Nat.lt_of_lt_of_le (Heap.lt_size q) M.new))).trans (M.keep b o q)
    have ob : ObjOk X.prog X.w (upd H1 d (.xd [(("part" : Str), v)])) G' d (.xd [(("part" : Str), v)]) :=
      ⟨_, hns.at (fun o q => (gk d M.dne).trans q), fun f => relO_part rv f⟩
    have J : L2.Inv X pins σ (upd H1 d (.xd [(("part" : Str), v)])) ⟨G', g, dr, tk', os⟩ := I1.laid (t' := tk') old M.dbig ob
    refine ⟨e, oe, fv, ⟨G', g, dr, tk', os⟩, _, .ref C, some d, rfl, J, fun b o q => ?_, ge, hoe, ⟨hc, hd⟩, hdat, h1, ?_, rfl, I1.bare, raises_own T.ex.hs T.tyC, q1 d (I1.hok.fresh M.dbig)⟩
    · by_cases hb : b = e
      · have q' : G'.get? b = some o := q
        rw [hb, ge] at q'
        cases q'
      · exact (gk b hb).symm.trans q
    · rw [upd_ne (Ne.symm M.dne)]
      exact I1.hok.fresh M.new
theorem ps_raiseE_part {a : Expr} {ta : TA} {W : WX} {p pos pos2 : Pos} {k : Nat} (hc : X.calm = true) (T : Er_part.Tx X.K X.mg nm ql C fI B newId initId bmB) (hr : Room k X.A) (tk : Takes X W) (ha : PA X [a] ta) (hg : Gl X nm := by rfl) (hdb : (nm == ("__debug__" : Str)) = false := by decide)
    (he : starEach (a :: []) X.env = (false, eval a X.env) :: starEach [] X.env := by rfl) (hpl : (backTo pos (starEach [] X.env)).any (·.1) = false := by rfl) :
    PS X (.Raise (some (.Call (.Name nm p) [a] [] pos)) none pos2) (tRaise_part C W ta) := ps_raise hc tk (pmkE_part T hr ha hg hdb he hpl)
/-- nm(e) as a value -/
def tVal_part (C : Addr) (ta : TA) : TE := fun σ H Q => ta σ H fun vs H1 => ∃ v, vs = [v] ∧ ∀ e d, H1 e = none → H1 d = none → d ≠ e → Q (.ref e) (upd (upd H1 d (.xd [(("part" : Str), v)])) e (ExH (.ref C) (some d) e))
theorem pe_val_part {a : Expr} {ta : TA} {p pos : Pos} {k : Nat} (T : Er_part.Tx X.K X.mg nm ql C fI B newId initId bmB) (hr : Room k X.A) (ha : PA X [a] ta) (hg : Gl X nm := by rfl) (hdb : (nm == ("__debug__" : Str)) = false := by decide)
    (he : starEach (a :: []) X.env = (false, eval a X.env) :: starEach [] X.env := by rfl) (hpl : (backTo pos (starEach [] X.env)).any (·.1) = false := by rfl) :
    PE X (.Call (.Name nm p) [a] [] pos) (tVal_part C ta) := by
  constructor
  intro pins s σ H Q I h
  refine wpAny_Call_Name_kw (ld_glob I hg T.gC ?_ hdb)
  refine PySem.W.callWith_K (h₀ := X.base) I.ok.mod.kin T.kC (thn (ha.run pos pins s σ H _ I h) fun us s1 hh => ?_) he hpl
  obtain ⟨vs, H1, I1, r1, v, ev, q1⟩ := hh
  subst ev
  refine ⟨I1.kIn, ?_⟩
  cases r1 with
  | cons rv rn =>
    rename_i v' us'
    cases rn
    show wpAny _ _ (call (.ref C) [v']) _ _ _
    have hlim := I1.nolimit
    obtain ⟨hp, g, dr, tk, os⟩ := s1
    refine wpAny_call (Er_part.made T I1.kIn hlim (by have := hr.dp; omega) fun h' tk' e d M => ?_)
    obtain ⟨oe, fv, hoe, hc, hd, hdat, h1⟩ := M.obj
    have hns := M.ns
    obtain ⟨G', g1, g2⟩ := restrict h' fun b => decide (b ≠ e)
    have gk : ∀ b, b ≠ e → G'.get? b = h'.get? b := fun b hb => g1 b (decide_eq_true hb)
    have ge : G'.get? e = none := g2 e (by simp)
    have old : ∀ b o, hp.get? b = some o → G'.get? b = some o := fun b o q => (gk b (Nat.ne_of_lt (Nat.lt_of_lt_of_le (Heap.lt_size q) M.new))).trans (M.keep b o q)
    have ob : ObjOk X.prog X.w (upd H1 d (.xd [(("part" : Str), v)])) G' d (.xd [(("part" : Str), v)]) :=
      ⟨_, hns.at (fun o q => (gk d M.dne).trans q), fun f => relO_part rv f⟩
    have J : L2.Inv X pins σ (upd H1 d (.xd [(("part" : Str), v)])) ⟨G', g, dr, tk', os⟩ := I1.laid (t' := tk') old M.dbig ob
    have fe : H1 e = none := I1.hok.fresh M.new
    have fd : H1 d = none := I1.hok.fresh M.dbig
    have J2 : L2.Inv X pins σ (upd (upd H1 d (.xd [(("part" : Str), v)])) e (ExH (.ref C) (some d) e)) ⟨h', g, dr, tk', os⟩ := J.laidN (h' := h') (t' := tk') (fun b u q => by
      by_cases hb : b = e
      · have q' : G'.get? b = some u := q
        rw [hb, ge] at q'
        cases q'
      · exact (gk b hb).symm.trans q) ge (by rw [upd_ne (Ne.symm M.dne)]; exact fe) (held_ok hoe ⟨hc, hd⟩ hdat)
    exact ⟨.ref e, _, J2, rfl, q1 e d fe fd M.dne⟩
end
/-! ### errors of the field wanted, over any base -/
namespace Er_wanted
open PySem.W PySem.Calls PySem.HandSPX
/-- the class called nm, at C, and its __init__, at fI, as the top has left them -/
structure Tx (K : Frag) (mg : Str → Option Value) (nm ql : Str) (C fI : Addr) (B newId initId : String) (bmB : List Value) : Prop where
  base : ExcBaseFacts B newId initId bmB
  gC : mg nm = some (.ref C)
  cls : ∃ n1 q N bs bm sn sub ab col dd k0 k1 k2 k3 k5, K.lookup C = some (excClassObj n1 q C N bs bm true sn sub ab col dd k0 k1 k2 k3 k5 newId) ∧ ErrLine B bm
  sa : findIn K (.ref C) "__setattr__" = some (some (.builtin "object.__setattr__"))
  ex : ExcC K C
  noN : findIn K (.ref C) "wanted" = some none
  iC : findIn K (.ref C) "__init__" = some (some (.ref fI))
  tC : typeIn K (.ref fI) = some (.type "function")
  kC : keepIn K (.ref C) = true
  tyC : typeIn K (.ref C) = some (.type "type")
  fn : ∃ (oc : Value) (od : Option Addr) (doc pm : Value) (an : Option Addr) (cdv ct : Value) (osl : Array (Option Value)) (p1 p2 q1 q2 q3 q4 : Pos),
    K.lookup fI = some ⟨oc, od, .func (fnOf "__init__" ql (Of_wanted.iA p1 p2) (Of_wanted.iB q1 q2 q3 q4) Of_wanted.iS .none .none doc pm an cdv ct), osl⟩ ∧ codeIn K cdv ql = true
section
variable {prog : Program} {w : World} {A : Around} {E : Value → Shared → Prop} {R : Result → Shared → Prop} {s : Shared} {K : Frag} {mg : Str → Option Value} {nm ql : Str} {C fI : Addr} {B newId initId : String} {bmB : List Value}
theorem made (T : Tx K mg nm ql C fI B newId initId bmB) {v : Value} (X : K.In s.heap) (hlim : s.heap.NoLimit) (hroom : A.depth + 1 < recursionLimit) (hq : ∀ h' tk e d, Of_wanted.Made s.heap h' e C d v → R (.ok (.ret (.ref e))) { s with heap := h', toks := tk }) :
    codeAny (model prog w) A (.call (.ref C) ⟨[v], []⟩) R s := by
  obtain ⟨n1, q, N, bs, bm, sn, sub, ab, col, dd, k0, k1, k2, k3, k5, hC, ln⟩ := T.cls
  obtain ⟨oc, od, doc, pm, an, cdv, ct, osl, p1, p2, q1, q2, q3, q4, ho, hcd⟩ := T.fn
  have hcl : clsIn K C = some { name := n1, bases := bs, mro := .ref C :: bm, ns := N, qualname := q, hasDict := true, slotNames := sn, subclasses := sub, abstract := ab, collection := col, hasDel := false } := by
    unfold clsIn
    rw [hC]
  obtain ⟨hp, g, dr, tk, os⟩ := s
  have k : ∀ b o, hp.get? b = some o → ((hp.push (kdv_tup [v])).push (excO C hp.objs.size)).get? b = some o := fun b o e => Heap.get?_push_of_some _ (Heap.get?_push_of_some _ e)
  have hx : ((hp.push (kdv_tup [v])).push (excO C hp.objs.size)).get? (hp.objs.size + 1) = some (excO C hp.objs.size) := by heap_get
  refine mk_call T.base ln.mkl (X _ _ hC) (looks_findIn X T.iC) (fun self => bind_fn X self T.tC) (one_size v) ?_
  have X1 := X.keeps k
  have lim1 : ((hp.push (kdv_tup [v])).push (excO C hp.objs.size)).NoLimit := hlim.keeps k
  have size1 : ((hp.push (kdv_tup [v])).push (excO C hp.objs.size)).objs.size = hp.objs.size + 1 + 1 := by rw [Heap.size_push, Heap.size_push]
  generalize (hp.push (kdv_tup [v])).push (excO C hp.objs.size) = h1 at k hx X1 lim1 size1 ⊢
  refine Att.call_fn (binds := [("self", .ref (hp.objs.size + 1)), ("wanted", v)]) X1 lim1 ho hcd hroom (BindsTo.of_eq (by first | rfl | with_unfolding_all rfl)) (by first | rfl | decide | with_unfolding_all rfl) (fun s₁ IC => ?_) rfl rfl rfl
  obtain ⟨h₁, tk₁, rfl⟩ := IC.toInCall.same
  have k1' : ∀ b o, h1.get? b = some o → h₁.get? b = some o := IC.toInCall.keep
  have hn := IC.toInCall.ns
  show wpAny _ _ (execs _ _) _ _ _
  refine wpAny_execs_cons (plainObj_wpAny_Assign_Attribute ?_)
  refine ldC (v := v) hn (by first | rfl | with_unfolding_all rfl | kernel_rfl) (ldC (v := .ref (hp.objs.size + 1)) hn (by first | rfl | with_unfolding_all rfl | kernel_rfl) ?_)
  refine set_plain (X1.keeps k1') (ox := excO C hp.objs.size) (od := none) ⟨k1' _ _ hx, rfl, rfl, trivial⟩ T.sa ?_
  refine err_first (X1.keeps k1') (k1' _ _ hx) hcl ln.own.obj ln.own.pass rfl rfl T.noN (fun h₃ tk₃ dx k₃ dn dne hx₃ hn₃ => ?_)
  show wpAny _ _ (execs _ _) _ _ _
  have z : h1.objs.size < h₁.objs.size := hn.lt
  have lt_ : ∀ {b : Addr} {o : Obj}, hp.get? b = some o → b ≠ hp.objs.size + 1 := fun {b o} e => Nat.ne_of_lt (Nat.lt_succ_of_lt (Heap.lt_size e))
  refine wpAny_execs_nil ⟨rfl, hq h₃ tk₃ (hp.objs.size + 1) dx ⟨fun b o e => k₃ b o (lt_ e) (k1' b o (k b o e)), Nat.le_succ _, ⟨_, _, hx₃, rfl, rfl, rfl, rfl⟩, ?_, dne, hn₃⟩⟩
  have dn' : h₁.objs.size ≤ dx := dn
  show hp.objs.size ≤ dx
  omega
end
end Er_wanted
section
variable {X : Cx} {nm ql : Str} {C fI : Addr} {B newId initId : String} {bmB : List Value}
/-- raise nm(e) -/
theorem pmkE_wanted {a : Expr} {ta : TA} {p pos : Pos} {k : Nat} (T : Er_wanted.Tx X.K X.mg nm ql C fI B newId initId bmB) (hr : Room k X.A) (ha : PA X [a] ta) (hg : Gl X nm := by rfl) (hdb : (nm == ("__debug__" : Str)) = false := by decide)
    (he : starEach (a :: []) X.env = (false, eval a X.env) :: starEach [] X.env := by rfl) (hpl : (backTo pos (starEach [] X.env)).any (·.1) = false := by rfl) :
    PMk X (.Call (.Name nm p) [a] [] pos) (tMk_wanted C ta) := by
  intro pins s σ H Q I h
  refine wpAny_Call_Name_kw (ld_glob I hg T.gC ?_ hdb)
  refine PySem.W.callWith_K (h₀ := X.base) I.ok.mod.kin T.kC (thn (ha.run pos pins s σ H _ I h) fun us s1 hh => ?_) he hpl
  obtain ⟨vs, H1, I1, r1, v, ev, q1⟩ := hh
  subst ev
  refine ⟨I1.kIn, ?_⟩
  cases r1 with
  | cons rv rn =>
    rename_i v' us'
    cases rn
    show wpAny _ _ (call (.ref C) [v']) _ _ _
    have hlim := I1.nolimit
    obtain ⟨hp, g, dr, tk, os⟩ := s1
    refine wpAny_call (Er_wanted.made T I1.kIn hlim (by have := hr.dp; omega) fun h' tk' e d M => ?_)
    show MkP X pins σ Q (.ref e) ⟨h', g, dr, tk', os⟩
    obtain ⟨oe, fv, hoe, hc, hd, hdat, h1⟩ := M.obj
    have hns := M.ns
    obtain ⟨G', g1, g2⟩ := restrict h' fun b => decide (b ≠ e)
    have gk : ∀ b, b ≠ e → G'.get? b = h'.get? b := fun b hb => g1 b (decide_eq_true hb)
    have ge : G'.get? e = none := g2 e (by simp)
    have old : ∀ b o, hp.get? b = some o → G'.get? b = some o := fun b o q => (gk b (Nat.ne_of_lt (Nat.lt_of_lt_of_le (Heap.lt_size q) M.new))).trans (M.keep b o q)
    have ob : ObjOk X.prog X.w (upd H1 d (.xd [(("wanted" : Str), v)])) G' d (.xd [(("wanted" : Str), v)]) :=
      ⟨_, hns.at (fun o q => (gk d M.dne).trans q), fun f => relO_wanted rv f⟩
    have J : L2.Inv X pins σ (upd H1 d (.xd [(("wanted" : Str), v)])) ⟨G', g, dr, tk', os⟩ := I1.laid (t' := tk') old M.dbig ob
    refine ⟨e, oe, fv, ⟨G', g, dr, tk', os⟩, _, .ref C, some d, rfl, J, fun b o q => ?_, ge, hoe, ⟨hc, hd⟩, hdat, h1, ?_, rfl, I1.bare, raises_own T.ex.hs T.tyC, q1 d (I1.hok.fresh M.dbig)⟩
    · by_cases hb : b = e
      · have q' : G'.get? b = some o := q
        rw [hb, ge] at q'
        cases q'
      · exact (gk b hb).symm.trans q
    · rw [upd_ne (Ne.symm M.dne)]
      exact I1.hok.fresh M.new
theorem ps_raiseE_wanted {a : Expr} {ta : TA} {W : WX} {p pos pos2 : Pos} {k : Nat} (hc : X.calm = true) (T : Er_wanted.Tx X.K X.mg nm ql C fI B newId initId bmB) (hr : Room k X.A) (tk : Takes X W) (ha : PA X [a] ta) (hg : Gl X nm := by rfl) (hdb : (nm == ("__debug__" : Str)) = false := by decide)
    (he : starEach (a :: []) X.env = (false, eval a X.env) :: starEach [] X.env := by rfl) (hpl : (backTo pos (starEach [] X.env)).any (·.1) = false := by rfl) :
    PS X (.Raise (some (.Call (.Name nm p) [a] [] pos)) none pos2) (tRaise_wanted C W ta) := ps_raise hc tk (pmkE_wanted T hr ha hg hdb he hpl)
/-- nm(e) as a value -/
def tVal_wanted (C : Addr) (ta : TA) : TE := fun σ H Q => ta σ H fun vs H1 => ∃ v, vs = [v] ∧ ∀ e d, H1 e = none → H1 d = none → d ≠ e → Q (.ref e) (upd (upd H1 d (.xd [(("wanted" : Str), v)])) e (ExH (.ref C) (some d) e))
theorem pe_val_wanted {a : Expr} {ta : TA} {p pos : Pos} {k : Nat} (T : Er_wanted.Tx X.K X.mg nm ql C fI B newId initId bmB) (hr : Room k X.A) (ha : PA X [a] ta) (hg : Gl X nm := by rfl) (hdb : (nm == ("__debug__" : Str)) = false := by decide)
    (he : starEach (a :: []) X.env = (false, eval a X.env) :: starEach [] X.env := by rfl) (hpl : (backTo pos (starEach [] X.env)).any (·.1) = false := by rfl) :
    PE X (.Call (.Name nm p) [a] [] pos) (tVal_wanted C ta) := by
  constructor
  intro pins s σ H Q I h
  refine wpAny_Call_Name_kw (ld_glob I hg T.gC ?_ hdb)
  refine PySem.W.callWith_K (h₀ := X.base) I.ok.mod.kin T.kC (thn (ha.run pos pins s σ H _ I h) fun us s1 hh => ?_) he hpl
  obtain ⟨vs, H1, I1, r1, v, ev, q1⟩ := hh
  subst ev
  refine ⟨I1.kIn, ?_⟩
  cases r1 with
  | cons rv rn =>
    rename_i v' us'
    cases rn
    show wpAny _ _ (call (.ref C) [v']) _ _ _
    have hlim := I1.nolimit
    obtain ⟨hp, g, dr, tk, os⟩ := s1
    refine wpAny_call (Er_wanted.made T I1.kIn hlim (by have := hr.dp; omega) fun h' tk' e d M => ?_)
    obtain ⟨oe, fv, hoe, hc, hd, hdat, h1⟩ := M.obj
    have hns := M.ns
    obtain ⟨G', g1, g2⟩ := restrict h' fun b => decide (b ≠ e)
    have gk : ∀ b, b ≠ e → G'.get? b = h'.get? b := fun b hb => g1 b (decide_eq_true hb)
    have ge : G'.get? e = none := g2 e (by simp)
    have old : ∀ b o, hp.get? b = some o → G'.get? b = some o := fun b o q => (gk b (Nat.ne_of_lt (Nat.lt_of_lt_of_le (Heap.lt_size q) M.new))).trans (M.keep b o q)
    have ob : ObjOk X.prog X.w (upd H1 d (.xd [(("wanted" : Str), v)])) G' d (.xd [(("wanted" : Str), v)]) :=
      ⟨_, hns.at (fun o q => (gk d M.dne).trans q), fun f => relO_wanted rv f⟩
    have J : L2.Inv X pins σ (upd H1 d (.xd [(("wanted" : Str), v)])) ⟨G', g, dr, tk', os⟩ := I1.laid (t' := tk') old M.dbig ob
    have fe : H1 e = none := I1.hok.fresh M.new
    have fd : H1 d = none := I1.hok.fresh M.dbig
    have J2 : L2.Inv X pins σ (upd (upd H1 d (.xd [(("wanted" : Str), v)])) e (ExH (.ref C) (some d) e)) ⟨h', g, dr, tk', os⟩ := J.laidN (h' := h') (t' := tk') (fun b u q => by
      by_cases hb : b = e
      · have q' : G'.get? b = some u := q
        rw [hb, ge] at q'
        cases q'
      · exact (gk b hb).symm.trans q) ge (by rw [upd_ne (Ne.symm M.dne)]; exact fe) (held_ok hoe ⟨hc, hd⟩ hdat)
    exact ⟨.ref e, _, J2, rfl, q1 e d fe fd M.dne⟩
end
/-! ### errors of the field at, over any base -/
namespace Er_at
open PySem.W PySem.Calls PySem.HandSPX
/-- the class called nm, at C, and its __init__, at fI, as the top has left them -/
structure Tx (K : Frag) (mg : Str → Option Value) (nm ql : Str) (C fI : Addr) (B newId initId : String) (bmB : List Value) : Prop where
  base : ExcBaseFacts B newId initId bmB
  gC : mg nm = some (.ref C)
  cls : ∃ n1 q N bs bm sn sub ab col dd k0 k1 k2 k3 k5, K.lookup C = some (excClassObj n1 q C N bs bm true sn sub ab col dd k0 k1 k2 k3 k5 newId) ∧ ErrLine B bm
  sa : findIn K (.ref C) "__setattr__" = some (some (.builtin "object.__setattr__"))
  ex : ExcC K C
  noN : findIn K (.ref C) "at" = some none
  iC : findIn K (.ref C) "__init__" = some (some (.ref fI))
  tC : typeIn K (.ref fI) = some (.type "function")
  kC : keepIn K (.ref C) = true
  tyC : typeIn K (.ref C) = some (.type "type")
  fn : ∃ (oc : Value) (od : Option Addr) (doc pm : Value) (an : Option Addr) (cdv ct : Value) (osl : Array (Option Value)) (p1 p2 q1 q2 q3 q4 : Pos),
    K.lookup fI = some ⟨oc, od, .func (fnOf "__init__" ql (Of_at.iA p1 p2) (Of_at.iB q1 q2 q3 q4) Of_at.iS .none .none doc pm an cdv ct), osl⟩ ∧ codeIn K cdv ql = true
section
variable {prog : Program} {w : World} {A : Around} {E : Value → Shared → Prop} {R : Result → Shared → Prop} {s : Shared} {K : Frag} {mg : Str → Option Value} {nm ql : Str} {C fI : Addr} {B newId initId : String} {bmB : List Value}
theorem made (T : Tx K mg nm ql C fI B newId initId bmB) {v : Value} (X : K.In s.heap) (hlim : s.heap.NoLimit) (hroom : A.depth + 1 < recursionLimit) (hq : ∀ h' tk e d, Of_at.Made s.heap h' e C d v → R (.ok (.ret (.ref e))) { s with heap := h', toks := tk }) :
    codeAny (model prog w) A (.call (.ref C) ⟨[v], []⟩) R s := by
  obtain ⟨n1, q, N, bs, bm, sn, sub, ab, col, dd, k0, k1, k2, k3, k5, hC, ln⟩ := T.cls
  obtain ⟨oc, od, doc, pm, an, cdv, ct, osl, p1, p2, q1, q2, q3, q4, ho, hcd⟩ := T.fn
  have hcl : clsIn K C = some { name := n1, bases := bs, mro := .ref C :: bm, ns := N, qualname := q, hasDict := true, slotNames := sn, subclasses := sub, abstract := ab, collection := col, hasDel := false } := by
    unfold clsIn
    rw [hC]
  obtain ⟨hp, g, dr, tk, os⟩ := s
  have k : ∀ b o, hp.get? b = some o → ((hp.push (kdv_tup [v])).push (excO C hp.objs.size)).get? b = some o := fun b o e => Heap.get?_push_of_some _ (Heap.get?_push_of_some _ e)
  have hx : ((hp.push (kdv_tup [v])).push (excO C hp.objs.size)).get? (hp.objs.size + 1) = some (excO C hp.objs.size) := by heap_get
  refine mk_call T.base ln.mkl (X _ _ hC) (looks_findIn X T.iC) (fun self => bind_fn X self T.tC) (one_size v) ?_
  have X1 := X.keeps k
  have lim1 : ((hp.push (kdv_tup [v])).push (excO C hp.objs.size)).NoLimit := hlim.keeps k
  have size1 : ((hp.push (kdv_tup [v])).push (excO C hp.objs.size)).objs.size = hp.objs.size + 1 + 1 := by rw [Heap.size_push, Heap.size_push]
  generalize (hp.push (kdv_tup [v])).push (excO C hp.objs.size) = h1 at k hx X1 lim1 size1 ⊢
  refine Att.call_fn (binds := [("self", .ref (hp.objs.size + 1)), ("at", v)]) X1 lim1 ho hcd hroom (BindsTo.of_eq (by first | rfl | with_unfolding_all rfl)) (by first | rfl | decide | with_unfolding_all rfl) (fun s₁ IC => ?_) rfl rfl rfl
  obtain ⟨h₁, tk₁, rfl⟩ := IC.toInCall.same
  have k1' : ∀ b o, h1.get? b = some o → h₁.get? b = some o := IC.toInCall.keep
  have hn := IC.toInCall.ns
  show wpAny _ _ (execs _ _) _ _ _
  refine wpAny_execs_cons (plainObj_wpAny_Assign_Attribute ?_)
  refine ldC (v := v) hn (by first | rfl | with_unfolding_all rfl | kernel_rfl) (ldC (v := .ref (hp.objs.size + 1)) hn (by first | rfl | with_unfolding_all rfl | kernel_rfl) ?_)
  refine set_plain (X1.keeps k1') (ox := excO C hp.objs.size) (od := none) ⟨k1' _ _ hx, rfl, rfl, trivial⟩ T.sa ?_
  refine err_first (X1.keeps k1') (k1' _ _ hx) hcl ln.own.obj ln.own.pass rfl rfl T.noN (fun h₃ tk₃ dx k₃ dn dne hx₃ hn₃ => ?_)
  show wpAny _ _ (execs _ _) _ _ _
  have z : h1.objs.size < h₁.objs.size := hn.lt
  have lt_ : ∀ {b : Addr} {o : Obj}, hp.get? b = some o → b ≠ hp.objs.size + 1 := fun {b o} e => Nat.ne_of_lt (Nat.lt_succ_of_lt (Heap.lt_size e))
  refine wpAny_execs_nil ⟨rfl, hq h₃ tk₃ (hp.objs.size + 1) dx ⟨fun b o e => k₃ b o (lt_ e) (k1' b o (k b o e)), Nat.le_succ _, ⟨_, _, hx₃, rfl, rfl, rfl, rfl⟩, ?_, dne, hn₃⟩⟩
  have dn' : h₁.objs.size ≤ dx := dn
  show hp.objs.size ≤ dx
  omega
end
end Er_at
section
variable {X : Cx} {nm ql : Str} {C fI : Addr} {B newId initId : String} {bmB : List Value}
/-- raise nm(e) -/
theorem pmkE_at {a : Expr} {ta : TA} {p pos : Pos} {k : Nat} (T : Er_at.Tx X.K X.mg nm ql C fI B newId initId bmB) (hr : Room k X.A) (ha : PA X [a] ta) (hg : Gl X nm := by rfl) (hdb : (nm == ("__debug__" : Str)) = false := by decide)
    (he : starEach (a :: []) X.env = (false, eval a X.env) :: starEach [] X.env := by rfl) (hpl : (backTo pos (starEach [] X.env)).any (·.1) = false := by rfl) :
    PMk X (.Call (.Name nm p) [a] [] pos) (tMk_at C ta) := by
  intro pins s σ H Q I h
  refine wpAny_Call_Name_kw (ld_glob I hg T.gC ?_ hdb)
  refine PySem.W.callWith_K (h₀ := X.base) I.ok.mod.kin T.kC (thn (ha.run pos pins s σ H _ I h) fun us s1 hh => ?_) he hpl
  obtain ⟨vs, H1, I1, r1, v, ev, q1⟩ := hh
  subst ev
  refine ⟨I1.kIn, ?_⟩
  cases r1 with
  | cons rv rn =>
    rename_i v' us'
    cases rn
    show wpAny _ _ (call (.ref C) [v']) _ _ _
    have hlim := I1.nolimit
    obtain ⟨hp, g, dr, tk, os⟩ := s1
    refine wpAny_call (Er_at.made T I1.kIn hlim (by have := hr.dp; omega) fun h' tk' e d M => ?_)
    show MkP X pins σ Q (.ref e) ⟨h', g, dr, tk', os⟩
    obtain ⟨oe, fv, hoe, hc, hd, hdat, h1⟩ := M.obj
    have hns := M.ns
    obtain ⟨G', g1, g2⟩ := restrict h' fun b => decide (b ≠ e)
    have gk : ∀ b, b ≠ e → G'.get? b = h'.get? b := fun b hb => g1 b (decide_eq_true hb)
    have ge : G'.get? e = none := g2 e (by simp)
    have old : ∀ b o, hp.get? b = some o → G'.get? b = some o := fun b o q => (gk b (Nat.ne_of_lt (Nat.lt_of_lt_of_le (Heap.lt_size q) M.new))).trans (M.keep b o q)
    have ob : ObjOk X.prog X.w (upd H1 d (.xd [(("at" : Str), v)])) G' d (.xd [(("at" : Str), v)]) :=
      ⟨_, hns.at (fun o q => (gk d M.dne).trans q), fun f => relO_at rv f⟩
    have J : L2.Inv X pins σ (upd H1 d (.xd [(("at" : Str), v)])) ⟨G', g, dr, tk', os⟩ := I1.laid (t' := tk') old M.dbig ob
    refine ⟨e, oe, fv, ⟨G', g, dr, tk', os⟩, _, .ref C, some d, rfl, J, fun b o q => ?_, ge, hoe, ⟨hc, hd⟩, hdat, h1, ?_, rfl, I1.bare, raises_own T.ex.hs T.tyC, q1 d (I1.hok.fresh M.dbig)⟩
    · by_cases hb : b = e
      · have q' : G'.get? b = some o := q
        rw [hb, ge] at q'
        cases q'
      · exact (gk b hb).symm.trans q
    · rw [upd_ne (Ne.symm M.dne)]
      exact I1.hok.fresh M.new
theorem ps_raiseE_at {a : Expr} {ta : TA} {W : WX} {p pos pos2 : Pos} {k : Nat} (hc : X.calm = true) (T : Er_at.Tx X.K X.mg nm ql C fI B newId initId bmB) (hr : Room k X.A) (tk : Takes X W) (ha : PA X [a] ta) (hg : Gl X nm := by rfl) (hdb : (nm == ("__debug__" : Str)) = false := by decide)
    (he : starEach (a :: []) X.env = (false, eval a X.env) :: starEach [] X.env := by rfl) (hpl : (backTo pos (starEach [] X.env)).any (·.1) = false := by rfl) :
    PS X (.Raise (some (.Call (.Name nm p) [a] [] pos)) none pos2) (tRaise_at C W ta) := ps_raise hc tk (pmkE_at T hr ha hg hdb he hpl)
/-- nm(e) as a value -/
def tVal_at (C : Addr) (ta : TA) : TE := fun σ H Q => ta σ H fun vs H1 => ∃ v, vs = [v] ∧ ∀ e d, H1 e = none → H1 d = none → d ≠ e → Q (.ref e) (upd (upd H1 d (.xd [(("at" : Str), v)])) e (ExH (.ref C) (some d) e))
theorem pe_val_at {a : Expr} {ta : TA} {p pos : Pos} {k : Nat} (T : Er_at.Tx X.K X.mg nm ql C fI B newId initId bmB) (hr : Room k X.A) (ha : PA X [a] ta) (hg : Gl X nm := by rfl) (hdb : (nm == ("__debug__" : Str)) = false := by decide)
    (he : starEach (a :: []) X.env = (false, eval a X.env) :: starEach [] X.env := by rfl) (hpl : (backTo pos (starEach [] X.env)).any (·.1) = false := by rfl) :
    PE X (.Call (.Name nm p) [a] [] pos) (tVal_at C ta) := by
  constructor
  intro pins s σ H Q I h
  refine wpAny_Call_Name_kw (ld_glob I hg T.gC ?_ hdb)
  refine PySem.W.callWith_K (h₀ := X.base) I.ok.mod.kin T.kC (thn (ha.run pos pins s σ H _ I h) fun us s1 hh => ?_) he hpl
  obtain ⟨vs, H1, I1, r1, v, ev, q1⟩ := hh
  subst ev
  refine ⟨I1.kIn, ?_⟩
  cases r1 with
  | cons rv rn =>
    rename_i v' us'
    cases rn
    show wpAny _ _ (call (.ref C) [v']) _ _ _
    have hlim := I1.nolimit
    obtain ⟨hp, g, dr, tk, os⟩ := s1
    refine wpAny_call (Er_at.made T I1.kIn hlim (by have := hr.dp; omega) fun h' tk' e d M => ?_)
    obtain ⟨oe, fv, hoe, hc, hd, hdat, h1⟩ := M.obj
    have hns := M.ns
    obtain ⟨G', g1, g2⟩ := restrict h' fun b => decide (b ≠ e)
    have gk : ∀ b, b ≠ e → G'.get? b = h'.get? b := fun b hb => g1 b (decide_eq_true hb)
    have ge : G'.get? e = none := g2 e (by simp)
    have old : ∀ b o, hp.get? b = some o → G'.get? b = some o := fun b o q => (gk b (Nat.ne_of_lt (Nat.lt_of_lt_of_le (Heap.lt_size q) M.new))).trans (M.keep b o q)
    have ob : ObjOk X.prog X.w (upd H1 d (.xd [(("at" : Str), v)])) G' d (.xd [(("at" : Str), v)]) :=
      ⟨_, hns.at (fun o q => (gk d M.dne).trans q), fun f => relO_at rv f⟩
    have J : L2.Inv X pins σ (upd H1 d (.xd [(("at" : Str), v)])) ⟨G', g, dr, tk', os⟩ := I1.laid (t' := tk') old M.dbig ob
    have fe : H1 e = none := I1.hok.fresh M.new
    have fd : H1 d = none := I1.hok.fresh M.dbig
    have J2 : L2.Inv X pins σ (upd (upd H1 d (.xd [(("at" : Str), v)])) e (ExH (.ref C) (some d) e)) ⟨h', g, dr, tk', os⟩ := J.laidN (h' := h') (t' := tk') (fun b u q => by
      by_cases hb : b = e
      · have q' : G'.get? b = some u := q
        rw [hb, ge] at q'
        cases q'
      · exact (gk b hb).symm.trans q) ge (by rw [upd_ne (Ne.symm M.dne)]; exact fe) (held_ok hoe ⟨hc, hd⟩ hdat)
    exact ⟨.ref e, _, J2, rfl, q1 e d fe fd M.dne⟩
end
/-! ### errors of the field name, over any base -/
namespace Er_name
open PySem.W PySem.Calls PySem.HandSPX
/-- the class called nm, at C, and its __init__, at fI, as the top has left them -/
structure Tx (K : Frag) (mg : Str → Option Value) (nm ql : Str) (C fI : Addr) (B newId initId : String) (bmB : List Value) : Prop where
  base : ExcBaseFacts B newId initId bmB
  gC : mg nm = some (.ref C)
  cls : ∃ n1 q N bs bm sn sub ab col dd k0 k1 k2 k3 k5, K.lookup C = some (excClassObj n1 q C N bs bm true sn sub ab col dd k0 k1 k2 k3 k5 newId) ∧ ErrLine B bm
  sa : findIn K (.ref C) "__setattr__" = some (some (.builtin "object.__setattr__"))
  ex : ExcC K C
  noN : findIn K (.ref C) "name" = some none
  iC : findIn K (.ref C) "__init__" = some (some (.ref fI))
  tC : typeIn K (.ref fI) = some (.type "function")
  kC : keepIn K (.ref C) = true
  tyC : typeIn K (.ref C) = some (.type "type")
  fn : ∃ (oc : Value) (od : Option Addr) (doc pm : Value) (an : Option Addr) (cdv ct : Value) (osl : Array (Option Value)) (p1 p2 q1 q2 q3 q4 : Pos),
    K.lookup fI = some ⟨oc, od, .func (fnOf "__init__" ql (Of_name.iA p1 p2) (Of_name.iB q1 q2 q3 q4) Of_name.iS .none .none doc pm an cdv ct), osl⟩ ∧ codeIn K cdv ql = true
section
variable {prog : Program} {w : World} {A : Around} {E : Value → Shared → Prop} {R : Result → Shared → Prop} {s : Shared} {K : Frag} {mg : Str → Option Value} {nm ql : Str} {C fI : Addr} {B newId initId : String} {bmB : List Value}
theorem made (T : Tx K mg nm ql C fI B newId initId bmB) {v : Value} (X : K.In s.heap) (hlim : s.heap.NoLimit) (hroom : A.depth + 1 < recursionLimit) (hq : ∀ h' tk e d, Of_name.Made s.heap h' e C d v → R (.ok (.ret (.ref e))) { s with heap := h', toks := tk }) :
    codeAny (model prog w) A (.call (.ref C) ⟨[v], []⟩) R s := by
  obtain ⟨n1, q, N, bs, bm, sn, sub, ab, col, dd, k0, k1, k2, k3, k5, hC, ln⟩ := T.cls
  obtain ⟨oc, od, doc, pm, an, cdv, ct, osl, p1, p2, q1, q2, q3, q4, ho, hcd⟩ := T.fn
  have hcl : clsIn K C = some { name := n1, bases := bs, mro := .ref C :: bm, ns := N, qualname := q, hasDict := true, slotNames := sn, subclasses := sub, abstract := ab, collection := col, hasDel := false } := by
    unfold clsIn
    rw [hC]
  obtain ⟨hp, g, dr, tk, os⟩ := s
  have k : ∀ b o, hp.get? b = some o → ((hp.push (kdv_tup [v])).push (excO C hp.objs.size)).get? b = some o := fun b o e => Heap.get?_push_of_some _ (Heap.get?_push_of_some _ e)
  have hx : ((hp.push (kdv_tup [v])).push (excO C hp.objs.size)).get? (hp.objs.size + 1) = some (excO C hp.objs.size) := by heap_get
  refine mk_call T.base ln.mkl (X _ _ hC) (looks_findIn X T.iC) (fun self => bind_fn X self T.tC) (one_size v) ?_
  have X1 := X.keeps k
  have lim1 : ((hp.push (kdv_tup [v])).push (excO C hp.objs.size)).NoLimit := hlim.keeps k
  have size1 : ((hp.push (kdv_tup [v])).push (excO C hp.objs.size)).objs.size = hp.objs.size + 1 + 1 := by rw [Heap.size_push, Heap.size_push]
  generalize (hp.push (kdv_tup [v])).push (excO C hp.objs.size) = h1 at k hx X1 lim1 size1 ⊢
  refine Att.call_fn (binds := [("self", .ref (hp.objs.size + 1)), ("name", v)]) X1 lim1 ho hcd hroom (BindsTo.of_eq (by first | rfl | with_unfolding_all rfl)) (by first | rfl | decide | with_unfolding_all rfl) (fun s₁ IC => ?_) rfl rfl rfl
  obtain ⟨h₁, tk₁, rfl⟩ := IC.toInCall.same
  have k1' : ∀ b o, h1.get? b = some o → h₁.get? b = some o := IC.toInCall.keep
  have hn := IC.toInCall.ns
  show wpAny _ _ (execs _ _) _ _ _
  refine wpAny_execs_cons (plainObj_wpAny_Assign_Attribute ?_)
  refine ldC (v := v) hn (by first | rfl | with_unfolding_all rfl | kernel_rfl) (ldC (v := .ref (hp.objs.size + 1)) hn (by first | rfl | with_unfolding_all rfl | kernel_rfl) ?_)
  refine set_plain (X1.keeps k1') (ox := excO C hp.objs.size) (od := none) ⟨k1' _ _ hx, rfl, rfl, trivial⟩ T.sa ?_
  refine err_first (X1.keeps k1') (k1' _ _ hx) hcl ln.own.obj ln.own.pass rfl rfl T.noN (fun h₃ tk₃ dx k₃ dn dne hx₃ hn₃ => ?_)
  show wpAny _ _ (execs _ _) _ _ _
  have z : h1.objs.size < h₁.objs.size := hn.lt
  have lt_ : ∀ {b : Addr} {o : Obj}, hp.get? b = some o → b ≠ hp.objs.size + 1 := fun {b o} e => Nat.ne_of_lt (Nat.lt_succ_of_lt (Heap.lt_size e))
  refine wpAny_execs_nil ⟨rfl, hq h₃ tk₃ (hp.objs.size + 1) dx ⟨fun b o e => k₃ b o (lt_ e) (k1' b o (k b o e)), Nat.le_succ _, ⟨_, _, hx₃, rfl, rfl, rfl, rfl⟩, ?_, dne, hn₃⟩⟩
  have dn' : h₁.objs.size ≤ dx := dn
  show hp.objs.size ≤ dx
  omega
end
end Er_name
section
variable {X : Cx} {nm ql : Str} {C fI : Addr} {B newId initId : String} {bmB : List Value}
/-- raise nm(e) -/
theorem pmkE_name {a : Expr} {ta : TA} {p pos : Pos} {k : Nat} (T : Er_name.Tx X.K X.mg nm ql C fI B newId initId bmB) (hr : Room k X.A) (ha : PA X [a] ta) (hg : Gl X nm := by rfl) (hdb : (nm == ("__debug__" : Str)) = false := by decide)
    (he : starEach (a :: []) X.env = (false, eval a X.env) :: starEach [] X.env := by rfl) (hpl : (backTo pos (starEach [] X.env)).any (·.1) = false := by rfl) :
    PMk X (.Call (.Name nm p) [a] [] pos) (tMk_name C ta) := by
  intro pins s σ H Q I h
  refine wpAny_Call_Name_kw (ld_glob I hg T.gC ?_ hdb)
  refine PySem.W.callWith_K (h₀ := X.base) I.ok.mod.kin T.kC (thn (ha.run pos pins s σ H _ I h) fun us s1 hh => ?_) he hpl
  obtain ⟨vs, H1, I1, r1, v, ev, q1⟩ := hh
  subst ev
  refine ⟨I1.kIn, ?_⟩
  cases r1 with
  | cons rv rn =>
    rename_i v' us'
    cases rn
    show wpAny _ _ (call (.ref C) [v']) _ _ _
    have hlim := I1.nolimit
    obtain ⟨hp, g, dr, tk, os⟩ := s1
    refine wpAny_call (Er_name.made T I1.kIn hlim (by have := hr.dp; omega) fun h' tk' e d M => ?_)
    show MkP X pins σ Q (.ref e) ⟨h', g, dr, tk', os⟩
    obtain ⟨oe, fv, hoe, hc, hd, hdat, h1⟩ := M.obj
    have hns := M.ns
    obtain ⟨G', g1, g2⟩ := restrict h' fun b => decide (b ≠ e)
    have gk : ∀ b, b ≠ e → G'.get? b = h'.get? b := fun b hb => g1 b (decide_eq_true hb)
    have ge : G'.get? e = none := g2 e (by simp)
    have old : ∀ b o, hp.get? b = some o → G'.get? b = some o := fun b o q => (gk b (Nat.ne_of_lt (Nat.lt_of_lt_of_le (Heap.lt_size q) M.new))).trans (M.keep b o q)
    have ob : ObjOk X.prog X.w (upd H1 d (.xd [(("name" : Str), v)])) G' d (.xd [(("name" : Str), v)]) :=
      ⟨_, hns.at (fun o q => (gk d M.dne).trans q), fun f => relO_name rv f⟩
    have J : L2.Inv X pins σ (upd H1 d (.xd [(("name" : Str), v)])) ⟨G', g, dr, tk', os⟩ := I1.laid (t' := tk') old M.dbig ob
    refine ⟨e, oe, fv, ⟨G', g, dr, tk', os⟩, _, .ref C, some d, rfl, J, fun b o q => ?_, ge, hoe, ⟨hc, hd⟩, hdat, h1, ?_, rfl, I1.bare, raises_own T.ex.hs T.tyC, q1 d (I1.hok.fresh M.dbig)⟩
    · by_cases hb : b = e
      · have q' : G'.get? b = some o := q
        rw [hb, ge] at q'
        cases q'
      · exact (gk b hb).symm.trans q
    · rw [upd_ne (Ne.symm M.dne)]
      exact I1.hok.fresh M.new
theorem ps_raiseE_name {a : Expr} {ta : TA} {W : WX} {p pos pos2 : Pos} {k : Nat} (hc : X.calm = true) (T : Er_name.Tx X.K X.mg nm ql C fI B newId initId bmB) (hr : Room k X.A) (tk : Takes X W) (ha : PA X [a] ta) (hg : Gl X nm := by rfl) (hdb : (nm == ("__debug__" : Str)) = false := by decide)
    (he : starEach (a :: []) X.env = (false, eval a X.env) :: starEach [] X.env := by rfl) (hpl : (backTo pos (starEach [] X.env)).any (·.1) = false := by rfl) :
    PS X (.Raise (some (.Call (.Name nm p) [a] [] pos)) none pos2) (tRaise_name C W ta) := ps_raise hc tk (pmkE_name T hr ha hg hdb he hpl)
/-- nm(e) as a value -/
def tVal_name (C : Addr) (ta : TA) : TE := fun σ H Q => ta σ H fun vs H1 => ∃ v, vs = [v] ∧ ∀ e d, H1 e = none → H1 d = none → d ≠ e → Q (.ref e) (upd (upd H1 d (.xd [(("name" : Str), v)])) e (ExH (.ref C) (some d) e))
theorem pe_val_name {a : Expr} {ta : TA} {p pos : Pos} {k : Nat} (T : Er_name.Tx X.K X.mg nm ql C fI B newId initId bmB) (hr : Room k X.A) (ha : PA X [a] ta) (hg : Gl X nm := by rfl) (hdb : (nm == ("__debug__" : Str)) = false := by decide)
    (he : starEach (a :: []) X.env = (false, eval a X.env) :: starEach [] X.env := by rfl) (hpl : (backTo pos (starEach [] X.env)).any (·.1) = false := by rfl) :
    PE X (.Call (.Name nm p) [a] [] pos) (tVal_name C ta) := by
  constructor
  intro pins s σ H Q I h
  refine wpAny_Call_Name_kw (ld_glob I hg T.gC ?_ hdb)
  refine PySem.W.callWith_K (h₀ := X.base) I.ok.mod.kin T.kC (thn (ha.run pos pins s σ H _ I h) fun us s1 hh => ?_) he hpl
  obtain ⟨vs, H1, I1, r1, v, ev, q1⟩ := hh
  subst ev
  refine ⟨I1.kIn, ?_⟩
  cases r1 with
  | cons rv rn =>
    rename_i v' us'
    cases rn
    show wpAny _ _ (call (.ref C) [v']) _ _ _
    have hlim := I1.nolimit
    obtain ⟨hp, g, dr, tk, os⟩ := s1
    refine wpAny_call (Er_name.made T I1.kIn hlim (by have := hr.dp; omega) fun h' tk' e d M => ?_)
    obtain ⟨oe, fv, hoe, hc, hd, hdat, h1⟩ := M.obj
    have hns := M.ns
    obtain ⟨G', g1, g2⟩ := restrict h' fun b => decide (b ≠ e)
    have gk : ∀ b, b ≠ e → G'.get? b = h'.get? b := fun b hb => g1 b (decide_eq_true hb)
    have ge : G'.get? e = none := g2 e (by simp)
    have old : ∀ b o, hp.get? b = some o → G'.get? b = some o := fun b o q => (gk b (Nat.ne_of_lt (Nat.lt_of_lt_of_le (Heap.lt_size q) M.new))).trans (M.keep b o q)
    have ob : ObjOk X.prog X.w (upd H1 d (.xd [(("name" : Str), v)])) G' d (.xd [(("name" : Str), v)]) :=
      ⟨_, hns.at (fun o q => (gk d M.dne).trans q), fun f => relO_name rv f⟩
    have J : L2.Inv X pins σ (upd H1 d (.xd [(("name" : Str), v)])) ⟨G', g, dr, tk', os⟩ := I1.laid (t' := tk') old M.dbig ob
    have fe : H1 e = none := I1.hok.fresh M.new
    have fd : H1 d = none := I1.hok.fresh M.dbig
    have J2 : L2.Inv X pins σ (upd (upd H1 d (.xd [(("name" : Str), v)])) e (ExH (.ref C) (some d) e)) ⟨h', g, dr, tk', os⟩ := J.laidN (h' := h') (t' := tk') (fun b u q => by
      by_cases hb : b = e
      · have q' : G'.get? b = some u := q
        rw [hb, ge] at q'
        cases q'
      · exact (gk b hb).symm.trans q) ge (by rw [upd_ne (Ne.symm M.dne)]; exact fe) (held_ok hoe ⟨hc, hd⟩ hdat)
    exact ⟨.ref e, _, J2, rfl, q1 e d fe fd M.dne⟩
end
/-! ### errors of the field most, over any base -/
namespace Er_most
open PySem.W PySem.Calls PySem.HandSPX
/-- the class called nm, at C, and its __init__, at fI, as the top has left them -/
structure Tx (K : Frag) (mg : Str → Option Value) (nm ql : Str) (C fI : Addr) (B newId initId : String) (bmB : List Value) : Prop where
  base : ExcBaseFacts B newId initId bmB
  gC : mg nm = some (.ref C)
  cls : ∃ n1 q N bs bm sn sub ab col dd k0 k1 k2 k3 k5, K.lookup C = some (excClassObj n1 q C N bs bm true sn sub ab col dd k0 k1 k2 k3 k5 newId) ∧ ErrLine B bm
  sa : findIn K (.ref C) "__setattr__" = some (some (.builtin "object.__setattr__"))
  ex : ExcC K C
  noN : findIn K (.ref C) "most" = some none
  iC : findIn K (.ref C) "__init__" = some (some (.ref fI))
  tC : typeIn K (.ref fI) = some (.type "function")
  kC : keepIn K (.ref C) = true
  tyC : typeIn K (.ref C) = some (.type "type")
  fn : ∃ (oc : Value) (od : Option Addr) (doc pm : Value) (an : Option Addr) (cdv ct : Value) (osl : Array (Option Value)) (p1 p2 q1 q2 q3 q4 : Pos),
    K.lookup fI = some ⟨oc, od, .func (fnOf "__init__" ql (Of_most.iA p1 p2) (Of_most.iB q1 q2 q3 q4) Of_most.iS .none .none doc pm an cdv ct), osl⟩ ∧ codeIn K cdv ql = true
section
variable {prog : Program} {w : World} {A : Around} {E : Value → Shared → Prop} {R : Result → Shared → Prop} {s : Shared} {K : Frag} {mg : Str → Option Value} {nm ql : Str} {C fI : Addr} {B newId initId : String} {bmB : List Value}
theorem made (T : Tx K mg nm ql C fI B newId initId bmB) {v : Value} (X : K.In s.heap) (hlim : s.heap.NoLimit) (hroom : A.depth + 1 < recursionLimit) (hq : ∀ h' tk e d, Of_most.Made s.heap h' e C d v → R (.ok (.ret (.ref e))) { s with heap := h', toks := tk }) :
    codeAny (model prog w) A (.call (.ref C) ⟨[v], []⟩) R s := by
  obtain ⟨n1, q, N, bs, bm, sn, sub, ab, col, dd, k0, k1, k2, k3, k5, hC, ln⟩ := T.cls
  obtain ⟨oc, od, doc, pm, an, cdv, ct, osl, p1, p2, q1, q2, q3, q4, ho, hcd⟩ := T.fn
  have hcl : clsIn K C = some { name := n1, bases := bs, mro := .ref C :: bm, ns := N, qualname := q, hasDict := true, slotNames := sn, subclasses := sub, abstract := ab, collection := col, hasDel := false } := by
    unfold clsIn
    rw [hC]
  obtain ⟨hp, g, dr, tk, os⟩ := s
  have k : ∀ b o, hp.get? b = some o → ((hp.push (kdv_tup [v])).push (excO C hp.objs.size)).get? b = some o := fun b o e => Heap.get?_push_of_some _ (Heap.get?_push_of_some _ e)
  have hx : ((hp.push (kdv_tup [v])).push (excO C hp.objs.size)).get? (hp.objs.size + 1) = some (excO C hp.objs.size) := by heap_get
  refine mk_call T.base ln.mkl (X _ _ hC) (looks_findIn X T.iC) (fun self => bind_fn X self T.tC) (one_size v) ?_
  have X1 := X.keeps k
  have lim1 : ((hp.push (kdv_tup [v])).push (excO C hp.objs.size)).NoLimit := hlim.keeps k
  have size1 : ((hp.push (kdv_tup [v])).push (excO C hp.objs.size)).objs.size = hp.objs.size + 1 + 1 := by rw [Heap.size_push, Heap.size_push]
  generalize (hp.push (kdv_tup [v])).push (excO C hp.objs.size) = h1 at k hx X1 lim1 size1 ⊢
  refine Att.call_fn (binds := [("self", .ref (hp.objs.size + 1)), ("most", v)]) X1 lim1 ho hcd hroom (BindsTo.of_eq (by first | rfl | with_unfolding_all rfl)) (by first | rfl | decide | with_unfolding_all rfl) (fun s₁ IC => ?_) rfl rfl rfl
  obtain ⟨h₁, tk₁, rfl⟩ := IC.toInCall.same
  have k1' : ∀ b o, h1.get? b = some o → h₁.get? b = some o := IC.toInCall.keep
  have hn := IC.toInCall.ns
  show wpAny _ _ (execs _ _) _ _ _
  refine wpAny_execs_cons (plainObj_wpAny_Assign_Attribute ?_)
  refine ldC (v := v) hn (by first | rfl | with_unfolding_all rfl | kernel_rfl) (ldC (v := .ref (hp.objs.size + 1)) hn (by first | rfl | with_unfolding_all rfl | kernel_rfl) ?_)
  refine set_plain (X1.keeps k1') (ox := excO C hp.objs.size) (od := none) ⟨k1' _ _ hx, rfl, rfl, trivial⟩ T.sa ?_
  refine err_first (X1.keeps k1') (k1' _ _ hx) hcl ln.own.obj ln.own.pass rfl rfl T.noN (fun h₃ tk₃ dx k₃ dn dne hx₃ hn₃ => ?_)
  show wpAny _ _ (execs _ _) _ _ _
  have z : h1.objs.size < h₁.objs.size := hn.lt
  have lt_ : ∀ {b : Addr} {o : Obj}, hp.get? b = some o → b ≠ hp.objs.size + 1 := fun {b o} e => Nat.ne_of_lt (Nat.lt_succ_of_lt (Heap.lt_size e))
  refine wpAny_execs_nil ⟨rfl, hq h₃ tk₃ (hp.objs.size + 1) dx ⟨fun b o e => k₃ b o (lt_ e) (k1' b o (k b o e)), Nat.le_succ _, ⟨_, _, hx₃, rfl, rfl, rfl, rfl⟩, ?_, dne, hn₃⟩⟩
  have dn' : h₁.objs.size ≤ dx := dn
  show hp.objs.size ≤ dx
  omega
end
end Er_most
section
variable {X : Cx} {nm ql : Str} {C fI : Addr} {B newId initId : String} {bmB : List Value}
/-- raise nm(e) -/
theorem pmkE_most {a : Expr} {ta : TA} {p pos : Pos} {k : Nat} (T : Er_most.Tx X.K X.mg nm ql C fI B newId initId bmB) (hr : Room k X.A) (ha : PA X [a] ta) (hg : Gl X nm := by rfl) (hdb : (nm == ("__debug__" : Str)) = false := by decide)
    (he : starEach (a :: []) X.env = (false, eval a X.env) :: starEach [] X.env := by rfl) (hpl : (backTo pos (starEach [] X.env)).any (·.1) = false := by rfl) :
    PMk X (.Call (.Name nm p) [a] [] pos) (tMk_most C ta) := by
  intro pins s σ H Q I h
  refine wpAny_Call_Name_kw (ld_glob I hg T.gC ?_ hdb)
  refine PySem.W.callWith_K (h₀ := X.base) I.ok.mod.kin T.kC (thn (ha.run pos pins s σ H _ I h) fun us s1 hh => ?_) he hpl
  obtain ⟨vs, H1, I1, r1, v, ev, q1⟩ := hh
  subst ev
  refine ⟨I1.kIn, ?_⟩
  cases r1 with
  | cons rv rn =>
    rename_i v' us'
    cases rn
    show wpAny _ _ (call (.ref C) [v']) _ _ _
    have hlim := I1.nolimit
    obtain ⟨hp, g, dr, tk, os⟩ := s1
    refine wpAny_call (Er_most.made T I1.kIn hlim (by have := hr.dp; omega) fun h' tk' e d M => ?_)
    show MkP X pins σ Q (.ref e) ⟨h', g, dr, tk', os⟩
    obtain ⟨oe, fv, hoe, hc, hd, hdat, h1⟩ := M.obj
    have hns := M.ns
    obtain ⟨G', g1, g2⟩ := restrict h' fun b => decide (b ≠ e)
    have gk : ∀ b, b ≠ e → G'.get? b = h'.get? b := fun b hb => g1 b (decide_eq_true hb)
    have ge : G'.get? e = none := g2 e (by simp)
    have old : ∀ b o, hp.get? b = some o → G'.get? b = some o := fun b o q => (gk b (Nat.ne_of_lt (Nat.lt_of_lt_of_le (Heap.lt_size q) M.new))).trans (M.keep b o q)
    have ob : ObjOk X.prog X.w (upd H1 d (.xd [(("most" : Str), v)])) G' d (.xd [(("most" : Str), v)]) :=
      ⟨_, hns.at (fun o q => (gk d M.dne).trans q), fun f => relO_most rv f⟩
    have J : L2.Inv X pins σ (upd H1 d (.xd [(("most" : Str), v)])) ⟨G', g, dr, tk', os⟩ := I1.laid (t' := tk') old M.dbig ob
    refine ⟨e, oe, fv, ⟨G', g, dr, tk', os⟩, _, .ref C, some d, rfl, J, fun b o q => ?_, ge, hoe, ⟨hc, hd⟩, hdat, h1, ?_, rfl, I1.bare, raises_own T.ex.hs T.tyC, q1 d (I1.hok.fresh M.dbig)⟩
    · by_cases hb : b = e
      · have q' : G'.get? b = some o := q
        rw [hb, ge] at q'
        cases q'
      · exact (gk b hb).symm.trans q
    · rw [upd_ne (Ne.symm M.dne)]
      exact I1.hok.fresh M.new
theorem ps_raiseE_most {a : Expr} {ta : TA} {W : WX} {p pos pos2 : Pos} {k : Nat} (hc : X.calm = true) (T : Er_most.Tx X.K X.mg nm ql C fI B newId initId bmB) (hr : Room k X.A) (tk : Takes X W) (ha : PA X [a] ta) (hg : Gl X nm := by rfl) (hdb : (nm == ("__debug__" : Str)) = false := by decide)
    (he : starEach (a :: []) X.env = (false, eval a X.env) :: starEach [] X.env := by rfl) (hpl : (backTo pos (starEach [] X.env)).any (·.1) = false := by rfl) :
    PS X (.Raise (some (.Call (.Name nm p) [a] [] pos)) none pos2) (tRaise_most C W ta) := ps_raise hc tk (pmkE_most T hr ha hg hdb he hpl)
/-- nm(e) as a value -/
def tVal_most (C : Addr) (ta : TA) : TE := fun σ H Q => ta σ H fun vs H1 => ∃ v, vs = [v] ∧ ∀ e d, H1 e = none → H1 d = none → d ≠ e → Q (.ref e) (upd (upd H1 d (.xd [(("most" : Str), v)])) e (ExH (.ref C) (some d) e))
theorem pe_val_most {a : Expr} {ta : TA} {p pos : Pos} {k : Nat} (T : Er_most.Tx X.K X.mg nm ql C fI B newId initId bmB) (hr : Room k X.A) (ha : PA X [a] ta) (hg : Gl X nm := by rfl) (hdb : (nm == ("__debug__" : Str)) = false := by decide)
    (he : starEach (a :: []) X.env = (false, eval a X.env) :: starEach [] X.env := by rfl) (hpl : (backTo pos (starEach [] X.env)).any (·.1) = false := by rfl) :
    PE X (.Call (.Name nm p) [a] [] pos) (tVal_most C ta) := by
  constructor
  intro pins s σ H Q I h
  refine wpAny_Call_Name_kw (ld_glob I hg T.gC ?_ hdb)
  refine PySem.W.callWith_K (h₀ := X.base) I.ok.mod.kin T.kC (thn (ha.run pos pins s σ H _ I h) fun us s1 hh => ?_) he hpl
  obtain ⟨vs, H1, I1, r1, v, ev, q1⟩ := hh
  subst ev
  refine ⟨I1.kIn, ?_⟩
  cases r1 with
  | cons rv rn =>
    rename_i v' us'
    cases rn
    show wpAny _ _ (call (.ref C) [v']) _ _ _
    have hlim := I1.nolimit
    obtain ⟨hp, g, dr, tk, os⟩ := s1
    refine wpAny_call (Er_most.made T I1.kIn hlim (by have := hr.dp; omega) fun h' tk' e d M => ?_)
    obtain ⟨oe, fv, hoe, hc, hd, hdat, h1⟩ := M.obj
    have hns := M.ns
    obtain ⟨G', g1, g2⟩ := restrict h' fun b => decide (b ≠ e)
    have gk : ∀ b, b ≠ e → G'.get? b = h'.get? b := fun b hb => g1 b (decide_eq_true hb)
    have ge : G'.get? e = none := g2 e (by simp)
    have old : ∀ b o, hp.get? b = some o → G'.get? b = some o := fun b o q => (gk b (Nat.ne_of_lt (Nat.lt_of_lt_of_le (Heap.lt_size q) M.new))).trans (M.keep b o q)
    have ob : ObjOk X.prog X.w (upd H1 d (.xd [(("most" : Str), v)])) G' d (.xd [(("most" : Str), v)]) :=
      ⟨_, hns.at (fun o q => (gk d M.dne).trans q), fun f => relO_most rv f⟩
    have J : L2.Inv X pins σ (upd H1 d (.xd [(("most" : Str), v)])) ⟨G', g, dr, tk', os⟩ := I1.laid (t' := tk') old M.dbig ob
    have fe : H1 e = none := I1.hok.fresh M.new
    have fd : H1 d = none := I1.hok.fresh M.dbig
    have J2 : L2.Inv X pins σ (upd (upd H1 d (.xd [(("most" : Str), v)])) e (ExH (.ref C) (some d) e)) ⟨h', g, dr, tk', os⟩ := J.laidN (h' := h') (t' := tk') (fun b u q => by
      by_cases hb : b = e
      · have q' : G'.get? b = some u := q
        rw [hb, ge] at q'
        cases q'
      · exact (gk b hb).symm.trans q) ge (by rw [upd_ne (Ne.symm M.dne)]; exact fe) (held_ok hoe ⟨hc, hd⟩ hdat)
    exact ⟨.ref e, _, J2, rfl, q1 e d fe fd M.dne⟩
end
/-! ### errors of the fields row and word, over any base -/
namespace Er_row_word
open PySem.W PySem.Calls PySem.HandSPX
def iA (p1 p2 p3 : Pos) : Arguments := { posonlyargs := [], args := [{ arg := "self", annotation := none, pos := p1 }, { arg := "row", annotation := none, pos := p2 }, { arg := "word", annotation := none, pos := p3 }], vararg := none, kwonlyargs := [], kw_defaults := [], kwarg := none, defaults := [] }
def iB (q1 q2 q3 q4 q5 q6 q7 q8 : Pos) : List Stmt := [.Assign [.Attribute (.Name "self" q1) "row" q2] (.Name "row" q3) q4, .Assign [.Attribute (.Name "self" q5) "word" q6] (.Name "word" q7) q8]
def iS : Scope := { kind := .function, names := [(PySem.Str.ofString "self", .local), (PySem.Str.ofString "row", .local), (PySem.Str.ofString "word", .local)], isGenerator := false, isCoroutine := false, more := [] }
structure Tx (K : Frag) (mg : Str → Option Value) (nm ql : Str) (C fI : Addr) (B newId initId : String) (bmB : List Value) : Prop where
  base : ExcBaseFacts B newId initId bmB
  gC : mg nm = some (.ref C)
  cls : ∃ n1 q N bs bm sn sub ab col dd k0 k1 k2 k3 k5, K.lookup C = some (excClassObj n1 q C N bs bm true sn sub ab col dd k0 k1 k2 k3 k5 newId) ∧ ErrLine B bm
  sa : findIn K (.ref C) "__setattr__" = some (some (.builtin "object.__setattr__"))
  ex : ExcC K C
  noA : findIn K (.ref C) "row" = some none
  noB : findIn K (.ref C) "word" = some none
  iC : findIn K (.ref C) "__init__" = some (some (.ref fI))
  tC : typeIn K (.ref fI) = some (.type "function")
  kC : keepIn K (.ref C) = true
  tyC : typeIn K (.ref C) = some (.type "type")
  fn : ∃ (oc : Value) (od : Option Addr) (doc pm : Value) (an : Option Addr) (cdv ct : Value) (osl : Array (Option Value)) (p1 p2 p3 q1 q2 q3 q4 q5 q6 q7 q8 : Pos),
    K.lookup fI = some ⟨oc, od, .func (fnOf "__init__" ql (iA p1 p2 p3) (iB q1 q2 q3 q4 q5 q6 q7 q8) iS .none .none doc pm an cdv ct), osl⟩ ∧ codeIn K cdv ql = true
structure Made (h h' : Heap) (e C d : Addr) (v u : Value) : Prop where
  keep : ∀ b o, h.get? b = some o → h'.get? b = some o
  new : h.objs.size ≤ e
  obj : ∃ oe vs, h'.get? e = some oe ∧ oe.cls = .ref C ∧ oe.dict = some d ∧ oe.data = .fields vs ∧ vs[1]? = some .none
  dbig : h.objs.size ≤ d
  dne : d ≠ e
  ns : h'.Ns1 d (fun y => if y = "word" then some u else if y = "row" then some v else none)
section
variable {prog : Program} {w : World} {A : Around} {E : Value → Shared → Prop} {R : Result → Shared → Prop} {s : Shared} {K : Frag} {mg : Str → Option Value} {nm ql : Str} {C fI : Addr} {B newId initId : String} {bmB : List Value}
theorem made (T : Tx K mg nm ql C fI B newId initId bmB) {v u : Value} (X : K.In s.heap) (hlim : s.heap.NoLimit) (hroom : A.depth + 1 < recursionLimit) (hq : ∀ h' tk e d, Made s.heap h' e C d v u → R (.ok (.ret (.ref e))) { s with heap := h', toks := tk }) :
    codeAny (model prog w) A (.call (.ref C) ⟨[v, u], []⟩) R s := by
  obtain ⟨n1, q, N, bs, bm, sn, sub, ab, col, dd, k0, k1, k2, k3, k5, hC, ln⟩ := T.cls
  obtain ⟨oc, od, doc, pm, an, cdv, ct, osl, p1, p2, p3, q1, q2, q3, q4, q5, q6, q7, q8, ho, hcd⟩ := T.fn
  have hcl : clsIn K C = some { name := n1, bases := bs, mro := .ref C :: bm, ns := N, qualname := q, hasDict := true, slotNames := sn, subclasses := sub, abstract := ab, collection := col, hasDel := false } := by
    unfold clsIn
    rw [hC]
  obtain ⟨hp, g, dr, tk, os⟩ := s
  have k : ∀ b o, hp.get? b = some o → ((hp.push (kdv_tup [v, u])).push (excO C hp.objs.size)).get? b = some o := fun b o e => Heap.get?_push_of_some _ (Heap.get?_push_of_some _ e)
  have hx : ((hp.push (kdv_tup [v, u])).push (excO C hp.objs.size)).get? (hp.objs.size + 1) = some (excO C hp.objs.size) := by heap_get
  refine mk_call T.base ln.mkl (X _ _ hC) (looks_findIn X T.iC) (fun self => bind_fn X self T.tC) (by rw [sizeLine_eq]; exact (by decide : 2 ≤ 16777216)) ?_
  have X1 := X.keeps k
  have lim1 : ((hp.push (kdv_tup [v, u])).push (excO C hp.objs.size)).NoLimit := hlim.keeps k
  have size1 : ((hp.push (kdv_tup [v, u])).push (excO C hp.objs.size)).objs.size = hp.objs.size + 1 + 1 := by rw [Heap.size_push, Heap.size_push]
  generalize (hp.push (kdv_tup [v, u])).push (excO C hp.objs.size) = h1 at k hx X1 lim1 size1 ⊢
  refine Att.call_fn (binds := [("self", .ref (hp.objs.size + 1)), ("row", v), ("word", u)]) X1 lim1 ho hcd hroom (BindsTo.of_eq (by first | rfl | with_unfolding_all rfl)) (by first | rfl | decide | with_unfolding_all rfl) (fun s₁ IC => ?_) rfl rfl rfl
  obtain ⟨h₁, tk₁, rfl⟩ := IC.toInCall.same
  have k1' : ∀ b o, h1.get? b = some o → h₁.get? b = some o := IC.toInCall.keep
  have hn := IC.toInCall.ns
  show wpAny _ _ (execs _ _) _ _ _
  refine wpAny_execs_cons (plainObj_wpAny_Assign_Attribute ?_)
  refine ldC (v := v) hn (by first | rfl | with_unfolding_all rfl | kernel_rfl) (ldC (v := .ref (hp.objs.size + 1)) hn (by first | rfl | with_unfolding_all rfl | kernel_rfl) ?_)
  refine set_plain (X1.keeps k1') (ox := excO C hp.objs.size) (od := none) ⟨k1' _ _ hx, rfl, rfl, trivial⟩ T.sa ?_
  refine err_first (X1.keeps k1') (k1' _ _ hx) hcl ln.own.obj ln.own.pass rfl rfl T.noA (fun h₃ tk₃ dx k₃ dn dne hx₃ hn₃ => ?_)
  show wpAny _ _ (execs _ _) _ _ _
  have z : h1.objs.size < h₁.objs.size := hn.lt
  have lt_ : ∀ {b : Addr} {o : Obj}, hp.get? b = some o → b ≠ hp.objs.size + 1 := fun {b o} e => Nat.ne_of_lt (Nat.lt_succ_of_lt (Heap.lt_size e))
  have X3 : K.In h₃ := fun a o e => k₃ a o (lt_ (X a o e)) (X1.keeps k1' a o e)
  have stay : ∀ {L : Addr} {m : Str → Option Value}, h₁.Ns L m → h₃.Ns L m := fun {L m} ns => by
    obtain ⟨o, es, n, e, dd, r⟩ := ns
    refine ⟨o, es, n, k₃ _ _ (fun z => ?_) e, dd, r⟩
    rw [z, k1' _ _ hx] at e
    cases e
    cases dd
  have hn3 := stay hn
  have hw : Within (fun y => if y = ("row" : Str) then some v else none) ["row"] := fun y hy => by
    by_cases e : y = "row"
    · rw [e]
      exact List.mem_cons_self
    · exact absurd (if_neg e) hy
  obtain ⟨oD, eD, pD, gD, _, _⟩ := hn₃.count hw
  refine wpAny_execs_cons (plainObj_wpAny_Assign_Attribute ?_)
  refine ldC (v := u) hn3 (by first | rfl | with_unfolding_all rfl | kernel_rfl) (ldC (v := .ref (hp.objs.size + 1)) hn3 (by first | rfl | with_unfolding_all rfl | kernel_rfl) ?_)
  refine set_plain X3 (ox := { cls := .ref C, dict := some dx, data := .fields #[.ref hp.objs.size, .none, .none, .none, .bool false, .none] }) (od := some oD) ⟨hx₃, rfl, rfl, gD⟩ T.sa ?_
  refine err_next X3 hx₃ hn₃ hw (by decide) hcl ln.own.obj ln.own.pass rfl rfl T.noB (fun h₄ tk₄ k₄ hn₄ => ?_)
  show wpAny _ _ (execs _ _) _ _ _
  have dn' : h₁.objs.size ≤ dx := dn
  have dn2 : hp.objs.size ≤ dx := by
    show hp.objs.size ≤ dx
    omega
  refine wpAny_execs_nil ⟨rfl, hq h₄ tk₄ (hp.objs.size + 1) dx ⟨fun b o e => k₄ b o (Nat.ne_of_lt (Nat.lt_of_lt_of_le (Heap.lt_size e) dn2)) (k₃ b o (lt_ e) (k1' b o (k b o e))), Nat.le_succ _, ⟨_, _, k₄ _ _ (Ne.symm dne) hx₃, rfl, rfl, rfl, rfl⟩, dn2, dne, hn₄⟩⟩
end
end Er_row_word
section
variable {X : Cx} {nm ql : Str} {C fI : Addr} {B newId initId : String} {bmB : List Value}
theorem relO_row_word {v u : V} {v' u' : Value} (r : RelV v v') (r2 : RelV u u') (f : Str) : RelO (List.lookup f [(("word" : Str), u), (("row" : Str), v)]) (if f = "word" then some u' else if f = "row" then some v' else none) := by
  by_cases h1 : f = "word"
  · subst h1
    rw [if_pos rfl]
    have q : List.lookup ("word" : Str) [(("word" : Str), u), (("row" : Str), v)] = some u := by simp [List.lookup]
    rw [q]
    exact r2
  · rw [if_neg h1]
    have q1 : (f == ("word" : Str)) = false := by simpa using h1
    by_cases h2 : f = "row"
    · subst h2
      rw [if_pos rfl]
      have q : List.lookup ("row" : Str) [(("word" : Str), u), (("row" : Str), v)] = some v := by simp [List.lookup, q1]
      rw [q]
      exact r
    · rw [if_neg h2]
      have q2 : (f == ("row" : Str)) = false := by simpa using h2
      have q : List.lookup f [(("word" : Str), u), (("row" : Str), v)] = none := by simp [List.lookup, q1, q2]
      rw [q]
      trivial
/-- nm(e, f) as a value -/
def tVal_row_word (C : Addr) (ta : TA) : TE := fun σ H Q => ta σ H fun vs H1 => ∃ v u, vs = [v, u] ∧ ∀ e d, H1 e = none → H1 d = none → d ≠ e → Q (.ref e) (upd (upd H1 d (.xd [(("word" : Str), u), (("row" : Str), v)])) e (ExH (.ref C) (some d) e))
theorem pe_val_row_word {a b : Expr} {ta : TA} {p pos : Pos} {k : Nat} (T : Er_row_word.Tx X.K X.mg nm ql C fI B newId initId bmB) (hr : Room k X.A) (ha : PA X [a, b] ta) (hg : Gl X nm := by rfl) (hdb : (nm == ("__debug__" : Str)) = false := by decide)
    (he : starEach (a :: [b]) X.env = (false, eval a X.env) :: starEach [b] X.env := by rfl) (hpl : (backTo pos (starEach [b] X.env)).any (·.1) = false := by rfl) :
    PE X (.Call (.Name nm p) [a, b] [] pos) (tVal_row_word C ta) := by
  constructor
  intro pins s σ H Q I h
  refine wpAny_Call_Name_kw (ld_glob I hg T.gC ?_ hdb)
  refine PySem.W.callWith_K (h₀ := X.base) I.ok.mod.kin T.kC (thn (ha.run pos pins s σ H _ I h) fun us s1 hh => ?_) he hpl
  obtain ⟨vs, H1, I1, r1, v, u, ev, q1⟩ := hh
  subst ev
  refine ⟨I1.kIn, ?_⟩
  obtain ⟨v', u', rfl, rv, ru⟩ := vals2 r1
  show wpAny _ _ (call (.ref C) [v', u']) _ _ _
  have hlim := I1.nolimit
  obtain ⟨hp, g, dr, tk, os⟩ := s1
  refine wpAny_call (Er_row_word.made T I1.kIn hlim (by have := hr.dp; omega) fun h' tk' e d M => ?_)
  obtain ⟨oe, fv, hoe, hc, hd, hdat, h1⟩ := M.obj
  have hns := M.ns
  obtain ⟨G', g1, g2⟩ := restrict h' fun b => decide (b ≠ e)
  have gk : ∀ b, b ≠ e → G'.get? b = h'.get? b := fun b hb => g1 b (decide_eq_true hb)
  have ge : G'.get? e = none := g2 e (by simp)
  have old : ∀ b o, hp.get? b = some o → G'.get? b = some o := fun b o q => (gk b (Nat.ne_of_lt (Nat.lt_of_lt_of_le (Heap.lt_size q) M.new))).trans (M.keep b o q)
  have ob : ObjOk X.prog X.w (upd H1 d (.xd [(("word" : Str), u), (("row" : Str), v)])) G' d (.xd [(("word" : Str), u), (("row" : Str), v)]) :=
    ⟨_, hns.at (fun o q => (gk d M.dne).trans q), fun f => relO_row_word rv ru f⟩
  have J : L2.Inv X pins σ (upd H1 d (.xd [(("word" : Str), u), (("row" : Str), v)])) ⟨G', g, dr, tk', os⟩ := I1.laid (t' := tk') old M.dbig ob
  have fe : H1 e = none := I1.hok.fresh M.new
  have fd : H1 d = none := I1.hok.fresh M.dbig
  have J2 : L2.Inv X pins σ (upd (upd H1 d (.xd [(("word" : Str), u), (("row" : Str), v)])) e (ExH (.ref C) (some d) e)) ⟨h', g, dr, tk', os⟩ := J.laidN (h' := h') (t' := tk') (fun b u q => by
    by_cases hb : b = e
    · have q' : G'.get? b = some u := q
      rw [hb, ge] at q'
      cases q'
    · exact (gk b hb).symm.trans q) ge (by rw [upd_ne (Ne.symm M.dne)]; exact fe) (held_ok hoe ⟨hc, hd⟩ hdat)
  exact ⟨.ref e, _, J2, rfl, q1 e d fe fd M.dne⟩
end
/-! ### errors of the fields lot and sums, over any base -/
namespace Er_lot_sums
open PySem.W PySem.Calls PySem.HandSPX
def iA (p1 p2 p3 : Pos) : Arguments := { posonlyargs := [], args := [{ arg := "self", annotation := none, pos := p1 }, { arg := "lot", annotation := none, pos := p2 }, { arg := "sums", annotation := none, pos := p3 }], vararg := none, kwonlyargs := [], kw_defaults := [], kwarg := none, defaults := [] }
def iB (q1 q2 q3 q4 q5 q6 q7 q8 : Pos) : List Stmt := [.Assign [.Attribute (.Name "self" q1) "lot" q2] (.Name "lot" q3) q4, .Assign [.Attribute (.Name "self" q5) "sums" q6] (.Name "sums" q7) q8]
def iS : Scope := { kind := .function, names := [(PySem.Str.ofString "self", .local), (PySem.Str.ofString "lot", .local), (PySem.Str.ofString "sums", .local)], isGenerator := false, isCoroutine := false, more := [] }
structure Tx (K : Frag) (mg : Str → Option Value) (nm ql : Str) (C fI : Addr) (B newId initId : String) (bmB : List Value) : Prop where
  base : ExcBaseFacts B newId initId bmB
  gC : mg nm = some (.ref C)
  cls : ∃ n1 q N bs bm sn sub ab col dd k0 k1 k2 k3 k5, K.lookup C = some (excClassObj n1 q C N bs bm true sn sub ab col dd k0 k1 k2 k3 k5 newId) ∧ ErrLine B bm
  sa : findIn K (.ref C) "__setattr__" = some (some (.builtin "object.__setattr__"))
  ex : ExcC K C
  noA : findIn K (.ref C) "lot" = some none
  noB : findIn K (.ref C) "sums" = some none
  iC : findIn K (.ref C) "__init__" = some (some (.ref fI))
  tC : typeIn K (.ref fI) = some (.type "function")
  kC : keepIn K (.ref C) = true
  tyC : typeIn K (.ref C) = some (.type "type")
  fn : ∃ (oc : Value) (od : Option Addr) (doc pm : Value) (an : Option Addr) (cdv ct : Value) (osl : Array (Option Value)) (p1 p2 p3 q1 q2 q3 q4 q5 q6 q7 q8 : Pos),
    K.lookup fI = some ⟨oc, od, .func (fnOf "__init__" ql (iA p1 p2 p3) (iB q1 q2 q3 q4 q5 q6 q7 q8) iS .none .none doc pm an cdv ct), osl⟩ ∧ codeIn K cdv ql = true
structure Made (h h' : Heap) (e C d : Addr) (v u : Value) : Prop where
  keep : ∀ b o, h.get? b = some o → h'.get? b = some o
  new : h.objs.size ≤ e
  obj : ∃ oe vs, h'.get? e = some oe ∧ oe.cls = .ref C ∧ oe.dict = some d ∧ oe.data = .fields vs ∧ vs[1]? = some .none
  dbig : h.objs.size ≤ d
  dne : d ≠ e
  ns : h'.Ns1 d (fun y => if y = "sums" then some u else if y = "lot" then some v else none)
section
variable {prog : Program} {w : World} {A : Around} {E : Value → Shared → Prop} {R : Result → Shared → Prop} {s : Shared} {K : Frag} {mg : Str → Option Value} {nm ql : Str} {C fI : Addr} {B newId initId : String} {bmB : List Value}
theorem made (T : Tx K mg nm ql C fI B newId initId bmB) {v u : Value} (X : K.In s.heap) (hlim : s.heap.NoLimit) (hroom : A.depth + 1 < recursionLimit) (hq : ∀ h' tk e d, Made s.heap h' e C d v u → R (.ok (.ret (.ref e))) { s with heap := h', toks := tk }) :
    codeAny (model prog w) A (.call (.ref C) ⟨[v, u], []⟩) R s := by
  obtain ⟨n1, q, N, bs, bm, sn, sub, ab, col, dd, k0, k1, k2, k3, k5, hC, ln⟩ := T.cls
  obtain ⟨oc, od, doc, pm, an, cdv, ct, osl, p1, p2, p3, q1, q2, q3, q4, q5, q6, q7, q8, ho, hcd⟩ := T.fn
  have hcl : clsIn K C = some { name := n1, bases := bs, mro := .ref C :: bm, ns := N, qualname := q, hasDict := true, slotNames := sn, subclasses := sub, abstract := ab, collection := col, hasDel := false } := by
    unfold clsIn
    rw [hC]
  obtain ⟨hp, g, dr, tk, os⟩ := s
  have k : ∀ b o, hp.get? b = some o → ((hp.push (kdv_tup [v, u])).push (excO C hp.objs.size)).get? b = some o := fun b o e => Heap.get?_push_of_some _ (Heap.get?_push_of_some _ e)
  have hx : ((hp.push (kdv_tup [v, u])).push (excO C hp.objs.size)).get? (hp.objs.size + 1) = some (excO C hp.objs.size) := by heap_get
  refine mk_call T.base ln.mkl (X _ _ hC) (looks_findIn X T.iC) (fun self => bind_fn X self T.tC) (by rw [sizeLine_eq]; exact (by decide : 2 ≤ 16777216)) ?_
  have X1 := X.keeps k
  have lim1 : ((hp.push (kdv_tup [v, u])).push (excO C hp.objs.size)).NoLimit := hlim.keeps k
  have size1 : ((hp.push (kdv_tup [v, u])).push (excO C hp.objs.size)).objs.size = hp.objs.size + 1 + 1 := by rw [Heap.size_push, Heap.size_push]
  generalize (hp.push (kdv_tup [v, u])).push (excO C hp.objs.size) = h1 at k hx X1 lim1 size1 ⊢
  refine Att.call_fn (binds := [("self", .ref (hp.objs.size + 1)), ("lot", v), ("sums", u)]) X1 lim1 ho hcd hroom (BindsTo.of_eq (by first | rfl | with_unfolding_all rfl)) (by first | rfl | decide | with_unfolding_all rfl) (fun s₁ IC => ?_) rfl rfl rfl
  obtain ⟨h₁, tk₁, rfl⟩ := IC.toInCall.same
  have k1' : ∀ b o, h1.get? b = some o → h₁.get? b = some o := IC.toInCall.keep
  have hn := IC.toInCall.ns
  show wpAny _ _ (execs _ _) _ _ _
  refine wpAny_execs_cons (plainObj_wpAny_Assign_Attribute ?_)
  refine ldC (v := v) hn (by first | rfl | with_unfolding_all rfl | kernel_rfl) (ldC (v := .ref (hp.objs.size + 1)) hn (by first | rfl | with_unfolding_all rfl | kernel_rfl) ?_)
  refine set_plain (X1.keeps k1') (ox := excO C hp.objs.size) (od := none) ⟨k1' _ _ hx, rfl, rfl, trivial⟩ T.sa ?_
  refine err_first (X1.keeps k1') (k1' _ _ hx) hcl ln.own.obj ln.own.pass rfl rfl T.noA (fun h₃ tk₃ dx k₃ dn dne hx₃ hn₃ => ?_)
  show wpAny _ _ (execs _ _) _ _ _
  have z : h1.objs.size < h₁.objs.size := hn.lt
  have lt_ : ∀ {b : Addr} {o : Obj}, hp.get? b = some o → b ≠ hp.objs.size + 1 := fun {b o} e => Nat.ne_of_lt (Nat.lt_succ_of_lt (Heap.lt_size e))
  have X3 : K.In h₃ := fun a o e => k₃ a o (lt_ (X a o e)) (X1.keeps k1' a o e)
  have stay : ∀ {L : Addr} {m : Str → Option Value}, h₁.Ns L m → h₃.Ns L m := fun {L m} ns => by
    obtain ⟨o, es, n, e, dd, r⟩ := ns
    refine ⟨o, es, n, k₃ _ _ (fun z => ?_) e, dd, r⟩
    rw [z, k1' _ _ hx] at e
    cases e
    cases dd
  have hn3 := stay hn
  have hw : Within (fun y => if y = ("lot" : Str) then some v else none) ["lot"] := fun y hy => by
    by_cases e : y = "lot"
    · rw [e]
      exact List.mem_cons_self
    · exact absurd (if_neg e) hy
  obtain ⟨oD, eD, pD, gD, _, _⟩ := hn₃.count hw
  refine wpAny_execs_cons (plainObj_wpAny_Assign_Attribute ?_)
  refine ldC (v := u) hn3 (by first | rfl | with_unfolding_all rfl | kernel_rfl) (ldC (v := .ref (hp.objs.size + 1)) hn3 (by first | rfl | with_unfolding_all rfl | kernel_rfl) ?_)
  refine set_plain X3 (ox := { cls := .ref C, dict := some dx, data := .fields #[.ref hp.objs.size, .none, .none, .none, .bool false, .none] }) (od := some oD) ⟨hx₃, rfl, rfl, gD⟩ T.sa ?_
  refine err_next X3 hx₃ hn₃ hw (by decide) hcl ln.own.obj ln.own.pass rfl rfl T.noB (fun h₄ tk₄ k₄ hn₄ => ?_)
  show wpAny _ _ (execs _ _) _ _ _
  have dn' : h₁.objs.size ≤ dx := dn
  have dn2 : hp.objs.size ≤ dx := by
    show hp.objs.size ≤ dx
    omega
  refine wpAny_execs_nil ⟨rfl, hq h₄ tk₄ (hp.objs.size + 1) dx ⟨fun b o e => k₄ b o (Nat.ne_of_lt (Nat.lt_of_lt_of_le (Heap.lt_size e) dn2)) (k₃ b o (lt_ e) (k1' b o (k b o e))), Nat.le_succ _, ⟨_, _, k₄ _ _ (Ne.symm dne) hx₃, rfl, rfl, rfl, rfl⟩, dn2, dne, hn₄⟩⟩
end
end Er_lot_sums
section
variable {X : Cx} {nm ql : Str} {C fI : Addr} {B newId initId : String} {bmB : List Value}
theorem relO_lot_sums {v u : V} {v' u' : Value} (r : RelV v v') (r2 : RelV u u') (f : Str) : RelO (List.lookup f [(("sums" : Str), u), (("lot" : Str), v)]) (if f = "sums" then some u' else if f = "lot" then some v' else none) := by
  by_cases h1 : f = "sums"
  · subst h1
    rw [if_pos rfl]
    have q : List.lookup ("sums" : Str) [(("sums" : Str), u), (("lot" : Str), v)] = some u := by simp [List.lookup]
    rw [q]
    exact r2
  · rw [if_neg h1]
    have q1 : (f == ("sums" : Str)) = false := by simpa using h1
    by_cases h2 : f = "lot"
    · subst h2
      rw [if_pos rfl]
      have q : List.lookup ("lot" : Str) [(("sums" : Str), u), (("lot" : Str), v)] = some v := by simp [List.lookup, q1]
      rw [q]
      exact r
    · rw [if_neg h2]
      have q2 : (f == ("lot" : Str)) = false := by simpa using h2
      have q : List.lookup f [(("sums" : Str), u), (("lot" : Str), v)] = none := by simp [List.lookup, q1, q2]
      rw [q]
      trivial
/-- nm(e, f) as a value -/
def tVal_lot_sums (C : Addr) (ta : TA) : TE := fun σ H Q => ta σ H fun vs H1 => ∃ v u, vs = [v, u] ∧ ∀ e d, H1 e = none → H1 d = none → d ≠ e → Q (.ref e) (upd (upd H1 d (.xd [(("sums" : Str), u), (("lot" : Str), v)])) e (ExH (.ref C) (some d) e))
theorem pe_val_lot_sums {a b : Expr} {ta : TA} {p pos : Pos} {k : Nat} (T : Er_lot_sums.Tx X.K X.mg nm ql C fI B newId initId bmB) (hr : Room k X.A) (ha : PA X [a, b] ta) (hg : Gl X nm := by rfl) (hdb : (nm == ("__debug__" : Str)) = false := by decide)
    (he : starEach (a :: [b]) X.env = (false, eval a X.env) :: starEach [b] X.env := by rfl) (hpl : (backTo pos (starEach [b] X.env)).any (·.1) = false := by rfl) :
    PE X (.Call (.Name nm p) [a, b] [] pos) (tVal_lot_sums C ta) := by
  constructor
  intro pins s σ H Q I h
  refine wpAny_Call_Name_kw (ld_glob I hg T.gC ?_ hdb)
  refine PySem.W.callWith_K (h₀ := X.base) I.ok.mod.kin T.kC (thn (ha.run pos pins s σ H _ I h) fun us s1 hh => ?_) he hpl
  obtain ⟨vs, H1, I1, r1, v, u, ev, q1⟩ := hh
  subst ev
  refine ⟨I1.kIn, ?_⟩
  obtain ⟨v', u', rfl, rv, ru⟩ := vals2 r1
  show wpAny _ _ (call (.ref C) [v', u']) _ _ _
  have hlim := I1.nolimit
  obtain ⟨hp, g, dr, tk, os⟩ := s1
  refine wpAny_call (Er_lot_sums.made T I1.kIn hlim (by have := hr.dp; omega) fun h' tk' e d M => ?_)
  obtain ⟨oe, fv, hoe, hc, hd, hdat, h1⟩ := M.obj
  have hns := M.ns
  obtain ⟨G', g1, g2⟩ := restrict h' fun b => decide (b ≠ e)
  have gk : ∀ b, b ≠ e → G'.get? b = h'.get? b := fun b hb => g1 b (decide_eq_true hb)
  have ge : G'.get? e = none := g2 e (by simp)
  have old : ∀ b o, hp.get? b = some o → G'.get? b = some o := fun b o q => (gk b (Nat.ne_of_lt (Nat.lt_of_lt_of_le (Heap.lt_size q) M.new))).trans (M.keep b o q)
  have ob : ObjOk X.prog X.w (upd H1 d (.xd [(("sums" : Str), u), (("lot" : Str), v)])) G' d (.xd [(("sums" : Str), u), (("lot" : Str), v)]) :=
    ⟨_, hns.at (fun o q => (gk d M.dne).trans q), fun f => relO_lot_sums rv ru f⟩
  have J : L2.Inv X pins σ (upd H1 d (.xd [(("sums" : Str), u), (("lot" : Str), v)])) ⟨G', g, dr, tk', os⟩ := I1.laid (t' := tk') old M.dbig ob
  have fe : H1 e = none := I1.hok.fresh M.new
  have fd : H1 d = none := I1.hok.fresh M.dbig
  have J2 : L2.Inv X pins σ (upd (upd H1 d (.xd [(("sums" : Str), u), (("lot" : Str), v)])) e (ExH (.ref C) (some d) e)) ⟨h', g, dr, tk', os⟩ := J.laidN (h' := h') (t' := tk') (fun b u q => by
    by_cases hb : b = e
    · have q' : G'.get? b = some u := q
      rw [hb, ge] at q'
      cases q'
    · exact (gk b hb).symm.trans q) ge (by rw [upd_ne (Ne.symm M.dne)]; exact fe) (held_ok hoe ⟨hc, hd⟩ hdat)
  exact ⟨.ref e, _, J2, rfl, q1 e d fe fd M.dne⟩
end
end Pk
namespace Pk
open PySem PySem.Spec L2
/-! ### data as texts: str(x), repr(x), {x!s}, {x!r} -/
def dStr : PyData → Str
  | .str z => z
  | d => d.shown
/-- data that can be told -/
structure Told (K : PySem.W.Frag) (H : Hp) (x : V) (d : PyData) : Prop where
  dp : Dp K H x d
  nd : d.hasDict = false
  sh : d.showable = true
  de : d.depth ≤ 60
  sz : d.shown.length ≤ 100000
  st : (dStr d).length ≤ 100000
section
variable {X : Cx} {e : Expr} {te : TE} {pos : Pos}
theorem le_line {n : Nat} (h : n ≤ 100000) : n ≤ sizeLine := by
  rw [sizeLine_eq]
  omega
theorem fmt_fin {pins : List (Addr × Obj)} {σ : L2.St} {H : Hp} {s : Shared} {Q : VK} {z : Str} (I : L2.Inv X pins σ H s) (hz : z.length ≤ sizeLine) (q : Q (.str z) H) (t : Tok) : wpAny (model X.prog X.w) X.A (formatField (.str z t) Str.empty) (EP X pins σ Q) X.xe s :=
  wpAny_formatField_str ⟨.str z, H, I, ⟨_, rfl⟩, q⟩ ⟨.str z, H, I.tok _, ⟨_, rfl⟩, q⟩ hz
def tTellS (K : PySem.W.Frag) (te : TE) : TE := fun σ H Q => te σ H fun x H1 => ∃ d, Told K H1 x d ∧ Q (.str (dStr d)) H1
def tTellR (K : PySem.W.Frag) (te : TE) : TE := fun σ H Q => te σ H fun x H1 => ∃ d, Told K H1 x d ∧ Q (.str d.shown) H1
/-- {x!s} -/
theorem pe_fmtSD (calm : Calm X.A) (hu : X.A.units + 70 < cLine) (he : PE X e te) : PE X (.FormattedValue e 115 none pos) (tTellS X.K te) := by
  constructor
  intro pins s σ H Q I h
  refine wpAny_FormattedValue_s (thn (he.run pins s σ H _ I h) ?_)
  rintro v s1 ⟨x, H1, I1, r1, d, T, q⟩
  have hz := le_line T.st
  obtain ⟨as, rd⟩ := Dp.reads I1 d x v T.dp r1
  have big : ∀ {a : Addr}, v = .ref a → dStr d = d.shown → wpAny (model X.prog X.w) X.A (convS v) (fun r s₂ => wpAny (model X.prog X.w) X.A (formatField r Str.empty) (EP X pins σ Q) X.xe s₂) X.xe s1 := fun {a} e e2 => by
    subst e
    refine convS_of_reads rd T.sh (fun z => by rw [T.nd] at z; cases z) calm (by have := T.de; omega) (fun _ _ z => z) (fun h' u tk keep => ?_) (le_line T.sz)
    refine fmt_fin (H := H1) (I1.kept keep) (le_line T.sz) ?_ u
    rw [← e2]
    exact q
  cases hd : T.dp with
  | non =>
    cases r1
    exact pyStrObj_none (fmt_fin (I1.tok _) hz q _)
  | bl b =>
    cases r1
    exact pyStrObj_bool (fmt_fin (I1.tok _) hz q _)
  | int i =>
    obtain ⟨t, rfl⟩ := r1
    exact pyStrObj_int (of_decide_eq_true T.sh) (fmt_fin (I1.tok _) hz q _)
  | str y =>
    obtain ⟨t, rfl⟩ := r1
    exact wpAny_habitSame_str (fmt_fin I1 hz q _) (fmt_fin (I1.tok _) hz q _)
  | lst h1 h2 =>
    cases r1
    exact big rfl rfl
  | tup h1 h2 =>
    cases r1
    exact big rfl rfl
/-- {x!r} -/
theorem pe_fmtRD (calm : Calm X.A) (hu : X.A.units + 70 < cLine) (he : PE X e te) : PE X (.FormattedValue e 114 none pos) (tTellR X.K te) := by
  constructor
  intro pins s σ H Q I h
  refine wpAny_FormattedValue_repr (thn (he.run pins s σ H _ I h) ?_)
  rintro v s1 ⟨x, H1, I1, r1, d, T, q⟩
  have hz := le_line T.sz
  obtain ⟨as, rd⟩ := Dp.reads I1 d x v T.dp r1
  have big : ∀ {a : Addr}, v = .ref a → wpAny (model X.prog X.w) X.A (pyReprObj v) (fun r s₂ => wpAny (model X.prog X.w) X.A (formatField r Str.empty) (EP X pins σ Q) X.xe s₂) X.xe s1 := fun {a} e => by
    subst e
    exact pyReprObj_of_reads rd T.sh (fun z => by rw [T.nd] at z; cases z) calm (by have := T.de; omega) (fun _ _ z => z) (fun h' u tk keep => fmt_fin (H := H1) (I1.kept keep) hz q u) hz
  cases hd : T.dp with
  | non =>
    cases r1
    exact wpAny_pyReprObj_gives (typeIs_none _) F.slot_NoneType_repr F.entry_NoneType_repr (F.args_NoneType_repr_1 _) gives_none_repr (fmt_fin (I1.tok _) hz q _)
  | bl b =>
    cases r1
    exact wpAny_pyReprObj_gives (typeIs_bool _ b) F.slot_bool_repr F.entry_bool_repr (F.args_bool_repr_1 _) (gives_bool_repr b) (fmt_fin (I1.tok _) hz q _)
  | int i =>
    obtain ⟨t, rfl⟩ := r1
    exact pyReprObj_int (of_decide_eq_true T.sh) (fmt_fin (I1.tok _) hz q _)
  | str y =>
    obtain ⟨t, rfl⟩ := r1
    exact wpAny_pyReprObj_str (fmt_fin (I1.tok _) hz q _) hz
  | lst h1 h2 =>
    cases r1
    exact big rfl
  | tup h1 h2 =>
    cases r1
    exact big rfl
/-- str(x) -/
def rStrD (K : PySem.W.Frag) : List V → Hp → VK → Prop := fun xs H Q => ∃ x d, xs = [x] ∧ Told K H x d ∧ Q (.str (dStr d)) H
theorem call_strD (calm : Calm X.A) (hu : X.A.units + 70 < cLine) : CallR X (.type "str") (rStrD X.K) := by
  rintro pins s σ H xs us Q I r ⟨x, d, rfl, T, q⟩
  obtain ⟨u, rfl, rx⟩ := vals1 r
  obtain ⟨as, rd⟩ := Dp.reads I d x u T.dp rx
  have big : ∀ {a : Addr}, u = .ref a → dStr d = d.shown → wpAny (model X.prog X.w) X.A (call (.type "str") [u]) (EP X pins σ Q) X.xe s := fun {a} e e2 => by
    subst e
    refine str_of_reads rd T.sh (fun z => by rw [T.nd] at z; cases z) calm (by have := T.de; omega) (fun _ _ z => z) (fun h' u tk keep => ⟨.str d.shown, H, I.kept keep, ⟨_, rfl⟩, ?_⟩) (le_line T.sz)
    rw [← e2]
    exact q
  cases hd : T.dp with
  | non =>
    cases rx
    exact P.str_of_none ⟨.str "None", H, I.tok _, ⟨_, rfl⟩, q⟩
  | bl b =>
    cases rx
    exact P.str_of_bool ⟨.str (if b then "True" else "False"), H, I.tok _, ⟨_, rfl⟩, q⟩
  | int i =>
    obtain ⟨t, rfl⟩ := rx
    exact P.str_of_int (of_decide_eq_true T.sh) ⟨.str (toString i), H, I.tok _, ⟨_, rfl⟩, q⟩
  | str y =>
    obtain ⟨t, rfl⟩ := rx
    exact P.str_of_str ⟨.str y, H, I, ⟨_, rfl⟩, q⟩
  | lst h1 h2 =>
    cases rx
    exact big rfl rfl
  | tup h1 h2 =>
    cases rx
    exact big rfl rfl
/-- an error without a field of its own, as a value -/
theorem pe_plainErr {C : Addr} {bmB : List Value} {B newId initId : String} {x : Str} {e : Expr} {ta : TE} {p pos : Pos} (F : ExcBaseFacts B newId initId bmB) (q : PySem.W.excIn X.K C bmB newId = true) (gC : X.mg x = some (.ref C)) (kC : PySem.W.keepIn X.K (.ref C) = true) (hg : Gl X x)
    (he : PE X e ta) (hs : starEach [e] X.env = (false, eval e X.env) :: starEach [] X.env := by rfl) (hdb : (x == ("__debug__" : Str)) = false := by decide) :
    PE X (.Call (.Name x p) [e] [] pos) (fun σ H Q => ta σ H fun _ H1 => ∀ a, H1 a = none → Q (.ref a) (upd H1 a (ExH (.ref C) none a))) := by
  constructor
  intro pins s σ H Q I h
  refine wpAny_Call_Name_kw (ld_glob I hg gC (PySem.W.callWith_K (h₀ := X.base) I.ok.mod.kin kC ?_ hs (by rfl)) hdb)
  rw [hs]
  show wpAny _ _ (spliced ((false, eval e X.env) :: backTo pos (starEach [] X.env))) _ _ s
  refine Calls.spliced_cons (thn (he.run pins s σ H _ I h) ?_)
  rintro u s1 ⟨v, H1, I1, r1, q1⟩
  refine Calls.spliced_nil ⟨I1.kIn, ?_⟩
  show wpAny _ _ (call (.ref C) [u]) _ _ _
  obtain ⟨bm, N, nm, qn, bs, hdct, sn, sub, ab, col, dd, k0, k1, k2, k3, k5, mN, hC, hN, hni, T⟩ := exc_obj I1.kIn q
  refine wpAny_call_exc_subT F T hC hN hni (fun h' a hm => ?_) (by rw [sizeLine_eq]; show 1 ≤ 16777216; decide)
  have hn : H1 a = none := I1.hok.gone hm.new
  obtain ⟨t, ht, _, _⟩ := hm.there
  exact ⟨.ref a, _, I1.laidN hm.keeps hm.new hn (held_ok ht ⟨rfl, rfl⟩ rfl), rfl, q1 a hn⟩
end
section
variable {X : Cx} {k : Nat} {f C : Addr} {fd : FuncData} {sp : Sp} {e : Expr} {te : TE} {p pos : Pos}
/-- str(e), e a kept error whose class says how it is told, by a def that may show -/
theorem pe_strErrG (F : FnG X.prog X.w X.K X.mg X.base CX0 k f fd ["self"] sp) (calm : Calm X.A) (hr : Room (k + 2) X.A) (hs : PySem.W.findIn X.K (.ref C) "__str__" = some (some (.ref f))) (hf : PySem.W.isFn X.K (.ref f) = true) (hb : Binds X.K fd ["self"] []) (hg : Gl X "str") (hm : X.mg "str" = none) (he : PE X e te)
    (na : starEach [e] X.env = (false, eval e X.env) :: starEach [] X.env := by rfl) : PE X (.Call (.Name "str" p) [e] [] pos) (tStrErr C sp te) := by
  constructor
  intro pins s σ H Q I h
  refine PyProof.Rows.Call_ (ld_blt I hg hm PyProof.Rows.boot_str ?_)
  refine PyProof.Rows.callWith_type1 (PyProof.Rows.args_cons (thn (he.run pins s σ H _ I h) ?_) na) na rfl
  rintro v s1 ⟨x, H1, I1, r1, a, d, rfl, ha, hd, q⟩
  cases (show v = Value.ref a from r1)
  obtain ⟨oe, od, J, -⟩ := held_at I1 ha hd
  refine PyProof.Rows.args_nil (PySem.W.kso_call (by have := hr.un; show X.A.in1.in1.units < cLine; have e1 := (hr.in1.in1).un; omega) I1.kIn J hs hf ?_)
  refine wpAny_call (codeAny_mono (F.go X.A.in1.in1 (show Calm X.A.in1.in1 from calm) hr.in1.in1 X.stack s1 H1 ⟨[.ref a], []⟩ [.ref a] [.ref a] _ E0 I1.env0.in1.in1 (hb s1 [.ref a] I1.kIn rfl) (.cons rfl .nil) q) fun r s' hq => ?_)
  match r, hq with
  | .error e, hq => exact hq.elim
  | .ok .next, hq => exact hq.elim
  | .ok .brk, hq => exact hq.elim
  | .ok .cont, hq => exact hq.elim
  | .ok (.ret u), hq =>
    obtain ⟨v, H2, I2, rv, ⟨z, rfl⟩, q2⟩ := I1.after hq
    obtain ⟨t, rfl⟩ := rv
    exact ⟨.str z, H2, I2, ⟨t, rfl⟩, q2⟩
end
end Pk
namespace Pk
open PySem L2
/-! ### tuples of things, shown -/
structure ShowsL (K : PySem.W.Frag) (H : Hp) (L : List V) (ds : List PyData) (n k : Nat) : Prop where
  dp : DpAll K H L ds
  sh : PyData.showableAll ds = true
  de : PyData.depthAll ds ≤ k
  nd : PyData.hasDictAll ds = false
  sz : ((PyData.shownAll ds).map fun t => t.length + 2).sum ≤ n
section
variable {K : PySem.W.Frag} {H : Hp} {L : List V} {ds : List PyData} {n k : Nat}
theorem ShowsL.nil : ShowsL K H [] [] 0 k := ⟨.nil, by simp [PyData.showableAll], by simp [PyData.depthAll], by simp [PyData.hasDictAll], by simp [PyData.shownAll]⟩
theorem ShowsL.str {z : Str} (hl : z.length ≤ 100) (ho : Sgn z) (h : ShowsL K H L ds n k) : ShowsL K H (.str z :: L) (.str z :: ds) (n + 1004) k where
  dp := .cons (.str z) h.dp
  sh := by simp [PyData.showableAll, PyData.showable, h.sh]
  de := by
    have := h.de
    simp [PyData.depthAll, PyData.depth]
    omega
  nd := by simp [PyData.hasDictAll, PyData.hasDict, h.nd]
  sz := by
    have h1 := h.sz
    have h2 := repr_le hl ho
    simp [PyData.shownAll, PyData.shown]
    omega
theorem small_text {i : Int} (h0 : 0 ≤ i) (h9 : i ≤ 9) : (Str.ofString (toString i)).length ≤ 2 := by
  have : i = 0 ∨ i = 1 ∨ i = 2 ∨ i = 3 ∨ i = 4 ∨ i = 5 ∨ i = 6 ∨ i = 7 ∨ i = 8 ∨ i = 9 := by omega
  rcases this with rfl | rfl | rfl | rfl | rfl | rfl | rfl | rfl | rfl | rfl <;> decide +kernel
theorem small_log {i : Int} (h0 : 0 ≤ i) (h9 : i ≤ 9) : i.natAbs.log2 < 1920 := by
  have : i = 0 ∨ i = 1 ∨ i = 2 ∨ i = 3 ∨ i = 4 ∨ i = 5 ∨ i = 6 ∨ i = 7 ∨ i = 8 ∨ i = 9 := by omega
  rcases this with rfl | rfl | rfl | rfl | rfl | rfl | rfl | rfl | rfl | rfl <;> decide +kernel
theorem ShowsL.int {i : Int} (h0 : 0 ≤ i) (h9 : i ≤ 9) (h : ShowsL K H L ds n k) : ShowsL K H (.int i :: L) (.int i :: ds) (n + 4) k where
  dp := .cons (.int i) h.dp
  sh := by
    have e : PyData.showable (.int i) = true := decide_eq_true (small_log h0 h9)
    simp [PyData.showableAll, e, h.sh]
  de := by
    have := h.de
    simp [PyData.depthAll, PyData.depth]
    omega
  nd := by simp [PyData.hasDictAll, PyData.hasDict, h.nd]
  sz := by
    have h1 := h.sz
    have h2 := small_text h0 h9
    have e : (PyData.int i).shown = Str.ofString (toString i) := by simp [PyData.shown]
    have e2 : ((PyData.shownAll (.int i :: ds)).map fun t => t.length + 2).sum = ((PyData.int i).shown.length + 2) + ((PyData.shownAll ds).map fun t => t.length + 2).sum := by simp [PyData.shownAll]
    rw [e2, e]
    omega
theorem join_le : ∀ ts : List Str, (Str.join ", " ts).length ≤ (ts.map fun t => t.length + 2).sum
  | [] => Nat.zero_le _
  | [x] => by
    show x.length ≤ _
    simp
  | x :: y :: r => by
    have ih := join_le (y :: r)
    show (x ++ ", " ++ Str.join ", " (y :: r)).length ≤ _
    rw [app_len, app_len, show ((", " : String) : Str).length = 2 by decide +kernel, List.map_cons, List.sum_cons]
    omega
theorem tup_le (ts : List Str) : (tupleText ts).length ≤ 3 + (ts.map fun t => t.length + 2).sum := by
  unfold tupleText
  have h := join_le ts
  have h2 : (((if ts.length == 1 then ",)" else ")" : String) : Str)).length ≤ 2 := by split <;> decide +kernel
  rw [app_len, app_len, show (("(" : String) : Str).length = 1 by decide +kernel]
  omega
theorem ShowsL.tup {a : Addr} {L2 : List V} {ds2 : List PyData} {n2 k2 : Nat} (ha : H a = some (.tup L2)) (g : ShowsL K H L2 ds2 n2 k2) (hk : k2 + 1 ≤ k) (h : ShowsL K H L ds n k) : ShowsL K H (.ref a :: L) (.tuple ds2 :: ds) (n + n2 + 5) k where
  dp := .cons (.tup (SqT.of ha) g.dp) h.dp
  sh := by simp [PyData.showableAll, PyData.showable, g.sh, h.sh]
  de := by
    have := h.de
    have := g.de
    simp [PyData.depthAll, PyData.depth]
    omega
  nd := by simp [PyData.hasDictAll, PyData.hasDict, g.nd, h.nd]
  sz := by
    have h1 := h.sz
    have h2 := g.sz
    have h3 := tup_le (PyData.shownAll ds2)
    simp [PyData.shownAll, PyData.shown]
    omega
theorem ShowsL.all {t : Addr} (ht : H t = some (.tup L)) (h : ShowsL K H L ds n k) (hn : n ≤ 100000) (hk : k ≤ 60) : Shows K H (.ref t) (.tuple ds) where
  dq := .of (.tup (SqT.of ht) h.dp) (by simp [PyData.hasDict, h.nd])
  sh := by simp [PyData.showable, h.sh]
  dp := by
    have := h.de
    simp [PyData.depth]
    omega
  sz := by
    have h1 := h.sz
    have h3 := tup_le (PyData.shownAll ds)
    have e : (PyData.tuple ds).shown = tupleText (PyData.shownAll ds) := by simp [PyData.shown]
    rw [e, sizeLine_eq]
    omega
/-- texts -/
theorem ShowsL.texts (k : Nat) : ∀ L : List V, L.all textV = true → (∀ v ∈ L, Thg H v) → ∃ ds, ShowsL K H L ds (1004 * L.length) k
  | [], _, _ => ⟨[], .nil⟩
  | v :: L, h, ht => by
    rw [List.all_cons, Bool.and_eq_true] at h
    obtain ⟨ds, g⟩ := ShowsL.texts k L h.2 (fun u hu => ht u (List.mem_cons_of_mem _ hu))
    have hv := ht v List.mem_cons_self
    have h1 := h.1
    cases hv with
    | str z hl ho =>
      have hz : textT z = true := h1
      unfold textT at hz
      simp only [Bool.and_eq_true, decide_eq_true_iff] at hz
      refine ⟨.str z :: ds, ?_⟩
      have e := ShowsL.str (by omega) ho g
      rw [List.length_cons, show 1004 * (L.length + 1) = 1004 * L.length + 1004 by omega]
      exact e
    | _ => cases h1
end
end Pk
namespace Pk
open PySem L2
/-- some text that is so, so many numbers taken at most -/
def spByP (p : Str → Prop) (m : Int) : Sp := fun vs H Q _ => ∃ (s : Addr) (t : Int), vs = [.ref s] ∧ StrmAt H s t ∧ 0 ≤ t ∧ t ≤ 2000 ∧
  ∀ (z : Str) (H' : Hp) (t' : Int), p z → But s H H' → StrmAt H' s t' → 0 ≤ t' → t' ≤ t + m → Q (.str z) H'
theorem letters_len : letters.cps.toList.length = 26 := by decide +kernel
theorem letters_sign : ∀ c ∈ letters.cps.toList, signOk c = true := fun c hc => List.all_eq_true.mp (by decide +kernel : letters.cps.toList.all signOk = true) c hc
theorem sign_sgn {c : Nat} (h : signOk c = true) : 32 ≤ c ∧ c ≤ 126 ∧ c ≠ 37 := by
  unfold signOk at h
  simp at h
  omega
theorem name_thg {H : Hp} {z : Str} (h : nameT z = true) : Thg H (.str z) := by
  unfold nameT at h
  simp only [Bool.and_eq_true, decide_eq_true_iff, List.all_eq_true] at h
  exact .str z (by omega) fun c hc => .inl (sign_sgn (letters_sign c (h.2 c hc)))
theorem text_thg {H : Hp} {z : Str} (h : textT z = true) : Thg H (.str z) := by
  unfold textT at h
  simp only [Bool.and_eq_true, decide_eq_true_iff, List.all_eq_true] at h
  exact .str z (by omega) fun c hc => .inl (sign_sgn (h.2 c hc))
theorem name_join {ys : List Str} (h : ∀ y ∈ ys, ∃ c, y = ⟨#[c]⟩ ∧ c ∈ letters.cps.toList) (h1 : 1 ≤ ys.length) (h8 : ys.length ≤ 8) : nameT (Txt.join "" ys) = true := by
  obtain ⟨e, a⟩ := joins_of h
  unfold nameT
  rw [e]
  simp only [Bool.and_eq_true, decide_eq_true_iff, List.all_eq_true]
  exact ⟨⟨h1, h8⟩, a⟩
section
variable {P : Program} {w : World} {K : PySem.W.Frag} {mg : Str → Option Value} {base : Heap} {cB fI : Addr} {c : Nat → Addr}
abbrev NNameBy : List Str := ["_law_stream_here", "_law_letters", "_law_turn"]
theorem scNameBy : FnScope NNameBy ["_law_stream_here"] (defScope sNameBy) := ⟨rfl, rfl, rfl, by decide +kernel, rfl, by decide +kernel, by decide +kernel⟩
theorem ok_nameBy {f fT fM : Addr} {fd fdT fdM : FuncData} (F : Fun K "_law_name_by" "_law_name_by" sNameBy f fd) (mr : mg "range" = none) (FT : Fun K "_law_take" "_law_take" sTake fT fdT) (bT : Binds K fdT ["_law_stream_here", "_law_many"] []) (gT : mg "_law_take" = some (.ref fT))
    (FM : Fun K "_law_mixed" "_law_mixed" sMixed fM fdM) (bM : Binds K fdM ["_law_number", "_law_k"] []) (gM : mg "_law_mixed" = some (.ref fM)) : FnOk P w K mg base CX0 3 f fd ["_law_stream_here"] (spByP (fun z => nameT z = true) 9) := by
  have GT : FnOk P w K mg base CX0 2 fT fdT ["_law_stream_here", "_law_many"] spTake := ok_take FT FM bM gM
  refine F.ok scNameBy (fun vs H Q E h => ?_) (fun cdv A outer s H vs Q E hr h => ?_)
  · obtain ⟨a, t, rfl, _⟩ := h
    rfl
  · obtain ⟨a, t, rfl, st, t0, t1, q⟩ := h
    refine ⟨_, pss_cons (ps_set (i := 1) scNameBy.nd rfl (.inr rfl) pe_str)
      (pss_one (ps_ret (pe_join pe_str (pe_lc (own := [("_law_turn", 2)]) (g := gName 2) rfl scNameBy.nd
            (pi_range1 (by rfl) mr (pa_cons (pe_op op_add pe_int (pe_call GT hr (by rfl) gT FT.kp bT .nil pass0 (pa_cons (pv 0) (pa_cons pe_int pa_nil)))) pa_nil)) (blkOk_by (N := NNameBy) (sc := defScope sNameBy) (by decide +kernel))
            (fun _ _ _ _ _ => pg_name (i := 2) scNameBy.nd rfl (Or.inl rfl)) (fun _ _ _ _ _ => pts_nil) (fun _ _ _ _ _ => pe_ix ix_str (pv 1) (pe_call GT hr (by rfl) gT FT.kp bT .nil pass0 (pa_cons (pv 0) (pa_cons pe_int pa_nil))) (fun _ _ => rfl)))))), ?_⟩
    refine ⟨⟨_, rfl⟩, _, rfl, a, t, 8, rfl, st, t0, by omega, by decide, by decide, fun v2 H4 w0 w4 u4 st4 => ?_⟩
    refine ⟨1, v2, rfl, rfl, _, rfl, by omega, by omega, fun D hD => ?_⟩
    obtain ⟨b4, c4, m4, e4⟩ := id st4
    have aD : a ≠ D := ne_of_none e4 hD
    refine lc_it walk_range (fun j H' => (∀ b o, b ≠ a → b ≠ D → H4 b = some o → H' b = some o) ∧ StrmAt H' a (t + 1 + j) ∧ ∃ ys : List Str, ys.length = j ∧ (∀ y ∈ ys, ∃ c, y = ⟨#[c]⟩ ∧ c ∈ letters.cps.toList) ∧ H' D = some (.lst (ys.map V.str))) ⟨fun b o n1 n2 e => ?_, ⟨b4, c4, m4, ?_⟩, [], rfl, (fun _ h => by cases h), upd_same⟩ (fun _ _ _ _ => trivial) ?_ ?_
    · rw [upd_ne n2]
      exact e
    · rw [upd_ne aD, e4]
      simp
    · rintro j x H5 H6 hj ⟨k5, st5, ys, ly, oy, hd⟩ ⟨rfl, rfl⟩
      refine ⟨rfl, _, rfl, _, rfl, a, _, 26, rfl, st5, by omega, by omega, by decide, by decide, fun v3 H6 x0 x9 u6 st6 => ?_⟩
      obtain ⟨c6, hc6, mc6⟩ := at_some (l := letters.cps.toList) x0 (by rw [letters_len]; exact x9)
      refine ⟨_, v3, c6, rfl, rfl, by decide +kernel, hc6, _, u6 _ _ (Ne.symm aD) hd, ?_, fun b o n1 n2 e => ?_, ?_, ys ++ [⟨#[c6]⟩], ?_, ?_, ?_⟩
      · rw [List.length_map, sizeLine_eq]
        omega
      · rw [upd_ne n2]
        exact u6 b o n1 (k5 b o n1 n2 e)
      · obtain ⟨b6, c7, m6, e6⟩ := st6
        refine ⟨b6, c7, m6, ?_⟩
        rw [upd_ne aD, e6]
        simp
        omega
      · rw [List.length_append, ly]
        rfl
      · intro y hy
        rcases List.mem_append.mp hy with h | h
        · exact oy y h
        · rw [List.mem_singleton.mp h]
          exact ⟨c6, rfl, mc6⟩
      · rw [upd_same, List.map_append]
        rfl
    · rintro H5 ⟨k5, st5, ys, ly, oy, hd⟩
      have sm : (ys.map (·.length)).sum = ys.length := (join0_len ys).symm.trans (joins_of oy).1
      have l4 : ys.length ≤ 8 := by omega
      refine ⟨_, D, ys, rfl, rfl, .inl (SqL.of hd), by rw [sm, show ("" : Str).length = 0 by decide +kernel]; omega, ?_⟩
      refine q _ H5 _ (name_join oy (by omega) l4) (fun b o n e => ?_) st5 (by omega) (by omega)
      have e4' := u4 b o n e
      exact k5 b o n (ne_of_none e4' hD) e4'
end
end Pk
namespace Pk
open PySem L2
/-! ### how three of them are told -/
def spTellS (K : PySem.W.Frag) (fld hd : Str) : Sp := fun vs H Q _ => ∃ (a C dd : Addr) (v : V) (d : PyData), vs = [.ref a] ∧ H a = some (ExH (.ref C) (some dd) a) ∧ ExcC K C ∧ PySem.W.findIn K (.ref C) fld = some none ∧ H dd = some (.xd [(fld, v)]) ∧ Told K H v d ∧ Q (.str (hd ++ dStr d)) H
def spTellR (K : PySem.W.Frag) (fld hd : Str) : Sp := fun vs H Q _ => ∃ (a C dd : Addr) (v : V) (d : PyData), vs = [.ref a] ∧ H a = some (ExH (.ref C) (some dd) a) ∧ ExcC K C ∧ PySem.W.findIn K (.ref C) fld = some none ∧ H dd = some (.xd [(fld, v)]) ∧ Told K H v d ∧ Q (.str (hd ++ d.shown)) H
section
variable {P : Program} {w : World} {K : PySem.W.Frag} {mg : Str → Option Value} {base : Heap}
theorem app_fits {x y : Str} (hx : x.length ≤ 100) (hy : y.length ≤ 100000) : ((Str.empty ++ x) ++ y).length ≤ sizeLine := by
  rw [app_len, app_len, show Str.empty.length = 0 by decide +kernel, sizeLine_eq]
  omega
theorem empty_app (x : Str) : Str.empty ++ x = x := TL.ext_tl (by rw [TL.tl_append]; rfl)
theorem scBadStr : FnScope ["self"] ["self"] (defScope sBadStr) := ⟨rfl, rfl, rfl, by decide +kernel, rfl, by decide +kernel, by decide +kernel⟩
theorem ok_badStr {f : Addr} {fd : FuncData} (F : Fun K "__str__" "BadQuestion.__str__" sBadStr f fd) : FnG P w K mg base CX0 1 f fd ["self"] (spTellS K "part" "bad ") := by
  refine okG F scBadStr (fun vs H Q E h => ?_) (fun cdv A calm outer s H vs Q E hr h => ?_)
  · obtain ⟨a, C, dd, v, d, rfl, _⟩ := h
    rfl
  · obtain ⟨a, C, dd, v, d, rfl, ha, ec, no, hd, T, q⟩ := h
    refine ⟨_, pss_one (ps_ret (pe_joined (.cons pe_str (.cons (pe_fmtSD (show Calm _ from calm) (room_show hr) (pe_get_part (pv 0))) .nil)))), ?_⟩
    refine ⟨_, rfl, by decide +kernel, _, rfl, a, C, dd, v, rfl, ha, ec, no, hd, d, T, _, rfl, app_fits (by decide +kernel) T.st, ?_⟩
    rw [empty_app]
    exact q
theorem scSuchStr : FnScope ["self"] ["self"] (defScope sSuchStr) := ⟨rfl, rfl, rfl, by decide +kernel, rfl, by decide +kernel, by decide +kernel⟩
theorem ok_suchStr {f : Addr} {fd : FuncData} (F : Fun K "__str__" "NoSuch.__str__" sSuchStr f fd) : FnG P w K mg base CX0 1 f fd ["self"] (spTellR K "name" "nothing called ") := by
  refine okG F scSuchStr (fun vs H Q E h => ?_) (fun cdv A calm outer s H vs Q E hr h => ?_)
  · obtain ⟨a, C, dd, v, d, rfl, _⟩ := h
    rfl
  · obtain ⟨a, C, dd, v, d, rfl, ha, ec, no, hd, T, q⟩ := h
    refine ⟨_, pss_one (ps_ret (pe_joined (.cons pe_str (.cons (pe_fmtRD (show Calm _ from calm) (room_show hr) (pe_get_name (pv 0))) .nil)))), ?_⟩
    refine ⟨_, rfl, by decide +kernel, _, rfl, a, C, dd, v, rfl, ha, ec, no, hd, d, T, _, rfl, app_fits (by decide +kernel) T.sz, ?_⟩
    rw [empty_app]
    exact q
theorem scManyStr : FnScope ["self"] ["self"] (defScope sManyStr) := ⟨rfl, rfl, rfl, by decide +kernel, rfl, by decide +kernel, by decide +kernel⟩
theorem ok_manyStr {f : Addr} {fd : FuncData} (F : Fun K "__str__" "TooMany.__str__" sManyStr f fd) : FnG P w K mg base CX0 1 f fd ["self"] (spTellS K "most" "more than ") := by
  refine okG F scManyStr (fun vs H Q E h => ?_) (fun cdv A calm outer s H vs Q E hr h => ?_)
  · obtain ⟨a, C, dd, v, d, rfl, _⟩ := h
    rfl
  · obtain ⟨a, C, dd, v, d, rfl, ha, ec, no, hd, T, q⟩ := h
    refine ⟨_, pss_one (ps_ret (pe_joined (.cons pe_str (.cons (pe_fmtSD (show Calm _ from calm) (room_show hr) (pe_get_most (pv 0))) .nil)))), ?_⟩
    refine ⟨_, rfl, by decide +kernel, _, rfl, a, C, dd, v, rfl, ha, ec, no, hd, d, T, _, rfl, app_fits (by decide +kernel) T.st, ?_⟩
    rw [empty_app]
    exact q
/-! ### of which of Python's own kinds an error is -/
def kindWords : List Str := ["value", "key", "index", "lookup", "overflow", "arithmetic", "nought", "kind", "run", "bank"]
def kindsOf (ks : Nat → Bool) : List Str := ((kindWords.zip [ks 0, ks 1, ks 2, ks 3, ks 4, ks 5, ks 6, ks 7, ks 8, ks 9]).filter (·.2)).map (·.1)
structure Kd (K : PySem.W.Frag) (cB D : Addr) (ks : Nat → Bool) : Prop where
  k0 : PySem.W.kitOne K (.ref D) (.type "ValueError") = some (ks 0)
  k1 : PySem.W.kitOne K (.ref D) (.type "KeyError") = some (ks 1)
  k2 : PySem.W.kitOne K (.ref D) (.type "IndexError") = some (ks 2)
  k3 : PySem.W.kitOne K (.ref D) (.type "LookupError") = some (ks 3)
  k4 : PySem.W.kitOne K (.ref D) (.type "OverflowError") = some (ks 4)
  k5 : PySem.W.kitOne K (.ref D) (.type "ArithmeticError") = some (ks 5)
  k6 : PySem.W.kitOne K (.ref D) (.type "ZeroDivisionError") = some (ks 6)
  k7 : PySem.W.kitOne K (.ref D) (.type "TypeError") = some (ks 7)
  k8 : PySem.W.kitOne K (.ref D) (.type "RuntimeError") = some (ks 8)
  k9 : PySem.W.kitOne K (.ref D) (.ref cB) = some (ks 9)
/-- the built-in names that are asked -/
structure Nk (mg : Str → Option Value) (cB : Addr) : Prop where
  m0 : mg "ValueError" = none
  m1 : mg "KeyError" = none
  m2 : mg "IndexError" = none
  m3 : mg "LookupError" = none
  m4 : mg "OverflowError" = none
  m5 : mg "ArithmeticError" = none
  m6 : mg "ZeroDivisionError" = none
  m7 : mg "TypeError" = none
  m8 : mg "RuntimeError" = none
  gB : mg "BankError" = some (.ref cB)
def spKinds (K : PySem.W.Frag) (cB : Addr) : Sp := fun vs H Q _ => ∃ (a D : Addr) (d : Option Addr) (ks : Nat → Bool), vs = [.ref a] ∧ H a = some (ExH (.ref D) d a) ∧ DictOk H d ∧ ExcC K D ∧ Kd K cB D ks ∧ ∀ (l : Addr) (H' : Hp), Same H H' → H' l = some (.lst ((kindsOf ks).map V.str)) → Q (.ref l) H'
abbrev NKinds : List Str := ["_law_error", "_law_found", "_law_words", "_law_word_here", "_law_good"]
theorem scKinds : FnScope NKinds ["_law_error"] (defScope sKinds) := ⟨rfl, rfl, rfl, by decide +kernel, rfl, by decide +kernel, by decide +kernel⟩
theorem isiT {X : Cx} {x : Str} {T : String} {p p1 p2 pos : Pos} (mi : X.mg "isinstance" = none) (g : X.mg x = none) (b : bootBuiltins x = some (.type T)) (hi : Gl X "isinstance" := by rfl) (hg : Gl X x := by rfl) (hN : X.N[0]? = some ("_law_error" : Str) := by rfl) (hv : Vis X.env.scope "_law_error" := by exact Or.inl rfl) (hn : x ≠ "__name__" := by decide) (hd : (x == ("__debug__" : Str)) = false := by decide) :
    PE X (.Call (.Name "isinstance" p) [.Name "_law_error" p1, .Name x p2] [] pos) (tCB (rIsK X.K) (tCons (tVar 0) (tCons (tC (.ty T)) tNil))) :=
  pe_callB call_isK hi mi (by decide +kernel) (pa_cons (pe_var hN hv) (pa_cons (pe_bltn (v := .ty T) hg g b rfl hn hd) pa_nil))
theorem ok_kinds {f cB : Addr} {fd : FuncData} (F : Fun K "_law_kinds" "_law_kinds" sKinds f fd) (N : Nk mg cB) (mi : mg "isinstance" = none) (mz : mg "zip" = none) : FnOk P w K mg base CX0 1 f fd ["_law_error"] (spKinds K cB) := by
  refine F.ok scKinds (fun vs H Q E h => ?_) (fun cdv A outer s H vs Q E hr h => ?_)
  · obtain ⟨a, D, d, ks, rfl, _⟩ := h
    rfl
  · obtain ⟨a, D, d, ks, rfl, ha, hdk, XC, kt, q⟩ := h
    refine ⟨_, pss_cons (ps_set (i := 1) scKinds.nd rfl (.inl rfl) (pe_lst (pa_cons (isiT (T := "ValueError") mi N.m0 (by decide +kernel)) (pa_cons (isiT (T := "KeyError") mi N.m1 (by decide +kernel)) (pa_cons (isiT (T := "IndexError") mi N.m2 (by decide +kernel)) pa_nil)))))
      (pss_cons (ps_set (i := 1) scKinds.nd rfl (.inl rfl) (pe_op op_cat (pv 1) (pe_lst (pa_cons (isiT (T := "LookupError") mi N.m3 (by decide +kernel)) (pa_cons (isiT (T := "OverflowError") mi N.m4 (by decide +kernel)) pa_nil)))))
      (pss_cons (ps_set (i := 1) scKinds.nd rfl (.inl rfl) (pe_op op_cat (pv 1) (pe_lst (pa_cons (isiT (T := "ArithmeticError") mi N.m5 (by decide +kernel)) (pa_cons (isiT (T := "ZeroDivisionError") mi N.m6 (by decide +kernel)) pa_nil)))))
      (pss_cons (ps_set (i := 1) scKinds.nd rfl (.inl rfl) (pe_op op_cat (pv 1) (pe_lst (pa_cons (isiT (T := "TypeError") mi N.m7 (by decide +kernel)) (pa_cons (isiT (T := "RuntimeError") mi N.m8 (by decide +kernel)) (pa_cons (isi mi N.gB) pa_nil))))))
      (pss_cons (ps_set (i := 2) scKinds.nd rfl (.inl rfl) (pe_lst (pa_cons pe_str (pa_cons pe_str (pa_cons pe_str (pa_cons pe_str (pa_cons pe_str (pa_cons pe_str (pa_cons pe_str (pa_cons pe_str (pa_cons pe_str (pa_cons pe_str pa_nil))))))))))))
      (pss_one (ps_ret (pe_lc (own := [("_law_word_here", 3), ("_law_good", 4)]) (g := gTup K 2 (gCons (gName 3) (gCons (gName 4) gNil))) rfl scKinds.nd (pi_zip (by rfl) mz (pa_cons (pv 2) (pa_cons (pv 1) pa_nil))) (blkOk_by (N := NKinds) (sc := defScope sKinds) (by decide +kernel))
          (fun _ _ _ _ _ => by exact pg_tup rfl (pgs_cons (pg_name (i := 3) scKinds.nd rfl (.inl rfl)) (pgs_cons (pg_name (i := 4) scKinds.nd rfl (.inl rfl)) pgs_nil))) (fun _ _ _ _ _ => pts_one (pt_val (pv 4))) (fun _ _ _ _ _ => pv 3)))))))), ?_⟩
    refine ⟨_, rfl, a, D, d, _, _, _, rfl, ha, hdk, XC, .ty "ValueError", kt.k0, _, rfl, a, D, d, _, _, _, rfl, ha, hdk, XC, .ty "KeyError", kt.k1, _, rfl, a, D, d, _, _, _, rfl, ha, hdk, XC, .ty "IndexError", kt.k2, by show 3 ≤ sizeLine; decide, fun p0 hp0 => ?_⟩
    have s0 := same_upd (o := .lst [.bl (ks 0), .bl (ks 1), .bl (ks 2)]) hp0
    have l0 : upd H p0 (.lst [.bl (ks 0), .bl (ks 1), .bl (ks 2)]) p0 = some (.lst [.bl (ks 0), .bl (ks 1), .bl (ks 2)]) := upd_same
    generalize upd H p0 (.lst [.bl (ks 0), .bl (ks 1), .bl (ks 2)]) = H0 at s0 l0
    have a0 := s0 _ _ ha
    refine ⟨_, rfl, _, rfl, a, D, d, _, _, _, rfl, a0, (hdk.same s0), XC, .ty "LookupError", kt.k3, _, rfl, a, D, d, _, _, _, rfl, a0, (hdk.same s0), XC, .ty "OverflowError", kt.k4, by show 2 ≤ sizeLine; decide, fun t1 ht1 => ?_⟩
    have v1 := same_upd (o := .lst [.bl (ks 3), .bl (ks 4)]) ht1
    refine ⟨p0, t1, _, _, rfl, rfl, v1 _ _ l0, upd_same, by show 5 ≤ sizeLine; decide, fun p1 hp1 => ?_⟩
    have s1 := (s0.trans v1).trans (same_upd (o := .lst [.bl (ks 0), .bl (ks 1), .bl (ks 2), .bl (ks 3), .bl (ks 4)]) hp1)
    have l1 : upd (upd H0 t1 (.lst [.bl (ks 3), .bl (ks 4)])) p1 (.lst [.bl (ks 0), .bl (ks 1), .bl (ks 2), .bl (ks 3), .bl (ks 4)]) p1 = some (.lst [.bl (ks 0), .bl (ks 1), .bl (ks 2), .bl (ks 3), .bl (ks 4)]) := upd_same
    show tSeq _ _ _ _ (upd (upd H0 t1 (.lst [.bl (ks 3), .bl (ks 4)])) p1 (.lst [.bl (ks 0), .bl (ks 1), .bl (ks 2), .bl (ks 3), .bl (ks 4)]))
    generalize upd (upd H0 t1 (.lst [.bl (ks 3), .bl (ks 4)])) p1 (.lst [.bl (ks 0), .bl (ks 1), .bl (ks 2), .bl (ks 3), .bl (ks 4)]) = H1 at s1 l1
    have a1 := s1 _ _ ha
    refine ⟨_, rfl, _, rfl, a, D, d, _, _, _, rfl, a1, (hdk.same s1), XC, .ty "ArithmeticError", kt.k5, _, rfl, a, D, d, _, _, _, rfl, a1, (hdk.same s1), XC, .ty "ZeroDivisionError", kt.k6, by show 2 ≤ sizeLine; decide, fun t2 ht2 => ?_⟩
    have v2 := same_upd (o := .lst [.bl (ks 5), .bl (ks 6)]) ht2
    refine ⟨p1, t2, _, _, rfl, rfl, v2 _ _ l1, upd_same, by show 7 ≤ sizeLine; decide, fun p2 hp2 => ?_⟩
    have s2 := (s1.trans v2).trans (same_upd (o := .lst [.bl (ks 0), .bl (ks 1), .bl (ks 2), .bl (ks 3), .bl (ks 4), .bl (ks 5), .bl (ks 6)]) hp2)
    have l2 : upd (upd H1 t2 (.lst [.bl (ks 5), .bl (ks 6)])) p2 (.lst [.bl (ks 0), .bl (ks 1), .bl (ks 2), .bl (ks 3), .bl (ks 4), .bl (ks 5), .bl (ks 6)]) p2 = some (.lst [.bl (ks 0), .bl (ks 1), .bl (ks 2), .bl (ks 3), .bl (ks 4), .bl (ks 5), .bl (ks 6)]) := upd_same
    show tSeq _ _ _ _ (upd (upd H1 t2 (.lst [.bl (ks 5), .bl (ks 6)])) p2 (.lst [.bl (ks 0), .bl (ks 1), .bl (ks 2), .bl (ks 3), .bl (ks 4), .bl (ks 5), .bl (ks 6)]))
    generalize upd (upd H1 t2 (.lst [.bl (ks 5), .bl (ks 6)])) p2 (.lst [.bl (ks 0), .bl (ks 1), .bl (ks 2), .bl (ks 3), .bl (ks 4), .bl (ks 5), .bl (ks 6)]) = H2 at s2 l2
    have a2 := s2 _ _ ha
    refine ⟨_, rfl, _, rfl, a, D, d, _, _, _, rfl, a2, (hdk.same s2), XC, .ty "TypeError", kt.k7, _, rfl, a, D, d, _, _, _, rfl, a2, (hdk.same s2), XC, .ty "RuntimeError", kt.k8, _, rfl, a, D, d, _, _, _, rfl, a2, (hdk.same s2), XC, .own _, kt.k9, by show 3 ≤ sizeLine; decide, fun t3 ht3 => ?_⟩
    have v3 := same_upd (o := .lst [.bl (ks 7), .bl (ks 8), .bl (ks 9)]) ht3
    refine ⟨p2, t3, _, _, rfl, rfl, v3 _ _ l2, upd_same, by show 10 ≤ sizeLine; decide, fun p3 hp3 => ?_⟩
    have s3 := (s2.trans v3).trans (same_upd (o := .lst [.bl (ks 0), .bl (ks 1), .bl (ks 2), .bl (ks 3), .bl (ks 4), .bl (ks 5), .bl (ks 6), .bl (ks 7), .bl (ks 8), .bl (ks 9)]) hp3)
    have l3 : upd (upd H2 t3 (.lst [.bl (ks 7), .bl (ks 8), .bl (ks 9)])) p3 (.lst [.bl (ks 0), .bl (ks 1), .bl (ks 2), .bl (ks 3), .bl (ks 4), .bl (ks 5), .bl (ks 6), .bl (ks 7), .bl (ks 8), .bl (ks 9)]) p3 = some (.lst [.bl (ks 0), .bl (ks 1), .bl (ks 2), .bl (ks 3), .bl (ks 4), .bl (ks 5), .bl (ks 6), .bl (ks 7), .bl (ks 8), .bl (ks 9)]) := upd_same
    show tSeq _ _ _ _ (upd (upd H2 t3 (.lst [.bl (ks 7), .bl (ks 8), .bl (ks 9)])) p3 (.lst [.bl (ks 0), .bl (ks 1), .bl (ks 2), .bl (ks 3), .bl (ks 4), .bl (ks 5), .bl (ks 6), .bl (ks 7), .bl (ks 8), .bl (ks 9)]))
    generalize upd (upd H2 t3 (.lst [.bl (ks 7), .bl (ks 8), .bl (ks 9)])) p3 (.lst [.bl (ks 0), .bl (ks 1), .bl (ks 2), .bl (ks 3), .bl (ks 4), .bl (ks 5), .bl (ks 6), .bl (ks 7), .bl (ks 8), .bl (ks 9)]) = H3 at s3 l3
    refine ⟨by show 10 ≤ sizeLine; decide, fun w1 hw1 => ?_⟩
    have z1 := same_upd (o := .lst (kindWords.map V.str)) hw1
    have l7 := z1 _ _ l3
    have s7 := s3.trans z1
    refine ⟨_, rfl, _, rfl, w1, p3, kindWords.map V.str, [.bl (ks 0), .bl (ks 1), .bl (ks 2), .bl (ks 3), .bl (ks 4), .bl (ks 5), .bl (ks 6), .bl (ks 7), .bl (ks 8), .bl (ks 9)], rfl, SqL.of upd_same, SqL.of l7, fun E0 hE0 => ?_⟩
    have y1 : upd H3 w1 (.lst (kindWords.map V.str)) w1 = some (.lst (kindWords.map V.str)) := upd_same
    have hE1 : upd H3 w1 (.lst (kindWords.map V.str)) E0 = none := hE0
    have nE : ∀ {b : Addr} {o : HO}, upd H3 w1 (.lst (kindWords.map V.str)) b = some o → b ≠ E0 := fun {b o} e => ne_of_none e hE0
    have wE := nE y1
    have pE := nE l7
    have lb : ([ks 0, ks 1, ks 2, ks 3, ks 4, ks 5, ks 6, ks 7, ks 8, ks 9] : List Bool).map V.bl = [.bl (ks 0), .bl (ks 1), .bl (ks 2), .bl (ks 3), .bl (ks 4), .bl (ks 5), .bl (ks 6), .bl (ks 7), .bl (ks 8), .bl (ks 9)] := rfl
    have kw : kindsOf ks = ((kindWords.zip [ks 0, ks 1, ks 2, ks 3, ks 4, ks 5, ks 6, ks 7, ks 8, ks 9]).filter (·.2)).map (·.1) := rfl
    rw [← lb] at l7
    have ll : ([ks 0, ks 1, ks 2, ks 3, ks 4, ks 5, ks 6, ks 7, ks 8, ks 9] : List Bool).length = 10 := rfl
    generalize ([ks 0, ks 1, ks 2, ks 3, ks 4, ks 5, ks 6, ks 7, ks 8, ks 9] : List Bool) = bs at kw l7 ll
    refine lc_it (walk_zip (K := K) (a := w1) (b := p3) (xs := kindWords.map V.str) (ys := bs.map V.bl) (n := 10) (by rw [List.length_map, List.length_map, ll]; rfl)) (fun i H' => (Same H H' ∧ H' w1 = some (.lst (kindWords.map V.str)) ∧ H' p3 = some (.lst (bs.map V.bl))) ∧ H' E0 = some (.lst ((((kindWords.zip bs).take i).filter (·.2)).map fun x => V.str x.1))) ⟨⟨?_, ?_, ?_⟩, ?_⟩ ?_ ?_ ?_
    · exact fun b o e => by
        rw [upd_ne (nE (s7 b o e))]
        exact s7 b o e
    · rw [upd_ne wE]
      exact upd_same
    · rw [upd_ne pE]
      exact l7
    · exact upd_same
    · exact fun i H' _ h => ⟨SqL.of h.1.2.1, SqL.of h.1.2.2⟩
    · rintro i x H' H'' hi ⟨⟨k1, k2, k3⟩, hd⟩ ⟨T, x1, x2, rfl, nT, rfl, f1, f2⟩
      have sT := same_upd (o := .tup [x1, x2]) nT
      dsimp only at f1 f2
      have h1 : i < kindWords.length := hi
      have h2 : i < bs.length := by rw [ll]; exact hi
      have e1 : x1 = V.str kindWords[i] := by
        rw [List.getElem?_map, List.getElem?_eq_getElem h1] at f1
        exact (Option.some.inj f1).symm
      have e2 : x2 = V.bl bs[i] := by
        rw [List.getElem?_map, List.getElem?_eq_getElem h2] at f2
        exact (Option.some.inj f2).symm
      subst e1 e2
      have tk : (kindWords.zip bs).take (i + 1) = (kindWords.zip bs).take i ++ [(kindWords[i], bs[i])] := by
        rw [List.take_add_one, List.getElem?_eq_getElem (by rw [List.length_zip]; omega), List.getElem_zip]
        rfl
      refine ⟨T, _, rfl, SqT.of upd_same, rfl, _, _, rfl, _, _, rfl, rfl, rfl, _, rfl, _, rfl, ?_⟩
      have hdT := sT _ _ hd
      have k1T := k1.trans sT
      have k2T := sT _ _ k2
      have k3T := sT _ _ k3
      generalize upd H' T (.tup [V.str kindWords[i], V.bl bs[i]]) = H2' at hdT k1T k2T k3T ⊢
      cases hg : bs[i] with
      | false =>
        refine iteF ⟨⟨k1T, k2T, k3T⟩, ?_⟩
        rw [tk, hg, List.filter_append]
        show H2' E0 = some (.lst (List.map _ (List.filter _ _ ++ [])))
        rw [List.append_nil]
        exact hdT
      | true =>
        have off : ∀ {b : Addr} {o o' : HO}, b ≠ E0 → H2' b = some o → upd H2' E0 o' b = some o := fun {b o o'} n e => by
          rw [upd_ne n]
          exact e
        refine iteT ⟨_, rfl, _, hdT, ?_, ⟨fun b o e => off (nE (s7 b o e)) (k1T b o e), off wE k2T, off pE k3T⟩, ?_⟩
        · rw [List.length_map]
          refine Nat.lt_of_le_of_lt (List.length_filter_le _ _) ?_
          rw [List.length_take, sizeLine_eq]
          omega
        · rw [upd_same, tk, hg, List.filter_append, List.map_append]
          rfl
    · rintro H' ⟨⟨k1, k2, k3⟩, hd⟩
      refine q E0 H' k1 ?_
      rw [hd, kw, List.map_map, List.take_of_length_le (by rw [List.length_zip, ll]; exact Nat.le_refl _)]
      rfl
end
end Pk
namespace Pk
open PySem L2
/-! ### the things of which refusals are made -/
inductive Th3 (H : Hp) : V → PyData → Prop
  | str (z : Str) (hl : z.length ≤ 8) (ho : Sgn z) : Th3 H (.str z) (.str z)
  | int (i : Int) (h0 : -1 ≤ i) (h9 : i < 100) : Th3 H (.int i) (.int i)
  | non : Th3 H .non .none
  | bl (b : Bool) : Th3 H (.bl b) (.bool b)
  | tup {a : Addr} {z : Str} (h : H a = some (.tup [.str z, .int 3])) (hl : z.length ≤ 8) (ho : Sgn z) : Th3 H (.ref a) (.tuple [.str z, .int 3])
  | lst {a : Addr} {z : Str} (h : H a = some (.lst [.str z])) (hl : z.length ≤ 8) (ho : Sgn z) : Th3 H (.ref a) (.list [.str z])
section
variable {K : PySem.W.Frag} {H H' : Hp} {x : V} {d : PyData} {s : Addr} {t t' : Int}
/-- where it lies, and what stands there, is as it was -/
theorem Th3.moves (h : Th3 H x d) (m : ∀ a o, x = .ref a → ((∃ L, o = HO.tup L) ∨ ∃ z, o = HO.lst [V.str z]) → H a = some o → H' a = some o) : Th3 H' x d := by
  cases h with
  | str z hl ho => exact .str z hl ho
  | int i h0 h9 => exact .int i h0 h9
  | non => exact .non
  | bl b => exact .bl b
  | tup h hl ho => exact .tup (m _ _ rfl (.inl ⟨_, rfl⟩) h) hl ho
  | lst h hl ho => exact .lst (m _ _ rfl (.inr ⟨_, rfl⟩) h) hl ho
theorem Th3.same (h : Th3 H x d) (s : Same H H') : Th3 H' x d := h.moves fun a o _ _ e => s a o e
theorem Th3.but (h : Th3 H x d) (u : But s H H') (st : StrmAt H s t) : Th3 H' x d := h.moves fun a o _ k e => u a o (fun z => by
  obtain ⟨b, c, m, hs⟩ := st
  rw [← z, e] at hs
  rcases k with ⟨L, rfl⟩ | ⟨y, rfl⟩
  · cases hs
  · cases hs) e
theorem int3_text {i : Int} (h0 : -1 ≤ i) (h9 : i < 100) : (Str.ofString (toString i)).length ≤ 100 := by
  have h : (List.range 101).all (fun n => decide ((Str.ofString (toString ((n : Int) - 1))).length ≤ 100)) = true := by decide +kernel
  have h2 := List.all_eq_true.mp h (i + 1).toNat (List.mem_range.mpr (by omega))
  have e : (((i + 1).toNat : Nat) : Int) - 1 = i := by omega
  rw [e] at h2
  exact of_decide_eq_true h2
theorem int3_log {i : Int} (h0 : -1 ≤ i) (h9 : i < 100) : i.natAbs.log2 < 1920 := by
  have h : (List.range 101).all (fun n => decide (((n : Int) - 1).natAbs.log2 < 1920)) = true := by decide +kernel
  have h2 := List.all_eq_true.mp h (i + 1).toNat (List.mem_range.mpr (by omega))
  have e : (((i + 1).toNat : Nat) : Int) - 1 = i := by omega
  rw [e] at h2
  exact of_decide_eq_true h2
theorem Th3.told (h : Th3 H x d) : Told K H x d ∧ d.shown.length ≤ 2000 ∧ d.depth ≤ 1 := by
  cases h with
  | non => exact ⟨⟨.non, rfl, rfl, by decide, by decide +kernel, by decide +kernel⟩, by decide +kernel, by decide⟩
  | bl b =>
    refine ⟨⟨.bl b, by simp [PyData.hasDict], by simp [PyData.showable], by simp [PyData.depth], ?_, ?_⟩, ?_, by simp [PyData.depth]⟩
    · cases b <;> decide +kernel
    · cases b <;> decide +kernel
    · cases b <;> decide +kernel
  | int i h0 h9 =>
    have e : (PyData.int i).shown = Str.ofString (toString i) := by simp [PyData.shown]
    have l := int3_text h0 h9
    refine ⟨⟨.int i, by simp [PyData.hasDict], decide_eq_true (int3_log h0 h9), by simp [PyData.depth], by rw [e]; omega, ?_⟩, by rw [e]; omega, by simp [PyData.depth]⟩
    show (PyData.int i).shown.length ≤ 100000
    rw [e]
    omega
  | str z hl ho =>
    have e : (PyData.str z).shown = reprText z := by simp [PyData.shown]
    have l := repr_le (by omega) ho
    refine ⟨⟨.str z, by simp [PyData.hasDict], by simp [PyData.showable], by simp [PyData.depth], by rw [e]; omega, ?_⟩, by rw [e]; omega, by simp [PyData.depth]⟩
    show z.length ≤ 100000
    omega
  | @tup a z h hl ho =>
    have g := ShowsL.str (K := K) (H := H) (by omega : z.length ≤ 100) ho (ShowsL.int (i := 3) (by decide) (by decide) (ShowsL.nil (k := 0)))
    have e : (PyData.tuple [.str z, .int 3]).shown = tupleText (PyData.shownAll [.str z, .int 3]) := by simp [PyData.shown]
    have h3 := tup_le (PyData.shownAll [.str z, .int 3])
    have h4 := g.sz
    have l : (PyData.tuple [.str z, .int 3]).shown.length ≤ 2000 := by
      rw [e]
      omega
    have dd : (PyData.tuple [.str z, .int 3]).depth ≤ 1 := by simp [PyData.depth, PyData.depthAll]
    refine ⟨⟨.tup (SqT.of h) g.dp, by simp [PyData.hasDict, PyData.hasDictAll], by simp [PyData.showable, g.sh], by omega, by omega, ?_⟩, l, dd⟩
    show (PyData.tuple [.str z, .int 3]).shown.length ≤ 100000
    omega
  | @lst a z h hl ho =>
    have g := ShowsL.str (K := K) (H := H) (by omega : z.length ≤ 100) ho (ShowsL.nil (k := 0))
    have e : (PyData.list [.str z]).shown = listText (PyData.shownAll [.str z]) := by simp [PyData.shown]
    have h3 := list_le (PyData.shownAll [.str z])
    have h4 := g.sz
    have l : (PyData.list [.str z]).shown.length ≤ 2000 := by
      rw [e]
      omega
    have dd : (PyData.list [.str z]).depth ≤ 1 := by simp [PyData.depth, PyData.depthAll]
    refine ⟨⟨.lst (SqL.of h) g.dp, by simp [PyData.hasDict, PyData.hasDictAll], by simp [PyData.showable, g.sh], by omega, by omega, ?_⟩, l, dd⟩
    show (PyData.list [.str z]).shown.length ≤ 100000
    omega
/-- a list of such things can be shown -/
theorem Th3.all : ∀ (xs : List V) (ds : List PyData), xs.length = ds.length → (∀ p ∈ xs.zip ds, Th3 H p.1 p.2) → ShowsL K H xs ds (2002 * xs.length) 1
  | [], [], _, _ => ShowsL.nil
  | x :: xs, d :: ds, hl, h => by
    have r := Th3.all xs ds (Nat.succ.inj hl) fun p hp => h p (List.mem_cons_of_mem _ hp)
    obtain ⟨T, l, e⟩ := (h (x, d) (List.mem_cons_self ..)).told (K := K)
    dsimp only at T l e
    refine ⟨.cons T.dp r.dp, by simp [PyData.showableAll, T.sh, r.sh], ?_, by simp [PyData.hasDictAll, T.nd, r.nd], ?_⟩
    · have := r.de
      simp only [PyData.depthAll]
      omega
    · have := r.sz
      simp only [PyData.shownAll, List.map_cons, List.sum_cons, List.length_cons]
      omega
  | [], _ :: _, hl, _ => by cases hl
  | _ :: _, [], hl, _ => by cases hl
theorem ShowsL.lst {t : Addr} {L : List V} {ds : List PyData} {n k : Nat} (ht : H t = some (.lst L)) (h : ShowsL K H L ds n k) (hn : n ≤ 100000) (hk : k ≤ 60) : Shows K H (.ref t) (.list ds) where
  dq := .of (.lst (SqL.of ht) h.dp) (by simp [PyData.hasDict, h.nd])
  sh := by simp [PyData.showable, h.sh]
  dp := by
    have := h.de
    simp [PyData.depth]
    omega
  sz := by
    have h1 := h.sz
    have h3 := list_le (PyData.shownAll ds)
    have e : (PyData.list ds).shown = listText (PyData.shownAll ds) := by simp [PyData.shown]
    rw [e, sizeLine_eq]
    omega
end
theorem strm_new {H : Hp} {s p : Addr} {t : Int} {o : HO} (st : StrmAt H s t) (n : H p = none) : StrmAt (upd H p o) s t := by
  obtain ⟨b, c, m, h⟩ := st
  exact ⟨b, c, m, by rw [upd_ne (ne_of_none h n)]; exact h⟩
def spThing : Sp := fun vs H Q _ => ∃ (s : Addr) (t : Int), vs = [.ref s] ∧ StrmAt H s t ∧ 0 ≤ t ∧ t ≤ 500 ∧
  ∀ (x : V) (d : PyData) (H' : Hp) (t' : Int), Th3 H' x d → But s H H' → StrmAt H' s t' → 0 ≤ t' → t' ≤ t + 20 → Q x H'
section
variable {P : Program} {w : World} {K : PySem.W.Frag} {mg : Str → Option Value} {base : Heap} {cB fI : Addr} {c : Nat → Addr}
abbrev NThing : List Str := ["_law_stream_here", "_law_name"]
theorem scThing : FnScope NThing ["_law_stream_here"] (defScope sThingBy) := ⟨rfl, rfl, rfl, by decide +kernel, rfl, by decide +kernel, by decide +kernel⟩
theorem ok_thing {f fT fN : Addr} {fd fdT fdN : FuncData} (F : Fun K "_law_thing_by" "_law_thing_by" sThingBy f fd)
    (GT : FnOk P w K mg base CX0 2 fT fdT ["_law_stream_here", "_law_many"] spTake) (kT : PySem.W.keepIn K (.ref fT) = true) (bT : Binds K fdT ["_law_stream_here", "_law_many"] []) (gT : mg "_law_take" = some (.ref fT))
    (GN : FnOk P w K mg base CX0 3 fN fdN ["_law_stream_here"] (spByP (fun z => nameT z = true) 9)) (kN : PySem.W.keepIn K (.ref fN) = true) (bN : Binds K fdN ["_law_stream_here"] []) (gN : mg "_law_name_by" = some (.ref fN)) :
    FnOk P w K mg base CX0 4 f fd ["_law_stream_here"] spThing := by
  refine F.ok scThing (fun vs H Q E h => ?_) (fun cdv A outer s H vs Q E hr h => ?_)
  · obtain ⟨a, t, rfl, _⟩ := h
    rfl
  · obtain ⟨a, t, rfl, st, t0, t1, q⟩ := h
    refine ⟨_, pss_cons (ps_set (i := 1) scThing.nd rfl (.inl rfl) (pe_call GN hr (by rfl) gN kN bN .nil pass0 (pa_cons (pv 0) pa_nil)))
      (pss_one (ps_ret (pe_ix ix_list (pe_lst (pa_cons (pv 1) (pa_cons (pe_call GT (hr.mono (by decide)) (by rfl) gT kT bT .nil pass0 (pa_cons (pv 0) (pa_cons pe_int pa_nil))) (pa_cons pe_non (pa_cons (pe_tup (pa_cons (pv 1) (pa_cons pe_int pa_nil))) (pa_cons (pe_lst (pa_cons (pv 1) pa_nil)) (pa_cons pe_str (pa_cons (pe_un un_neg pe_int) (pa_cons pe_bl pa_nil))))))))) (pe_call GT (hr.mono (by decide)) (by rfl) gT kT bT .nil pass0 (pa_cons (pv 0) (pa_cons pe_int pa_nil))) (fun _ _ => rfl)))), ?_⟩
    refine ⟨_, rfl, a, t, rfl, st, t0, by omega, fun z H1 t2 hz u1 st1 z0 z1 => ?_⟩
    have hz2 : z.length ≤ 8 ∧ Sgn z := by
      unfold nameT at hz
      simp only [Bool.and_eq_true, decide_eq_true_iff, List.all_eq_true] at hz
      exact ⟨hz.1.2, fun c hc => .inl (sign_sgn (letters_sign c (hz.2 c hc)))⟩
    refine ⟨_, rfl, _, rfl, a, t2, 100, rfl, st1, z0, by omega, by decide, by decide, fun v H2 v0 v9 u2 st2 => ?_⟩
    refine ⟨_, rfl, by show 2 ≤ sizeLine; decide, fun p1 n1 => ?_⟩
    have s1 := same_upd (o := .tup [.str z, .int 3]) n1
    have e1 : upd H2 p1 (.tup [.str z, .int 3]) p1 = some (.tup [.str z, .int 3]) := upd_same
    have st3 := strm_new (o := .tup [.str z, .int 3]) st2 n1
    generalize upd H2 p1 (.tup [.str z, .int 3]) = H3 at s1 e1 st3 ⊢
    refine ⟨_, rfl, by show 1 ≤ sizeLine; decide, fun p2 n2 => ?_⟩
    have s2 := same_upd (o := .lst [.str z]) n2
    have e2 : upd H3 p2 (.lst [.str z]) p2 = some (.lst [.str z]) := upd_same
    have st4 := strm_new (o := .lst [.str z]) st3 n2
    have e3 := s2 _ _ e1
    generalize upd H3 p2 (.lst [.str z]) = H4 at s2 e2 e3 st4 ⊢
    refine ⟨_, rfl, by show 8 ≤ sizeLine; decide, fun p3 n3 => ?_⟩
    have s3 := same_upd (o := .lst [.str z, .int v, .non, .ref p1, .ref p2, .str "", .int (-1), .bl true]) n3
    have e4 : upd H4 p3 (.lst [.str z, .int v, .non, .ref p1, .ref p2, .str "", .int (-1), .bl true]) p3 = some (.lst [.str z, .int v, .non, .ref p1, .ref p2, .str "", .int (-1), .bl true]) := upd_same
    have st5 := strm_new (o := .lst [.str z, .int v, .non, .ref p1, .ref p2, .str "", .int (-1), .bl true]) st4 n3
    have e5 := s3 _ _ e2
    have e6 := s3 _ _ e3
    show tCall _ _ _ _ _ (upd H4 p3 (.lst [.str z, .int v, .non, .ref p1, .ref p2, .str "", .int (-1), .bl true])) _
    generalize upd H4 p3 (.lst [.str z, .int v, .non, .ref p1, .ref p2, .str "", .int (-1), .bl true]) = H5 at s3 e4 e5 e6 st5 ⊢
    have o3 : p3 ≠ a := fun e => by
      obtain ⟨b, c, m, hs⟩ := st5
      rw [← e, e4] at hs
      cases hs
    have o2 : p2 ≠ a := fun e => by
      obtain ⟨b, c, m, hs⟩ := st5
      rw [← e, e5] at hs
      cases hs
    have o1 : p1 ≠ a := fun e => by
      obtain ⟨b, c, m, hs⟩ := st5
      rw [← e, e6] at hs
      cases hs
    refine ⟨_, rfl, a, _, 8, rfl, st5, by omega, by omega, by decide, by decide, fun i H6 i0 i8 u6 st6 => ?_⟩
    obtain ⟨x, hx, mx⟩ := at_some (l := [V.str z, .int v, .non, .ref p1, .ref p2, .str "", .int (-1), .bl true]) i0 i8
    have ub : But a H H6 := ((((u1.trans u2).trans (But.same s1)).trans (But.same s2)).trans (But.same s3)).trans u6
    refine ⟨p3, _, i, x, rfl, rfl, SqL.of (u6 _ _ o3 e4), hx, ?_⟩
    have fin : ∀ d, Th3 H6 x d → Q x H6 := fun d T => q x d H6 _ T ub st6 (by omega) (by omega)
    simp only [List.mem_cons, List.not_mem_nil, or_false] at mx
    rcases mx with rfl | rfl | rfl | rfl | rfl | rfl | rfl | rfl
    · exact fin _ (.str z hz2.1 hz2.2)
    · exact fin _ (.int v (by omega) v9)
    · exact fin _ .non
    · exact fin _ (.tup (u6 _ _ o1 e6) hz2.1 hz2.2)
    · exact fin _ (.lst (u6 _ _ o2 e5) hz2.1 hz2.2)
    · exact fin _ (.str "" (by decide +kernel) (fun c hc => by cases hc))
    · exact fin _ (.int (-1) (by decide) (by decide))
    · exact fin _ (.bl true)
end
end Pk
namespace Pk
open PySem L2
/-! ### a refusal of each class, with its word and its kinds -/
def kindsL : Nat → List Str
  | 0 => ["bank"]
  | 1 => ["bank"]
  | 2 => ["bank"]
  | 3 => ["bank"]
  | 4 => ["bank"]
  | 5 => ["value"]
  | 6 => ["value"]
  | 7 => ["key", "lookup"]
  | 8 => ["index", "lookup"]
  | 9 => ["overflow", "arithmetic"]
  | 10 => ["kind"]
  | 11 => ["lookup"]
  | 12 => ["arithmetic", "nought"]
  | 13 => ["run"]
  | _ => [""]
def wordL : Nat → Str
  | 0 => "wish"
  | 1 => "paper"
  | 2 => "sheet"
  | 3 => "line"
  | 4 => "gone"
  | 5 => "question"
  | 6 => "text"
  | 7 => "such"
  | 8 => "place"
  | 9 => "many"
  | 10 => "kind"
  | 11 => "unmet"
  | 12 => "answers"
  | 13 => "twice"
  | _ => ""
def fldsOf : Nat → V → V → Option (List (Str × V))
  | 0, x, _ => some [("at", x)]
  | 1, x, _ => some [("at", x)]
  | 2, x, _ => some [("at", x)]
  | 3, x, y => some [("word", y), ("row", x)]
  | 4, _, _ => none
  | 5, x, _ => some [("part", x)]
  | 6, _, _ => none
  | 7, x, _ => some [("name", x)]
  | 8, x, _ => some [("at", x)]
  | 9, x, _ => some [("most", x)]
  | 10, x, _ => some [("wanted", x)]
  | 11, x, y => some [("sums", y), ("lot", x)]
  | 12, _, _ => none
  | 13, x, _ => some [("name", x)]
  | _, _, _ => none
/-- the error at e is of the class i, made of these -/
def ErrAt (c : Nat → Addr) (H : Hp) (i : Nat) (one other : V) (e : Addr) : Prop := (fldsOf i one other = none ∧ H e = some (ExH (.ref (c i)) none e)) ∨ ∃ fs dd, fldsOf i one other = some fs ∧ H e = some (ExH (.ref (c i)) (some dd) e) ∧ H dd = some (.xd fs)
def RowAt (c : Nat → Addr) (H : Hp) (i : Nat) (one other : V) (r : V) : Prop := ∃ t e k, r = .ref t ∧ H t = some (.tup [.ref e, .str (wordL i), .ref k]) ∧ H k = some (.lst ((kindsL i).map V.str)) ∧ ErrAt c H i one other e
theorem kinds_ne (i : Nat) : ∃ z l, (kindsL i).map V.str = .str z :: l := by
  unfold kindsL
  split <;> exact ⟨_, _, rfl⟩
section
variable {c : Nat → Addr} {H H' : Hp} {i : Nat} {one other r : V} {e d : Addr}
/-- all but a list of other things than texts is as it was -/
theorem RowAt.moves (h : RowAt c H i one other r) (m : ∀ a o, H a = some o → (∀ x l, o ≠ HO.lst (V.ref x :: l)) → H' a = some o) : RowAt c H' i one other r := by
  obtain ⟨t, e, k, rfl, ht, hk, he⟩ := h
  refine ⟨t, e, k, rfl, m _ _ ht (fun x l z => by cases z), m _ _ hk (fun x l z => ?_), ?_⟩
  · obtain ⟨y, l2, e2⟩ := kinds_ne i
    rw [e2] at z
    cases z
  · rcases he with ⟨f, h1⟩ | ⟨fs, dd, f, h1, h2⟩
    · exact .inl ⟨f, m _ _ h1 (fun x l z => by cases z)⟩
    · exact .inr ⟨fs, dd, f, m _ _ h1 (fun x l z => by cases z), m _ _ h2 (fun x l z => by cases z)⟩
theorem RowAt.same (h : RowAt c H i one other r) (s : Same H H') : RowAt c H' i one other r := h.moves fun a o e _ => s a o e
theorem err_made {fs : List (Str × V)} (hf : fldsOf i one other = some fs) (ne : H e = none) (nd : H d = none) (de : d ≠ e) : Same H (upd (upd H d (.xd fs)) e (ExH (.ref (c i)) (some d) e)) ∧ ErrAt c (upd (upd H d (.xd fs)) e (ExH (.ref (c i)) (some d) e)) i one other e :=
  ⟨(same_upd nd).trans (same_upd (by rw [upd_ne (Ne.symm de)]; exact ne)), .inr ⟨fs, d, hf, upd_same, by rw [upd_ne de]; exact upd_same⟩⟩
theorem err_bare (hf : fldsOf i one other = none) (ne : H e = none) : Same H (upd H e (ExH (.ref (c i)) none e)) ∧ ErrAt c (upd H e (ExH (.ref (c i)) none e)) i one other e :=
  ⟨same_upd ne, .inl ⟨hf, upd_same⟩⟩
theorem ErrAt.same (h : ErrAt c H i one other e) (s : Same H H') : ErrAt c H' i one other e := by
  rcases h with ⟨f, h1⟩ | ⟨fs, dd, f, h1, h2⟩
  · exact .inl ⟨f, s _ _ h1⟩
  · exact .inr ⟨fs, dd, f, s _ _ h1, s _ _ h2⟩
theorem row_end {Q : VK} {H1 : Hp} (q : ∀ r H', Same H H' → RowAt c H' i one other r → Q r H') (E : Same H H1 ∧ ErrAt c H1 i one other e) (k : Addr) (nk : H1 k = none) (t : Addr) (nt : upd H1 k (.lst ((kindsL i).map V.str)) t = none) :
    Q (.ref t) (upd (upd H1 k (.lst ((kindsL i).map V.str))) t (.tup [.ref e, .str (wordL i), .ref k])) :=
  q _ _ ((E.1.trans (same_upd nk)).trans (same_upd nt)) ⟨t, e, k, rfl, upd_same, same_upd nt _ _ upd_same, E.2.same ((same_upd nk).trans (same_upd nt))⟩
end
/-- the row i, of the first two variables -/
def tRow (c : Nat → Addr) (i : Nat) : TE := fun σ H Q => ∃ one other, σ[0]? = some (some one) ∧ σ[1]? = some (some other) ∧ ∀ r H', Same H H' → RowAt c H' i one other r → Q r H'
/-- a list of the first so many rows, made since H0 -/
structure Rws (c : Nat → Addr) (one other : V) (H0 H : Hp) (p : Addr) (rs : List V) : Prop where
  at_ : H p = some (.lst rs)
  new : H0 p = none
  same : Same H0 H
  all : ∀ i r, rs[i]? = some r → RowAt c H i one other r
  hd : ∃ a l, rs = .ref a :: l
section
variable {c : Nat → Addr} {H0 H H1 H2 : Hp} {one other a b : V} {p q : Addr} {rs : List V}
theorem RowAt.ref {i : Nat} (h : RowAt c H i one other a) : ∃ t, a = .ref t := by
  obtain ⟨t, _, _, e, _⟩ := h
  exact ⟨t, e⟩
/-- one row more, at its end -/
theorem Rws.app (R : Rws c one other H0 H p rs) (s : Same H H1) (ha : RowAt c H1 rs.length one other a) : Rws c one other H0 (upd H1 p (.lst (rs ++ [a]))) p (rs ++ [a]) := by
  have hp := s _ _ R.at_
  obtain ⟨x, l, e⟩ := R.hd
  have mv : ∀ (b : Addr) (o : HO), H1 b = some o → (∀ x l, o ≠ HO.lst (V.ref x :: l)) → upd H1 p (.lst (rs ++ [a])) b = some o := fun b o hb n => by
    by_cases z : b = p
    · rw [z, hp] at hb
      exact absurd (Option.some.inj hb).symm (by rw [e]; exact n x l)
    · rw [upd_ne z]
      exact hb
  refine ⟨upd_same, R.new, fun b o hb => ?_, fun i r hi => ?_, ?_⟩
  · rw [upd_ne (ne_of_none hb R.new)]
    exact s _ _ (R.same b o hb)
  · by_cases z : i < rs.length
    · rw [List.getElem?_append_left z] at hi
      exact ((R.all i r hi).same s).moves mv
    · by_cases z2 : i = rs.length
      · rw [z2, List.getElem?_append_right (Nat.le_refl _), Nat.sub_self] at hi
        cases hi
        rw [z2]
        exact ha.moves mv
      · rw [List.getElem?_append_right (by omega), List.getElem?_eq_none (by simp; omega)] at hi
        cases hi
  · rw [e]
    exact ⟨_, _, rfl⟩
/-- two rows more, in a new list -/
theorem Rws.cat (R : Rws c one other H0 H p rs) (s : Same H H1) (ha : RowAt c H1 rs.length one other a) (hb : RowAt c H1 (rs.length + 1) one other b) (nq : H1 q = none) : Rws c one other H0 (upd H1 q (.lst (rs ++ [a, b]))) q (rs ++ [a, b]) := by
  obtain ⟨x, l, e⟩ := R.hd
  have su := same_upd (o := .lst (rs ++ [a, b])) nq
  refine ⟨upd_same, ?_, (R.same.trans s).trans su, fun i r hi => ?_, ?_⟩
  · cases h0 : H0 q with
    | none => rfl
    | some o =>
      have := (R.same.trans s) _ _ h0
      rw [nq] at this
      cases this
  · by_cases z : i < rs.length
    · rw [List.getElem?_append_left z] at hi
      exact ((R.all i r hi).same s).same su
    · rw [List.getElem?_append_right (by omega)] at hi
      by_cases z2 : i = rs.length
      · rw [z2, Nat.sub_self] at hi
        cases hi
        rw [z2]
        exact ha.same su
      · by_cases z3 : i = rs.length + 1
        · rw [z3, show rs.length + 1 - rs.length = 1 by omega] at hi
          cases hi
          rw [z3]
          exact hb.same su
        · rw [List.getElem?_eq_none (by simp; omega)] at hi
          cases hi
  · rw [e]
    exact ⟨_, _, rfl⟩
theorem Rws.two (s : Same H0 H1) (ha : RowAt c H1 0 one other a) (hb : RowAt c H1 1 one other b) (nq : H1 q = none) : Rws c one other H0 (upd H1 q (.lst [a, b])) q [a, b] := by
  have su := same_upd (o := .lst [a, b]) nq
  obtain ⟨t, et⟩ := ha.ref
  refine ⟨upd_same, ?_, s.trans su, fun i r hi => ?_, ⟨t, [b], by rw [et]⟩⟩
  · cases h0 : H0 q with
    | none => rfl
    | some o =>
      have := s _ _ h0
      rw [nq] at this
      cases this
  · match i, hi with
    | 0, hi =>
      cases hi
      exact ha.same su
    | 1, hi =>
      cases hi
      exact hb.same su
    | n + 2, hi => cases hi
end
/-- the fourteen classes, as makers of errors -/
structure Errs (K : PySem.W.Frag) (mg : Str → Option Value) (c : Nat → Addr) : Prop where
  e0 : ∃ ql fI B newId initId bmB, Er_at.Tx K mg "BadWish" ql (c 0) fI B newId initId bmB
  e1 : ∃ ql fI B newId initId bmB, Er_at.Tx K mg "BadPaper" ql (c 1) fI B newId initId bmB
  e2 : ∃ ql fI B newId initId bmB, Er_at.Tx K mg "BadSheet" ql (c 2) fI B newId initId bmB
  e3 : ∃ ql fI B newId initId bmB, Er_row_word.Tx K mg "BadLine" ql (c 3) fI B newId initId bmB
  e4 : ∃ B newId initId bmB, ExcBaseFacts B newId initId bmB ∧ PySem.W.excIn K (c 4) bmB newId = true ∧ mg "Gone" = some (.ref (c 4)) ∧ PySem.W.keepIn K (.ref (c 4)) = true
  e5 : ∃ ql fI B newId initId bmB, Er_part.Tx K mg "BadQuestion" ql (c 5) fI B newId initId bmB
  e6 : ∃ B newId initId bmB, ExcBaseFacts B newId initId bmB ∧ PySem.W.excIn K (c 6) bmB newId = true ∧ mg "BadText" = some (.ref (c 6)) ∧ PySem.W.keepIn K (.ref (c 6)) = true
  e7 : ∃ ql fI B newId initId bmB, Er_name.Tx K mg "NoSuch" ql (c 7) fI B newId initId bmB
  e8 : ∃ ql fI B newId initId bmB, Er_at.Tx K mg "NoPlace" ql (c 8) fI B newId initId bmB
  e9 : ∃ ql fI B newId initId bmB, Er_most.Tx K mg "TooMany" ql (c 9) fI B newId initId bmB
  e10 : ∃ ql fI B newId initId bmB, Er_wanted.Tx K mg "BadKind" ql (c 10) fI B newId initId bmB
  e11 : ∃ ql fI B newId initId bmB, Er_lot_sums.Tx K mg "Unmet" ql (c 11) fI B newId initId bmB
  e12 : ∃ B newId initId bmB, ExcBaseFacts B newId initId bmB ∧ PySem.W.excIn K (c 12) bmB newId = true ∧ mg "NoAnswers" = some (.ref (c 12)) ∧ PySem.W.keepIn K (.ref (c 12)) = true
  e13 : ∃ ql fI B newId initId bmB, Er_name.Tx K mg "Twice" ql (c 13) fI B newId initId bmB
def spRows (c : Nat → Addr) : Sp := fun vs H Q _ => ∃ one other, vs = [one, other] ∧ ∀ (p : Addr) (rs : List V) (H' : Hp), rs.length = 14 → Rws c one other H H' p rs → Q (.ref p) H'
section
variable {P : Program} {w : World} {K : PySem.W.Frag} {mg : Str → Option Value} {base : Heap} {c : Nat → Addr}
abbrev NRows : List Str := ["_law_one", "_law_other", "_law_rows_here"]
theorem scRows : FnScope NRows ["_law_one", "_law_other"] (defScope sRows) := ⟨rfl, rfl, rfl, by decide +kernel, rfl, by decide +kernel, by decide +kernel⟩
theorem ok_rows {f : Addr} {fd : FuncData} (F : Fun K "_law_rows" "_law_rows" sRows f fd) (T : Errs K mg c) : FnOk P w K mg base CX0 2 f fd ["_law_one", "_law_other"] (spRows c) := by
  refine F.ok scRows (fun vs H Q E h => ?_) (fun cdv A outer s H vs Q E hr h => ?_)
  · obtain ⟨one, other, rfl, _⟩ := h
    rfl
  · obtain ⟨one, other, rfl, q⟩ := h
    obtain ⟨q0, f0, B0, n0, i0, m0, T0⟩ := T.e0
    obtain ⟨q1, f1, B1, n1, i1, m1, T1⟩ := T.e1
    obtain ⟨q2, f2, B2, n2, i2, m2, T2⟩ := T.e2
    obtain ⟨q3, f3, B3, n3, i3, m3, T3⟩ := T.e3
    obtain ⟨B4, n4, i4, m4, F4, x4, g4, k4⟩ := T.e4
    obtain ⟨q5, f5, B5, n5, i5, m5, T5⟩ := T.e5
    obtain ⟨B6, n6, i6, m6, F6, x6, g6, k6⟩ := T.e6
    obtain ⟨q7, f7, B7, n7, i7, m7, T7⟩ := T.e7
    obtain ⟨q8, f8, B8, n8, i8, m8, T8⟩ := T.e8
    obtain ⟨q9, f9, B9, n9, i9, m9, T9⟩ := T.e9
    obtain ⟨q10, f10, B10, n10, i10, m10, T10⟩ := T.e10
    obtain ⟨q11, f11, B11, n11, i11, m11, T11⟩ := T.e11
    obtain ⟨B12, n12, i12, m12, F12, x12, g12, k12⟩ := T.e12
    obtain ⟨q13, f13, B13, n13, i13, m13, T13⟩ := T.e13
    refine ⟨_, pss_cons (ps_set (i := 2) scRows.nd rfl (.inl rfl) (pe_lst (pa_cons (pe_imp (tRow c 0) (pe_tup (pa_cons (pe_val_at T0 hr (pa_cons (pv 0) pa_nil)) (pa_cons pe_str (pa_cons (pe_lst (pa_cons pe_str pa_nil)) pa_nil)))) (by
          rintro σ H Q ⟨one, other, h0, h1, q⟩
          exact ⟨_, h0, _, rfl, fun e d ne nd de => ⟨by show 1 ≤ sizeLine; decide, fun k nk => ⟨by show 3 ≤ sizeLine; decide, fun t nt => row_end (i := 0) q (err_made (c := c) (i := 0) (one := one) (other := other) rfl ne nd de) k nk t nt⟩⟩⟩)) (pa_cons (pe_imp (tRow c 1) (pe_tup (pa_cons (pe_val_at T1 hr (pa_cons (pv 0) pa_nil)) (pa_cons pe_str (pa_cons (pe_lst (pa_cons pe_str pa_nil)) pa_nil)))) (by
          rintro σ H Q ⟨one, other, h0, h1, q⟩
          exact ⟨_, h0, _, rfl, fun e d ne nd de => ⟨by show 1 ≤ sizeLine; decide, fun k nk => ⟨by show 3 ≤ sizeLine; decide, fun t nt => row_end (i := 1) q (err_made (c := c) (i := 1) (one := one) (other := other) rfl ne nd de) k nk t nt⟩⟩⟩)) pa_nil))))
      (pss_cons (ps_expr (pe_bm PySem.F.plainAttrs_list PySem.F.slot_list_append PySem.F.type_list_append mt_append (pv 2) (pa_cons (pe_imp (tRow c 2) (pe_tup (pa_cons (pe_val_at T2 hr (pa_cons (pv 0) pa_nil)) (pa_cons pe_str (pa_cons (pe_lst (pa_cons pe_str pa_nil)) pa_nil)))) (by
          rintro σ H Q ⟨one, other, h0, h1, q⟩
          exact ⟨_, h0, _, rfl, fun e d ne nd de => ⟨by show 1 ≤ sizeLine; decide, fun k nk => ⟨by show 3 ≤ sizeLine; decide, fun t nt => row_end (i := 2) q (err_made (c := c) (i := 2) (one := one) (other := other) rfl ne nd de) k nk t nt⟩⟩⟩)) pa_nil)))
      (pss_cons (ps_set (i := 2) scRows.nd rfl (.inl rfl) (pe_op op_cat (pv 2) (pe_lst (pa_cons (pe_imp (tRow c 3) (pe_tup (pa_cons (pe_val_row_word T3 hr (pa_cons (pv 0) (pa_cons (pv 1) pa_nil))) (pa_cons pe_str (pa_cons (pe_lst (pa_cons pe_str pa_nil)) pa_nil)))) (by
          rintro σ H Q ⟨one, other, h0, h1, q⟩
          exact ⟨_, h0, _, h1, _, _, rfl, fun e d ne nd de => ⟨by show 1 ≤ sizeLine; decide, fun k nk => ⟨by show 3 ≤ sizeLine; decide, fun t nt => row_end (i := 3) q (err_made (c := c) (i := 3) (one := one) (other := other) rfl ne nd de) k nk t nt⟩⟩⟩)) (pa_cons (pe_imp (tRow c 4) (pe_tup (pa_cons (pe_plainErr F4 x4 g4 k4 (by rfl) pe_str) (pa_cons pe_str (pa_cons (pe_lst (pa_cons pe_str pa_nil)) pa_nil)))) (by
          rintro σ H Q ⟨one, other, h0, h1, q⟩
          exact fun e ne => ⟨by show 1 ≤ sizeLine; decide, fun k nk => ⟨by show 3 ≤ sizeLine; decide, fun t nt => row_end (i := 4) q (err_bare (c := c) (i := 4) (one := one) (other := other) rfl ne) k nk t nt⟩⟩)) pa_nil)))))
      (pss_cons (ps_set (i := 2) scRows.nd rfl (.inl rfl) (pe_op op_cat (pv 2) (pe_lst (pa_cons (pe_imp (tRow c 5) (pe_tup (pa_cons (pe_val_part T5 hr (pa_cons (pv 0) pa_nil)) (pa_cons pe_str (pa_cons (pe_lst (pa_cons pe_str pa_nil)) pa_nil)))) (by
          rintro σ H Q ⟨one, other, h0, h1, q⟩
          exact ⟨_, h0, _, rfl, fun e d ne nd de => ⟨by show 1 ≤ sizeLine; decide, fun k nk => ⟨by show 3 ≤ sizeLine; decide, fun t nt => row_end (i := 5) q (err_made (c := c) (i := 5) (one := one) (other := other) rfl ne nd de) k nk t nt⟩⟩⟩)) (pa_cons (pe_imp (tRow c 6) (pe_tup (pa_cons (pe_plainErr F6 x6 g6 k6 (by rfl) pe_str) (pa_cons pe_str (pa_cons (pe_lst (pa_cons pe_str pa_nil)) pa_nil)))) (by
          rintro σ H Q ⟨one, other, h0, h1, q⟩
          exact fun e ne => ⟨by show 1 ≤ sizeLine; decide, fun k nk => ⟨by show 3 ≤ sizeLine; decide, fun t nt => row_end (i := 6) q (err_bare (c := c) (i := 6) (one := one) (other := other) rfl ne) k nk t nt⟩⟩)) pa_nil)))))
      (pss_cons (ps_set (i := 2) scRows.nd rfl (.inl rfl) (pe_op op_cat (pv 2) (pe_lst (pa_cons (pe_imp (tRow c 7) (pe_tup (pa_cons (pe_val_name T7 hr (pa_cons (pv 0) pa_nil)) (pa_cons pe_str (pa_cons (pe_lst (pa_cons pe_str (pa_cons pe_str pa_nil))) pa_nil)))) (by
          rintro σ H Q ⟨one, other, h0, h1, q⟩
          exact ⟨_, h0, _, rfl, fun e d ne nd de => ⟨by show 2 ≤ sizeLine; decide, fun k nk => ⟨by show 3 ≤ sizeLine; decide, fun t nt => row_end (i := 7) q (err_made (c := c) (i := 7) (one := one) (other := other) rfl ne nd de) k nk t nt⟩⟩⟩)) (pa_cons (pe_imp (tRow c 8) (pe_tup (pa_cons (pe_val_at T8 hr (pa_cons (pv 0) pa_nil)) (pa_cons pe_str (pa_cons (pe_lst (pa_cons pe_str (pa_cons pe_str pa_nil))) pa_nil)))) (by
          rintro σ H Q ⟨one, other, h0, h1, q⟩
          exact ⟨_, h0, _, rfl, fun e d ne nd de => ⟨by show 2 ≤ sizeLine; decide, fun k nk => ⟨by show 3 ≤ sizeLine; decide, fun t nt => row_end (i := 8) q (err_made (c := c) (i := 8) (one := one) (other := other) rfl ne nd de) k nk t nt⟩⟩⟩)) pa_nil)))))
      (pss_cons (ps_set (i := 2) scRows.nd rfl (.inl rfl) (pe_op op_cat (pv 2) (pe_lst (pa_cons (pe_imp (tRow c 9) (pe_tup (pa_cons (pe_val_most T9 hr (pa_cons (pv 0) pa_nil)) (pa_cons pe_str (pa_cons (pe_lst (pa_cons pe_str (pa_cons pe_str pa_nil))) pa_nil)))) (by
          rintro σ H Q ⟨one, other, h0, h1, q⟩
          exact ⟨_, h0, _, rfl, fun e d ne nd de => ⟨by show 2 ≤ sizeLine; decide, fun k nk => ⟨by show 3 ≤ sizeLine; decide, fun t nt => row_end (i := 9) q (err_made (c := c) (i := 9) (one := one) (other := other) rfl ne nd de) k nk t nt⟩⟩⟩)) (pa_cons (pe_imp (tRow c 10) (pe_tup (pa_cons (pe_val_wanted T10 hr (pa_cons (pv 0) pa_nil)) (pa_cons pe_str (pa_cons (pe_lst (pa_cons pe_str pa_nil)) pa_nil)))) (by
          rintro σ H Q ⟨one, other, h0, h1, q⟩
          exact ⟨_, h0, _, rfl, fun e d ne nd de => ⟨by show 1 ≤ sizeLine; decide, fun k nk => ⟨by show 3 ≤ sizeLine; decide, fun t nt => row_end (i := 10) q (err_made (c := c) (i := 10) (one := one) (other := other) rfl ne nd de) k nk t nt⟩⟩⟩)) pa_nil)))))
      (pss_cons (ps_expr (pe_bm PySem.F.plainAttrs_list PySem.F.slot_list_append PySem.F.type_list_append mt_append (pv 2) (pa_cons (pe_imp (tRow c 11) (pe_tup (pa_cons (pe_val_lot_sums T11 hr (pa_cons (pv 0) (pa_cons (pv 1) pa_nil))) (pa_cons pe_str (pa_cons (pe_lst (pa_cons pe_str pa_nil)) pa_nil)))) (by
          rintro σ H Q ⟨one, other, h0, h1, q⟩
          exact ⟨_, h0, _, h1, _, _, rfl, fun e d ne nd de => ⟨by show 1 ≤ sizeLine; decide, fun k nk => ⟨by show 3 ≤ sizeLine; decide, fun t nt => row_end (i := 11) q (err_made (c := c) (i := 11) (one := one) (other := other) rfl ne nd de) k nk t nt⟩⟩⟩)) pa_nil)))
      (pss_cons (ps_expr (pe_bm PySem.F.plainAttrs_list PySem.F.slot_list_append PySem.F.type_list_append mt_append (pv 2) (pa_cons (pe_imp (tRow c 12) (pe_tup (pa_cons (pe_plainErr F12 x12 g12 k12 (by rfl) pe_str) (pa_cons pe_str (pa_cons (pe_lst (pa_cons pe_str (pa_cons pe_str pa_nil))) pa_nil)))) (by
          rintro σ H Q ⟨one, other, h0, h1, q⟩
          exact fun e ne => ⟨by show 2 ≤ sizeLine; decide, fun k nk => ⟨by show 3 ≤ sizeLine; decide, fun t nt => row_end (i := 12) q (err_bare (c := c) (i := 12) (one := one) (other := other) rfl ne) k nk t nt⟩⟩)) pa_nil)))
      (pss_cons (ps_expr (pe_bm PySem.F.plainAttrs_list PySem.F.slot_list_append PySem.F.type_list_append mt_append (pv 2) (pa_cons (pe_imp (tRow c 13) (pe_tup (pa_cons (pe_val_name T13 hr (pa_cons (pv 0) pa_nil)) (pa_cons pe_str (pa_cons (pe_lst (pa_cons pe_str pa_nil)) pa_nil)))) (by
          rintro σ H Q ⟨one, other, h0, h1, q⟩
          exact ⟨_, h0, _, rfl, fun e d ne nd de => ⟨by show 1 ≤ sizeLine; decide, fun k nk => ⟨by show 3 ≤ sizeLine; decide, fun t nt => row_end (i := 13) q (err_made (c := c) (i := 13) (one := one) (other := other) rfl ne nd de) k nk t nt⟩⟩⟩)) pa_nil)))
      (pss_one (ps_ret (pv 2))))))))))), ?_⟩
    refine ⟨one, other, rfl, rfl, fun r0 G0 s0 R0 => ⟨one, other, rfl, rfl, fun r1 G1 s1 R1 => ⟨by show 2 ≤ sizeLine; decide, fun p0 n0 => ?_⟩⟩⟩
    have W0 := Rws.two (s0.trans s1) (R0.same s1) R1 n0
    show tSeq _ _ _ _ (upd G1 p0 (.lst [r0, r1]))
    generalize upd G1 p0 (.lst [r0, r1]) = H0 at W0
    refine ⟨_, rfl, .inl ⟨rfl, _, SqL.of W0.at_⟩, one, other, rfl, rfl, fun r2 G2 s2 R2 => ⟨p0, [r0, r1], r2, rfl, rfl, s2 _ _ W0.at_, by show 2 < sizeLine; decide, ?_⟩⟩
    have W1 : Rws c one other H (upd G2 p0 (.lst [r0, r1, r2])) p0 [r0, r1, r2] := W0.app s2 R2
    show tSeq _ _ _ _ (upd G2 p0 (.lst [r0, r1, r2]))
    generalize upd G2 p0 (.lst [r0, r1, r2]) = H1 at W1
    refine ⟨_, rfl, one, other, rfl, rfl, fun r3 G3 s3 R3 => ⟨one, other, rfl, rfl, fun r4 G4 s4 R4 => ⟨by show 2 ≤ sizeLine; decide, fun l3 nl3 => ?_⟩⟩⟩
    have sl3 := same_upd (o := .lst [r3, r4]) nl3
    refine ⟨p0, l3, [r0, r1, r2], [r3, r4], rfl, rfl, (sl3 _ _ (s4 _ _ (s3 _ _ W1.at_))), upd_same, by show 5 ≤ sizeLine; decide, fun p2 np2 => ?_⟩
    have W2 : Rws c one other H (upd (upd G4 l3 (.lst [r3, r4])) p2 (.lst [r0, r1, r2, r3, r4])) p2 [r0, r1, r2, r3, r4] := W1.cat ((s3.trans s4).trans sl3) ((R3.same s4).same sl3) (R4.same sl3) np2
    show tSeq _ _ _ _ (upd (upd G4 l3 (.lst [r3, r4])) p2 (.lst [r0, r1, r2, r3, r4]))
    generalize upd (upd G4 l3 (.lst [r3, r4])) p2 (.lst [r0, r1, r2, r3, r4]) = H2 at W2
    refine ⟨_, rfl, one, other, rfl, rfl, fun r5 G5 s5 R5 => ⟨one, other, rfl, rfl, fun r6 G6 s6 R6 => ⟨by show 2 ≤ sizeLine; decide, fun l5 nl5 => ?_⟩⟩⟩
    have sl5 := same_upd (o := .lst [r5, r6]) nl5
    refine ⟨p2, l5, [r0, r1, r2, r3, r4], [r5, r6], rfl, rfl, (sl5 _ _ (s6 _ _ (s5 _ _ W2.at_))), upd_same, by show 7 ≤ sizeLine; decide, fun p3 np3 => ?_⟩
    have W3 : Rws c one other H (upd (upd G6 l5 (.lst [r5, r6])) p3 (.lst [r0, r1, r2, r3, r4, r5, r6])) p3 [r0, r1, r2, r3, r4, r5, r6] := W2.cat ((s5.trans s6).trans sl5) ((R5.same s6).same sl5) (R6.same sl5) np3
    show tSeq _ _ _ _ (upd (upd G6 l5 (.lst [r5, r6])) p3 (.lst [r0, r1, r2, r3, r4, r5, r6]))
    generalize upd (upd G6 l5 (.lst [r5, r6])) p3 (.lst [r0, r1, r2, r3, r4, r5, r6]) = H3 at W3
    refine ⟨_, rfl, one, other, rfl, rfl, fun r7 G7 s7 R7 => ⟨one, other, rfl, rfl, fun r8 G8 s8 R8 => ⟨by show 2 ≤ sizeLine; decide, fun l7 nl7 => ?_⟩⟩⟩
    have sl7 := same_upd (o := .lst [r7, r8]) nl7
    refine ⟨p3, l7, [r0, r1, r2, r3, r4, r5, r6], [r7, r8], rfl, rfl, (sl7 _ _ (s8 _ _ (s7 _ _ W3.at_))), upd_same, by show 9 ≤ sizeLine; decide, fun p4 np4 => ?_⟩
    have W4 : Rws c one other H (upd (upd G8 l7 (.lst [r7, r8])) p4 (.lst [r0, r1, r2, r3, r4, r5, r6, r7, r8])) p4 [r0, r1, r2, r3, r4, r5, r6, r7, r8] := W3.cat ((s7.trans s8).trans sl7) ((R7.same s8).same sl7) (R8.same sl7) np4
    show tSeq _ _ _ _ (upd (upd G8 l7 (.lst [r7, r8])) p4 (.lst [r0, r1, r2, r3, r4, r5, r6, r7, r8]))
    generalize upd (upd G8 l7 (.lst [r7, r8])) p4 (.lst [r0, r1, r2, r3, r4, r5, r6, r7, r8]) = H4 at W4
    refine ⟨_, rfl, one, other, rfl, rfl, fun r9 G9 s9 R9 => ⟨one, other, rfl, rfl, fun r10 G10 s10 R10 => ⟨by show 2 ≤ sizeLine; decide, fun l9 nl9 => ?_⟩⟩⟩
    have sl9 := same_upd (o := .lst [r9, r10]) nl9
    refine ⟨p4, l9, [r0, r1, r2, r3, r4, r5, r6, r7, r8], [r9, r10], rfl, rfl, (sl9 _ _ (s10 _ _ (s9 _ _ W4.at_))), upd_same, by show 11 ≤ sizeLine; decide, fun p5 np5 => ?_⟩
    have W5 : Rws c one other H (upd (upd G10 l9 (.lst [r9, r10])) p5 (.lst [r0, r1, r2, r3, r4, r5, r6, r7, r8, r9, r10])) p5 [r0, r1, r2, r3, r4, r5, r6, r7, r8, r9, r10] := W4.cat ((s9.trans s10).trans sl9) ((R9.same s10).same sl9) (R10.same sl9) np5
    show tSeq _ _ _ _ (upd (upd G10 l9 (.lst [r9, r10])) p5 (.lst [r0, r1, r2, r3, r4, r5, r6, r7, r8, r9, r10]))
    generalize upd (upd G10 l9 (.lst [r9, r10])) p5 (.lst [r0, r1, r2, r3, r4, r5, r6, r7, r8, r9, r10]) = H5 at W5
    refine ⟨_, rfl, .inl ⟨rfl, _, SqL.of W5.at_⟩, one, other, rfl, rfl, fun r11 G11 s11 R11 => ⟨p5, [r0, r1, r2, r3, r4, r5, r6, r7, r8, r9, r10], r11, rfl, rfl, s11 _ _ W5.at_, by show 11 < sizeLine; decide, ?_⟩⟩
    have W6 : Rws c one other H (upd G11 p5 (.lst [r0, r1, r2, r3, r4, r5, r6, r7, r8, r9, r10, r11])) p5 [r0, r1, r2, r3, r4, r5, r6, r7, r8, r9, r10, r11] := W5.app s11 R11
    show tSeq _ _ _ _ (upd G11 p5 (.lst [r0, r1, r2, r3, r4, r5, r6, r7, r8, r9, r10, r11]))
    generalize upd G11 p5 (.lst [r0, r1, r2, r3, r4, r5, r6, r7, r8, r9, r10, r11]) = H6 at W6
    refine ⟨_, rfl, .inl ⟨rfl, _, SqL.of W6.at_⟩, one, other, rfl, rfl, fun r12 G12 s12 R12 => ⟨p5, [r0, r1, r2, r3, r4, r5, r6, r7, r8, r9, r10, r11], r12, rfl, rfl, s12 _ _ W6.at_, by show 12 < sizeLine; decide, ?_⟩⟩
    have W7 : Rws c one other H (upd G12 p5 (.lst [r0, r1, r2, r3, r4, r5, r6, r7, r8, r9, r10, r11, r12])) p5 [r0, r1, r2, r3, r4, r5, r6, r7, r8, r9, r10, r11, r12] := W6.app s12 R12
    show tSeq _ _ _ _ (upd G12 p5 (.lst [r0, r1, r2, r3, r4, r5, r6, r7, r8, r9, r10, r11, r12]))
    generalize upd G12 p5 (.lst [r0, r1, r2, r3, r4, r5, r6, r7, r8, r9, r10, r11, r12]) = H7 at W7
    refine ⟨_, rfl, .inl ⟨rfl, _, SqL.of W7.at_⟩, one, other, rfl, rfl, fun r13 G13 s13 R13 => ⟨p5, [r0, r1, r2, r3, r4, r5, r6, r7, r8, r9, r10, r11, r12], r13, rfl, rfl, s13 _ _ W7.at_, by show 13 < sizeLine; decide, ?_⟩⟩
    have W8 : Rws c one other H (upd G13 p5 (.lst [r0, r1, r2, r3, r4, r5, r6, r7, r8, r9, r10, r11, r12, r13])) p5 [r0, r1, r2, r3, r4, r5, r6, r7, r8, r9, r10, r11, r12, r13] := W7.app s13 R13
    show tSeq _ _ _ _ (upd G13 p5 (.lst [r0, r1, r2, r3, r4, r5, r6, r7, r8, r9, r10, r11, r12, r13]))
    generalize upd G13 p5 (.lst [r0, r1, r2, r3, r4, r5, r6, r7, r8, r9, r10, r11, r12, r13]) = H8 at W8
    exact ⟨_, rfl, q p5 [r0, r1, r2, r3, r4, r5, r6, r7, r8, r9, r10, r11, r12, r13] _ rfl W8⟩
end
end Pk
namespace Pk
open PySem L2
/-! ### list + list, whatever they are read from -/
def rCatS (K : PySem.W.Frag) : R2 := fun x y H Q => ∃ l b xs zs, x = .ref l ∧ y = .ref b ∧ SqL K H l xs ∧ SqL K H b zs ∧ xs.length + zs.length ≤ sizeLine ∧ ∀ p, H p = none → Q (.ref p) (upd H p (.lst (xs ++ zs)))
theorem op_catS {X : Cx} : OpR X (binaryOp .Add) (rCatS X.K) := by
  rintro pins s σ H x y v u Q I rx ry ⟨l, b, xs, zs, ex, ey, hl, hb, hz, q⟩
  subst ex ey
  cases rx
  cases ry
  obtain ⟨its, r, ⟨⟨c1, d1, dt1, sl1⟩, n1, e1, ec1, ed1, et1⟩, _⟩ := I.list hl
  obtain ⟨its2, r2, ⟨⟨c2, d2, dt2, sl2⟩, n2, e2, ec2, ed2, et2⟩, _⟩ := I.list hb
  dsimp only at ec1 ed1 et1 ec2 ed2 et2
  subst ec1 ed1 et1 ec2 ed2 et2
  have k1 := r.length
  have k2 := r2.length
  refine concat_meets ⟨_, e1, rfl⟩ ⟨_, e2, rfl⟩ noFill_list_add seq_list_add PySem.F.slot_list_add PySem.F.entry_list_add (PySem.F.args_list_add_2 _ _)
    (PyProof.Rows.list_addW l b its.toArray its2.toArray n1 n2 none none sl1 sl2 (by rw [List.size_toArray, List.size_toArray]; omega)) ⟨e1, e2, ?_⟩
  rw [show its.toArray ++ its2.toArray = (its ++ its2).toArray by simp]
  exact ⟨.ref _, _, I.lnew (t' := s.toks) (r.append r2) (by rw [List.length_append]; omega), rfl, q _ I.fresh⟩
theorem cut_int {ns : List Int} {lo hi : Option Int} {x : V} (h : x ∈ cutV (ns.map V.int ++ [V.int 0]) lo hi) : ∃ i : Int, x = V.int i := by
  unfold cutV at h
  have h2 := List.mem_of_mem_drop (List.mem_of_mem_take h)
  rcases List.mem_append.mp h2 with h | h
  · obtain ⟨i, _, rfl⟩ := List.mem_map.mp h
    exact ⟨i, rfl⟩
  · exact ⟨0, List.mem_singleton.mp h⟩
end Pk
namespace Pk
open PySem PySem.Spec L2
section
variable {X : Cx}
/-- two lists of the same plain things, !=: no -/
def rNeSame (K : PySem.W.Frag) : R2 := fun x y H Q => ∃ a b xs, x = .ref a ∧ y = .ref b ∧ SqL K H a xs ∧ SqL K H b xs ∧ (∀ v ∈ xs, flatB v = true) ∧ Q (.bl false) H
theorem same_at {A : Around} {s : Shared} : ∀ {xs : List V} {us ws : List Value}, (∀ v ∈ xs, flatB v = true) → Vals xs us → Vals xs ws → ∀ j (h1 : j < us.length) (h2 : j < ws.length), SeqAt.EqAt A s us[j] ws[j] true
  | [], us, ws, _, r1, _, j, h1, _ => by
    cases r1
    exact absurd h1 (Nat.not_lt_zero j)
  | x :: xs, us, ws, hf, r1, r2, j, h1, h2 => by
    cases r1 with
    | cons a1 b1 =>
      cases r2 with
      | cons a2 b2 =>
        cases j with
        | zero => exact eqAt_same a1 a2 (hf x (List.mem_cons_self ..))
        | succ j => exact same_at (fun v hv => hf v (List.mem_cons_of_mem _ hv)) b1 b2 j (Nat.lt_of_succ_lt_succ h1) (Nat.lt_of_succ_lt_succ h2)
theorem op_neSame (hu : X.A.units < cLine) : OpR X (compareOp .NotEq) (rNeSame X.K) := by
  rintro pins s σ H x y v u Q I rx ry ⟨a, b, xs, rfl, rfl, ha, hb, hf, q⟩
  cases (show v = Value.ref a from rx)
  cases (show u = Value.ref b from ry)
  obtain ⟨us, r1, p1, _⟩ := I.list ha
  obtain ⟨ws, r2, p2, _⟩ := I.list hb
  have hsz : us.toArray.size = ws.toArray.size := by
    rw [List.size_toArray, List.size_toArray, ← r1.length, ← r2.length]
  refine SeqAt.RcNeAt.lists (e := fun _ => true) p1.isList p2.isList hsz hu (fun j h1 h2 => ?_) X.prog X.w _ _ ?_
  · have k := same_at (A := X.A.in1) (s := s) hf r1 r2 j (by simpa using h1) (by simpa using h2)
    simpa using k
  · rw [show ((List.range us.toArray.size).all fun _ => true) = true from List.all_eq_true.mpr fun _ _ => rfl]
    exact ⟨.bl false, H, I, rfl, q⟩
/-- e.nm, e a kept error with fields -/
def tGetX (K : PySem.W.Frag) (nm : Str) (te : TE) : TE := fun σ H Q => te σ H fun x H1 => ∃ (a C dd : Addr) (fs : List (Str × V)) (v : V), x = .ref a ∧ H1 a = some (ExH (.ref C) (some dd) a) ∧ ExcC K C ∧ PySem.W.findIn K (.ref C) nm = some none ∧ H1 dd = some (.xd fs) ∧ fs.lookup nm = some v ∧ Q v H1
theorem pe_getX {nm : Str} {e : Expr} {te : TE} {pos : Pos} (he : PE X e te) (hb : attributeBase e nm X.env (eval e X.env) = eval e X.env := by rfl) : PE X (.Attribute e nm pos) (tGetX X.K nm te) := by
  constructor
  intro pins s σ H Q I h
  refine attr_of hb (thn (he.run pins s σ H _ I h) ?_)
  rintro u s1 ⟨x, H1, I1, rx, a, C, dd, fs, v, rfl, ha, EC, noN, hdd, l, q⟩
  cases (show u = Value.ref a from rx)
  obtain ⟨oe, od, J, hod⟩ := held_at I1 ha (.inr ⟨dd, _, rfl, hdd⟩)
  obtain ⟨mA, hns, hr⟩ := I1.hok dd _ hdd
  obtain ⟨o, ho, hl⟩ := lookIn_ns hns
  obtain ⟨o', eo, ho'⟩ := hod dd _ rfl hdd
  rw [ho] at ho'
  cases ho'
  subst eo
  obtain ⟨u, hu, ru⟩ := RelO.some_of (v := v) (o := mA nm) (by rw [← l]; exact hr nm)
  exact HandSPX.exc_get I1.kIn J EC.hg EC.hk EC.hs (PySem.W.findObj_own EC.hd noN rfl (by rw [hl, hu])) (handed_of ru) ⟨v, H1, I1.tok _, ru, q⟩
end
/-- what each class is known to be -/
structure Cl (K : PySem.W.Frag) (c : Nat → Addr) (cB : Addr) : Prop where
  ex : ∀ i, i < 14 → ExcC K (c i)
  wd : ∀ i, i < 14 → ∃ bs, Kits K c (c i) bs ∧ wordOf (list14 bs) = wordL i
  kd : ∀ i, i < 14 → ∃ ks, Kd K cB (c i) ks ∧ kindsOf ks = kindsL i
  xx : ∀ i, i < 14 → PySem.W.kitOne K (.ref (c i)) (.type "Exception") = some true
  exB : ExcC K cB
  kdB : ∃ ks, Kd K cB cB ks ∧ kindsOf ks = [(("bank" : String) : Str)]
theorem flat_map (zs : List Str) : ∀ v ∈ zs.map V.str, flatB v = true := fun v hv => by
  obtain ⟨z, _, rfl⟩ := List.mem_map.mp hv
  rfl
section
variable {c : Nat → Addr} {H H' : Hp} {i : Nat} {one other : V} {e : Addr}
theorem ErrAt.held (h : ErrAt c H i one other e) : ∃ d, H e = some (ExH (.ref (c i)) d e) ∧ DictOk H d := by
  rcases h with ⟨_, h1⟩ | ⟨fs, dd, _, h1, h2⟩
  · exact ⟨none, h1, .inl rfl⟩
  · exact ⟨some dd, h1, .inr ⟨dd, fs, rfl, h2⟩⟩
theorem ErrAt.flds {fs : List (Str × V)} (h : ErrAt c H i one other e) (hf : fldsOf i one other = some fs) : ∃ dd, H e = some (ExH (.ref (c i)) (some dd) e) ∧ H dd = some (.xd fs) := by
  rcases h with ⟨g, _⟩ | ⟨fs', dd, g, h1, h2⟩
  · rw [hf] at g
    cases g
  · rw [hf] at g
    cases g
    exact ⟨dd, h1, h2⟩
end
def MadeAt (c : Nat → Addr) (H : Hp) (p : Addr) (one other : V) : Prop := ∃ es : List V, H p = some (.lst es) ∧ es.length = 14 ∧ ∀ i x, es[i]? = some x → ∃ a, x = .ref a ∧ ErrAt c H i one other a
theorem MadeAt.same {c : Nat → Addr} {H H' : Hp} {p : Addr} {one other : V} (h : MadeAt c H p one other) (s : Same H H') : MadeAt c H' p one other := by
  obtain ⟨es, e, l, al⟩ := h
  exact ⟨es, s _ _ e, l, fun i x hi => by
    obtain ⟨a, ea, ha⟩ := al i x hi
    exact ⟨a, ea, ha.same s⟩⟩
/-- one row looked at -/
def tChkRow (c : Nat → Addr) : TT := fun σ H Q => ∃ i one other e k, i < 14 ∧ σ[7]? = some (some (.ref e)) ∧ σ[8]? = some (some (.str (wordL i))) ∧ σ[9]? = some (some (.ref k)) ∧ H k = some (.lst ((kindsL i).map V.str)) ∧ ErrAt c H i one other e ∧ ∀ H', Same H H' → Q false H'
/-- a field of one of the errors made -/
def tFld (c : Nat → Addr) (i : Nat) (nm : Str) : TE := fun σ H Q => ∃ p one other fs v, σ[10]? = some (some (.ref p)) ∧ MadeAt c H p one other ∧ fldsOf i one other = some fs ∧ fs.lookup nm = some v ∧ Q v H
/-- one of the errors made -/
def tErr (c : Nat → Addr) (i : Nat) : TE := fun σ H Q => ∃ p one other, σ[10]? = some (some (.ref p)) ∧ MadeAt c H p one other ∧ i < 14 ∧ ∀ a, ErrAt c H i one other a → Q (.ref a) H
theorem pt_impF {X : Cx} {e : Expr} {t : TT} (t' : TT) (h : PT X e t) (k : ∀ σ H Q, t' σ H Q → t σ H Q) : PT X e t' := ⟨fun pins s σ H Q I w => h.run pins s σ H Q I (k σ H Q w)⟩
def spLaw (K : PySem.W.Frag) : Sp := fun vs H Q _ => ∃ (a : Addr) (ns : List Int), vs = [.ref a] ∧ SqL K H a (ns.map V.int) ∧ ns.length ≤ 63 ∧ ∀ H', Q (.bl true) H'
abbrev NLaw : List Str := ["_law_script", "_law_k", "_law_cell", "_law_stream_here", "_law_one", "_law_other", "_law_rows_here", "_law_error", "_law_word_here", "_law_kinds_here", "_law_made", "_law_told", "_law_due", "_law_texts", "_law_row"]
theorem scLaw : FnScope NLaw ["_law_script"] (defScope sLaw) := ⟨rfl, rfl, rfl, by decide +kernel, rfl, by decide +kernel, by decide +kernel⟩
end Pk
namespace Pk
open PySem L2
theorem strm_sameF {H H' : Hp} {s : Addr} {t : Int} (st : StrmAt H s t) (sm : Same H H') : StrmAt H' s t := by
  obtain ⟨b, c, m, e⟩ := st
  exact ⟨b, c, m, sm _ _ e⟩
theorem look1 {nm : Str} {v : V} : List.lookup nm [(nm, v)] = some v := by simp [List.lookup]
theorem look2a {a b : Str} {u v : V} : List.lookup b [(b, u), (a, v)] = some u := by simp [List.lookup]
theorem look2b {a b : Str} {u v : V} (h : (a == b) = false) : List.lookup a [(b, u), (a, v)] = some v := by simp [List.lookup, h]
theorem room1 {k : Nat} {A : Around} (hr : Room k A) : A.units < cLine := by
  have := room_show hr
  omega
theorem iteF' {p : Prop} [Decidable p] {a b : Prop} (h : ¬ p) (k : b) : if p then a else b := by
  rw [if_neg h]
  exact k
section
variable {P : Program} {w : World} {K : PySem.W.Frag} {mg : Str → Option Value} {base : Heap} {cB : Addr} {c : Nat → Addr}
theorem ok_law {f fS fTh fR fW fK s5 s7 s9 : Addr} {fd fdS fdTh fdR fdW fdK d5 d7 d9 : FuncData} {BB nB iB : String} {mB : List Value} (F : Fun K "law" "law" sLaw f fd) (me : mg "enumerate" = none) (mi : mg "isinstance" = none) (mx : mg "Exception" = none) (mr : mg "repr" = none) (ms : mg "str" = none)
    (GS : FnOk P w K mg base CX0 2 fS fdS ["_law_cell", "_law_k"] spStream) (kS : PySem.W.keepIn K (.ref fS) = true) (bS : Binds K fdS ["_law_cell", "_law_k"] []) (gS : mg "_law_stream" = some (.ref fS))
    (GTh : FnOk P w K mg base CX0 4 fTh fdTh ["_law_stream_here"] spThing) (kTh : PySem.W.keepIn K (.ref fTh) = true) (bTh : Binds K fdTh ["_law_stream_here"] []) (gTh : mg "_law_thing_by" = some (.ref fTh))
    (GR : FnOk P w K mg base CX0 2 fR fdR ["_law_one", "_law_other"] (spRows c)) (kR : PySem.W.keepIn K (.ref fR) = true) (bR : Binds K fdR ["_law_one", "_law_other"] []) (gR : mg "_law_rows" = some (.ref fR))
    (GW : FnOk P w K mg base CX0 1 fW fdW ["_law_error"] (spWord K c)) (kW : PySem.W.keepIn K (.ref fW) = true) (bW : Binds K fdW ["_law_error"] []) (gW : mg "_law_word" = some (.ref fW))
    (GK : FnOk P w K mg base CX0 1 fK fdK ["_law_error"] (spKinds K cB)) (kK : PySem.W.keepIn K (.ref fK) = true) (bK : Binds K fdK ["_law_error"] []) (gK : mg "_law_kinds" = some (.ref fK))
    (C : Cl K c cB) (T : Errs K mg c) (FB : ExcBaseFacts BB nB iB mB) (xB : PySem.W.excIn K cB mB nB = true) (gB : mg "BankError" = some (.ref cB)) (kB : PySem.W.keepIn K (.ref cB) = true)
    (G5 : FnG P w K mg base CX0 1 s5 d5 ["self"] (spTellS K "part" "bad ")) (h5 : PySem.W.findIn K (.ref (c 5)) "__str__" = some (some (.ref s5))) (i5 : PySem.W.isFn K (.ref s5) = true) (b5 : Binds K d5 ["self"] [])
    (G7 : FnG P w K mg base CX0 1 s7 d7 ["self"] (spTellR K "name" "nothing called ")) (h7 : PySem.W.findIn K (.ref (c 7)) "__str__" = some (some (.ref s7))) (i7 : PySem.W.isFn K (.ref s7) = true) (b7 : Binds K d7 ["self"] [])
    (G9 : FnG P w K mg base CX0 1 s9 d9 ["self"] (spTellS K "most" "more than ")) (h9 : PySem.W.findIn K (.ref (c 9)) "__str__" = some (some (.ref s9))) (i9 : PySem.W.isFn K (.ref s9) = true) (b9 : Binds K d9 ["self"] []) :
    FnG P w K mg base CX0 6 f fd ["_law_script"] (spLaw K) := by
  have N0at : PySem.W.findIn K (.ref (c 0)) "at" = some none := by
    obtain ⟨_, _, _, _, _, _, Z⟩ := T.e0
    exact Z.noN
  have N1at : PySem.W.findIn K (.ref (c 1)) "at" = some none := by
    obtain ⟨_, _, _, _, _, _, Z⟩ := T.e1
    exact Z.noN
  have N2at : PySem.W.findIn K (.ref (c 2)) "at" = some none := by
    obtain ⟨_, _, _, _, _, _, Z⟩ := T.e2
    exact Z.noN
  have N3row : PySem.W.findIn K (.ref (c 3)) "row" = some none := by
    obtain ⟨_, _, _, _, _, _, Z⟩ := T.e3
    exact Z.noA
  have N3word : PySem.W.findIn K (.ref (c 3)) "word" = some none := by
    obtain ⟨_, _, _, _, _, _, Z⟩ := T.e3
    exact Z.noB
  have N5part : PySem.W.findIn K (.ref (c 5)) "part" = some none := by
    obtain ⟨_, _, _, _, _, _, Z⟩ := T.e5
    exact Z.noN
  have N7name : PySem.W.findIn K (.ref (c 7)) "name" = some none := by
    obtain ⟨_, _, _, _, _, _, Z⟩ := T.e7
    exact Z.noN
  have N8at : PySem.W.findIn K (.ref (c 8)) "at" = some none := by
    obtain ⟨_, _, _, _, _, _, Z⟩ := T.e8
    exact Z.noN
  have N9most : PySem.W.findIn K (.ref (c 9)) "most" = some none := by
    obtain ⟨_, _, _, _, _, _, Z⟩ := T.e9
    exact Z.noN
  have N10wanted : PySem.W.findIn K (.ref (c 10)) "wanted" = some none := by
    obtain ⟨_, _, _, _, _, _, Z⟩ := T.e10
    exact Z.noN
  have N11lot : PySem.W.findIn K (.ref (c 11)) "lot" = some none := by
    obtain ⟨_, _, _, _, _, _, Z⟩ := T.e11
    exact Z.noA
  have N11sums : PySem.W.findIn K (.ref (c 11)) "sums" = some none := by
    obtain ⟨_, _, _, _, _, _, Z⟩ := T.e11
    exact Z.noB
  have N13name : PySem.W.findIn K (.ref (c 13)) "name" = some none := by
    obtain ⟨_, _, _, _, _, _, Z⟩ := T.e13
    exact Z.noN
  refine okG F scLaw (fun vs H Q E h => ?_) (fun cdv A calm outer s H vs Q E hr h => ?_)
  · obtain ⟨a, ns, rfl, _⟩ := h
    rfl
  · obtain ⟨a, ns, rfl, hS, hlen, q⟩ := h
    have r1 : Room 1 _ := hr.mono (by decide)
    have r2 : Room 2 _ := hr.mono (by decide)
    have r3 : Room (1 + 2) _ := hr.mono (by decide)
    have r4 : Room 4 _ := hr.mono (by decide)
    refine ⟨_, pss_cons (ps_for PassesOwn.never rfl (pi_enum (by rfl) me (pa_cons (pe_slice sl_list (pe_op op_catS (pv 0) (pe_lst (pa_cons pe_int pa_nil))) po_none (po_some pe_int)) pa_nil)) (pg_tup rfl (pgs_cons (pg_name (i := 1) scLaw.nd rfl (.inl rfl)) (pgs_cons (pg_name (i := 2) scLaw.nd rfl (.inl rfl)) pgs_nil)))
        (pss_cons (ps_set (i := 3) scLaw.nd rfl (.inl rfl) (pe_call GS r2 (by rfl) gS kS bS .nil pass0 (pa_cons (pv 2) (pa_cons (pv 1) pa_nil))))
        (pss_cons (ps_par (i := 4) (j := 5) (by rfl) scLaw.nd rfl rfl (by decide) rfl rfl (pa_cons (pe_call GTh r4 (by rfl) gTh kTh bTh .nil pass0 (pa_cons (pv 3) pa_nil)) (pa_cons (pe_call GTh r4 (by rfl) gTh kTh bTh .nil pass0 (pa_cons (pv 3) pa_nil)) pa_nil)) (by rfl))
        (pss_cons (ps_set (i := 6) scLaw.nd rfl (.inl rfl) (pe_call GR r2 (by rfl) gR kR bR .nil pass0 (pa_cons (pv 4) (pa_cons (pv 5) pa_nil))))
        (pss_cons (ps_for PassesOwn.never rfl (pi_list (pv 6)) (pg_tup rfl (pgs_cons (pg_name (i := 7) scLaw.nd rfl (.inl rfl)) (pgs_cons (pg_name (i := 8) scLaw.nd rfl (.inl rfl)) (pgs_cons (pg_name (i := 9) scLaw.nd rfl (.inl rfl)) pgs_nil))))
          (pss_one (ps_if (pt_impF (tChkRow c) (PW.pt (pw_or (pt_cmpR op_ne (pe_call GW r1 (by rfl) gW kW bW .nil pass0 (pa_cons (pv 7) pa_nil)) (pv 8) (nomark _)) (pw_or (pt_cmpR (op_neSame (room1 hr)) (pe_call GK r1 (by rfl) gK kK bK .nil pass0 (pa_cons (pv 7) pa_nil)) (pv 9) (by rfl)) (pw_or1 (pt_not (pt_val (pe_callB call_isK (by rfl) mi (by decide +kernel) (pa_cons (pv 7) (pa_cons (pe_bltn (v := .ty "Exception") (by rfl) mx (by decide +kernel) rfl (by decide) (by decide)) pa_nil))))))))) (by
            rintro σ H Q ⟨i, one, other, e, k, i14, q7, q8, q9, hk, he, q⟩
            obtain ⟨bs, kt, ew⟩ := C.wd i i14
            obtain ⟨ks, kd, ek⟩ := C.kd i i14
            obtain ⟨d, hd1, hd2⟩ := he.held
            refine ⟨_, q7, e, c i, d, bs, rfl, hd1, hd2, C.ex i i14, kt, fun H1 s1 => ⟨_, q8, rfl, _, rfl, ?_⟩⟩
            rw [ew]
            refine iteF' (by simp) ?_
            obtain ⟨d', hd1', hd2'⟩ := (he.same s1).held
            refine ⟨_, q7, e, c i, d', ks, rfl, hd1', hd2', C.ex i i14, kd, fun l H2 s2 hl => ⟨_, q9, l, k, (kindsL i).map V.str, rfl, rfl, SqL.of (by rw [hl, ek]), SqL.of (s2 _ _ (s1 _ _ hk)), flat_map _, _, rfl, iteF ?_⟩⟩
            obtain ⟨d2, hd12, hd22⟩ := ((he.same s1).same s2).held
            exact ⟨_, q7, e, c i, d2, _, _, _, rfl, hd12, hd22, C.ex i i14, .ty "Exception", C.xx i i14, _, rfl, q H2 (s1.trans s2)⟩)) (pss_one (ps_ret pe_bl)) pss_nil)))
        (pss_cons (ps_setLc (i := 10) (own := [("_law_row", 14)]) (g := gName 14) rfl scLaw.nd rfl rfl (sw_true rfl rfl rfl (by decide +kernel)) (pi_list (pv 6)) (blkOk_by (N := NLaw) (sc := defScope sLaw) (by decide +kernel))
          (fun _ _ _ _ _ => by exact pg_name (i := 14) scLaw.nd rfl (.inl rfl)) (fun _ _ _ _ _ => pts_nil) (fun _ _ _ _ _ => pe_ix (r := rIxT K) (by exact ix_tup) (pv 14) pe_int (fun _ _ => rfl)))
        (pss_cons (ps_set (i := 11) scLaw.nd rfl (.inl rfl) (pe_lst (pa_cons (pe_imp (tFld c 0 "at") (pe_getX (nm := "at") (pe_ix ix_list (pv 10) pe_int (fun _ _ => rfl))) (by
            rintro σ H Q ⟨p, one, other, fs, v, h10, ⟨es, he, ln, al⟩, hf, hl, q⟩
            obtain ⟨a, ea, ha⟩ := al 0 es[0] (List.getElem?_eq_getElem (by omega))
            obtain ⟨dd, g1, g2⟩ := ha.flds hf
            exact ⟨_, h10, p, es, 0, es[0], rfl, rfl, SqL.of he, atI_nat (j := 0) (List.getElem?_eq_getElem (by omega)), a, c 0, dd, fs, v, ea, g1, C.ex 0 (by decide), N0at, g2, hl, q⟩)) (pa_cons (pe_imp (tFld c 1 "at") (pe_getX (nm := "at") (pe_ix ix_list (pv 10) pe_int (fun _ _ => rfl))) (by
            rintro σ H Q ⟨p, one, other, fs, v, h10, ⟨es, he, ln, al⟩, hf, hl, q⟩
            obtain ⟨a, ea, ha⟩ := al 1 es[1] (List.getElem?_eq_getElem (by omega))
            obtain ⟨dd, g1, g2⟩ := ha.flds hf
            exact ⟨_, h10, p, es, 1, es[1], rfl, rfl, SqL.of he, atI_nat (j := 1) (List.getElem?_eq_getElem (by omega)), a, c 1, dd, fs, v, ea, g1, C.ex 1 (by decide), N1at, g2, hl, q⟩)) (pa_cons (pe_imp (tFld c 2 "at") (pe_getX (nm := "at") (pe_ix ix_list (pv 10) pe_int (fun _ _ => rfl))) (by
            rintro σ H Q ⟨p, one, other, fs, v, h10, ⟨es, he, ln, al⟩, hf, hl, q⟩
            obtain ⟨a, ea, ha⟩ := al 2 es[2] (List.getElem?_eq_getElem (by omega))
            obtain ⟨dd, g1, g2⟩ := ha.flds hf
            exact ⟨_, h10, p, es, 2, es[2], rfl, rfl, SqL.of he, atI_nat (j := 2) (List.getElem?_eq_getElem (by omega)), a, c 2, dd, fs, v, ea, g1, C.ex 2 (by decide), N2at, g2, hl, q⟩)) (pa_cons (pe_imp (tFld c 3 "row") (pe_getX (nm := "row") (pe_ix ix_list (pv 10) pe_int (fun _ _ => rfl))) (by
            rintro σ H Q ⟨p, one, other, fs, v, h10, ⟨es, he, ln, al⟩, hf, hl, q⟩
            obtain ⟨a, ea, ha⟩ := al 3 es[3] (List.getElem?_eq_getElem (by omega))
            obtain ⟨dd, g1, g2⟩ := ha.flds hf
            exact ⟨_, h10, p, es, 3, es[3], rfl, rfl, SqL.of he, atI_nat (j := 3) (List.getElem?_eq_getElem (by omega)), a, c 3, dd, fs, v, ea, g1, C.ex 3 (by decide), N3row, g2, hl, q⟩)) (pa_cons (pe_imp (tFld c 3 "word") (pe_getX (nm := "word") (pe_ix ix_list (pv 10) pe_int (fun _ _ => rfl))) (by
            rintro σ H Q ⟨p, one, other, fs, v, h10, ⟨es, he, ln, al⟩, hf, hl, q⟩
            obtain ⟨a, ea, ha⟩ := al 3 es[3] (List.getElem?_eq_getElem (by omega))
            obtain ⟨dd, g1, g2⟩ := ha.flds hf
            exact ⟨_, h10, p, es, 3, es[3], rfl, rfl, SqL.of he, atI_nat (j := 3) (List.getElem?_eq_getElem (by omega)), a, c 3, dd, fs, v, ea, g1, C.ex 3 (by decide), N3word, g2, hl, q⟩)) (pa_cons (pe_imp (tFld c 5 "part") (pe_getX (nm := "part") (pe_ix ix_list (pv 10) pe_int (fun _ _ => rfl))) (by
            rintro σ H Q ⟨p, one, other, fs, v, h10, ⟨es, he, ln, al⟩, hf, hl, q⟩
            obtain ⟨a, ea, ha⟩ := al 5 es[5] (List.getElem?_eq_getElem (by omega))
            obtain ⟨dd, g1, g2⟩ := ha.flds hf
            exact ⟨_, h10, p, es, 5, es[5], rfl, rfl, SqL.of he, atI_nat (j := 5) (List.getElem?_eq_getElem (by omega)), a, c 5, dd, fs, v, ea, g1, C.ex 5 (by decide), N5part, g2, hl, q⟩)) (pa_cons (pe_imp (tFld c 7 "name") (pe_getX (nm := "name") (pe_ix ix_list (pv 10) pe_int (fun _ _ => rfl))) (by
            rintro σ H Q ⟨p, one, other, fs, v, h10, ⟨es, he, ln, al⟩, hf, hl, q⟩
            obtain ⟨a, ea, ha⟩ := al 7 es[7] (List.getElem?_eq_getElem (by omega))
            obtain ⟨dd, g1, g2⟩ := ha.flds hf
            exact ⟨_, h10, p, es, 7, es[7], rfl, rfl, SqL.of he, atI_nat (j := 7) (List.getElem?_eq_getElem (by omega)), a, c 7, dd, fs, v, ea, g1, C.ex 7 (by decide), N7name, g2, hl, q⟩)) pa_nil)))))))))
        (pss_cons (ps_set (i := 11) scLaw.nd rfl (.inl rfl) (pe_op op_cat (pv 11) (pe_lst (pa_cons (pe_imp (tFld c 8 "at") (pe_getX (nm := "at") (pe_ix ix_list (pv 10) pe_int (fun _ _ => rfl))) (by
            rintro σ H Q ⟨p, one, other, fs, v, h10, ⟨es, he, ln, al⟩, hf, hl, q⟩
            obtain ⟨a, ea, ha⟩ := al 8 es[8] (List.getElem?_eq_getElem (by omega))
            obtain ⟨dd, g1, g2⟩ := ha.flds hf
            exact ⟨_, h10, p, es, 8, es[8], rfl, rfl, SqL.of he, atI_nat (j := 8) (List.getElem?_eq_getElem (by omega)), a, c 8, dd, fs, v, ea, g1, C.ex 8 (by decide), N8at, g2, hl, q⟩)) (pa_cons (pe_imp (tFld c 9 "most") (pe_getX (nm := "most") (pe_ix ix_list (pv 10) pe_int (fun _ _ => rfl))) (by
            rintro σ H Q ⟨p, one, other, fs, v, h10, ⟨es, he, ln, al⟩, hf, hl, q⟩
            obtain ⟨a, ea, ha⟩ := al 9 es[9] (List.getElem?_eq_getElem (by omega))
            obtain ⟨dd, g1, g2⟩ := ha.flds hf
            exact ⟨_, h10, p, es, 9, es[9], rfl, rfl, SqL.of he, atI_nat (j := 9) (List.getElem?_eq_getElem (by omega)), a, c 9, dd, fs, v, ea, g1, C.ex 9 (by decide), N9most, g2, hl, q⟩)) (pa_cons (pe_imp (tFld c 10 "wanted") (pe_getX (nm := "wanted") (pe_ix ix_list (pv 10) pe_int (fun _ _ => rfl))) (by
            rintro σ H Q ⟨p, one, other, fs, v, h10, ⟨es, he, ln, al⟩, hf, hl, q⟩
            obtain ⟨a, ea, ha⟩ := al 10 es[10] (List.getElem?_eq_getElem (by omega))
            obtain ⟨dd, g1, g2⟩ := ha.flds hf
            exact ⟨_, h10, p, es, 10, es[10], rfl, rfl, SqL.of he, atI_nat (j := 10) (List.getElem?_eq_getElem (by omega)), a, c 10, dd, fs, v, ea, g1, C.ex 10 (by decide), N10wanted, g2, hl, q⟩)) (pa_cons (pe_imp (tFld c 11 "lot") (pe_getX (nm := "lot") (pe_ix ix_list (pv 10) pe_int (fun _ _ => rfl))) (by
            rintro σ H Q ⟨p, one, other, fs, v, h10, ⟨es, he, ln, al⟩, hf, hl, q⟩
            obtain ⟨a, ea, ha⟩ := al 11 es[11] (List.getElem?_eq_getElem (by omega))
            obtain ⟨dd, g1, g2⟩ := ha.flds hf
            exact ⟨_, h10, p, es, 11, es[11], rfl, rfl, SqL.of he, atI_nat (j := 11) (List.getElem?_eq_getElem (by omega)), a, c 11, dd, fs, v, ea, g1, C.ex 11 (by decide), N11lot, g2, hl, q⟩)) (pa_cons (pe_imp (tFld c 11 "sums") (pe_getX (nm := "sums") (pe_ix ix_list (pv 10) pe_int (fun _ _ => rfl))) (by
            rintro σ H Q ⟨p, one, other, fs, v, h10, ⟨es, he, ln, al⟩, hf, hl, q⟩
            obtain ⟨a, ea, ha⟩ := al 11 es[11] (List.getElem?_eq_getElem (by omega))
            obtain ⟨dd, g1, g2⟩ := ha.flds hf
            exact ⟨_, h10, p, es, 11, es[11], rfl, rfl, SqL.of he, atI_nat (j := 11) (List.getElem?_eq_getElem (by omega)), a, c 11, dd, fs, v, ea, g1, C.ex 11 (by decide), N11sums, g2, hl, q⟩)) (pa_cons (pe_imp (tFld c 13 "name") (pe_getX (nm := "name") (pe_ix ix_list (pv 10) pe_int (fun _ _ => rfl))) (by
            rintro σ H Q ⟨p, one, other, fs, v, h10, ⟨es, he, ln, al⟩, hf, hl, q⟩
            obtain ⟨a, ea, ha⟩ := al 13 es[13] (List.getElem?_eq_getElem (by omega))
            obtain ⟨dd, g1, g2⟩ := ha.flds hf
            exact ⟨_, h10, p, es, 13, es[13], rfl, rfl, SqL.of he, atI_nat (j := 13) (List.getElem?_eq_getElem (by omega)), a, c 13, dd, fs, v, ea, g1, C.ex 13 (by decide), N13name, g2, hl, q⟩)) pa_nil)))))))))
        (pss_cons (ps_set (i := 12) scLaw.nd rfl (.inl rfl) (pe_lst (pa_cons (pv 4) (pa_cons (pv 4) (pa_cons (pv 4) (pa_cons (pv 4) (pa_cons (pv 5) (pa_cons (pv 4) (pa_cons (pv 4) (pa_cons (pv 4) (pa_cons (pv 4) (pa_cons (pv 4) (pa_cons (pv 4) (pa_cons (pv 5) (pa_cons (pv 4) pa_nil)))))))))))))))
        (pss_cons (ps_if (PW.pt (pw_or (pt_cmpR op_ne (pe_callB (call_show (show Calm _ from calm) (room_show hr)) (by rfl) mr (by decide +kernel) (pa_cons (pv 11) pa_nil)) (pe_callB (call_show (show Calm _ from calm) (room_show hr)) (by rfl) mr (by decide +kernel) (pa_cons (pv 12) pa_nil)) (nomark _)) (pw_or1 (pt_cmpR (op_neSame (room1 hr)) (pe_call GK r1 (by rfl) gK kK bK .nil pass0 (pa_cons (pe_plainErr FB xB gB kB (by rfl) pe_str) pa_nil)) (pe_lst (pa_cons pe_str pa_nil)) (by rfl))))) (pss_one (ps_ret pe_bl)) pss_nil)
        (pss_cons (ps_set (i := 13) scLaw.nd rfl (.inl rfl) (pe_lst (pa_cons (pe_strErrG (C := c 5) G5 (show Calm _ from calm) r3 h5 i5 b5 (by rfl) ms (pe_imp (tErr c 5) (pe_ix ix_list (pv 10) pe_int (fun _ _ => rfl)) (by
            rintro σ H Q ⟨p, one, other, h10, ⟨es, he, ln, al⟩, h14, q⟩
            obtain ⟨a, ea, ha⟩ := al 5 es[5] (List.getElem?_eq_getElem (by omega))
            exact ⟨_, h10, p, es, 5, es[5], rfl, rfl, SqL.of he, atI_nat (j := 5) (List.getElem?_eq_getElem (by omega)), by rw [ea]; exact q a ha⟩))) (pa_cons (pe_strErrG (C := c 7) G7 (show Calm _ from calm) r3 h7 i7 b7 (by rfl) ms (pe_imp (tErr c 7) (pe_ix ix_list (pv 10) pe_int (fun _ _ => rfl)) (by
            rintro σ H Q ⟨p, one, other, h10, ⟨es, he, ln, al⟩, h14, q⟩
            obtain ⟨a, ea, ha⟩ := al 7 es[7] (List.getElem?_eq_getElem (by omega))
            exact ⟨_, h10, p, es, 7, es[7], rfl, rfl, SqL.of he, atI_nat (j := 7) (List.getElem?_eq_getElem (by omega)), by rw [ea]; exact q a ha⟩))) (pa_cons (pe_strErrG (C := c 9) G9 (show Calm _ from calm) r3 h9 i9 b9 (by rfl) ms (pe_imp (tErr c 9) (pe_ix ix_list (pv 10) pe_int (fun _ _ => rfl)) (by
            rintro σ H Q ⟨p, one, other, h10, ⟨es, he, ln, al⟩, h14, q⟩
            obtain ⟨a, ea, ha⟩ := al 9 es[9] (List.getElem?_eq_getElem (by omega))
            exact ⟨_, h10, p, es, 9, es[9], rfl, rfl, SqL.of he, atI_nat (j := 9) (List.getElem?_eq_getElem (by omega)), by rw [ea]; exact q a ha⟩))) pa_nil)))))
        (pss_one (ps_if (pt_cmpR (op_neSame (room1 hr)) (pv 13) (pe_lst (pa_cons (pe_op op_add_str pe_str (pe_callTy (call_strD (show Calm _ from calm) (room_show hr)) (by rfl) ms PyProof.Rows.boot_str (pa_cons (pv 4) pa_nil))) (pa_cons (pe_op op_add_str pe_str (pe_callB (call_show (show Calm _ from calm) (room_show hr)) (by rfl) mr (by decide +kernel) (pa_cons (pv 4) pa_nil))) (pa_cons (pe_op op_add_str pe_str (pe_callTy (call_strD (show Calm _ from calm) (room_show hr)) (by rfl) ms PyProof.Rows.boot_str (pa_cons (pv 4) pa_nil))) pa_nil)))) (by rfl)) (pss_one (ps_ret pe_bl)) pss_nil)))))))))))))
      (pss_one (ps_ret pe_bl)), ?_⟩
    refine ⟨_, rfl, by show 1 ≤ sizeLine; decide, fun l hl => ?_⟩
    have s2 := same_upd (o := .lst [.int 0]) hl
    refine ⟨a, l, ns.map V.int, [.int 0], rfl, rfl, s2.seq hS, SqL.of upd_same, by rw [List.length_map, sizeLine_eq]; show ns.length + 1 ≤ _; omega, fun m hm => ?_⟩
    refine ⟨63, rfl, m, _, rfl, SqL.of upd_same, fun n hn => ?_⟩
    refine ⟨n, _, rfl, SqL.of upd_same, ?_⟩
    generalize hcut : cutV (ns.map V.int ++ [V.int 0]) none (some 63) = cut
    have cutI : ∀ x ∈ cut, ∃ i : Int, x = V.int i := fun x hx => by
      rw [← hcut] at hx
      exact cut_int hx
    have cutL : cut.length ≤ 64 := by
      have h := cutV_length (ns.map V.int ++ [V.int 0]) none (some 63)
      rw [hcut, List.length_append, List.length_map, List.length_singleton] at h
      omega
    refine for_it (walk_enum (K := K) (a := n) (xs := cut)) (fun i σ H' => ∃ v1 v2 v3 v4 v5 v6 v7 v8 v9 v10 v11 v12 v13 v14, σ = [some (.ref a), v1, v2, v3, v4, v5, v6, v7, v8, v9, v10, v11, v12, v13, v14] ∧ H' n = some (.lst cut)) ⟨_, _, _, _, _, _, _, _, _, _, _, _, _, _, rfl, upd_same⟩ (fun i σ H' _ ⟨_, _, _, _, _, _, _, _, _, _, _, _, _, _, _, e⟩ => SqL.of e) ?_ ?_
    · rintro i x σ H3 H4 hi ⟨v1, v2, v3, v4, v5, v6, v7, v8, v9, v10, v11, v12, v13, v14, rfl, en⟩ ⟨T0, x1, x2, rfl, nT, rfl, f1, f2⟩
      dsimp only at f1 f2
      obtain ⟨cell, rfl⟩ := cutI x2 (List.mem_of_getElem? f2)
      obtain rfl := Option.some.inj f1
      have sT := same_upd (o := .tup [.int (i : Nat), .int cell]) nT
      have en4 := sT _ _ en
      refine ⟨T0, _, rfl, SqT.of upd_same, rfl, _, _, rfl, _, _, rfl, rfl, ?_⟩
      generalize upd H3 T0 (.tup [.int (i : Nat), .int cell]) = H4 at sT en4 ⊢
      refine ⟨_, rfl, _, rfl, cell, i, rfl, by omega, by omega, fun ps o hps st5 => ?_⟩
      have s5' := same_upd (o := o) hps
      have en5 := s5' _ _ en4
      have nps : n ≠ ps := ne_of_none en4 hps
      generalize upd H4 ps o = H5 at st5 s5' en5 ⊢
      refine ⟨_, rfl, ps, 0, rfl, st5, by decide, by decide, fun one e1 H6 t6 th1 u6 st6 z60 z61 => ?_⟩
      refine ⟨_, rfl, ps, t6, rfl, st6, z60, by omega, fun other e2 H7 t7 th2 u7 st7 z70 z71 => ⟨_, _, rfl, ?_⟩⟩
      have en7 := u7 _ _ nps (u6 _ _ nps en5)
      have th1 := th1.but u7 st6
      refine ⟨_, rfl, _, rfl, one, other, rfl, fun p rs H8 ln R => ?_⟩
      have en8 := R.same _ _ en7
      have th1 := th1.same R.same
      have th2 := th2.same R.same
      refine ⟨_, rfl, p, rfl, ⟨_, SqL.of R.at_⟩, ?_⟩
      refine for_it (walk_list (K := K) (a := p) (xs := rs)) (fun j σ H' => ∃ v7 v8 v9, σ = [some (.ref a), some (.int (i : Nat)), some (.int cell), some (.ref ps), some one, some other, some (.ref p), v7, v8, v9, v10, v11, v12, v13, v14] ∧ Same H8 H') ⟨_, _, _, rfl, Same.refl H8⟩ (fun j σ H' _ ⟨_, _, _, _, e⟩ => SqL.of (e _ _ R.at_)) ?_ ?_
      · rintro j x σ H9 H10 hj ⟨w7, w8, w9, rfl, s9⟩ ⟨rfl, hx⟩
        obtain ⟨t, e, k, rfl, ht, hk, he⟩ := (R.all j x hx).same s9
        refine ⟨t, _, rfl, SqT.of ht, rfl, _, _, rfl, _, _, rfl, _, _, rfl, rfl, ?_⟩
        exact ⟨j, one, other, e, k, by omega, rfl, rfl, rfl, hk, he, fun H10 s10 => iteF ⟨_, _, _, rfl, s9.trans s10⟩⟩
      · rintro σ H9 ⟨w7, w8, w9, rfl, s9⟩
        have en9 := s9 _ _ en8
        have th1 := th1.same s9
        have th2 := th2.same s9
        have R9 : ∀ i r, rs[i]? = some r → RowAt c H9 i one other r := fun i r hi => (R.all i r hi).same s9
        refine ⟨_, rfl, p, rfl, ⟨_, SqL.of (s9 _ _ R.at_)⟩, fun D hD => ?_⟩
        refine lc_it (walk_list (K := K) (a := p) (xs := rs)) (fun j H' => Same H9 H' ∧ ∃ es : List V, es.length = j ∧ H' D = some (.lst es) ∧ ∀ j x, es[j]? = some x → ∃ a, x = .ref a ∧ ErrAt c H9 j one other a) ⟨same_upd hD, [], rfl, upd_same, (fun j x h => by cases h)⟩ (fun j H' _ e => SqL.of (e.1 _ _ (s9 _ _ R.at_))) ?_ ?_
        · rintro j x H10 H11 hj ⟨s10, es, le, hd, al⟩ ⟨rfl, hx⟩
          obtain ⟨t, e, k, rfl, ht, hk, he⟩ := R9 j x hx
          refine ⟨rfl, _, rfl, t, _, 0, .ref e, rfl, rfl, SqT.of (s10 _ _ ht), rfl, es, hd, ?_, ?_, es ++ [.ref e], ?_, upd_same, ?_⟩
          · rw [sizeLine_eq]
            omega
          · intro b o hb
            rw [upd_ne (ne_of_none hb hD)]
            exact s10 b o hb
          · rw [List.length_append, le]
            rfl
          · intro j2 x2 h2
            by_cases z : j2 < es.length
            · rw [List.getElem?_append_left z] at h2
              exact al j2 x2 h2
            · rw [List.getElem?_append_right (by omega)] at h2
              by_cases z2 : j2 = es.length
              · rw [z2, Nat.sub_self] at h2
                cases h2
                rw [z2, le]
                exact ⟨e, rfl, he⟩
              · rw [List.getElem?_eq_none (by simp; omega)] at h2
                cases h2
        · rintro H10 ⟨s10, es, le, hd, al⟩
          have M : MadeAt c H10 D one other := ⟨es, hd, by rw [le, ln], fun i x hi => by
            obtain ⟨a, ea, ha⟩ := al i x hi
            exact ⟨a, ea, ha.same s10⟩⟩
          have en10 := s10 _ _ en9
          have th1 := th1.same s10
          have th2 := th2.same s10
          clear al hd
          refine ⟨D, one, other, _, _, rfl, M, rfl, look1, D, one, other, _, _, rfl, M, rfl, look1, D, one, other, _, _, rfl, M, rfl, look1, D, one, other, _, _, rfl, M, rfl, (look2b (by decide)), D, one, other, _, _, rfl, M, rfl, look2a, D, one, other, _, _, rfl, M, rfl, look1, D, one, other, _, _, rfl, M, rfl, look1, by show 7 ≤ sizeLine; decide, fun p11 n11 => ?_⟩
          have s11 := same_upd (o := .lst [one, one, one, one, other, one, one]) n11
          have g11 : upd H10 p11 (.lst [one, one, one, one, other, one, one]) p11 = some (.lst [one, one, one, one, other, one, one]) := upd_same
          show tSeq _ _ _ _ (upd H10 p11 (.lst [one, one, one, one, other, one, one]))
          generalize upd H10 p11 (.lst [one, one, one, one, other, one, one]) = H11 at s11 g11
          have M := M.same s11
          refine ⟨_, rfl, D, one, other, _, _, rfl, M, rfl, look1, D, one, other, _, _, rfl, M, rfl, look1, D, one, other, _, _, rfl, M, rfl, look1, D, one, other, _, _, rfl, M, rfl, (look2b (by decide)), D, one, other, _, _, rfl, M, rfl, look2a, D, one, other, _, _, rfl, M, rfl, look1, by show 6 ≤ sizeLine; decide, fun q11 m11 => ?_⟩
          have s12 := same_upd (o := .lst [one, one, one, one, other, one]) m11
          refine ⟨p11, q11, [one, one, one, one, other, one, one], [one, one, one, one, other, one], rfl, rfl, s12 _ _ g11, upd_same, by show 13 ≤ sizeLine; decide, fun p12 n12 => ?_⟩
          have s13 := s12.trans (same_upd (o := .lst [one, one, one, one, other, one, one, one, one, one, one, other, one]) n12)
          have g12 : upd (upd H11 q11 (.lst [one, one, one, one, other, one])) p12 (.lst [one, one, one, one, other, one, one, one, one, one, one, other, one]) p12 = some (.lst [one, one, one, one, other, one, one, one, one, one, one, other, one]) := upd_same
          show tSeq _ _ _ _ (upd (upd H11 q11 (.lst [one, one, one, one, other, one])) p12 (.lst [one, one, one, one, other, one, one, one, one, one, one, other, one]))
          generalize upd (upd H11 q11 (.lst [one, one, one, one, other, one])) p12 (.lst [one, one, one, one, other, one, one, one, one, one, one, other, one]) = H12 at s13 g12
          refine ⟨_, rfl, _, rfl, _, rfl, _, rfl, _, rfl, _, rfl, _, rfl, _, rfl, _, rfl, _, rfl, _, rfl, _, rfl, _, rfl, by show 13 ≤ sizeLine; decide, fun p13 n13 => ?_⟩
          have s14 := same_upd (o := .lst [one, one, one, one, other, one, one, one, one, one, one, other, one]) n13
          have g13 : upd H12 p13 (.lst [one, one, one, one, other, one, one, one, one, one, one, other, one]) p13 = some (.lst [one, one, one, one, other, one, one, one, one, one, one, other, one]) := upd_same
          have g12 := s14 _ _ g12
          show tSeq _ _ _ _ (upd H12 p13 (.lst [one, one, one, one, other, one, one, one, one, one, one, other, one]))
          generalize upd H12 p13 (.lst [one, one, one, one, other, one, one, one, one, one, one, other, one]) = H13 at s14 g12 g13
          have sA : Same H10 H13 := (s11.trans s13).trans s14
          have th1 := th1.same sA
          have th2 := th2.same sA
          have sl : ShowsL K H13 [one, one, one, one, other, one, one, one, one, one, one, other, one] [e1, e1, e1, e1, e2, e1, e1, e1, e1, e1, e1, e2, e1] (2002 * 13) 1 := Th3.all [one, one, one, one, other, one, one, one, one, one, one, other, one] [e1, e1, e1, e1, e2, e1, e1, e1, e1, e1, e1, e2, e1] rfl (fun p hp => by
            simp only [List.zip_cons_cons, List.zip_nil_right, List.mem_cons, List.not_mem_nil, or_false] at hp
            rcases hp with rfl | rfl | rfl | rfl | rfl | rfl | rfl | rfl | rfl | rfl | rfl | rfl | rfl
            · exact th1
            · exact th1
            · exact th1
            · exact th1
            · exact th2
            · exact th1
            · exact th1
            · exact th1
            · exact th1
            · exact th1
            · exact th1
            · exact th2
            · exact th1)
          have h12 := sl.lst g12 (by decide) (by decide)
          have h13 := sl.lst g13 (by decide) (by decide)
          refine ⟨_, rfl, _, _, rfl, h12.dq, h12.sh, h12.dp, h12.sz, _, rfl, _, _, rfl, h13.dq, h13.sh, h13.dp, h13.sz, rfl, _, rfl, iteF' (by simp) ?_⟩
          obtain ⟨ks, kd, ek⟩ := C.kdB
          intro eB neB
          have s15 := same_upd (o := ExH (.ref cB) none eB) neB
          refine ⟨eB, cB, none, ks, rfl, upd_same, .inl rfl, C.exB, kd, fun lB H15 s16 hlB => ⟨by show 1 ≤ sizeLine; decide, fun lC nC => ?_⟩⟩
          have s17 := same_upd (o := .lst [.str "bank"]) nC
          rw [ek] at hlB
          refine ⟨lB, lC, [.str "bank"], rfl, rfl, SqL.of (s17 _ _ hlB), SqL.of upd_same, (flat_map [("bank" : String)]), _, rfl, iteF ?_⟩
          have sB : Same H13 (upd H15 lC (.lst [.str "bank"])) := (s15.trans s16).trans s17
          generalize upd H15 lC (.lst [.str "bank"]) = H16 at sB
          have th1 := th1.same sB
          have M := M.same ((s13.trans s14).trans sB)
          have td := th1.told (K := K)
          refine ⟨D, one, other, rfl, M, by decide, fun a5 y5 => ?_⟩
          obtain ⟨dd5, g5, x5⟩ := y5.flds rfl
          refine ⟨a5, some dd5, rfl, g5, .inr ⟨dd5, _, rfl, x5⟩, a5, c 5, dd5, one, e1, rfl, g5, C.ex 5 (by decide), N5part, x5, td.1, ⟨_, rfl⟩, ?_⟩
          refine ⟨D, one, other, rfl, M, by decide, fun a7 y7 => ?_⟩
          obtain ⟨dd7, g7, x7⟩ := y7.flds rfl
          refine ⟨a7, some dd7, rfl, g7, .inr ⟨dd7, _, rfl, x7⟩, a7, c 7, dd7, one, e1, rfl, g7, C.ex 7 (by decide), N7name, x7, td.1, ⟨_, rfl⟩, ?_⟩
          refine ⟨D, one, other, rfl, M, by decide, fun a9 y9 => ?_⟩
          obtain ⟨dd9, g9, x9⟩ := y9.flds rfl
          refine ⟨a9, some dd9, rfl, g9, .inr ⟨dd9, _, rfl, x9⟩, a9, c 9, dd9, one, e1, rfl, g9, C.ex 9 (by decide), N9most, x9, td.1, ⟨_, rfl⟩, ?_⟩
          refine ⟨by show 3 ≤ sizeLine; decide, fun pt npt => ?_⟩
          have s18 := same_upd (o := .lst [.str ("bad " ++ dStr e1), .str ("nothing called " ++ e1.shown), .str ("more than " ++ dStr e1)]) npt
          have gt : upd H16 pt (.lst [.str ("bad " ++ dStr e1), .str ("nothing called " ++ e1.shown), .str ("more than " ++ dStr e1)]) pt = some (.lst [.str ("bad " ++ dStr e1), .str ("nothing called " ++ e1.shown), .str ("more than " ++ dStr e1)]) := upd_same
          show tSeq _ _ _ _ (upd H16 pt (.lst [.str ("bad " ++ dStr e1), .str ("nothing called " ++ e1.shown), .str ("more than " ++ dStr e1)]))
          generalize upd H16 pt (.lst [.str ("bad " ++ dStr e1), .str ("nothing called " ++ e1.shown), .str ("more than " ++ dStr e1)]) = H17 at s18 gt
          have td := (th1.same s18).told (K := K)
          refine ⟨_, rfl, _, rfl, one, e1, rfl, td.1, _, _, rfl, rfl, by rw [sizeLine_eq, show ((("bad " : String) : Str)).length = 4 by decide +kernel]; have := td.1.st; omega, _, rfl, one, e1, rfl, .of td.1.dp td.1.nd, td.1.sh, by have := td.1.de; omega, le_line td.1.sz, _, _, rfl, rfl, by rw [sizeLine_eq, show ((("nothing called " : String) : Str)).length = 15 by decide +kernel]; have := td.1.sz; omega, _, rfl, one, e1, rfl, td.1, _, _, rfl, rfl, by rw [sizeLine_eq, show ((("more than " : String) : Str)).length = 10 by decide +kernel]; have := td.1.st; omega, by show 3 ≤ sizeLine; decide, fun pl npl => ?_⟩
          have s19 := same_upd (o := .lst [.str ("bad " ++ dStr e1), .str ("nothing called " ++ e1.shown), .str ("more than " ++ dStr e1)]) npl
          refine ⟨pt, pl, [.str ("bad " ++ dStr e1), .str ("nothing called " ++ e1.shown), .str ("more than " ++ dStr e1)], rfl, rfl, SqL.of (s19 _ _ gt), SqL.of upd_same, (flat_map ["bad " ++ dStr e1, "nothing called " ++ e1.shown, "more than " ++ dStr e1]), _, rfl, iteF ?_⟩
          exact ⟨_, _, _, _, _, _, _, _, _, _, _, _, _, _, rfl, s19 _ _ (s18 _ _ (sB _ _ (sA _ _ en10)))⟩
    · rintro σ H2 ⟨v1, v2, v3, v4, v5, v6, v7, v8, v9, v10, v11, v12, v13, v14, rfl, e⟩
      exact q H2
end
end Pk
namespace Pk
open PySem L2
/-! ### what the top has left -/
def kitsB (K : PySem.W.Frag) (c : Nat → Addr) (D : Addr) (bs : Nat → Bool) : Bool := (List.range 14).all fun i => PySem.W.kitOne K (.ref D) (.ref (c i)) == some (bs i)
theorem kits_of {K : PySem.W.Frag} {c : Nat → Addr} {D : Addr} {bs : Nat → Bool} (h : kitsB K c D bs = true) : Kits K c D bs := fun i hi => beq_iff_eq.mp (List.all_eq_true.mp h i (List.mem_range.mpr hi))
def pick (l : List Addr) : Nat → Addr := fun i => l.getD i 0
def pickB (l : List Bool) : Nat → Bool := fun i => l.getD i false
def isNone : Option (Option Value) → Bool
  | some none => true
  | _ => false
theorem isNone_of {x : Option (Option Value)} (h : isNone x = true) : x = some none := by
  cases x with
  | none => cases h
  | some y =>
    cases y with
    | none => rfl
    | some z => cases h
def isBlt (s : String) : Option (Option Value) → Bool
  | some (some (.builtin b)) => decide (b = s)
  | _ => false
theorem isBlt_of {s : String} {x : Option (Option Value)} (h : isBlt s x = true) : x = some (some (.builtin s)) := by
  unfold isBlt at h
  split at h
  · rw [of_decide_eq_true h]
  · cases h
def isTyp (s : String) : Option Value → Bool
  | some (.type b) => decide (b = s)
  | _ => false
theorem isTyp_of {s : String} {x : Option Value} (h : isTyp s x = true) : x = some (.type s) := by
  unfold isTyp at h
  split at h
  · rw [of_decide_eq_true h]
  · cases h
/-- a class of errors, by one look -/
def excB (K : PySem.W.Frag) (D : Addr) : Bool := isBlt "BaseException.__getattribute__" (PySem.W.findIn K (.ref D) "__getattribute__") && (isNone (PySem.W.findIn K (.ref D) "__getattr__") && (PySem.W.subIn K (.ref D) (.type "BaseException") == some true && (PySem.W.hasDictIn K D && (isBlt "object.__class__" (PySem.W.findIn K (.ref D) "__class__") && (PySem.W.mroIn K D (.type "object") == some true && (isBlt "object.__setattr__" (PySem.W.findIn K (.ref D) "__setattr__") && (PySem.W.keepIn K (.ref D) && (isTyp "type" (PySem.W.typeIn K (.ref D)) && PySem.W.kitOne K (.ref D) (.type "Exception") == some true))))))))
structure ExcK (K : PySem.W.Frag) (D : Addr) : Prop where
  h1 : PySem.W.findIn K (.ref D) "__getattribute__" = some (some (.builtin "BaseException.__getattribute__"))
  h2 : PySem.W.findIn K (.ref D) "__getattr__" = some none
  h3 : PySem.W.subIn K (.ref D) (.type "BaseException") = some true
  h4 : PySem.W.hasDictIn K D = true
  h5 : PySem.W.findIn K (.ref D) "__class__" = some (some (.builtin "object.__class__"))
  h8 : PySem.W.mroIn K D (.type "object") = some true
  sa : PySem.W.findIn K (.ref D) "__setattr__" = some (some (.builtin "object.__setattr__"))
  kp : PySem.W.keepIn K (.ref D) = true
  ty : PySem.W.typeIn K (.ref D) = some (.type "type")
  xx : PySem.W.kitOne K (.ref D) (.type "Exception") = some true
theorem exc_of {K : PySem.W.Frag} {D : Addr} (h : excB K D = true) : ExcK K D := by
  unfold excB at h
  simp only [Bool.and_eq_true] at h
  obtain ⟨a1, a2, a3, a4, a5, a6, a7, a8, a9, a10⟩ := h
  exact ⟨isBlt_of a1, isNone_of a2, beq_iff_eq.mp a3, a4, isBlt_of a5, beq_iff_eq.mp a6, isBlt_of a7, a8, isTyp_of a9, beq_iff_eq.mp a10⟩

def kdB (K : PySem.W.Frag) (cB D : Addr) (ks : Nat → Bool) : Bool := (PySem.W.kitOne K (.ref D) (.type "ValueError") == some (ks 0)) && ((PySem.W.kitOne K (.ref D) (.type "KeyError") == some (ks 1)) && ((PySem.W.kitOne K (.ref D) (.type "IndexError") == some (ks 2)) && ((PySem.W.kitOne K (.ref D) (.type "LookupError") == some (ks 3)) && ((PySem.W.kitOne K (.ref D) (.type "OverflowError") == some (ks 4)) && ((PySem.W.kitOne K (.ref D) (.type "ArithmeticError") == some (ks 5)) && ((PySem.W.kitOne K (.ref D) (.type "ZeroDivisionError") == some (ks 6)) && ((PySem.W.kitOne K (.ref D) (.type "TypeError") == some (ks 7)) && ((PySem.W.kitOne K (.ref D) (.type "RuntimeError") == some (ks 8)) && (PySem.W.kitOne K (.ref D) (.ref cB) == some (ks 9))))))))))
theorem kd_of {K : PySem.W.Frag} {cB D : Addr} {ks : Nat → Bool} (h : kdB K cB D ks = true) : Kd K cB D ks := by
  unfold kdB at h
  simp only [Bool.and_eq_true] at h
  obtain ⟨a0, a1, a2, a3, a4, a5, a6, a7, a8, a9⟩ := h
  exact ⟨beq_iff_eq.mp a0, beq_iff_eq.mp a1, beq_iff_eq.mp a2, beq_iff_eq.mp a3, beq_iff_eq.mp a4, beq_iff_eq.mp a5, beq_iff_eq.mp a6, beq_iff_eq.mp a7, beq_iff_eq.mp a8, beq_iff_eq.mp a9⟩
theorem el_Exception : ErrLine "Exception" [.type "Exception", .type "BaseException", .type "object"] := ⟨⟨by decide +kernel, by decide +kernel, by decide +kernel⟩, F.store_Exception.passes, by decide +kernel⟩
theorem el_ValueError : ErrLine "ValueError" [.type "ValueError", .type "Exception", .type "BaseException", .type "object"] := ⟨⟨by decide +kernel, by decide +kernel, by decide +kernel⟩, F.store_ValueError.passes, by decide +kernel⟩
theorem el_IndexError : ErrLine "IndexError" [.type "IndexError", .type "LookupError", .type "Exception", .type "BaseException", .type "object"] := ⟨⟨by decide +kernel, by decide +kernel, by decide +kernel⟩, F.store_IndexError.passes, by decide +kernel⟩
theorem el_OverflowError : ErrLine "OverflowError" [.type "OverflowError", .type "ArithmeticError", .type "Exception", .type "BaseException", .type "object"] := ⟨⟨by decide +kernel, by decide +kernel, by decide +kernel⟩, F.store_OverflowError.passes, by decide +kernel⟩
theorem el_TypeError : ErrLine "TypeError" [.type "TypeError", .type "Exception", .type "BaseException", .type "object"] := ⟨⟨by decide +kernel, by decide +kernel, by decide +kernel⟩, F.store_TypeError.passes, by decide +kernel⟩
theorem el_LookupError : ErrLine "LookupError" [.type "LookupError", .type "Exception", .type "BaseException", .type "object"] := ⟨⟨by decide +kernel, by decide +kernel, by decide +kernel⟩, F.store_LookupError.passes, by decide +kernel⟩
theorem el_RuntimeError : ErrLine "RuntimeError" [.type "RuntimeError", .type "Exception", .type "BaseException", .type "object"] := ⟨⟨by decide +kernel, by decide +kernel, by decide +kernel⟩, F.store_RuntimeError.passes, by decide +kernel⟩
theorem el_KeyError : ErrLine "LookupError" [.type "KeyError", .type "LookupError", .type "Exception", .type "BaseException", .type "object"] := ⟨ky_line, fun self => by kernel_rfl, by decide +kernel⟩
theorem all_mk {l : PySem.W.OpenLaw} {w : World} {K : PySem.W.Frag} {h : Heap} {mg : Str → Option Value} {fa cB fI0 fI1 fI2 fI3 fI5 fI7 fI8 fI9 fI10 fI11 fI13 fS5 fS7 fS9 c0 c1 c2 c3 c4 c5 c6 c7 c8 c9 c10 c11 c12 c13 f1 f2 f3 f4 f5 f6 f7 f8 f9 : Addr} (X : K.In h) (G : h.Ns mainGlobals mg) (hfa : mg "law" = some (.ref fa))
    {od1 an1 od2 an2 od3 an3 od4 an4 od5 an5 od6 an6 od7 an7 od8 an8 od9 an9 odS5 anS5 odS7 anS7 odS9 anS9 odI0 anI0 odI1 anI1 odI2 anI2 odI3 anI3 odI5 anI5 odI7 anI7 odI8 anI8 odI9 anI9 odI10 anI10 odI11 anI11 odI13 anI13 : Option Addr} {sl1 sl2 sl3 sl4 sl5 sl6 sl7 sl8 sl9 slS5 slS7 slS9 slI0 slI1 slI2 slI3 slI5 slI7 slI8 slI9 slI10 slI11 slI13 : Array (Option Value)} {oc1 kV1 dc1 pm1 cd1 ct1 oc2 kV2 dc2 pm2 cd2 ct2 oc3 kV3 dc3 pm3 cd3 ct3 oc4 kV4 dc4 pm4 cd4 ct4 oc5 kV5 dc5 pm5 cd5 ct5 oc6 kV6 dc6 pm6 cd6 ct6 oc7 kV7 dc7 pm7 cd7 ct7 oc8 kV8 dc8 pm8 cd8 ct8 oc9 kV9 dc9 pm9 cd9 ct9 ocS5 kVS5 dcS5 pmS5 cdS5 ctS5 ocS7 kVS7 dcS7 pmS7 cdS7 ctS7 ocS9 kVS9 dcS9 pmS9 cdS9 ctS9 ocI0 dcI0 pmI0 cdI0 ctI0 ocI1 dcI1 pmI1 cdI1 ctI1 ocI2 dcI2 pmI2 cdI2 ctI2 ocI3 dcI3 pmI3 cdI3 ctI3 ocI5 dcI5 pmI5 cdI5 ctI5 ocI7 dcI7 pmI7 cdI7 ctI7 ocI8 dcI8 pmI8 cdI8 ctI8 ocI9 dcI9 pmI9 cdI9 ctI9 ocI10 dcI10 pmI10 cdI10 ctI10 ocI11 dcI11 pmI11 cdI11 ctI11 ocI13 dcI13 pmI13 cdI13 ctI13 : Value}
    {nmI0 qI0 : Str} {NI0 : Addr} {bsI0 : List Value} {snI0 : List Str} {subI0 : List Value} {abI0 : Bool} {colI0 : Option Bool} {ddI0 : Option Addr} {m0I0 m1I0 m2I0 m3I0 m5I0 : Option Value} {nmI1 qI1 : Str} {NI1 : Addr} {bsI1 : List Value} {snI1 : List Str} {subI1 : List Value} {abI1 : Bool} {colI1 : Option Bool} {ddI1 : Option Addr} {m0I1 m1I1 m2I1 m3I1 m5I1 : Option Value} {nmI2 qI2 : Str} {NI2 : Addr} {bsI2 : List Value} {snI2 : List Str} {subI2 : List Value} {abI2 : Bool} {colI2 : Option Bool} {ddI2 : Option Addr} {m0I2 m1I2 m2I2 m3I2 m5I2 : Option Value} {nmI3 qI3 : Str} {NI3 : Addr} {bsI3 : List Value} {snI3 : List Str} {subI3 : List Value} {abI3 : Bool} {colI3 : Option Bool} {ddI3 : Option Addr} {m0I3 m1I3 m2I3 m3I3 m5I3 : Option Value} {nmI5 qI5 : Str} {NI5 : Addr} {bsI5 : List Value} {snI5 : List Str} {subI5 : List Value} {abI5 : Bool} {colI5 : Option Bool} {ddI5 : Option Addr} {m0I5 m1I5 m2I5 m3I5 m5I5 : Option Value} {nmI7 qI7 : Str} {NI7 : Addr} {bsI7 : List Value} {snI7 : List Str} {subI7 : List Value} {abI7 : Bool} {colI7 : Option Bool} {ddI7 : Option Addr} {m0I7 m1I7 m2I7 m3I7 m5I7 : Option Value} {nmI8 qI8 : Str} {NI8 : Addr} {bsI8 : List Value} {snI8 : List Str} {subI8 : List Value} {abI8 : Bool} {colI8 : Option Bool} {ddI8 : Option Addr} {m0I8 m1I8 m2I8 m3I8 m5I8 : Option Value} {nmI9 qI9 : Str} {NI9 : Addr} {bsI9 : List Value} {snI9 : List Str} {subI9 : List Value} {abI9 : Bool} {colI9 : Option Bool} {ddI9 : Option Addr} {m0I9 m1I9 m2I9 m3I9 m5I9 : Option Value} {nmI10 qI10 : Str} {NI10 : Addr} {bsI10 : List Value} {snI10 : List Str} {subI10 : List Value} {abI10 : Bool} {colI10 : Option Bool} {ddI10 : Option Addr} {m0I10 m1I10 m2I10 m3I10 m5I10 : Option Value} {nmI11 qI11 : Str} {NI11 : Addr} {bsI11 : List Value} {snI11 : List Str} {subI11 : List Value} {abI11 : Bool} {colI11 : Option Bool} {ddI11 : Option Addr} {m0I11 m1I11 m2I11 m3I11 m5I11 : Option Value} {nmI13 qI13 : Str} {NI13 : Addr} {bsI13 : List Value} {snI13 : List Str} {subI13 : List Value} {abI13 : Bool} {colI13 : Option Bool} {ddI13 : Option Addr} {m0I13 m1I13 m2I13 m3I13 m5I13 : Option Value}
    (gB : PySem.W.nsIn K mainGlobals "BankError" = some (some (.ref cB)))
    (g0 : PySem.W.nsIn K mainGlobals "BadWish" = some (some (.ref c0)))
    (g1 : PySem.W.nsIn K mainGlobals "BadPaper" = some (some (.ref c1)))
    (g2 : PySem.W.nsIn K mainGlobals "BadSheet" = some (some (.ref c2)))
    (g3 : PySem.W.nsIn K mainGlobals "BadLine" = some (some (.ref c3)))
    (g4 : PySem.W.nsIn K mainGlobals "Gone" = some (some (.ref c4)))
    (g5 : PySem.W.nsIn K mainGlobals "BadQuestion" = some (some (.ref c5)))
    (g6 : PySem.W.nsIn K mainGlobals "BadText" = some (some (.ref c6)))
    (g7 : PySem.W.nsIn K mainGlobals "NoSuch" = some (some (.ref c7)))
    (g8 : PySem.W.nsIn K mainGlobals "NoPlace" = some (some (.ref c8)))
    (g9 : PySem.W.nsIn K mainGlobals "TooMany" = some (some (.ref c9)))
    (g10 : PySem.W.nsIn K mainGlobals "BadKind" = some (some (.ref c10)))
    (g11 : PySem.W.nsIn K mainGlobals "Unmet" = some (some (.ref c11)))
    (g12 : PySem.W.nsIn K mainGlobals "NoAnswers" = some (some (.ref c12)))
    (g13 : PySem.W.nsIn K mainGlobals "Twice" = some (some (.ref c13)))
    (e6 : PySem.W.specialIn K (.builtin "object.__class__") "__get__" = some (some (.builtin "getset_descriptor.__get__")))
    (e7 : PySem.W.takesIn K (.builtin "object.__class__") = some true)
    (xkB : excB K cB = true)
    (kdB_ : kdB K cB cB (pickB [false, false, false, false, false, false, false, false, false, true]) = true)
    (xB : PySem.W.excIn K cB [.type "Exception", .type "BaseException", .type "object"] "Exception.__new__" = true)
    (xk0 : excB K c0 = true)
    (kt0 : kitsB K (pick [c0, c1, c2, c3, c4, c5, c6, c7, c8, c9, c10, c11, c12, c13]) c0 (fun i => decide (i = 0)) = true)
    (kd0 : kdB K cB c0 (pickB [false, false, false, false, false, false, false, false, false, true]) = true)
    (xL0 : K.lookup c0 = some (excClassObj nmI0 qI0 c0 NI0 bsI0 (.ref cB :: [.type "Exception", .type "BaseException", .type "object"]) true snI0 subI0 abI0 colI0 ddI0 m0I0 m1I0 m2I0 m3I0 m5I0 "Exception.__new__"))
    (nb0at : PySem.W.findIn K (.ref c0) "at" = some none)
    (aI0 : PySem.W.findIn K (.ref c0) "__init__" = some (some (.ref fI0)))
    (tI0 : PySem.W.typeIn K (.ref fI0) = some (.type "function"))
    (lI0 : K.lookup fI0 = some ⟨ocI0, odI0, .func (PySem.W.fnOf "__init__" "BadWish.__init__" (Of_at.iA ⟨6, 17, 6, 21⟩ ⟨6, 23, 6, 25⟩) (Of_at.iB ⟨7, 8, 7, 12⟩ ⟨7, 8, 7, 15⟩ ⟨7, 18, 7, 20⟩ ⟨7, 8, 7, 20⟩) Of_at.iS .none .none dcI0 pmI0 anI0 cdI0 ctI0), slI0⟩)
    (qI0_ : PySem.W.codeIn K cdI0 "BadWish.__init__" = true)
    (xk1 : excB K c1 = true)
    (kt1 : kitsB K (pick [c0, c1, c2, c3, c4, c5, c6, c7, c8, c9, c10, c11, c12, c13]) c1 (fun i => decide (i = 1)) = true)
    (kd1 : kdB K cB c1 (pickB [false, false, false, false, false, false, false, false, false, true]) = true)
    (xL1 : K.lookup c1 = some (excClassObj nmI1 qI1 c1 NI1 bsI1 (.ref cB :: [.type "Exception", .type "BaseException", .type "object"]) true snI1 subI1 abI1 colI1 ddI1 m0I1 m1I1 m2I1 m3I1 m5I1 "Exception.__new__"))
    (nb1at : PySem.W.findIn K (.ref c1) "at" = some none)
    (aI1 : PySem.W.findIn K (.ref c1) "__init__" = some (some (.ref fI1)))
    (tI1 : PySem.W.typeIn K (.ref fI1) = some (.type "function"))
    (lI1 : K.lookup fI1 = some ⟨ocI1, odI1, .func (PySem.W.fnOf "__init__" "BadPaper.__init__" (Of_at.iA ⟨10, 17, 10, 21⟩ ⟨10, 23, 10, 25⟩) (Of_at.iB ⟨11, 8, 11, 12⟩ ⟨11, 8, 11, 15⟩ ⟨11, 18, 11, 20⟩ ⟨11, 8, 11, 20⟩) Of_at.iS .none .none dcI1 pmI1 anI1 cdI1 ctI1), slI1⟩)
    (qI1_ : PySem.W.codeIn K cdI1 "BadPaper.__init__" = true)
    (xk2 : excB K c2 = true)
    (kt2 : kitsB K (pick [c0, c1, c2, c3, c4, c5, c6, c7, c8, c9, c10, c11, c12, c13]) c2 (fun i => decide (i = 2)) = true)
    (kd2 : kdB K cB c2 (pickB [false, false, false, false, false, false, false, false, false, true]) = true)
    (xL2 : K.lookup c2 = some (excClassObj nmI2 qI2 c2 NI2 bsI2 (.ref cB :: [.type "Exception", .type "BaseException", .type "object"]) true snI2 subI2 abI2 colI2 ddI2 m0I2 m1I2 m2I2 m3I2 m5I2 "Exception.__new__"))
    (nb2at : PySem.W.findIn K (.ref c2) "at" = some none)
    (aI2 : PySem.W.findIn K (.ref c2) "__init__" = some (some (.ref fI2)))
    (tI2 : PySem.W.typeIn K (.ref fI2) = some (.type "function"))
    (lI2 : K.lookup fI2 = some ⟨ocI2, odI2, .func (PySem.W.fnOf "__init__" "BadSheet.__init__" (Of_at.iA ⟨14, 17, 14, 21⟩ ⟨14, 23, 14, 25⟩) (Of_at.iB ⟨15, 8, 15, 12⟩ ⟨15, 8, 15, 15⟩ ⟨15, 18, 15, 20⟩ ⟨15, 8, 15, 20⟩) Of_at.iS .none .none dcI2 pmI2 anI2 cdI2 ctI2), slI2⟩)
    (qI2_ : PySem.W.codeIn K cdI2 "BadSheet.__init__" = true)
    (xk3 : excB K c3 = true)
    (kt3 : kitsB K (pick [c0, c1, c2, c3, c4, c5, c6, c7, c8, c9, c10, c11, c12, c13]) c3 (fun i => decide (i = 3)) = true)
    (kd3 : kdB K cB c3 (pickB [false, false, false, false, false, false, false, false, false, true]) = true)
    (xL3 : K.lookup c3 = some (excClassObj nmI3 qI3 c3 NI3 bsI3 (.ref cB :: [.type "Exception", .type "BaseException", .type "object"]) true snI3 subI3 abI3 colI3 ddI3 m0I3 m1I3 m2I3 m3I3 m5I3 "Exception.__new__"))
    (nb3row : PySem.W.findIn K (.ref c3) "row" = some none)
    (nb3word : PySem.W.findIn K (.ref c3) "word" = some none)
    (aI3 : PySem.W.findIn K (.ref c3) "__init__" = some (some (.ref fI3)))
    (tI3 : PySem.W.typeIn K (.ref fI3) = some (.type "function"))
    (lI3 : K.lookup fI3 = some ⟨ocI3, odI3, .func (PySem.W.fnOf "__init__" "BadLine.__init__" (Er_row_word.iA ⟨18, 17, 18, 21⟩ ⟨18, 23, 18, 26⟩ ⟨18, 28, 18, 32⟩) (Er_row_word.iB ⟨19, 8, 19, 12⟩ ⟨19, 8, 19, 16⟩ ⟨19, 19, 19, 22⟩ ⟨19, 8, 19, 22⟩ ⟨20, 8, 20, 12⟩ ⟨20, 8, 20, 17⟩ ⟨20, 20, 20, 24⟩ ⟨20, 8, 20, 24⟩) Er_row_word.iS .none .none dcI3 pmI3 anI3 cdI3 ctI3), slI3⟩)
    (qI3_ : PySem.W.codeIn K cdI3 "BadLine.__init__" = true)
    (xk4 : excB K c4 = true)
    (kt4 : kitsB K (pick [c0, c1, c2, c3, c4, c5, c6, c7, c8, c9, c10, c11, c12, c13]) c4 (fun i => decide (i = 4)) = true)
    (kd4 : kdB K cB c4 (pickB [false, false, false, false, false, false, false, false, false, true]) = true)
    (x4 : PySem.W.excIn K c4 [.type "Exception", .type "BaseException", .type "object"] "Exception.__new__" = true)
    (xk5 : excB K c5 = true)
    (kt5 : kitsB K (pick [c0, c1, c2, c3, c4, c5, c6, c7, c8, c9, c10, c11, c12, c13]) c5 (fun i => decide (i = 5)) = true)
    (kd5 : kdB K cB c5 (pickB [true, false, false, false, false, false, false, false, false, false]) = true)
    (xL5 : K.lookup c5 = some (excClassObj nmI5 qI5 c5 NI5 bsI5 [.type "ValueError", .type "Exception", .type "BaseException", .type "object"] true snI5 subI5 abI5 colI5 ddI5 m0I5 m1I5 m2I5 m3I5 m5I5 "ValueError.__new__"))
    (nb5part : PySem.W.findIn K (.ref c5) "part" = some none)
    (aI5 : PySem.W.findIn K (.ref c5) "__init__" = some (some (.ref fI5)))
    (tI5 : PySem.W.typeIn K (.ref fI5) = some (.type "function"))
    (lI5 : K.lookup fI5 = some ⟨ocI5, odI5, .func (PySem.W.fnOf "__init__" "BadQuestion.__init__" (Of_part.iA ⟨25, 17, 25, 21⟩ ⟨25, 23, 25, 27⟩) (Of_part.iB ⟨26, 8, 26, 12⟩ ⟨26, 8, 26, 17⟩ ⟨26, 20, 26, 24⟩ ⟨26, 8, 26, 24⟩) Of_part.iS .none .none dcI5 pmI5 anI5 cdI5 ctI5), slI5⟩)
    (qI5_ : PySem.W.codeIn K cdI5 "BadQuestion.__init__" = true)
    (xk6 : excB K c6 = true)
    (kt6 : kitsB K (pick [c0, c1, c2, c3, c4, c5, c6, c7, c8, c9, c10, c11, c12, c13]) c6 (fun i => decide (i = 6)) = true)
    (kd6 : kdB K cB c6 (pickB [true, false, false, false, false, false, false, false, false, false]) = true)
    (x6 : PySem.W.excIn K c6 [.type "ValueError", .type "Exception", .type "BaseException", .type "object"] "ValueError.__new__" = true)
    (xk7 : excB K c7 = true)
    (kt7 : kitsB K (pick [c0, c1, c2, c3, c4, c5, c6, c7, c8, c9, c10, c11, c12, c13]) c7 (fun i => decide (i = 7)) = true)
    (kd7 : kdB K cB c7 (pickB [false, true, false, true, false, false, false, false, false, false]) = true)
    (xL7 : K.lookup c7 = some (excClassObj nmI7 qI7 c7 NI7 bsI7 [.type "KeyError", .type "LookupError", .type "Exception", .type "BaseException", .type "object"] true snI7 subI7 abI7 colI7 ddI7 m0I7 m1I7 m2I7 m3I7 m5I7 "LookupError.__new__"))
    (nb7name : PySem.W.findIn K (.ref c7) "name" = some none)
    (aI7 : PySem.W.findIn K (.ref c7) "__init__" = some (some (.ref fI7)))
    (tI7 : PySem.W.typeIn K (.ref fI7) = some (.type "function"))
    (lI7 : K.lookup fI7 = some ⟨ocI7, odI7, .func (PySem.W.fnOf "__init__" "NoSuch.__init__" (Of_name.iA ⟨34, 17, 34, 21⟩ ⟨34, 23, 34, 27⟩) (Of_name.iB ⟨35, 8, 35, 12⟩ ⟨35, 8, 35, 17⟩ ⟨35, 20, 35, 24⟩ ⟨35, 8, 35, 24⟩) Of_name.iS .none .none dcI7 pmI7 anI7 cdI7 ctI7), slI7⟩)
    (qI7_ : PySem.W.codeIn K cdI7 "NoSuch.__init__" = true)
    (xk8 : excB K c8 = true)
    (kt8 : kitsB K (pick [c0, c1, c2, c3, c4, c5, c6, c7, c8, c9, c10, c11, c12, c13]) c8 (fun i => decide (i = 8)) = true)
    (kd8 : kdB K cB c8 (pickB [false, false, true, true, false, false, false, false, false, false]) = true)
    (xL8 : K.lookup c8 = some (excClassObj nmI8 qI8 c8 NI8 bsI8 [.type "IndexError", .type "LookupError", .type "Exception", .type "BaseException", .type "object"] true snI8 subI8 abI8 colI8 ddI8 m0I8 m1I8 m2I8 m3I8 m5I8 "IndexError.__new__"))
    (nb8at : PySem.W.findIn K (.ref c8) "at" = some none)
    (aI8 : PySem.W.findIn K (.ref c8) "__init__" = some (some (.ref fI8)))
    (tI8 : PySem.W.typeIn K (.ref fI8) = some (.type "function"))
    (lI8 : K.lookup fI8 = some ⟨ocI8, odI8, .func (PySem.W.fnOf "__init__" "NoPlace.__init__" (Of_at.iA ⟨41, 17, 41, 21⟩ ⟨41, 23, 41, 25⟩) (Of_at.iB ⟨42, 8, 42, 12⟩ ⟨42, 8, 42, 15⟩ ⟨42, 18, 42, 20⟩ ⟨42, 8, 42, 20⟩) Of_at.iS .none .none dcI8 pmI8 anI8 cdI8 ctI8), slI8⟩)
    (qI8_ : PySem.W.codeIn K cdI8 "NoPlace.__init__" = true)
    (xk9 : excB K c9 = true)
    (kt9 : kitsB K (pick [c0, c1, c2, c3, c4, c5, c6, c7, c8, c9, c10, c11, c12, c13]) c9 (fun i => decide (i = 9)) = true)
    (kd9 : kdB K cB c9 (pickB [false, false, false, false, true, true, false, false, false, false]) = true)
    (xL9 : K.lookup c9 = some (excClassObj nmI9 qI9 c9 NI9 bsI9 [.type "OverflowError", .type "ArithmeticError", .type "Exception", .type "BaseException", .type "object"] true snI9 subI9 abI9 colI9 ddI9 m0I9 m1I9 m2I9 m3I9 m5I9 "OverflowError.__new__"))
    (nb9most : PySem.W.findIn K (.ref c9) "most" = some none)
    (aI9 : PySem.W.findIn K (.ref c9) "__init__" = some (some (.ref fI9)))
    (tI9 : PySem.W.typeIn K (.ref fI9) = some (.type "function"))
    (lI9 : K.lookup fI9 = some ⟨ocI9, odI9, .func (PySem.W.fnOf "__init__" "TooMany.__init__" (Of_most.iA ⟨45, 17, 45, 21⟩ ⟨45, 23, 45, 27⟩) (Of_most.iB ⟨46, 8, 46, 12⟩ ⟨46, 8, 46, 17⟩ ⟨46, 20, 46, 24⟩ ⟨46, 8, 46, 24⟩) Of_most.iS .none .none dcI9 pmI9 anI9 cdI9 ctI9), slI9⟩)
    (qI9_ : PySem.W.codeIn K cdI9 "TooMany.__init__" = true)
    (xk10 : excB K c10 = true)
    (kt10 : kitsB K (pick [c0, c1, c2, c3, c4, c5, c6, c7, c8, c9, c10, c11, c12, c13]) c10 (fun i => decide (i = 10)) = true)
    (kd10 : kdB K cB c10 (pickB [false, false, false, false, false, false, false, true, false, false]) = true)
    (xL10 : K.lookup c10 = some (excClassObj nmI10 qI10 c10 NI10 bsI10 [.type "TypeError", .type "Exception", .type "BaseException", .type "object"] true snI10 subI10 abI10 colI10 ddI10 m0I10 m1I10 m2I10 m3I10 m5I10 "TypeError.__new__"))
    (nb10wanted : PySem.W.findIn K (.ref c10) "wanted" = some none)
    (aI10 : PySem.W.findIn K (.ref c10) "__init__" = some (some (.ref fI10)))
    (tI10 : PySem.W.typeIn K (.ref fI10) = some (.type "function"))
    (lI10 : K.lookup fI10 = some ⟨ocI10, odI10, .func (PySem.W.fnOf "__init__" "BadKind.__init__" (Of_wanted.iA ⟨52, 17, 52, 21⟩ ⟨52, 23, 52, 29⟩) (Of_wanted.iB ⟨53, 8, 53, 12⟩ ⟨53, 8, 53, 19⟩ ⟨53, 22, 53, 28⟩ ⟨53, 8, 53, 28⟩) Of_wanted.iS .none .none dcI10 pmI10 anI10 cdI10 ctI10), slI10⟩)
    (qI10_ : PySem.W.codeIn K cdI10 "BadKind.__init__" = true)
    (xk11 : excB K c11 = true)
    (kt11 : kitsB K (pick [c0, c1, c2, c3, c4, c5, c6, c7, c8, c9, c10, c11, c12, c13]) c11 (fun i => decide (i = 11)) = true)
    (kd11 : kdB K cB c11 (pickB [false, false, false, true, false, false, false, false, false, false]) = true)
    (xL11 : K.lookup c11 = some (excClassObj nmI11 qI11 c11 NI11 bsI11 [.type "LookupError", .type "Exception", .type "BaseException", .type "object"] true snI11 subI11 abI11 colI11 ddI11 m0I11 m1I11 m2I11 m3I11 m5I11 "LookupError.__new__"))
    (nb11lot : PySem.W.findIn K (.ref c11) "lot" = some none)
    (nb11sums : PySem.W.findIn K (.ref c11) "sums" = some none)
    (aI11 : PySem.W.findIn K (.ref c11) "__init__" = some (some (.ref fI11)))
    (tI11 : PySem.W.typeIn K (.ref fI11) = some (.type "function"))
    (lI11 : K.lookup fI11 = some ⟨ocI11, odI11, .func (PySem.W.fnOf "__init__" "Unmet.__init__" (Er_lot_sums.iA ⟨56, 17, 56, 21⟩ ⟨56, 23, 56, 26⟩ ⟨56, 28, 56, 32⟩) (Er_lot_sums.iB ⟨57, 8, 57, 12⟩ ⟨57, 8, 57, 16⟩ ⟨57, 19, 57, 22⟩ ⟨57, 8, 57, 22⟩ ⟨58, 8, 58, 12⟩ ⟨58, 8, 58, 17⟩ ⟨58, 20, 58, 24⟩ ⟨58, 8, 58, 24⟩) Er_lot_sums.iS .none .none dcI11 pmI11 anI11 cdI11 ctI11), slI11⟩)
    (qI11_ : PySem.W.codeIn K cdI11 "Unmet.__init__" = true)
    (xk12 : excB K c12 = true)
    (kt12 : kitsB K (pick [c0, c1, c2, c3, c4, c5, c6, c7, c8, c9, c10, c11, c12, c13]) c12 (fun i => decide (i = 12)) = true)
    (kd12 : kdB K cB c12 (pickB [false, false, false, false, false, true, true, false, false, false]) = true)
    (x12 : PySem.W.excIn K c12 [.type "ZeroDivisionError", .type "ArithmeticError", .type "Exception", .type "BaseException", .type "object"] "ZeroDivisionError.__new__" = true)
    (xk13 : excB K c13 = true)
    (kt13 : kitsB K (pick [c0, c1, c2, c3, c4, c5, c6, c7, c8, c9, c10, c11, c12, c13]) c13 (fun i => decide (i = 13)) = true)
    (kd13 : kdB K cB c13 (pickB [false, false, false, false, false, false, false, false, true, false]) = true)
    (xL13 : K.lookup c13 = some (excClassObj nmI13 qI13 c13 NI13 bsI13 [.type "RuntimeError", .type "Exception", .type "BaseException", .type "object"] true snI13 subI13 abI13 colI13 ddI13 m0I13 m1I13 m2I13 m3I13 m5I13 "RuntimeError.__new__"))
    (nb13name : PySem.W.findIn K (.ref c13) "name" = some none)
    (aI13 : PySem.W.findIn K (.ref c13) "__init__" = some (some (.ref fI13)))
    (tI13 : PySem.W.typeIn K (.ref fI13) = some (.type "function"))
    (lI13 : K.lookup fI13 = some ⟨ocI13, odI13, .func (PySem.W.fnOf "__init__" "Twice.__init__" (Of_name.iA ⟨63, 17, 63, 21⟩ ⟨63, 23, 63, 27⟩) (Of_name.iB ⟨64, 8, 64, 12⟩ ⟨64, 8, 64, 17⟩ ⟨64, 20, 64, 24⟩ ⟨64, 8, 64, 24⟩) Of_name.iS .none .none dcI13 pmI13 anI13 cdI13 ctI13), slI13⟩)
    (qI13_ : PySem.W.codeIn K cdI13 "Twice.__init__" = true)
    (aS5 : PySem.W.findIn K (.ref c5) "__str__" = some (some (.ref fS5)))
    (hS5 : PySem.W.isFn K (.ref fS5) = true)
    (lS5 : K.lookup fS5 = some ⟨ocS5, odS5, .func (PySem.W.fnOf "__str__" "BadQuestion.__str__" (defArgs sBadStr) (defBody sBadStr) (defScope sBadStr) .none kVS5 dcS5 pmS5 anS5 cdS5 ctS5), slS5⟩)
    (qS5_ : PySem.W.codeIn K cdS5 "BadQuestion.__str__" = true)
    (kS5 : PySem.W.keepIn K (.ref fS5) = true)
    (aS7 : PySem.W.findIn K (.ref c7) "__str__" = some (some (.ref fS7)))
    (hS7 : PySem.W.isFn K (.ref fS7) = true)
    (lS7 : K.lookup fS7 = some ⟨ocS7, odS7, .func (PySem.W.fnOf "__str__" "NoSuch.__str__" (defArgs sSuchStr) (defBody sSuchStr) (defScope sSuchStr) .none kVS7 dcS7 pmS7 anS7 cdS7 ctS7), slS7⟩)
    (qS7_ : PySem.W.codeIn K cdS7 "NoSuch.__str__" = true)
    (kS7 : PySem.W.keepIn K (.ref fS7) = true)
    (aS9 : PySem.W.findIn K (.ref c9) "__str__" = some (some (.ref fS9)))
    (hS9 : PySem.W.isFn K (.ref fS9) = true)
    (lS9 : K.lookup fS9 = some ⟨ocS9, odS9, .func (PySem.W.fnOf "__str__" "TooMany.__str__" (defArgs sManyStr) (defBody sManyStr) (defScope sManyStr) .none kVS9 dcS9 pmS9 anS9 cdS9 ctS9), slS9⟩)
    (qS9_ : PySem.W.codeIn K cdS9 "TooMany.__str__" = true)
    (kS9 : PySem.W.keepIn K (.ref fS9) = true)
    (z0 : PySem.W.nsIn K mainGlobals "isinstance" = some none)
    (z1 : PySem.W.nsIn K mainGlobals "zip" = some none)
    (z2 : PySem.W.nsIn K mainGlobals "len" = some none)
    (z3 : PySem.W.nsIn K mainGlobals "range" = some none)
    (z4 : PySem.W.nsIn K mainGlobals "enumerate" = some none)
    (z5 : PySem.W.nsIn K mainGlobals "repr" = some none)
    (z6 : PySem.W.nsIn K mainGlobals "str" = some none)
    (z7 : PySem.W.nsIn K mainGlobals "Exception" = some none)
    (z8 : PySem.W.nsIn K mainGlobals "ValueError" = some none)
    (z9 : PySem.W.nsIn K mainGlobals "KeyError" = some none)
    (z10 : PySem.W.nsIn K mainGlobals "IndexError" = some none)
    (z11 : PySem.W.nsIn K mainGlobals "LookupError" = some none)
    (z12 : PySem.W.nsIn K mainGlobals "OverflowError" = some none)
    (z13 : PySem.W.nsIn K mainGlobals "ArithmeticError" = some none)
    (z14 : PySem.W.nsIn K mainGlobals "ZeroDivisionError" = some none)
    (z15 : PySem.W.nsIn K mainGlobals "TypeError" = some none)
    (z16 : PySem.W.nsIn K mainGlobals "RuntimeError" = some none)
    (a1 : PySem.W.nsIn K mainGlobals "_law_mixed" = some (some (.ref f1)))
    (l1 : K.lookup f1 = some ⟨oc1, od1, .func (PySem.W.fnOf "_law_mixed" "_law_mixed" (defArgs sMixed) (defBody sMixed) (defScope sMixed) .none kV1 dc1 pm1 an1 cd1 ct1), sl1⟩)
    (q1 : PySem.W.codeIn K cd1 "_law_mixed" = true)
    (k1 : PySem.W.keepIn K (.ref f1) = true)
    (a2 : PySem.W.nsIn K mainGlobals "_law_stream" = some (some (.ref f2)))
    (l2 : K.lookup f2 = some ⟨oc2, od2, .func (PySem.W.fnOf "_law_stream" "_law_stream" (defArgs sStream) (defBody sStream) (defScope sStream) .none kV2 dc2 pm2 an2 cd2 ct2), sl2⟩)
    (q2 : PySem.W.codeIn K cd2 "_law_stream" = true)
    (k2 : PySem.W.keepIn K (.ref f2) = true)
    (a3 : PySem.W.nsIn K mainGlobals "_law_take" = some (some (.ref f3)))
    (l3 : K.lookup f3 = some ⟨oc3, od3, .func (PySem.W.fnOf "_law_take" "_law_take" (defArgs sTake) (defBody sTake) (defScope sTake) .none kV3 dc3 pm3 an3 cd3 ct3), sl3⟩)
    (q3 : PySem.W.codeIn K cd3 "_law_take" = true)
    (k3 : PySem.W.keepIn K (.ref f3) = true)
    (a4 : PySem.W.nsIn K mainGlobals "_law_word" = some (some (.ref f4)))
    (l4 : K.lookup f4 = some ⟨oc4, od4, .func (PySem.W.fnOf "_law_word" "_law_word" (defArgs sWord) (defBody sWord) (defScope sWord) .none kV4 dc4 pm4 an4 cd4 ct4), sl4⟩)
    (q4 : PySem.W.codeIn K cd4 "_law_word" = true)
    (k4 : PySem.W.keepIn K (.ref f4) = true)
    (a5 : PySem.W.nsIn K mainGlobals "_law_name_by" = some (some (.ref f5)))
    (l5 : K.lookup f5 = some ⟨oc5, od5, .func (PySem.W.fnOf "_law_name_by" "_law_name_by" (defArgs sNameBy) (defBody sNameBy) (defScope sNameBy) .none kV5 dc5 pm5 an5 cd5 ct5), sl5⟩)
    (q5 : PySem.W.codeIn K cd5 "_law_name_by" = true)
    (k5 : PySem.W.keepIn K (.ref f5) = true)
    (a6 : PySem.W.nsIn K mainGlobals "_law_kinds" = some (some (.ref f6)))
    (l6 : K.lookup f6 = some ⟨oc6, od6, .func (PySem.W.fnOf "_law_kinds" "_law_kinds" (defArgs sKinds) (defBody sKinds) (defScope sKinds) .none kV6 dc6 pm6 an6 cd6 ct6), sl6⟩)
    (q6 : PySem.W.codeIn K cd6 "_law_kinds" = true)
    (k6 : PySem.W.keepIn K (.ref f6) = true)
    (a7 : PySem.W.nsIn K mainGlobals "_law_thing_by" = some (some (.ref f7)))
    (l7 : K.lookup f7 = some ⟨oc7, od7, .func (PySem.W.fnOf "_law_thing_by" "_law_thing_by" (defArgs sThingBy) (defBody sThingBy) (defScope sThingBy) .none kV7 dc7 pm7 an7 cd7 ct7), sl7⟩)
    (q7 : PySem.W.codeIn K cd7 "_law_thing_by" = true)
    (k7 : PySem.W.keepIn K (.ref f7) = true)
    (a8 : PySem.W.nsIn K mainGlobals "_law_rows" = some (some (.ref f8)))
    (l8 : K.lookup f8 = some ⟨oc8, od8, .func (PySem.W.fnOf "_law_rows" "_law_rows" (defArgs sRows) (defBody sRows) (defScope sRows) .none kV8 dc8 pm8 an8 cd8 ct8), sl8⟩)
    (q8 : PySem.W.codeIn K cd8 "_law_rows" = true)
    (k8 : PySem.W.keepIn K (.ref f8) = true)
    (a9 : PySem.W.nsIn K mainGlobals "law" = some (some (.ref f9)))
    (l9 : K.lookup f9 = some ⟨oc9, od9, .func (PySem.W.fnOf "law" "law" (defArgs sLaw) (defBody sLaw) (defScope sLaw) .none kV9 dc9 pm9 an9 cd9 ct9), sl9⟩)
    (q9 : PySem.W.codeIn K cd9 "law" = true)
    (k9 : PySem.W.keepIn K (.ref f9) = true) :
    ∃ fd : FuncData, (∀ (s : Shared) (v : Value), BindsTo s fd ⟨[v], []⟩ [("_law_script", v)]) ∧ ∀ base : Heap, K.In base → base.Ns mainGlobals mg → FnG l.prog w K mg base CX0 6 fa fd ["_law_script"] (spLaw K) := by
  have e := hfa.symm.trans (PySem.W.mg_of X G a9)
  cases e
  have F1 := fun_mk (st := sMixed) l1 q1 k1
  have b1 := F1.binds (ps := (["_law_number", "_law_k"] : List Str)) fun _ _ _ _ _ _ us hl => match us, hl with | [_, _], _ => rfl
  have F2 := fun_mk (st := sStream) l2 q2 k2
  have b2 := F2.binds (ps := (["_law_cell", "_law_k"] : List Str)) fun _ _ _ _ _ _ us hl => match us, hl with | [_, _], _ => rfl
  have F3 := fun_mk (st := sTake) l3 q3 k3
  have b3 := F3.binds (ps := (["_law_stream_here", "_law_many"] : List Str)) fun _ _ _ _ _ _ us hl => match us, hl with | [_, _], _ => rfl
  have F4 := fun_mk (st := sWord) l4 q4 k4
  have b4 := F4.binds (ps := (["_law_error"] : List Str)) fun _ _ _ _ _ _ us hl => match us, hl with | [_], _ => rfl
  have F5 := fun_mk (st := sNameBy) l5 q5 k5
  have b5 := F5.binds (ps := (["_law_stream_here"] : List Str)) fun _ _ _ _ _ _ us hl => match us, hl with | [_], _ => rfl
  have F6 := fun_mk (st := sKinds) l6 q6 k6
  have b6 := F6.binds (ps := (["_law_error"] : List Str)) fun _ _ _ _ _ _ us hl => match us, hl with | [_], _ => rfl
  have F7 := fun_mk (st := sThingBy) l7 q7 k7
  have b7 := F7.binds (ps := (["_law_stream_here"] : List Str)) fun _ _ _ _ _ _ us hl => match us, hl with | [_], _ => rfl
  have F8 := fun_mk (st := sRows) l8 q8 k8
  have b8 := F8.binds (ps := (["_law_one", "_law_other"] : List Str)) fun _ _ _ _ _ _ us hl => match us, hl with | [_, _], _ => rfl
  have F9 := fun_mk (st := sLaw) l9 q9 k9
  have FS5 := fun_mk (st := sBadStr) lS5 qS5_ kS5
  have bS5 := FS5.binds (ps := (["self"] : List Str)) fun _ _ _ _ _ _ us hl => match us, hl with | [_], _ => rfl
  have FS7 := fun_mk (st := sSuchStr) lS7 qS7_ kS7
  have bS7 := FS7.binds (ps := (["self"] : List Str)) fun _ _ _ _ _ _ us hl => match us, hl with | [_], _ => rfl
  have FS9 := fun_mk (st := sManyStr) lS9 qS9_ kS9
  have bS9 := FS9.binds (ps := (["self"] : List Str)) fun _ _ _ _ _ _ us hl => match us, hl with | [_], _ => rfl
  have y0 := exc_of xk0
  have w0 : ExcC K c0 := ⟨y0.h1, y0.h2, y0.h3, y0.h4, y0.h5, e6, e7, y0.h8⟩
  have y1 := exc_of xk1
  have w1 : ExcC K c1 := ⟨y1.h1, y1.h2, y1.h3, y1.h4, y1.h5, e6, e7, y1.h8⟩
  have y2 := exc_of xk2
  have w2 : ExcC K c2 := ⟨y2.h1, y2.h2, y2.h3, y2.h4, y2.h5, e6, e7, y2.h8⟩
  have y3 := exc_of xk3
  have w3 : ExcC K c3 := ⟨y3.h1, y3.h2, y3.h3, y3.h4, y3.h5, e6, e7, y3.h8⟩
  have y4 := exc_of xk4
  have w4 : ExcC K c4 := ⟨y4.h1, y4.h2, y4.h3, y4.h4, y4.h5, e6, e7, y4.h8⟩
  have y5 := exc_of xk5
  have w5 : ExcC K c5 := ⟨y5.h1, y5.h2, y5.h3, y5.h4, y5.h5, e6, e7, y5.h8⟩
  have y6 := exc_of xk6
  have w6 : ExcC K c6 := ⟨y6.h1, y6.h2, y6.h3, y6.h4, y6.h5, e6, e7, y6.h8⟩
  have y7 := exc_of xk7
  have w7 : ExcC K c7 := ⟨y7.h1, y7.h2, y7.h3, y7.h4, y7.h5, e6, e7, y7.h8⟩
  have y8 := exc_of xk8
  have w8 : ExcC K c8 := ⟨y8.h1, y8.h2, y8.h3, y8.h4, y8.h5, e6, e7, y8.h8⟩
  have y9 := exc_of xk9
  have w9 : ExcC K c9 := ⟨y9.h1, y9.h2, y9.h3, y9.h4, y9.h5, e6, e7, y9.h8⟩
  have y10 := exc_of xk10
  have w10 : ExcC K c10 := ⟨y10.h1, y10.h2, y10.h3, y10.h4, y10.h5, e6, e7, y10.h8⟩
  have y11 := exc_of xk11
  have w11 : ExcC K c11 := ⟨y11.h1, y11.h2, y11.h3, y11.h4, y11.h5, e6, e7, y11.h8⟩
  have y12 := exc_of xk12
  have w12 : ExcC K c12 := ⟨y12.h1, y12.h2, y12.h3, y12.h4, y12.h5, e6, e7, y12.h8⟩
  have y13 := exc_of xk13
  have w13 : ExcC K c13 := ⟨y13.h1, y13.h2, y13.h3, y13.h4, y13.h5, e6, e7, y13.h8⟩
  have yB := exc_of xkB
  have wB : ExcC K cB := ⟨yB.h1, yB.h2, yB.h3, yB.h4, yB.h5, e6, e7, yB.h8⟩
  have EE : Errs K mg (pick [c0, c1, c2, c3, c4, c5, c6, c7, c8, c9, c10, c11, c12, c13]) :=
    { e0 := ⟨"BadWish.__init__", fI0, "Exception", "Exception.__new__", "Exception.__init__", _, { base := PySem.F.excBase_Exception, gC := PySem.W.mg_of X G g0, cls := ⟨nmI0, qI0, NI0, bsI0, _, snI0, subI0, abI0, colI0, ddI0, m0I0, m1I0, m2I0, m3I0, m5I0, xL0, el_Exception.own⟩, sa := y0.sa, ex := w0, noN := nb0at, iC := aI0, tC := tI0, kC := y0.kp, tyC := y0.ty, fn := ⟨_, _, _, _, _, _, _, _, _, _, _, _, _, _, lI0, qI0_⟩ }⟩,
      e1 := ⟨"BadPaper.__init__", fI1, "Exception", "Exception.__new__", "Exception.__init__", _, { base := PySem.F.excBase_Exception, gC := PySem.W.mg_of X G g1, cls := ⟨nmI1, qI1, NI1, bsI1, _, snI1, subI1, abI1, colI1, ddI1, m0I1, m1I1, m2I1, m3I1, m5I1, xL1, el_Exception.own⟩, sa := y1.sa, ex := w1, noN := nb1at, iC := aI1, tC := tI1, kC := y1.kp, tyC := y1.ty, fn := ⟨_, _, _, _, _, _, _, _, _, _, _, _, _, _, lI1, qI1_⟩ }⟩,
      e2 := ⟨"BadSheet.__init__", fI2, "Exception", "Exception.__new__", "Exception.__init__", _, { base := PySem.F.excBase_Exception, gC := PySem.W.mg_of X G g2, cls := ⟨nmI2, qI2, NI2, bsI2, _, snI2, subI2, abI2, colI2, ddI2, m0I2, m1I2, m2I2, m3I2, m5I2, xL2, el_Exception.own⟩, sa := y2.sa, ex := w2, noN := nb2at, iC := aI2, tC := tI2, kC := y2.kp, tyC := y2.ty, fn := ⟨_, _, _, _, _, _, _, _, _, _, _, _, _, _, lI2, qI2_⟩ }⟩,
      e3 := ⟨"BadLine.__init__", fI3, "Exception", "Exception.__new__", "Exception.__init__", _, { base := PySem.F.excBase_Exception, gC := PySem.W.mg_of X G g3, cls := ⟨nmI3, qI3, NI3, bsI3, _, snI3, subI3, abI3, colI3, ddI3, m0I3, m1I3, m2I3, m3I3, m5I3, xL3, el_Exception.own⟩, sa := y3.sa, ex := w3, noA := nb3row, noB := nb3word, iC := aI3, tC := tI3, kC := y3.kp, tyC := y3.ty, fn := ⟨_, _, _, _, _, _, _, _, _, _, _, _, _, _, _, _, _, _, _, lI3, qI3_⟩ }⟩,
      e4 := ⟨"Exception", "Exception.__new__", "Exception.__init__", _, PySem.F.excBase_Exception, x4, PySem.W.mg_of X G g4, y4.kp⟩,
      e5 := ⟨"BadQuestion.__init__", fI5, "ValueError", "ValueError.__new__", "ValueError.__init__", _, { base := PySem.F.excBase_ValueError, gC := PySem.W.mg_of X G g5, cls := ⟨nmI5, qI5, NI5, bsI5, _, snI5, subI5, abI5, colI5, ddI5, m0I5, m1I5, m2I5, m3I5, m5I5, xL5, el_ValueError⟩, sa := y5.sa, ex := w5, noN := nb5part, iC := aI5, tC := tI5, kC := y5.kp, tyC := y5.ty, fn := ⟨_, _, _, _, _, _, _, _, _, _, _, _, _, _, lI5, qI5_⟩ }⟩,
      e6 := ⟨"ValueError", "ValueError.__new__", "ValueError.__init__", _, PySem.F.excBase_ValueError, x6, PySem.W.mg_of X G g6, y6.kp⟩,
      e7 := ⟨"NoSuch.__init__", fI7, "LookupError", "LookupError.__new__", "LookupError.__init__", _, { base := PySem.F.excBase_LookupError, gC := PySem.W.mg_of X G g7, cls := ⟨nmI7, qI7, NI7, bsI7, _, snI7, subI7, abI7, colI7, ddI7, m0I7, m1I7, m2I7, m3I7, m5I7, xL7, el_KeyError⟩, sa := y7.sa, ex := w7, noN := nb7name, iC := aI7, tC := tI7, kC := y7.kp, tyC := y7.ty, fn := ⟨_, _, _, _, _, _, _, _, _, _, _, _, _, _, lI7, qI7_⟩ }⟩,
      e8 := ⟨"NoPlace.__init__", fI8, "IndexError", "IndexError.__new__", "IndexError.__init__", _, { base := PySem.F.excBase_IndexError, gC := PySem.W.mg_of X G g8, cls := ⟨nmI8, qI8, NI8, bsI8, _, snI8, subI8, abI8, colI8, ddI8, m0I8, m1I8, m2I8, m3I8, m5I8, xL8, el_IndexError⟩, sa := y8.sa, ex := w8, noN := nb8at, iC := aI8, tC := tI8, kC := y8.kp, tyC := y8.ty, fn := ⟨_, _, _, _, _, _, _, _, _, _, _, _, _, _, lI8, qI8_⟩ }⟩,
      e9 := ⟨"TooMany.__init__", fI9, "OverflowError", "OverflowError.__new__", "OverflowError.__init__", _, { base := PySem.F.excBase_OverflowError, gC := PySem.W.mg_of X G g9, cls := ⟨nmI9, qI9, NI9, bsI9, _, snI9, subI9, abI9, colI9, ddI9, m0I9, m1I9, m2I9, m3I9, m5I9, xL9, el_OverflowError⟩, sa := y9.sa, ex := w9, noN := nb9most, iC := aI9, tC := tI9, kC := y9.kp, tyC := y9.ty, fn := ⟨_, _, _, _, _, _, _, _, _, _, _, _, _, _, lI9, qI9_⟩ }⟩,
      e10 := ⟨"BadKind.__init__", fI10, "TypeError", "TypeError.__new__", "TypeError.__init__", _, { base := PySem.F.excBase_TypeError, gC := PySem.W.mg_of X G g10, cls := ⟨nmI10, qI10, NI10, bsI10, _, snI10, subI10, abI10, colI10, ddI10, m0I10, m1I10, m2I10, m3I10, m5I10, xL10, el_TypeError⟩, sa := y10.sa, ex := w10, noN := nb10wanted, iC := aI10, tC := tI10, kC := y10.kp, tyC := y10.ty, fn := ⟨_, _, _, _, _, _, _, _, _, _, _, _, _, _, lI10, qI10_⟩ }⟩,
      e11 := ⟨"Unmet.__init__", fI11, "LookupError", "LookupError.__new__", "LookupError.__init__", _, { base := PySem.F.excBase_LookupError, gC := PySem.W.mg_of X G g11, cls := ⟨nmI11, qI11, NI11, bsI11, _, snI11, subI11, abI11, colI11, ddI11, m0I11, m1I11, m2I11, m3I11, m5I11, xL11, el_LookupError⟩, sa := y11.sa, ex := w11, noA := nb11lot, noB := nb11sums, iC := aI11, tC := tI11, kC := y11.kp, tyC := y11.ty, fn := ⟨_, _, _, _, _, _, _, _, _, _, _, _, _, _, _, _, _, _, _, lI11, qI11_⟩ }⟩,
      e12 := ⟨"ZeroDivisionError", "ZeroDivisionError.__new__", "ZeroDivisionError.__init__", _, PySem.F.excBase_ZeroDivisionError, x12, PySem.W.mg_of X G g12, y12.kp⟩,
      e13 := ⟨"Twice.__init__", fI13, "RuntimeError", "RuntimeError.__new__", "RuntimeError.__init__", _, { base := PySem.F.excBase_RuntimeError, gC := PySem.W.mg_of X G g13, cls := ⟨nmI13, qI13, NI13, bsI13, _, snI13, subI13, abI13, colI13, ddI13, m0I13, m1I13, m2I13, m3I13, m5I13, xL13, el_RuntimeError⟩, sa := y13.sa, ex := w13, noN := nb13name, iC := aI13, tC := tI13, kC := y13.kp, tyC := y13.ty, fn := ⟨_, _, _, _, _, _, _, _, _, _, _, _, _, _, lI13, qI13_⟩ }⟩ }
  have TT : Fourteen mg (pick [c0, c1, c2, c3, c4, c5, c6, c7, c8, c9, c10, c11, c12, c13]) := ⟨PySem.W.mg_of X G g0, PySem.W.mg_of X G g1, PySem.W.mg_of X G g2, PySem.W.mg_of X G g3, PySem.W.mg_of X G g4, PySem.W.mg_of X G g5, PySem.W.mg_of X G g6, PySem.W.mg_of X G g7, PySem.W.mg_of X G g8, PySem.W.mg_of X G g9, PySem.W.mg_of X G g10, PySem.W.mg_of X G g11, PySem.W.mg_of X G g12, PySem.W.mg_of X G g13⟩
  have NN : Nk mg cB := ⟨(PySem.W.mg_none_of X G z8), (PySem.W.mg_none_of X G z9), (PySem.W.mg_none_of X G z10), (PySem.W.mg_none_of X G z11), (PySem.W.mg_none_of X G z12), (PySem.W.mg_none_of X G z13), (PySem.W.mg_none_of X G z14), (PySem.W.mg_none_of X G z15), (PySem.W.mg_none_of X G z16), PySem.W.mg_of X G gB⟩
  have CL : Cl K (pick [c0, c1, c2, c3, c4, c5, c6, c7, c8, c9, c10, c11, c12, c13]) cB := by
    refine ⟨?_, ?_, ?_, ?_, wB, ⟨_, kd_of kdB_, by decide +kernel⟩⟩
    · exact fun i hi => match i, hi with
      | 0, _ => w0
      | 1, _ => w1
      | 2, _ => w2
      | 3, _ => w3
      | 4, _ => w4
      | 5, _ => w5
      | 6, _ => w6
      | 7, _ => w7
      | 8, _ => w8
      | 9, _ => w9
      | 10, _ => w10
      | 11, _ => w11
      | 12, _ => w12
      | 13, _ => w13
      | n + 14, hi => absurd hi (by omega)
    · exact fun i hi => match i, hi with
      | 0, _ => ⟨_, kits_of kt0, by decide +kernel⟩
      | 1, _ => ⟨_, kits_of kt1, by decide +kernel⟩
      | 2, _ => ⟨_, kits_of kt2, by decide +kernel⟩
      | 3, _ => ⟨_, kits_of kt3, by decide +kernel⟩
      | 4, _ => ⟨_, kits_of kt4, by decide +kernel⟩
      | 5, _ => ⟨_, kits_of kt5, by decide +kernel⟩
      | 6, _ => ⟨_, kits_of kt6, by decide +kernel⟩
      | 7, _ => ⟨_, kits_of kt7, by decide +kernel⟩
      | 8, _ => ⟨_, kits_of kt8, by decide +kernel⟩
      | 9, _ => ⟨_, kits_of kt9, by decide +kernel⟩
      | 10, _ => ⟨_, kits_of kt10, by decide +kernel⟩
      | 11, _ => ⟨_, kits_of kt11, by decide +kernel⟩
      | 12, _ => ⟨_, kits_of kt12, by decide +kernel⟩
      | 13, _ => ⟨_, kits_of kt13, by decide +kernel⟩
      | n + 14, hi => absurd hi (by omega)
    · exact fun i hi => match i, hi with
      | 0, _ => ⟨_, kd_of kd0, by decide +kernel⟩
      | 1, _ => ⟨_, kd_of kd1, by decide +kernel⟩
      | 2, _ => ⟨_, kd_of kd2, by decide +kernel⟩
      | 3, _ => ⟨_, kd_of kd3, by decide +kernel⟩
      | 4, _ => ⟨_, kd_of kd4, by decide +kernel⟩
      | 5, _ => ⟨_, kd_of kd5, by decide +kernel⟩
      | 6, _ => ⟨_, kd_of kd6, by decide +kernel⟩
      | 7, _ => ⟨_, kd_of kd7, by decide +kernel⟩
      | 8, _ => ⟨_, kd_of kd8, by decide +kernel⟩
      | 9, _ => ⟨_, kd_of kd9, by decide +kernel⟩
      | 10, _ => ⟨_, kd_of kd10, by decide +kernel⟩
      | 11, _ => ⟨_, kd_of kd11, by decide +kernel⟩
      | 12, _ => ⟨_, kd_of kd12, by decide +kernel⟩
      | 13, _ => ⟨_, kd_of kd13, by decide +kernel⟩
      | n + 14, hi => absurd hi (by omega)
    · exact fun i hi => match i, hi with
      | 0, _ => y0.xx
      | 1, _ => y1.xx
      | 2, _ => y2.xx
      | 3, _ => y3.xx
      | 4, _ => y4.xx
      | 5, _ => y5.xx
      | 6, _ => y6.xx
      | 7, _ => y7.xx
      | 8, _ => y8.xx
      | 9, _ => y9.xx
      | 10, _ => y10.xx
      | 11, _ => y11.xx
      | 12, _ => y12.xx
      | 13, _ => y13.xx
      | n + 14, hi => absurd hi (by omega)
  refine ⟨PySem.W.fnOf "law" "law" (defArgs sLaw) (defBody sLaw) (defScope sLaw) .none kV9 dc9 pm9 an9 cd9 ct9, fun s v => .of_eq rfl, fun base _ _ => ?_⟩
  have G__law_take : FnOk l.prog w K mg base CX0 2 f3 _ ["_law_stream_here", "_law_many"] spTake := ok_take F3 F1 b1 (PySem.W.mg_of X G a1)
  have G__law_stream : FnOk l.prog w K mg base CX0 2 f2 _ ["_law_cell", "_law_k"] spStream := ok_stream F2 F1 b1 (PySem.W.mg_of X G a1)
  have G__law_name_by : FnOk l.prog w K mg base CX0 3 f5 _ ["_law_stream_here"] (spByP (fun z => nameT z = true) 9) := ok_nameBy F5 (PySem.W.mg_none_of X G z3) F3 b3 (PySem.W.mg_of X G a3) F1 b1 (PySem.W.mg_of X G a1)
  have G__law_thing_by : FnOk l.prog w K mg base CX0 4 f7 _ ["_law_stream_here"] spThing := ok_thing F7 G__law_take k3 b3 (PySem.W.mg_of X G a3) G__law_name_by k5 b5 (PySem.W.mg_of X G a5)
  have G__law_word : FnOk l.prog w K mg base CX0 1 f4 _ ["_law_error"] (spWord K (pick [c0, c1, c2, c3, c4, c5, c6, c7, c8, c9, c10, c11, c12, c13])) := ok_word F4 TT (PySem.W.mg_none_of X G z0) (PySem.W.mg_none_of X G z1) (PySem.W.mg_none_of X G z2)
  have G__law_kinds : FnOk l.prog w K mg base CX0 1 f6 _ ["_law_error"] (spKinds K cB) := ok_kinds F6 NN (PySem.W.mg_none_of X G z0) (PySem.W.mg_none_of X G z1)
  have G__law_rows : FnOk l.prog w K mg base CX0 2 f8 _ ["_law_one", "_law_other"] (spRows (pick [c0, c1, c2, c3, c4, c5, c6, c7, c8, c9, c10, c11, c12, c13])) := ok_rows F8 EE
  exact ok_law F9 (PySem.W.mg_none_of X G z4) (PySem.W.mg_none_of X G z0) (PySem.W.mg_none_of X G z7) (PySem.W.mg_none_of X G z5) (PySem.W.mg_none_of X G z6) G__law_stream k2 b2 (PySem.W.mg_of X G a2) G__law_thing_by k7 b7 (PySem.W.mg_of X G a7) G__law_rows k8 b8 (PySem.W.mg_of X G a8) G__law_word k4 b4 (PySem.W.mg_of X G a4) G__law_kinds k6 b6 (PySem.W.mg_of X G a6) CL EE PySem.F.excBase_Exception xB (PySem.W.mg_of X G gB) yB.kp (ok_badStr FS5) aS5 hS5 bS5 (ok_suchStr FS7) aS7 hS7 bS7 (ok_manyStr FS9) aS9 hS9 bS9
end Pk
open PySem PySem.W PyProof.Rows
set_option maxRecDepth 100000 in
set_option maxHeartbeats 0 in
theorem PySem.Challenge.cw_paperkin_k03_families_of_refusals_holds : PySem.Challenge.rw_paperkin_k03_families_of_refusals.Holds := by
  w_on; o_law; k_head; (case hw => w_witness2)
  k_fill
  refine Pk.walkG (l := PySem.Challenge.rw_paperkin_k03_families_of_refusals) (n := 63) (k := 6) (x := "_law_script") (sp := Pk.spLaw) rfl (by decide) rfl ⟨rfl, by decide, by decide⟩ (fun w h Y => PySem.W.kIn_of Y) ?F (fun _ _ a ns hl hS => ⟨a, ns, rfl, hS, hl, fun _ => rfl⟩)
  case F =>
    intro w mg fa h KX G hmg
    refine' Pk.all_mk KX G hmg ?pk_gB ?pk_g0 ?pk_g1 ?pk_g2 ?pk_g3 ?pk_g4 ?pk_g5 ?pk_g6 ?pk_g7 ?pk_g8 ?pk_g9 ?pk_g10 ?pk_g11 ?pk_g12 ?pk_g13 ?pk_e6 ?pk_e7 ?pk_xkB ?pk_kdB_ ?pk_xB ?pk_xk0 ?pk_kt0 ?pk_kd0 ?pk_xL0 ?pk_nb0at ?pk_aI0 ?pk_tI0 ?pk_lI0 ?pk_qI0_ ?pk_xk1 ?pk_kt1 ?pk_kd1 ?pk_xL1 ?pk_nb1at ?pk_aI1 ?pk_tI1 ?pk_lI1 ?pk_qI1_ ?pk_xk2 ?pk_kt2 ?pk_kd2 ?pk_xL2 ?pk_nb2at ?pk_aI2 ?pk_tI2 ?pk_lI2 ?pk_qI2_ ?pk_xk3 ?pk_kt3 ?pk_kd3 ?pk_xL3 ?pk_nb3row ?pk_nb3word ?pk_aI3 ?pk_tI3 ?pk_lI3 ?pk_qI3_ ?pk_xk4 ?pk_kt4 ?pk_kd4 ?pk_x4 ?pk_xk5 ?pk_kt5 ?pk_kd5 ?pk_xL5 ?pk_nb5part ?pk_aI5 ?pk_tI5 ?pk_lI5 ?pk_qI5_ ?pk_xk6 ?pk_kt6 ?pk_kd6 ?pk_x6 ?pk_xk7 ?pk_kt7 ?pk_kd7 ?pk_xL7 ?pk_nb7name ?pk_aI7 ?pk_tI7 ?pk_lI7 ?pk_qI7_ ?pk_xk8 ?pk_kt8 ?pk_kd8 ?pk_xL8 ?pk_nb8at ?pk_aI8 ?pk_tI8 ?pk_lI8 ?pk_qI8_ ?pk_xk9 ?pk_kt9 ?pk_kd9 ?pk_xL9 ?pk_nb9most ?pk_aI9 ?pk_tI9 ?pk_lI9 ?pk_qI9_ ?pk_xk10 ?pk_kt10 ?pk_kd10 ?pk_xL10 ?pk_nb10wanted ?pk_aI10 ?pk_tI10 ?pk_lI10 ?pk_qI10_ ?pk_xk11 ?pk_kt11 ?pk_kd11 ?pk_xL11 ?pk_nb11lot ?pk_nb11sums ?pk_aI11 ?pk_tI11 ?pk_lI11 ?pk_qI11_ ?pk_xk12 ?pk_kt12 ?pk_kd12 ?pk_x12 ?pk_xk13 ?pk_kt13 ?pk_kd13 ?pk_xL13 ?pk_nb13name ?pk_aI13 ?pk_tI13 ?pk_lI13 ?pk_qI13_ ?pk_aS5 ?pk_hS5 ?pk_lS5 ?pk_qS5_ ?pk_kS5 ?pk_aS7 ?pk_hS7 ?pk_lS7 ?pk_qS7_ ?pk_kS7 ?pk_aS9 ?pk_hS9 ?pk_lS9 ?pk_qS9_ ?pk_kS9 ?pk_z0 ?pk_z1 ?pk_z2 ?pk_z3 ?pk_z4 ?pk_z5 ?pk_z6 ?pk_z7 ?pk_z8 ?pk_z9 ?pk_z10 ?pk_z11 ?pk_z12 ?pk_z13 ?pk_z14 ?pk_z15 ?pk_z16 ?pk_a1 ?pk_l1 ?pk_q1 ?pk_k1 ?pk_a2 ?pk_l2 ?pk_q2 ?pk_k2 ?pk_a3 ?pk_l3 ?pk_q3 ?pk_k3 ?pk_a4 ?pk_l4 ?pk_q4 ?pk_k4 ?pk_a5 ?pk_l5 ?pk_q5 ?pk_k5 ?pk_a6 ?pk_l6 ?pk_q6 ?pk_k6 ?pk_a7 ?pk_l7 ?pk_q7 ?pk_k7 ?pk_a8 ?pk_l8 ?pk_q8 ?pk_k8 ?pk_a9 ?pk_l9 ?pk_q9 ?pk_k9
    (case pk_gB => k_is)
    (case pk_g0 => k_is)
    (case pk_g1 => k_is)
    (case pk_g2 => k_is)
    (case pk_g3 => k_is)
    (case pk_g4 => k_is)
    (case pk_g5 => k_is)
    (case pk_g6 => k_is)
    (case pk_g7 => k_is)
    (case pk_g8 => k_is)
    (case pk_g9 => k_is)
    (case pk_g10 => k_is)
    (case pk_g11 => k_is)
    (case pk_g12 => k_is)
    (case pk_g13 => k_is)
    (case pk_e6 => k_is)
    (case pk_e7 => k_is)
    (case pk_xkB => kernel_rfl)
    (case pk_kdB_ => kernel_rfl)
    (case pk_xB => k_exc)
    (case pk_xk0 => kernel_rfl)
    (case pk_kt0 => kernel_rfl)
    (case pk_kd0 => kernel_rfl)
    (case pk_xL0 => k_is)
    (case pk_nb0at => k_is)
    (case pk_aI0 => k_is)
    (case pk_tI0 => k_is)
    (case pk_lI0 => k_is)
    (case pk_qI0_ => k_is)
    (case pk_xk1 => kernel_rfl)
    (case pk_kt1 => kernel_rfl)
    (case pk_kd1 => kernel_rfl)
    (case pk_xL1 => k_is)
    (case pk_nb1at => k_is)
    (case pk_aI1 => k_is)
    (case pk_tI1 => k_is)
    (case pk_lI1 => k_is)
    (case pk_qI1_ => k_is)
    (case pk_xk2 => kernel_rfl)
    (case pk_kt2 => kernel_rfl)
    (case pk_kd2 => kernel_rfl)
    (case pk_xL2 => k_is)
    (case pk_nb2at => k_is)
    (case pk_aI2 => k_is)
    (case pk_tI2 => k_is)
    (case pk_lI2 => k_is)
    (case pk_qI2_ => k_is)
    (case pk_xk3 => kernel_rfl)
    (case pk_kt3 => kernel_rfl)
    (case pk_kd3 => kernel_rfl)
    (case pk_xL3 => k_is)
    (case pk_nb3row => k_is)
    (case pk_nb3word => k_is)
    (case pk_aI3 => k_is)
    (case pk_tI3 => k_is)
    (case pk_lI3 => k_is)
    (case pk_qI3_ => k_is)
    (case pk_xk4 => kernel_rfl)
    (case pk_kt4 => kernel_rfl)
    (case pk_kd4 => kernel_rfl)
    (case pk_x4 => k_exc)
    (case pk_xk5 => kernel_rfl)
    (case pk_kt5 => kernel_rfl)
    (case pk_kd5 => kernel_rfl)
    (case pk_xL5 => k_is)
    (case pk_nb5part => k_is)
    (case pk_aI5 => k_is)
    (case pk_tI5 => k_is)
    (case pk_lI5 => k_is)
    (case pk_qI5_ => k_is)
    (case pk_xk6 => kernel_rfl)
    (case pk_kt6 => kernel_rfl)
    (case pk_kd6 => kernel_rfl)
    (case pk_x6 => k_exc)
    (case pk_xk7 => kernel_rfl)
    (case pk_kt7 => kernel_rfl)
    (case pk_kd7 => kernel_rfl)
    (case pk_xL7 => k_is)
    (case pk_nb7name => k_is)
    (case pk_aI7 => k_is)
    (case pk_tI7 => k_is)
    (case pk_lI7 => k_is)
    (case pk_qI7_ => k_is)
    (case pk_xk8 => kernel_rfl)
    (case pk_kt8 => kernel_rfl)
    (case pk_kd8 => kernel_rfl)
    (case pk_xL8 => k_is)
    (case pk_nb8at => k_is)
    (case pk_aI8 => k_is)
    (case pk_tI8 => k_is)
    (case pk_lI8 => k_is)
    (case pk_qI8_ => k_is)
    (case pk_xk9 => kernel_rfl)
    (case pk_kt9 => kernel_rfl)
    (case pk_kd9 => kernel_rfl)
    (case pk_xL9 => k_is)
    (case pk_nb9most => k_is)
    (case pk_aI9 => k_is)
    (case pk_tI9 => k_is)
    (case pk_lI9 => k_is)
    (case pk_qI9_ => k_is)
    (case pk_xk10 => kernel_rfl)
    (case pk_kt10 => kernel_rfl)
    (case pk_kd10 => kernel_rfl)
    (case pk_xL10 => k_is)
    (case pk_nb10wanted => k_is)
    (case pk_aI10 => k_is)
    (case pk_tI10 => k_is)
    (case pk_lI10 => k_is)
    (case pk_qI10_ => k_is)
    (case pk_xk11 => kernel_rfl)
    (case pk_kt11 => kernel_rfl)
    (case pk_kd11 => kernel_rfl)
    (case pk_xL11 => k_is)
    (case pk_nb11lot => k_is)
    (case pk_nb11sums => k_is)
    (case pk_aI11 => k_is)
    (case pk_tI11 => k_is)
    (case pk_lI11 => k_is)
    (case pk_qI11_ => k_is)
    (case pk_xk12 => kernel_rfl)
    (case pk_kt12 => kernel_rfl)
    (case pk_kd12 => kernel_rfl)
    (case pk_x12 => k_exc)
    (case pk_xk13 => kernel_rfl)
    (case pk_kt13 => kernel_rfl)
    (case pk_kd13 => kernel_rfl)
    (case pk_xL13 => k_is)
    (case pk_nb13name => k_is)
    (case pk_aI13 => k_is)
    (case pk_tI13 => k_is)
    (case pk_lI13 => k_is)
    (case pk_qI13_ => k_is)
    (case pk_aS5 => k_is)
    (case pk_hS5 => k_is)
    (case pk_lS5 => k_is)
    (case pk_qS5_ => k_is)
    (case pk_kS5 => k_is)
    (case pk_aS7 => k_is)
    (case pk_hS7 => k_is)
    (case pk_lS7 => k_is)
    (case pk_qS7_ => k_is)
    (case pk_kS7 => k_is)
    (case pk_aS9 => k_is)
    (case pk_hS9 => k_is)
    (case pk_lS9 => k_is)
    (case pk_qS9_ => k_is)
    (case pk_kS9 => k_is)
    (case pk_z0 => k_is)
    (case pk_z1 => k_is)
    (case pk_z2 => k_is)
    (case pk_z3 => k_is)
    (case pk_z4 => k_is)
    (case pk_z5 => k_is)
    (case pk_z6 => k_is)
    (case pk_z7 => k_is)
    (case pk_z8 => k_is)
    (case pk_z9 => k_is)
    (case pk_z10 => k_is)
    (case pk_z11 => k_is)
    (case pk_z12 => k_is)
    (case pk_z13 => k_is)
    (case pk_z14 => k_is)
    (case pk_z15 => k_is)
    (case pk_z16 => k_is)
    (case pk_a1 => k_is)
    (case pk_l1 => k_is)
    (case pk_q1 => k_is)
    (case pk_k1 => k_is)
    (case pk_a2 => k_is)
    (case pk_l2 => k_is)
    (case pk_q2 => k_is)
    (case pk_k2 => k_is)
    (case pk_a3 => k_is)
    (case pk_l3 => k_is)
    (case pk_q3 => k_is)
    (case pk_k3 => k_is)
    (case pk_a4 => k_is)
    (case pk_l4 => k_is)
    (case pk_q4 => k_is)
    (case pk_k4 => k_is)
    (case pk_a5 => k_is)
    (case pk_l5 => k_is)
    (case pk_q5 => k_is)
    (case pk_k5 => k_is)
    (case pk_a6 => k_is)
    (case pk_l6 => k_is)
    (case pk_q6 => k_is)
    (case pk_k6 => k_is)
    (case pk_a7 => k_is)
    (case pk_l7 => k_is)
    (case pk_q7 => k_is)
    (case pk_k7 => k_is)
    (case pk_a8 => k_is)
    (case pk_l8 => k_is)
    (case pk_q8 => k_is)
    (case pk_k8 => k_is)
    (case pk_a9 => k_is)
    (case pk_l9 => k_is)
    (case pk_q9 => k_is)
    (case pk_k9 => k_is)
