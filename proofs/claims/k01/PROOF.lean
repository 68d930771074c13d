import PyProof.Rows.All
import Wide.All
import OpenK.AllK
import Wide.FinOn
import KE.KTryMore
import HandS.Base
import HandS.Call
import HandS.List
import HandS.Exc
import HandS.Text
import HandS.ForMost
import HandS.ForExc
import HandS.Defaults
import KE.KExcInit
import KE.KExcIs
import HandS.ExcIs
import HandS.IsInst
import HandS.Walk
import HandS.StrMore
import PyProof.StrLawsRepr
import PySem.Challenge.RW_paperkin_k01_numbers_and_names
set_option Elab.async false
set_option linter.all false
set_option maxRecDepth 100000
set_option maxHeartbeats 4000000
namespace Pk
open PySem PySem.Spec PyProof.Rows L2
open PySem.W (Looks Frag exmOne exmAny)
/-! ### a text, so many times -/
theorem op_times {X : Cx} : OpR X (binaryOp .Mult) (fun x y H Q => ∃ z n, x = .str z ∧ y = .int n ∧ MulOk z n ∧ Q (.str (Txt.mul z n)) H) := by
  rintro pins s σ H x y v u Q I rx ry ⟨z, n, ex, ey, ok, q⟩
  subst ex ey
  obtain ⟨t1, rfl⟩ := rx
  obtain ⟨t2, rfl⟩ := ry
  exact SB.mul ok fun t3 k => ⟨.str (Txt.mul z n), H, I.tok k, ⟨t3, rfl⟩, q⟩
/-! ### except (A, B, ..): the tuple's classes, one after the other -/
section
variable {M : Model} {K : Frag} {h : Heap}
theorem looks_every {β : Type} {cs : List Value} {b0 : β} {f : Value → β → Sem (ForInStep β)} (hf : ∀ c ∈ cs, Looks M h (f c b0) (.yield b0)) : Looks M h (forIn cs b0 f) b0 := by
  induction cs with
  | nil =>
    rw [List.forIn_nil]
    exact .now
  | cons c r ih =>
    rw [List.forIn_cons]
    exact (hf c List.mem_cons_self).andThen (ih fun d hd => hf d (List.mem_cons_of_mem _ hd))
theorem looks_first {β : Type} {b0 b1 : β} {f : Value → β → Sem (ForInStep β)} {g : Value → Bool} : ∀ {cs : List Value}, (∀ c ∈ cs, Looks M h (f c b0) (if g c = true then .done b1 else .yield b0)) → Looks M h (forIn cs b0 f) (if cs.any g = true then b1 else b0)
  | [], _ => by
    rw [List.forIn_nil]
    exact .now
  | c :: r, hf => by
    rw [List.forIn_cons]
    have h1 := hf c List.mem_cons_self
    have h2 := looks_first (cs := r) fun d hd => hf d (List.mem_cons_of_mem _ hd)
    rw [List.any_cons]
    cases hg : g c with
    | true =>
      rw [hg] at h1
      exact h1.andThen .now
    | false =>
      rw [hg] at h1
      rw [Bool.false_or]
      exact h1.andThen h2
theorem exm_all {cls : Value} : ∀ {cs : List Value} {b : Bool}, exmAny K cls cs = some b → ∀ c ∈ cs, exmOne K cls c = some ((exmOne K cls c).getD false)
  | [], _, _, _, hc => by cases hc
  | d :: r, b, e, c, hc => by
    obtain ⟨b1, d1, x1, y1, _⟩ := PySem.W.exmAny_cons e
    rcases List.mem_cons.mp hc with q | q
    · subst q
      rw [x1]
      rfl
    · exact exm_all y1 c q
theorem exm_any {cls : Value} : ∀ {cs : List Value} {b : Bool}, exmAny K cls cs = some b → b = cs.any fun c => (exmOne K cls c).getD false
  | [], b, e => (Option.some.inj e).symm
  | d :: r, b, e => by
    obtain ⟨b1, d1, x1, y1, z⟩ := PySem.W.exmAny_cons e
    rw [List.any_cons, x1, ← exm_any y1, z]
    rfl
/-- an exception held against a tuple of classes, however many -/
theorem exm_tuple {cls : Value} {cs : List Value} {tp e : Addr} {b : Bool} {n : Nat} {ot : Obj} (X : K.In h) (LT : Looks M h (typeOf (.ref e)) cls) (hp : h.get? tp = some ot) (hc : ot.cls = .type "tuple") (hd : ot.data = .seq cs.toArray n) (hx : exmAny K cls cs = some b) :
    Looks M h (excMatches (.ref e) (.ref tp)) b := by
  have LT0 : Looks M h (isInstance (.ref tp) (.type "tuple")) true := ((Looks.ld hp).andThen (by rw [hc]; exact .now)).andThen (Looks.of_pure isSubtype_tuple_tuple)
  have LS : Looks M h (seqItems? (.ref tp)) (some cs.toArray) := fun A Q E s k q => wpAny_seqItems (k _ _ hp) hd q
  have hall := exm_all hx
  have hany := exm_any hx
  unfold excMatches
  refine LT0.andThen ?_
  dsimp only
  rw [if_pos rfl]
  refine LS.andThen (Looks.andThen (a := cs) (by rw [Option.getD_some, List.toList_toArray]; exact .now) ?_)
  refine (looks_every (b0 := PUnit.unit) fun c hc => ?_).andThen ?_
  · refine (PySem.W.exm_cls X (hall c hc)).1.andThen ?_
    exact .now
  · refine LT.andThen ?_
    refine (looks_first (b0 := ((none, ()) : Option Bool × Unit)) (b1 := (some true, ())) (g := fun c => (exmOne K cls c).getD false) fun c hc => ?_).andThen ?_
    · refine (PySem.W.exm_cls X (hall c hc)).2.andThen ?_
      cases (exmOne K cls c).getD false with
      | true => exact .now
      | false => exact .now
    · rw [← hany]
      cases b with
      | true => exact .now
      | false => exact .now
end

/-! ### a caught exception that is kept -/
/-- an exception that was caught and is held as a value at a: its class, its own dict -/
def ExH (cls : Value) (d : Option Addr) (a : Addr) : HO := .ext fun h => ∃ (oe : Obj) (vs : Array Value), h.get? a = some oe ∧ Zc cls d oe ∧ oe.data = .fields vs
section
variable {X : Cx} {pins : List (Addr × Obj)} {σ : L2.St} {H : Hp} {s : Shared}
theorem held_ok {P : Program} {w : World} {h : Heap} {a : Addr} {cls : Value} {d : Option Addr} {oe : Obj} {vs : Array Value} (e : h.get? a = some oe) (z : Zc cls d oe) (hv : oe.data = .fields vs) : ObjOk P w H h a (ExH cls d a) :=
  ⟨⟨oe, vs, e, z, hv⟩, ⟨oe, e⟩, fun _ _ ⟨o, v, q, r⟩ k => ⟨o, v, k o q, r⟩⟩
/-- what was pinned is tracked -/
theorem inv_hold {a : Addr} {oe : Obj} {vs : Array Value} {cls : Value} {d : Option Addr} (J : Inv X ((a, oe) :: pins) σ H s) (z : Zc cls d oe) (hv : oe.data = .fields vs)
    (n0 : ∀ b o, X.s_0.heap.get? b = some o → b ∉ X.ex → b ≠ a) (nc : ∀ x c, X.env.cells.lookup x = some c → c ≠ a) (np : ∀ p ∈ X.pn ++ pins, p.1 ≠ a) : Inv X pins σ (upd H a (ExH cls d a)) s := by
  obtain ⟨ea, na, aL, aF, _⟩ := J.pin (a, oe) (List.mem_append_right _ List.mem_cons_self)
  have ne : ∀ {b : Addr} {o : HO}, H b = some o → b ≠ a := fun {b o} q => ne_of_none q na
  refine ⟨J.ok, J.os, J.bare, ⟨J.base.keep, J.base.slot, ?_, J.base.there, ?_, ?_, ?_⟩, J.loc, J.cell, ?_, ?_, ?_, ?_, J.len⟩
  · intro b o e n hx
    rw [upd_ne (n0 b o e hx)]
    exact J.base.free b o e n hx
  · intro b xs e
    have q := J.base.tups b xs e
    rw [upd_ne (ne q)]
    exact q
  · intro b o u e
    have q := J.base.frzs b o u e
    rw [upd_ne (ne q)]
    exact q
  · intro b ps e
    obtain ⟨m, q⟩ := J.base.tbls b ps e
    exact ⟨m, by rw [upd_ne (ne q)]; exact q⟩
  · rw [upd_ne (Ne.symm aL)]
    exact J.free
  · intro x c e
    rw [upd_ne (nc x c e)]
    exact J.freeC x c e
  · intro p hp
    have hq : p ∈ X.pn ++ (a, oe) :: pins := by
      rcases List.mem_append.mp hp with q | q
      · exact List.mem_append_left _ q
      · exact List.mem_append_right _ (List.mem_cons_of_mem _ q)
    obtain ⟨e, n, r⟩ := J.pin p hq
    exact ⟨e, by rw [upd_ne (np p hp)]; exact n, r⟩
  · intro b u e
    by_cases hb : b = a
    · subst hb
      rw [upd_same] at e
      cases e
      exact held_ok ea z hv
    · rw [upd_ne hb] at e
      exact (J.hok b u e).stay (fun _ _ _ q => q) (fun c q => by rw [upd_ne (ne q)]; exact q) fun c xs q => by rw [upd_ne (ne q)]; exact q
end
/-- what 'except (A, B, ..) as n: suite' wishes of an exception of the body, where the suite may keep it: behind the suite it is tracked -/
def wHeld (K : Frag) (cs : List Value) (i : Nat) (ts : Addr → Value → Option Addr → TS) (Wout : WX) (D : Ends) : WX := fun cls d σ H =>
  ∃ b, exmAny K cls cs = some b ∧
    (b = true → ∀ a, H a = none → ts a cls d { nx := fun σ' H' => H' a = none → D.nx (σ'.set i none) (upd H' a (ExH cls d a)), rt := fun _ _ => False, bk := fun _ _ => False, ct := fun _ _ => False } (σ.set i (some (.ref a))) H) ∧
    (b = false → Wout cls d σ H)
/-- the names of a written tuple of classes -/
inductive NamesAll (X : Cx) : List Expr → List Value → Prop
  | nil : NamesAll X [] []
  | cons {x : Str} {c : Value} {np : Pos} {es : List Expr} {cs : List Value} (hg : Gl X x) (hd : (x == ("__debug__" : Str)) = false) (hm : X.mg x = some c) (r : NamesAll X es cs) : NamesAll X (.Name x np :: es) (c :: cs)
section
variable {X : Cx} {n : Str} {cs : List Value} {es : List Expr} {i kk : Nat} {body suite : List Stmt} {b₀ : Stmt} {tpos pos pos' : Pos} {tb : WX → TS} {ts : Addr → Value → Option Addr → TS} {Wout : WX}
/-- the tuple of the clause is laid, nothing else is done -/
theorem names_run {a : Addr} {pn : List (Addr × Obj)} {σ : L2.St} {H : Hp} {s : Shared} {pins : List (Addr × Obj)} {E : Value → Shared → Prop} (S : Inv (X.suite a pn) pins σ H s) : ∀ {es : List Expr} {cs : List Value}, NamesAll X es cs → ∀ {Q : List Value → Shared → Prop}, Q cs s →
    wpAny (model X.prog X.w) (X.A.mark (some (.ref a))) (spliced (backTo tpos (starEach es X.env))) Q E s
  | _, _, .nil, Q, q => wpAny_items_nil q
  | _, _, .cons hg hd hm r, Q, q => wpAny_items_cons (ld_glob (X := X.suite a pn) S hg hm (names_run S r q) hd)
theorem names_len : ∀ {es : List Expr} {cs : List Value}, NamesAll X es cs → cs.length = es.length
  | _, _, .nil => rfl
  | _, _, .cons _ _ _ r => by rw [List.length_cons, List.length_cons, names_len r]
theorem flying_more {B : Heap} {l : List Env} {a : Addr} {Z : Obj → Prop} {h h' : Heap} (k : ∀ b o, h.get? b = some o → h'.get? b = some o) (f : HandSPX.FlyingZ B l a Z h) : HandSPX.FlyingZ B l a Z h' := by
  obtain ⟨f1, f2, f3, oe, vs, T, oT, tts, e1, e2, e3, e4, e5, e6, e7, e8⟩ := f
  exact ⟨fun b o q => k b o (f1 b o q), f2, f3.of_keeps fun b o q _ => ⟨o, k b o q, rfl⟩, oe, vs, T, oT, tts, k _ _ e1, e2, e3, e4, e5, e6, k _ _ e7, e8⟩
theorem ps_try_held (hs : X.stack = X.env :: X.outer) (hf : X.env.frame = some X.env.locals) (hN : X.N.Nodup) (hi : X.N[i]? = some n) (hln : X.env.kindOf n = some .local) (hc : NamesAll X es cs) (hz : es.length ≤ 1000) (tk : Takes X Wout)
    (hb : ∀ (W : WX) (pn : List (Addr × Obj)) (xe : Value → Shared → Prop), Takes (X.tr pn xe) W → PassesOwn (model X.prog X.w) X.A X.env xe → PSs (X.tr pn xe) body (tb W))
    (hsu : ∀ (a : Addr) (oe : Obj) (cls : Value) (d : Option Addr) (pn : List (Addr × Obj)), Zc cls d oe → (∃ vs, oe.data = .fields vs) → PSs (X.suite a ((a, oe) :: pn)) (b₀ :: suite) (ts a cls d)) :
    PS X (.Try body [.ExceptHandler (some (.Tuple es kk tpos)) (some n) (b₀ :: suite) pos'] [] [] pos) (fun D σ H => tb (wHeld X.K cs i ts Wout D) D σ H) := by
  constructor
  intro pins s σ H D I h
  have ok := I.ok
  have hfr : X.A.frames = some (X.env :: X.outer) := ok.frames.trans (congrArg some hs)
  refine wpAny_Try_except ?_
  have body_ := hb (wHeld X.K cs i ts Wout D) (X.pn ++ pins) (fun e s₁ => wpAny (model X.prog X.w) X.A (noteFrame e X.env) (fun _ s₂ => wpAny (model X.prog X.w) X.A (setFlight e none)
    (fun _ s₃ => wpAny (model X.prog X.w) X.A (handleBy e X.env [.ExceptHandler (some (.Tuple es kk tpos)) (some n) (b₀ :: suite) pos']) (SP X pins D) X.xe s₃) X.xe s₂) X.xe s₁) ?caught PassesOwn.looking
  refine wpAny_mono (body_.run [] s σ H D (I.toTry _) h) ?through fun e s1 he => he
  case through =>
    intro f s1 hsp
    cases f with
    | next =>
      obtain ⟨σ', H', J', q⟩ := hsp
      exact wpAny_execs_nil ⟨σ', H', J'.ofTry ok, q⟩
    | brk =>
      obtain ⟨σ', H', J', q⟩ := hsp
      exact ⟨σ', H', J'.ofTry ok, q⟩
    | cont =>
      obtain ⟨σ', H', J', q⟩ := hsp
      exact ⟨σ', H', J'.ofTry ok, q⟩
    | ret u =>
      obtain ⟨v, σ', H', J', r, q⟩ := hsp
      exact ⟨v, σ', H', J'.ofTry ok, r, q⟩
  case caught =>
    rintro u s' ⟨a, B, sI, pins', σ', H', cls, d, rfl, J', nb, up, sky, na, os, ag, b, hb1, hyes, hno⟩
    have J : Inv X pins σ' H' sI := J'.ofTry ok
    rw [hs] at sky
    show wpAny (model X.prog X.w) X.A (noteFrame (.ref a) X.env) _ _ _
    refine Sky.land Zc.steady hfr hf sky fun h3 fl3 up3 => ?_
    obtain ⟨oe3, vs3, he3, hz3, hd3⟩ := fl3.there
    -- where the exception stands: in no frame, new
    have nfr : a ∉ frs (X.env :: X.outer) := fun hm => by
      obtain ⟨_, o', e', hnf⟩ := fl3.2.2.1.mem hm
      rw [he3] at e'
      cases e'
      exact hnf _ hd3
    have nL : a ≠ X.env.locals := fun z => nfr (List.mem_filterMap.mpr ⟨X.env, List.mem_cons_self, by rw [hf, z]⟩)
    have nF : a ∉ X.fs := fun hm => by
      obtain ⟨e, he, q⟩ := List.mem_filterMap.mp hm
      exact nfr (List.mem_filterMap.mpr ⟨e, List.mem_cons_of_mem _ he, q⟩)
    have new : sI.heap.get? a = none := by
      cases q : sI.heap.get? a with
      | none => rfl
      | some o =>
        have z := nb a o q (by rw [hs]; exact nfr)
        rw [fl3.2.1] at z
        cases z
    have ne_ : ∀ {b : Addr} {o : Obj}, sI.heap.get? b = some o → b ≠ a := fun {b o} q z => by
      rw [z, new] at q
      cases q
    have n0 : ∀ b o, X.s_0.heap.get? b = some o → b ∉ X.ex → b ≠ a := fun b o e hx => by
      obtain ⟨o', q⟩ := J.base.there b o e hx
      exact ne_ q
    have nc : ∀ x c, X.env.cells.lookup x = some c → c ≠ a := fun x c e => by
      obtain ⟨v, o, q, _⟩ := J.cell x c e
      exact ne_ q
    have np : ∀ p ∈ X.pn ++ pins, p.1 ≠ a := fun p hp => ne_ (J.pin p hp).1
    have J3 : Inv X pins σ' H' { s' with heap := h3 } := J.landed nb fl3.1 (up.trans up3) os ag
    have S3 := J3.suite he3 hd3 na nL nF
    refine wpAny_handleBy_cons (codeAny_handlers_test ?_) (by intro q; cases q)
    -- the tuple
    refine wpAny_Tuple (names_run S3 hc ⟨by rw [names_len hc]; exact Nat.le_trans hz (by decide), ?_⟩)
    have kp : ∀ q o, h3.get? q = some o → (h3.push { cls := .type "tuple", data := .seq cs.toArray }).get? q = some o := fun _ _ z => Heap.get?_push_of_some _ z
    have fl5 := flying_more kp fl3
    have up5 : sI.heap.UpToSlots (h3.push { cls := .type "tuple", data := .seq cs.toArray }) := (up.trans up3).trans (.of_keeps kp)
    generalize hh5 : h3.push { cls := .type "tuple", data := .seq cs.toArray } = h5 at kp fl5 up5
    have htp : h5.get? h3.objs.size = some { cls := .type "tuple", data := .seq cs.toArray } := by
      rw [← hh5]
      exact Heap.get?_push_size h3 rfl
    have J5 : Inv X pins σ' H' { s' with heap := h5 } := J.landed nb fl5.1 up5 os ag
    have LT : Looks (model X.prog X.w) h5 (typeOf (.ref a)) cls := fun A Q E s k q => wpAny_typeOf_ref (k _ _ (kp _ _ he3)) (by rw [hz3.1]; exact q)
    refine (exm_tuple J5.kIn LT htp rfl rfl hb1).here ?_
    cases b with
    | true =>
      refine codeAny_handlers_suite_as ?_
      refine HandSPX.lands_againZ fl5 fun h4 fl4 up4 => ?_
      have J4 : Inv X pins σ' H' { s' with heap := h4 } := J.landed nb fl4.1 (up5.trans up4) os ag
      obtain ⟨oe4, vs4, he4, hz4, hd4⟩ := fl4.there
      have S4 := J4.suite he4 hd4 na nL nF
      refine store_ok (X := X.suite a ((a, oe4) :: (X.pn ++ pins))) (v := .ref a) S4 hN hi (.inl hln) rfl (fun s5 S5 => ?_) (.inr hln)
      refine wpAny_mono ((hsu a oe4 cls d (X.pn ++ pins) hz4 ⟨_, hd4⟩).run [] s5 _ H' _ S5 (hyes rfl a na)) (fun f s6 hsp => ?_) fun _ _ z => False.elim z
      cases f with
      | next =>
        obtain ⟨σ6, H6, S6, q6⟩ := hsp
        have U6 : Inv X ((a, oe4) :: pins) σ6 H6 s6 := ⟨ok, S6.os, S6.bare, S6.base, S6.loc, S6.cell, S6.free, S6.freeC, fun p hp => S6.pin p (by
          rw [List.append_nil]
          rcases List.mem_append.mp hp with q | q
          · exact List.mem_cons_of_mem _ (List.mem_append_left _ q)
          · rcases List.mem_cons.mp q with q | q
            · rw [q]
              exact List.mem_cons_self
            · exact List.mem_cons_of_mem _ (List.mem_append_right _ q)), S6.hok, S6.len⟩
        refine gone_ok U6 hN hi hln fun s7 J7 => ?_
        have na7 := (J7.pin (a, oe4) (List.mem_append_right _ List.mem_cons_self)).2.1
        exact ⟨_, _, inv_hold J7 hz4 hd4 n0 nc np, q6 na7⟩
      | brk =>
        obtain ⟨σ6, H6, S6, q6⟩ := hsp
        exact q6.elim
      | cont =>
        obtain ⟨σ6, H6, S6, q6⟩ := hsp
        exact q6.elim
      | ret u =>
        obtain ⟨v6, σ6, H6, S6, r6, q6⟩ := hsp
        exact q6.elim
    | false =>
      show wpAny _ X.A (handleBy (.ref a) X.env []) _ _ _
      refine wpAny_handleBy_nil ?_
      obtain ⟨k1, k2, k3, oe, vs, T, oT, tts, he, hz, hd, h1, hr⟩ := id fl5
      unfold PySem.passOn
      refine wpAny_bind (wpAny_field he hd h1 ?_)
      rw [if_neg (show ¬ ((Value.ref T == Value.none) = true) from by simp)]
      have fin : wpAny (model X.prog X.w) X.A (setFlight (.ref a) X.env.frame) (fun _ s4 => wpAny (model X.prog X.w) X.A (throw (.ref a) : Sem Flow) (SP X pins D) X.xe s4) X.xe { s' with heap := h5 } := by
        rw [hf]
        refine HandSPX.setFlight_upZ fl5 fun h4 hh4 up4 => wpAny_throw (tk _ _ ?_)
        exact ⟨a, B, sI, pins, σ', H', cls, d, rfl, J, nb, up5.trans up4, .inr (.inr (by rw [hs]; exact hh4)), na, os, ag, hno rfl⟩
      first
        | exact wpAny_bind (wpAny_pure (wpAny_bind fin))
        | exact wpAny_bind fin
end
end Pk
/-! Defs that are called while nothing is being shown (no repr runs around them): for repr of lists. -/
namespace Pk
open PySem PySem.Spec PyProof.Rows L2
/-- nothing is being shown around -/
def Calm (A : Around) : Prop := A.guards = some []
/-- a def's promise, where nothing is being shown around its call -/
structure FnG (P : Program) (w : World) (K : PySem.W.Frag) (mg : Str → Option Value) (base : Heap) (CX : CXT) (k : Nat) (f : Addr) (fd : FuncData) (ps : List Str) (sp : Sp) : Prop where
  size : ∀ vs H Q E, sp vs H Q E → vs.length = ps.length
  go : ∀ (A : Around), Calm A → Room k A → ∀ (outer : List Env) (s : Shared) (H : Hp) (args : Args) (us : List Value) (vs : List V) (Q : VK) (E : XK), Env0 P w K mg base A outer s H →
    BindsTo s fd args (ps.zip us) → Vals vs us → sp vs H Q E → codeAny (model P w) A (.call (.ref f) args) (CR CX outer P w H s Q E) s
section
variable {P : Program} {w : World} {K : PySem.W.Frag} {mg : Str → Option Value} {base : Heap} {CX : CXT} {k : Nat} {f : Addr} {fd : FuncData} {ps : List Str} {sp : Sp}
theorem FnG.of (F : FnOk P w K mg base CX k f fd ps sp) : FnG P w K mg base CX k f fd ps sp := ⟨F.len, fun A _ hr outer s H args us vs Q E e0 hb r h => F.run A outer s H args us vs Q E hr e0 hb r h⟩
/-- a def by its body -/
theorem fnG_of {name qual : Str} {params : Arguments} {body : List Stmt} {scope : Scope} {dV kV doc pm cdv ct oc : Value} {an od : Option Addr} {osl : Array (Option Value)} {N : List Str}
    (lk : K.lookup f = some ⟨oc, od, .func (PySem.W.fnOf name qual params body scope dV kV doc pm an cdv ct), osl⟩) (hcd : PySem.W.codeIn K cdv qual = true) (S : FnScope N ps scope) (size : ∀ vs H Q E, sp vs H Q E → vs.length = ps.length)
    (hbody : ∀ (A : Around), Calm A → ∀ (outer : List Env) (s : Shared) (H : Hp) (vs : List V) (Q : VK) (E : XK), Room k (A.deeper (envOfC qual scope s.heap.objs.size f cdv)) → sp vs H Q E →
      ∃ t, PSs (cxOf CX P w K mg base N qual scope f cdv A outer s H E) body t ∧ t { nx := fun _ H' => Q .non H', rt := Q } (start N vs) H) :
    FnG P w K mg base CX (k + 1) f (PySem.W.fnOf name qual params body scope dV kV doc pm an cdv ct) ps sp := by
  refine ⟨size, ?_⟩
  intro A calm hr outer s H args us vs Q E e0 hb r hsp
  have keep := fun b o e => (e0.bs b o e).1
  have KX := e0.mod.kin.keeps keep
  obtain ⟨t, ht, hq⟩ := hbody A calm outer s H vs Q E (hr.deeper _) hsp
  refine codeAny_call_function hr.depth (KX _ _ lk) rfl S.co S.gen rfl (PySem.W.codeRec_of KX hcd) (hb _ _ _ _ (wpAny_newFunctionEnv_cells S.kind ?kinds ?inside))
  case kinds =>
    rintro ⟨n, v⟩ hy
    rcases S.par n (List.of_mem_zip hy).1 with q | q
    · exact .inl q
    · exact .inr ⟨q, PySem.W.cellsFrom_some _ _ _ (.inl q)⟩
  case inside =>
    rintro env rfl s1 x
    refine ⟨(e0.mod.nolimit.keeps keep).keeps x.toInCall.keep, codeAny_func ?_⟩
    have I := inv_start (CX := CX) (E := E) S hr.hd e0 (size _ _ _ _ hsp) r x
    refine wpAny_mono (ht.run [] s1 (start N vs) H _ I hq) ?_ fun e s' hs => hs
    intro fl s' hs
    cases fl with
    | ret u =>
      obtain ⟨v, σ', H', J, rv, q⟩ := hs
      exact ⟨v, H', J.os, J.bare, J.base, J.hok, rv, q⟩
    | next =>
      obtain ⟨σ', H', J, q⟩ := hs
      exact ⟨.non, H', J.os, J.bare, J.base, J.hok, rfl, q⟩
    | brk =>
      obtain ⟨_, _, _, q⟩ := hs
      exact q.elim
    | cont =>
      obtain ⟨_, _, _, q⟩ := hs
      exact q.elim
/-- as Fun.ok -/
theorem okG {x qual : Str} {st : Stmt} {N : List Str} (F : Fun K x qual st f fd) (S : FnScope N ps (defScope st)) (size : ∀ vs H Q E, sp vs H Q E → vs.length = ps.length)
    (hbody : ∀ (cdv : Value) (A : Around), Calm A → ∀ (outer : List Env) (s : Shared) (H : Hp) (vs : List V) (Q : VK) (E : XK), Room k (A.deeper (envOfC qual (defScope st) s.heap.objs.size f cdv)) → sp vs H Q E →
      ∃ t, PSs (cxOf CX0 P w K mg base N qual (defScope st) f cdv A outer s H E).nox (defBody st) t ∧ t { nx := fun _ H' => Q .non H', rt := Q } (start N vs) H) : FnG P w K mg base CX0 (k + 1) f fd ps sp := by
  obtain ⟨oc, od, kV, doc, pm, an, cdv, ct, osl, rfl, lk, hcd⟩ := F.ex
  refine fnG_of lk hcd S size ?_
  intro A calm outer s H vs Q E hr hsp
  obtain ⟨t, h, q⟩ := hbody cdv A calm outer s H vs Q E hr hsp
  exact ⟨t, h.nox, q⟩
end
/-! ### calls of such defs -/
section
variable {X : Cx} {CX : CXT} {k : Nat} {f : Addr} {fd : FuncData} {ps ks : List Str} {sp : Sp} {E : XK} {x : Str} {p pos : Pos} {e : Expr} {es : List Expr} {t tk : TA} {ds : List Value} {dvs : List V}
theorem runG {pins : List (Addr × Obj)} {σ : L2.St} {H : Hp} {s : Shared} {Q : VK} {us : List Value} {vs : List V} (F : FnG X.prog X.w X.K X.mg X.base CX k f fd ps sp) (calm : Calm X.A) (hr : Room k X.A) (hb : Binds X.K fd ps ds) (hd : Vals dvs ds) (hx : Passes CX X E)
    (I : L2.Inv X pins σ H s) (r : Vals vs us) (h : sp (vs ++ dvs) H Q E) : wpAny (model X.prog X.w) X.A (call (.ref f) us) (EP X pins σ Q) X.xe s := by
  have r2 := r.append hd
  have hl : (us ++ ds).length = ps.length := r2.length.symm.trans (F.size _ _ _ _ h)
  refine wpAny_call (codeAny_mono (F.go X.A calm hr X.stack s H ⟨us, []⟩ (us ++ ds) (vs ++ dvs) Q E I.env0 (hb s us I.kIn hl) r2 h) ?_)
  intro r s' hq
  match r, hq with
  | .error e, hq => exact hx pins σ H s e s' I hq
  | .ok (.ret u), hq => exact I.after hq
  | .ok .next, hq => exact hq.elim
  | .ok .brk, hq => exact hq.elim
  | .ok .cont, hq => exact hq.elim
theorem pe_callG (F : FnG X.prog X.w X.K X.mg X.base CX k f fd ps sp) (calm : Calm X.A) (hr : Room k X.A) (hg : Gl X x) (hm : X.mg x = some (.ref f)) (hk : PySem.W.keepIn X.K (.ref f) = true) (hb : Binds X.K fd ps ds) (hd : Vals dvs ds) (hx : Passes CX X E)
    (ha : PA X (e :: es) t) (hdb : (x == ("__debug__" : Str)) = false := by decide) (he : starEach (e :: es) X.env = (false, eval e X.env) :: starEach es X.env := by rfl) (hpl : (backTo pos (starEach es X.env)).any (·.1) = false := by rfl) :
    PE X (.Call (.Name x p) (e :: es) [] pos) (tCall sp dvs E t) := by
  constructor
  intro pins s σ H Q I h
  refine wpAny_Call_Name_kw (ld_glob I hg hm (PySem.W.callWith_K (h₀ := X.base) I.ok.mod.kin hk (thn (ha.run pos pins s σ H _ I h) ?_) he hpl) hdb)
  rintro us s1 ⟨vs, H1, I1, r, q⟩
  exact ⟨I1.kIn, runG F calm hr hb hd hx I1 r q⟩
theorem pe_call0G (F : FnG X.prog X.w X.K X.mg X.base CX k f fd ps sp) (calm : Calm X.A) (hr : Room k X.A) (hg : Gl X x) (hm : X.mg x = some (.ref f)) (hk : PySem.W.keepIn X.K (.ref f) = true) (hb : Binds X.K fd ps ds) (hd : Vals dvs ds) (hx : Passes CX X E)
    (hdb : (x == ("__debug__" : Str)) = false := by decide) : PE X (.Call (.Name x p) [] [] pos) (tCall sp dvs E tNil) := by
  constructor
  intro pins s σ H Q I h
  refine wpAny_Call_Name_kw (ld_glob I hg hm ?_ hdb)
  exact PySem.W.callWith_K0 I.kIn hk (runG (us := []) (vs := []) F calm hr hb hd hx I .nil h)
end
/-! ### repr -/
section
variable {X : Cx}
/-- data as it is shown: of texts, numbers, truths, None, lists and tuples; or an empty dict -/
inductive Dq (K : PySem.W.Frag) (H : Hp) : V → PyData → Prop
  | of {v : V} {d : PyData} (h : Dp K H v d) (n : d.hasDict = false) : Dq K H v d
  | emp {a : Addr} (h : H a = some (.dK [])) : Dq K H (.ref a) (.dict [])
/-- repr(x) -/
def rShow (K : PySem.W.Frag) : List V → Hp → VK → Prop := fun xs H Q => ∃ x d, xs = [x] ∧ Dq K H x d ∧ d.showable = true ∧ d.depth ≤ 64 ∧ d.shown.length ≤ sizeLine ∧ Q (.str d.shown) H
theorem call_show (calm : Calm X.A) (hu : X.A.units + 70 < cLine) : CallR X (.builtin "repr") (rShow X.K) := by
  rintro pins s σ H xs us Q I r ⟨x, d, rfl, hd, hs, hdep, hsz, q⟩
  obtain ⟨u, rfl, rx⟩ := vals1 r
  have leaf : ∀ {t k : Nat}, EP X pins σ Q (.str d.shown t) { s with toks := k } := fun {t k} => ⟨.str d.shown, H, I.tok _, ⟨_, rfl⟩, q⟩
  have big : ∀ {a : Addr} {as : List Addr}, u = .ref a → Reads s.heap (.ref a) d as → (d.hasDict = true → sysModules ∉ as) → wpAny (model X.prog X.w) X.A (call (.builtin "repr") [u]) (EP X pins σ Q) X.xe s := by
    intro a as e rd nd
    subst e
    exact repr_of_reads' rd hs nd calm (by omega) (fun _ _ z => z) (fun h' t tk keep => ⟨.str d.shown, H, I.kept keep, ⟨_, rfl⟩, q⟩) hsz
  cases hd with
  | of h n =>
    obtain ⟨as, rd⟩ := Dp.reads I d x u h rx
    cases h with
    | non =>
      cases rx
      exact P.repr_of_none leaf
    | bl b =>
      cases rx
      exact P.repr_of_bool leaf
    | int i =>
      obtain ⟨t, rfl⟩ := rx
      exact P.repr_of_int (of_decide_eq_true hs) leaf
    | str y =>
      obtain ⟨t, rfl⟩ := rx
      exact P.repr_of_str leaf hsz
    | lst h1 h2 =>
      cases rx
      exact big rfl rd fun z => by rw [n] at z; cases z
    | tup h1 h2 =>
      cases rx
      exact big rfl rd fun z => by rw [n] at z; cases z
  | @emp a h =>
    cases rx
    obtain ⟨_, ns, vs, kv, o, es, ep, h1, h2, h3, h4⟩ := I.hok a _ h
    cases kv
    have e0 : es.toList = [] := by
      have z := h4.2.1
      cases hes : es.toList with
      | nil => rfl
      | cons e r =>
        rw [hes] at z
        cases z
    have rd : Reads s.heap (.ref a) (.dict []) (a :: [] ++ []) := .dict h1 h2.1 h3 (by rw [e0]; exact .nil) (by rw [e0]; exact .nil)
    refine big rfl rd fun _ hm => ?_
    rw [List.append_nil, List.mem_singleton] at hm
    rw [hm, beq_self_eq_true] at ns
    cases ns
end
/-! ### the end: the law is called while nothing is being shown -/
section
variable {P : Program} {w : World} {K : PySem.W.Frag} {mg mb : Str → Option Value} {k : Nat} {fa a : Addr} {fd : FuncData} {x : Str} {sp : Sp} {s : Shared} {vs : List Value} {ns : List Int}
/-- at the law's call at most the script is tracked -/
theorem lawG_at (H : Hp) (only : Only H) (just : ∀ b, H b ≠ none → b = a) (apart : H a ≠ none → K.lookup a = none) (hok : HOk P w H s.heap) (kin : K.In s.heap) (gl : s.heap.Ns mainGlobals mg) (bl : s.heap.Ns builtinsNs mb) (bb : ∀ x : Str, x ≠ "__name__" → mb x = bootBuiltins x)
    (lim : s.heap.NoLimit) (gens : s.gens = #[]) (obj : s.heap.get? a = some { cls := .type "list", data := .seq vs.toArray }) (room : Room k callerA) (F : ∀ base : Heap, K.In base → base.Ns mainGlobals mg → FnG P w K mg base CX0 k fa fd [x] sp)
    (bind : ∀ (s : Shared) (u : Value), BindsTo s fd ⟨[u], []⟩ [(x, u)]) (hsp : sp [.ref a] H (fun v _ => v = .bl true) fun _ _ _ => False) :
    codeAny (model P w) callerA (.call (.ref fa) ⟨[.ref a], []⟩) (fun r s' => r = .ok (.ret (.bool true)) ∧ OldK s.heap s'.heap ∧ s'.os = s.os ∧ AllBare s'.gens) s := by
  have at_a : ∀ {b : Addr} {u : HO}, H b = some u → b = a := fun {b u} q => just b (by rw [q]; exact fun z => nomatch z)
  have untracked : ∀ {b : Addr} {o : Obj} {es : Array DictEntry} {n : Nat}, s.heap.get? b = some o → o.data = .dict es n → H b = none := by
    intro b o es n e d
    cases q : H b with
    | none => rfl
    | some u =>
      rw [at_a q, obj] at e
      cases e
      cases d
  have names : ∀ {b : Addr} {m : Str → Option Value}, s.heap.Ns b m → (hidT s.heap H).Ns b m := by
    rintro b m ⟨o, es, n, e, d, r⟩
    exact ⟨o, es, n, hidT_get e (untracked e d), d, r⟩
  have kin' : K.In (hidT s.heap H) := by
    intro b o e
    refine hidT_get (kin b o e) ?_
    cases q : H b with
    | none => rfl
    | some u =>
      have z := apart (by rw [← at_a q, q]; exact fun z => nomatch z)
      rw [at_a q, z] at e
      cases e
  obtain ⟨mc, lm, lv⟩ := lim
  have md : Mod K mg (hidT s.heap H) := ⟨kin', names gl, ⟨mb, names bl, bb⟩, ⟨mc, names lm, lv⟩⟩
  have env : Env0 P w K mg (hidT s.heap H) callerA [] s H := ⟨rfl, md, fun b o e => of_hidT e, Nat.le_of_eq (hidT_size _ _), trivial, (fun b hb => by cases hb), hok, AllBare.of_eq gens⟩
  refine codeAny_mono ((F _ kin' (names gl)).go callerA rfl room [] s H ⟨[.ref a], []⟩ [.ref a] [.ref a] _ _ env (bind s (.ref a)) (.cons rfl .nil) hsp) ?_
  intro r s' h
  match r, h with
  | .error e, h => exact h.elim
  | .ok .next, h => exact h.elim
  | .ok .brk, h => exact h.elim
  | .ok .cont, h => exact h.elim
  | .ok (.ret u), ⟨v, H', os, bare, un, hok', rv, q⟩ =>
    have q' : v = .bl true := q
    subst q'
    cases (show u = Value.bool true from rv)
    refine ⟨rfl, OldK.of_keep fun b o e => ?_, os, bare⟩
    rcases only b with z | ⟨ob, xs, z⟩
    · exact un.keep b o e z (fun m => by cases m) (fun m => by cases m)
    · have e1 := (hok b _ z).1
      have e2 := (hok' b _ (un.frzs b ob _ z)).1
      rw [e] at e1
      cases e1
      exact e2
theorem lawG_call (kin : K.In s.heap) (gl : s.heap.Ns mainGlobals mg) (bl : s.heap.Ns builtinsNs mb) (bb : ∀ x : Str, x ≠ "__name__" → mb x = bootBuiltins x) (lim : s.heap.NoLimit) (gens : s.gens = #[]) (obj : s.heap.get? a = some { cls := .type "list", data := .seq vs.toArray })
    (hin : IntsAre vs ns) (short : ns.length ≤ sizeLine) (room : Room k callerA) (F : ∀ base : Heap, K.In base → base.Ns mainGlobals mg → FnG P w K mg base CX0 k fa fd [x] sp) (bind : ∀ (s : Shared) (u : Value), BindsTo s fd ⟨[u], []⟩ [(x, u)])
    (hsp : ∀ H : Hp, SqL K H a (ns.map V.int) → sp [.ref a] H (fun v _ => v = .bl true) fun _ _ _ => False) :
    codeAny (model P w) callerA (.call (.ref fa) ⟨[.ref a], []⟩) (fun r s' => r = .ok (.ret (.bool true)) ∧ OldK s.heap s'.heap ∧ s'.os = s.os ∧ AllBare s'.gens) s := by
  have rv := vals_ints hin
  have len := hin.length
  cases hk : K.lookup a with
  | some o =>
    have e := kin a o hk
    rw [obj] at e
    cases e
    refine lawG_at (fun _ => none) (fun _ => .inl rfl) (fun b z => absurd rfl z) (fun z => absurd rfl z) (fun b u z => by cases z) kin gl bl bb lim gens obj room F bind (hsp _ (.inr ?_))
    exact ⟨_, vs.toArray, _, hk, rfl, rfl, rfl, by rw [List.size_toArray, len]; exact short, by simpa using rv⟩
  | none =>
    let ob : Obj := { cls := .type "list", data := .seq vs.toArray }
    have at_ : ∀ {b : Addr} {u : HO}, upd (fun _ => none) a (.frz ob (.lst (ns.map V.int))) b = some u → b = a ∧ u = .frz ob (.lst (ns.map V.int)) := by
      intro b u e
      by_cases hb : b = a
      · subst hb
        rw [upd_same] at e
        cases e
        exact ⟨rfl, rfl⟩
      · rw [upd_ne hb] at e
        cases e
    refine lawG_at (upd (fun _ => none) a (.frz ob (.lst (ns.map V.int)))) (fun b => ?_) (fun b z => ?_) (fun _ => hk) (fun b u e => ?_) kin gl bl bb lim gens obj room F bind (hsp _ (.inl (.inr ⟨ob, upd_same⟩)))
    · by_cases hb : b = a
      · rw [hb]
        exact .inr ⟨ob, ns.map V.int, upd_same⟩
      · exact .inl (upd_ne hb)
    · cases q : upd (fun _ => none) a (.frz ob (.lst (ns.map V.int))) b with
      | none => exact absurd q z
      | some u => exact (at_ q).1
    · obtain ⟨rfl, rfl⟩ := at_ e
      exact ⟨obj, by rw [List.length_map]; exact short, vs, _, rv, obj⟩
end
theorem walkG {l : PySem.W.OpenLaw} {n k : Nat} {q : Program} {loose : List Str} {XP : (Str → Option Value) → Heap → Prop} {YP : World → Heap → Prop} {d : DefRec} {K : Params → PySem.W.Frag} {sp : PySem.W.Frag → Sp} {x : Str} (hn : l.most = some n) (hn2 : n ≤ sizeLine) (hdf : d.params.defaults = []) (hr : Room k callerA)
    (hY : ∀ (w : World) (h : Heap), YP w h → (K w.params).In h)
    (F : ∀ (w : World) (mg : Str → Option Value) (fa : Addr) (h : Heap), (K w.params).In h → h.Ns mainGlobals mg → mg d.name = some (.ref fa) →
      ∃ fd : FuncData, (∀ (s : Shared) (u : Value), BindsTo s fd ⟨[u], []⟩ [(x, u)]) ∧ ∀ base : Heap, (K w.params).In base → base.Ns mainGlobals mg → FnG l.prog w (K w.params) mg base CX0 k fa fd [x] (sp (K w.params)))
    (hsp : ∀ (K : PySem.W.Frag) (H : Hp) (a : Addr) (ns : List Int), ns.length ≤ n → SqL K H a (ns.map V.int) → sp K [.ref a] H (fun v _ => v = .bl true) fun _ _ _ => False) :
    PySem.W.WalkO q loose XP YP l.row.toRowW d [] (fun f vs => PySem.call f vs) := by
  refine Att.attach_call hn hdf ?_
  intro w s₀ s₁ mg mb fa o pm cd doc a vs ns G Y ho hd hcd hmg hobj hints hlen hg
  obtain ⟨fd, hb, hF⟩ := F w mg fa _ (hY w _ Y) G.T.g hmg
  exact lawG_call (hY w _ Y) G.T.g G.T.b G.T.builtins G.T.nolimit hg hobj hints (Nat.le_trans hlen hn2) hr hF hb fun H hS => hsp _ H a ns hlen hS
end Pk
/-! Own errors that keep what they are made of in one field: made, raised, caught, kept, read. -/
namespace Pk
open PySem PySem.Spec PySem.W PySem.Calls PyProof.Rows PySem.HandSPX
open Builtin Builtin.ObjectAttr
/-- what a class's line of ancestors must bear, so that its errors are made and their fields stored -/
structure Line (bm bmB : List Value) : Prop where
  has : ∀ X : String, bm.contains (.type X) = bmB.contains (.type X)
  pass : ∀ self : Value, refuseLoop self "__setattr__" bm = pure ()
  obj : bmB.contains (.type "object") = true
theorem Line.own {bm bmB : List Value} {c : Addr} (l : Line bm bmB) : Line (.ref c :: bm) bmB where
  has := fun X => by
    rw [List.contains_cons, l.has X]
    rfl
  pass := fun self => by
    rw [refuseLoop_ref]
    exact l.pass self
  obj := l.obj
section
variable {prog : Program} {w : World} {A : Around} {E : Value → Shared → Prop} {R : Result → Shared → Prop} {hp : Heap} {g : Array GenState} {d : Drawn} {t : Nat} {os : OsState}
/-- self.name = v on an error that has no dict yet, whatever its built-in base -/
theorem store_err {K : Frag} {name : Str} {tk : Tok} {v : Value} {x C : Addr} {fv : Array Value} {cd : ClassData} {bmB : List Value} (X : K.In hp) (hx : hp.get? x = some { cls := .ref C, data := .fields fv }) (hcd : clsIn K C = some cd) (ln : Line cd.mro bmB) (ne : cd.mro.isEmpty = false)
    (hh : cd.hasDict = true) (ha : findIn K (.ref C) name = some none)
    (hq : ∀ h' tk' dx, (∀ b o, b ≠ x → hp.get? b = some o → h'.get? b = some o) → hp.objs.size ≤ dx → dx ≠ x → h'.get? x = some { cls := .ref C, dict := some dx, data := .fields fv } → h'.Ns1 dx (fun y => if y = name then some v else none) → R (.ok (.ret .none)) ⟨h', g, d, tk', os⟩) :
    codeAny (model prog w) A (.call (.builtin "object.__setattr__") ⟨[.ref x, .str name tk, v], []⟩) R ⟨hp, g, d, t, os⟩ := by
  have I : InstAt hp x { cls := .ref C, data := .fields fv } C none := ⟨hx, rfl, rfl, trivial⟩
  have hob : cd.mro.contains (.type "object") = true := (ln.has "object").trans ln.obj
  have hxs : x ≠ hp.objs.size := Nat.ne_of_lt (Heap.lt_size hx)
  have mro_ : mroIn K C (.type "object") = some true := by
    unfold mroIn
    rw [hcd, Option.bind_some, if_neg (by rw [ne]; exact Bool.false_ne_true), hob]
  have isObj : Looks (model prog w) hp (isInstance (.ref x) (.type "object")) true := I.type.andThen (looks_mroIn X mro_)
  refine codeAny_call_builtin F.store_object.slot.plain F.store_object.entry (@check_slot (model prog w) _ _ ⟨hp, g, d, t, os⟩ "object.__setattr__" "object" "__setattr__" (.ref x) [.str name tk, v] [] _ F.store_object.kind F.store_object.split isObj (F.store_object.args (.ref x) (.str name tk) v) ?_)
  have Lm : Looks (model prog w) hp (mroOf (.ref C)) cd.mro := (looks_clsIn X hcd).andThen .now
  have Lt : Looks (model prog w) hp (storeTaker? none) none := .now
  have Lc : Looks (model prog w) hp (classData C) cd := looks_clsIn X hcd
  rw [osa_eq, refuse_eq]
  refine wpAny_bind (wpAny_bind (I.type.at (wpAny_bind (Lm.at ?_))))
  rw [ln.pass]
  refine wpAny_pure (wpAny_bind (I.type.at (wpAny_bind ((looks_findIn X ha).at (wpAny_bind (Lt.at ?_))))))
  show wpAny _ _ (storeInOwnDict (.ref x) (.ref C) (.str name tk) name v false) _ _ _
  obtain ⟨nm, bs, mro, ns, qn, hd, sn, sb, ab, col, del⟩ := cd
  dsimp only at hh
  subst hh
  unfold storeInOwnDict ownDictForStores
  repeat (first | with_reducible refine store_in_new ?_ ?_ | with_reducible refine wpAny_loadPart_at hx ?_ | with_reducible refine Lc.at ?_ | wp_step)
  · exact ⟨_, #[], _, (Heap.get?_update_ne _ _ _ _ hxs.symm).trans (Heap.get?_push_at rfl rfl), rfl, fun e he => absurd he (by simp), fun _ => rfl⟩
  · intro h' tk' hn' hs
    refine hq h' tk' hp.objs.size ?_ (Nat.le_refl _) hxs.symm ?_ hn'
    · intro b o hb ho
      exact (hs.2 b (Nat.ne_of_lt (Heap.lt_size ho))).trans ((Heap.get?_update_ne _ _ _ _ hb).trans (Heap.get?_push_of_some _ ho))
    · exact (hs.2 x hxs).trans (Heap.get?_update_self _ (Heap.get?_push_of_some _ hx) rfl)
end
theorem one_size (v : Value) : [v].length ≤ sizeLine := by
  rw [sizeLine_eq]
  exact (by decide : 1 ≤ 16777216)
theorem ldC {M : Model} {s : Shared} {name : Str} {scope : Scope} {L a : Addr} {cd : Value} {m : Str → Option Value} {x : Str} {pos : Pos} {v : Value} {Q : Value → Shared → Prop} {A : Around} {E : Value → Shared → Prop} (hn : s.heap.Ns L m) (hv : m x = some v) (h : Q v s)
    (hk : scope.kind = .function := by rfl) (hl : (envOfC name scope L a cd).kindOf x = some .local := by rfl) (hd : (x == ("__debug__" : Str)) = false := by decide) :
    wpAny M A (eval (.Name x pos) (envOfC name scope L a cd)) Q E s := wpAny_Name (wpAny_loadName_local hk hl hn hv h) hd
end Pk
namespace Pk
open PySem PySem.Spec PyProof.Rows L2
/-! ### isinstance of an error that is kept, with a dict of its own or without -/
/-- where the dict of a kept error is tracked, if it has one -/
def DictOk (H : Hp) (d : Option Addr) : Prop := d = none ∨ ∃ (dd : Addr) (fs : List (Str × V)), d = some dd ∧ H dd = some (.xd fs)
def rIsK (K : PySem.W.Frag) : List V → Hp → VK → Prop := fun xs H Q => ∃ (a D : Addr) (d : Option Addr) (c : V) (cv : Value) (b : Bool), xs = [.ref a, c] ∧ H a = some (ExH (.ref D) d a) ∧ DictOk H d ∧ ExcC K D ∧ ClsV c cv ∧ PySem.W.kitOne K (.ref D) cv = some b ∧ Q (.bl b) H
theorem held_at {X : Cx} {pins : List (Addr × Obj)} {σ : L2.St} {H : Hp} {s : Shared} {a D : Addr} {d : Option Addr} (I : L2.Inv X pins σ H s) (hH : H a = some (ExH (.ref D) d a)) (hd : DictOk H d) : ∃ oe od, PySem.W.InstAt s.heap a oe D od ∧ (∀ dd fs, d = some dd → H dd = some (.xd fs) → ∃ o, od = some o ∧ s.heap.get? dd = some o) := by
  obtain ⟨⟨oe, vs, hget, hz, hv⟩, _, _⟩ := I.hok a _ hH
  obtain ⟨oc, odt, oda, osl⟩ := oe
  obtain ⟨h1, h2⟩ := hz
  dsimp only at h1 h2 hv
  subst h1 h2 hv
  rcases hd with rfl | ⟨dd, fs, rfl, hdd⟩
  · exact ⟨_, none, ⟨hget, rfl, rfl, trivial⟩, fun _ _ z => nomatch z⟩
  · obtain ⟨mA, hns, hr⟩ := I.hok dd _ hdd
    obtain ⟨o, ho, _⟩ := lookIn_ns hns
    refine ⟨_, some o, ⟨hget, rfl, rfl, ho⟩, fun dd' fs' e _ => ?_⟩
    cases e
    exact ⟨o, rfl, ho⟩
theorem call_isK {X : Cx} : CallR X (.builtin "isinstance") (rIsK X.K) := by
  rintro pins s σ H xs us Q I r ⟨a, D, d, c, cv, b, rfl, hH, hd, C, hc, e, q⟩
  obtain ⟨u1, u2, rfl, r1, r2⟩ := vals2 r
  cases (show u1 = Value.ref a from r1)
  have ec := hc.eq r2
  subst ec
  obtain ⟨oe, od, J, _⟩ := held_at I hH hd
  have hcl : (PySem.W.clsIn X.K D).isSome = true := by
    have z := C.hd
    unfold PySem.W.hasDictIn at z
    cases hq : PySem.W.clsIn X.K D with
    | none =>
      rw [hq] at z
      cases z
    | some c => rfl
  exact PySem.W.kia_one (PySem.W.kitx_exc hcl C.hg C.hk C.hs C.ha C.hn C.ht C.hm) I.kIn J e (fun z => nomatch z) fun tk => ⟨.bl b, H, I.tok tk, rfl, q⟩
/-! ### errors of the field part -/
namespace Of_part
open PySem.W PySem.Calls PySem.HandSPX
def iA (p1 p2 : Pos) : Arguments := { posonlyargs := [], args := [{ arg := "self", annotation := none, pos := p1 }, { arg := "part", annotation := none, pos := p2 }], vararg := none, kwonlyargs := [], kw_defaults := [], kwarg := none, defaults := [] }
def iB (q1 q2 q3 q4 : Pos) : List Stmt := [.Assign [.Attribute (.Name "self" q1) "part" q2] (.Name "part" q3) q4]
def iS : Scope := { kind := .function, names := [(PySem.Str.ofString "self", .local), (PySem.Str.ofString "part", .local)], isGenerator := false, isCoroutine := false, more := [] }
/-- the class called nm, at C, and its __init__, at fI, as the top has left them -/
structure Tx (K : Frag) (mg : Str → Option Value) (nm ql : Str) (C fI : Addr) (B newId initId : String) (bmB : List Value) : Prop where
  base : ExcBaseFacts B newId initId bmB
  gC : mg nm = some (.ref C)
  cls : ∃ n1 q N bs bm sn sub ab col dd k0 k1 k2 k3 k5, K.lookup C = some (excClassObj n1 q C N bs bm true sn sub ab col dd k0 k1 k2 k3 k5 newId) ∧ Line bm bmB
  sa : findIn K (.ref C) "__setattr__" = some (some (.builtin "object.__setattr__"))
  ex : ExcC K C
  noN : findIn K (.ref C) "part" = some none
  iC : findIn K (.ref C) "__init__" = some (some (.ref fI))
  tC : typeIn K (.ref fI) = some (.type "function")
  kC : keepIn K (.ref C) = true
  tyC : typeIn K (.ref C) = some (.type "type")
  fn : ∃ (oc : Value) (od : Option Addr) (doc pm : Value) (an : Option Addr) (cdv ct : Value) (osl : Array (Option Value)) (p1 p2 q1 q2 q3 q4 : Pos),
    K.lookup fI = some ⟨oc, od, .func (fnOf "__init__" ql (iA p1 p2) (iB q1 q2 q3 q4) iS .none .none doc pm an cdv ct), osl⟩ ∧ codeIn K cdv ql = true
/-- an error made of v, at e, its own dict at d -/
structure Made (h h' : Heap) (e C d : Addr) (v : Value) : Prop where
  keep : ∀ b o, h.get? b = some o → h'.get? b = some o
  new : h.objs.size ≤ e
  obj : ∃ oe vs, h'.get? e = some oe ∧ oe.cls = .ref C ∧ oe.dict = some d ∧ oe.data = .fields vs ∧ vs[1]? = some .none
  dbig : h.objs.size ≤ d
  dne : d ≠ e
  ns : h'.Ns1 d (fun y => if y = "part" then some v else none)
section
variable {prog : Program} {w : World} {A : Around} {E : Value → Shared → Prop} {R : Result → Shared → Prop} {s : Shared} {K : Frag} {mg : Str → Option Value} {nm ql : Str} {C fI : Addr} {B newId initId : String} {bmB : List Value}
theorem made (T : Tx K mg nm ql C fI B newId initId bmB) {v : Value} (X : K.In s.heap) (hlim : s.heap.NoLimit) (hroom : A.depth + 1 < recursionLimit) (hq : ∀ h' tk e d, Made s.heap h' e C d v → R (.ok (.ret (.ref e))) { s with heap := h', toks := tk }) :
    codeAny (model prog w) A (.call (.ref C) ⟨[v], []⟩) R s := by
  obtain ⟨n1, q, N, bs, bm, sn, sub, ab, col, dd, k0, k1, k2, k3, k5, hC, ln⟩ := T.cls
  obtain ⟨oc, od, doc, pm, an, cdv, ct, osl, p1, p2, q1, q2, q3, q4, ho, hcd⟩ := T.fn
  have hcl : clsIn K C = some { name := n1, bases := bs, mro := .ref C :: bm, ns := N, qualname := q, hasDict := true, slotNames := sn, subclasses := sub, abstract := ab, collection := col, hasDel := false } := by
    unfold clsIn
    rw [hC]
  obtain ⟨hp, g, dr, tk, os⟩ := s
  have k : ∀ b o, hp.get? b = some o → ((hp.push (kdv_tup [v])).push (excO C hp.objs.size)).get? b = some o := fun b o e => Heap.get?_push_of_some _ (Heap.get?_push_of_some _ e)
  have hx : ((hp.push (kdv_tup [v])).push (excO C hp.objs.size)).get? (hp.objs.size + 1) = some (excO C hp.objs.size) := by heap_get
  refine call_own T.base ln.has (X _ _ hC) (looks_findIn X T.iC) (fun self => bind_fn X self T.tC) (one_size v) ?_
  have X1 := X.keeps k
  have lim1 : ((hp.push (kdv_tup [v])).push (excO C hp.objs.size)).NoLimit := hlim.keeps k
  have size1 : ((hp.push (kdv_tup [v])).push (excO C hp.objs.size)).objs.size = hp.objs.size + 1 + 1 := by rw [Heap.size_push, Heap.size_push]
  generalize (hp.push (kdv_tup [v])).push (excO C hp.objs.size) = h1 at k hx X1 lim1 size1 ⊢
  refine Att.call_fn (binds := [("self", .ref (hp.objs.size + 1)), ("part", v)]) X1 lim1 ho hcd hroom (BindsTo.of_eq (by first | rfl | with_unfolding_all rfl)) (by first | rfl | decide | with_unfolding_all rfl) (fun s₁ IC => ?_) rfl rfl rfl
  obtain ⟨h₁, tk₁, rfl⟩ := IC.toInCall.same
  have k1' : ∀ b o, h1.get? b = some o → h₁.get? b = some o := IC.toInCall.keep
  have hn := IC.toInCall.ns
  show wpAny _ _ (execs _ _) _ _ _
  refine wpAny_execs_cons (plainObj_wpAny_Assign_Attribute ?_)
  refine ldC (v := v) hn (by first | rfl | with_unfolding_all rfl | kernel_rfl) (ldC (v := .ref (hp.objs.size + 1)) hn (by first | rfl | with_unfolding_all rfl | kernel_rfl) ?_)
  refine set_plain (X1.keeps k1') (ox := excO C hp.objs.size) (od := none) ⟨k1' _ _ hx, rfl, rfl, trivial⟩ T.sa ?_
  refine store_err (X1.keeps k1') (k1' _ _ hx) hcl (bmB := bmB) ln.own rfl rfl T.noN (fun h₃ tk₃ dx k₃ dn dne hx₃ hn₃ => ?_)
  show wpAny _ _ (execs _ _) _ _ _
  have z : h1.objs.size < h₁.objs.size := hn.lt
  have lt_ : ∀ {b : Addr} {o : Obj}, hp.get? b = some o → b ≠ hp.objs.size + 1 := fun {b o} e => Nat.ne_of_lt (Nat.lt_succ_of_lt (Heap.lt_size e))
  refine wpAny_execs_nil ⟨rfl, hq h₃ tk₃ (hp.objs.size + 1) dx ⟨fun b o e => k₃ b o (lt_ e) (k1' b o (k b o e)), Nat.le_succ _, ⟨_, _, hx₃, rfl, rfl, rfl, rfl⟩, ?_, dne, hn₃⟩⟩
  have dn' : h₁.objs.size ≤ dx := dn
  show hp.objs.size ≤ dx
  omega
end
end Of_part
section
variable {X : Cx} {nm ql : Str} {C fI : Addr} {B newId initId : String} {bmB : List Value}
theorem relO_part {v : V} {v' : Value} (r : RelV v v') (f : Str) : RelO (List.lookup f [(("part" : Str), v)]) (if f = "part" then some v' else none) := by
  by_cases hw : f = "part"
  · subst hw
    rw [if_pos rfl]
    have q : List.lookup ("part" : Str) [(("part" : Str), v)] = some v := by simp [List.lookup]
    rw [q]
    exact r
  · rw [if_neg hw]
    have qw : (f == ("part" : Str)) = false := by simpa using hw
    have q2 : List.lookup f [(("part" : Str), v)] = none := by simp [List.lookup, qw]
    rw [q2]
    trivial
/-- nm(e) -/
def tMk_part (C : Addr) (ta : TA) : L2.St → Hp → XK → Prop := fun σ H Q => ta σ H fun vs H1 => ∃ v, vs = [v] ∧ ∀ d, H1 d = none → Q (.ref C) (some d) (upd H1 d (.xd [(("part" : Str), v)]))
theorem pmk_part {a : Expr} {ta : TA} {p pos : Pos} {k : Nat} (T : Of_part.Tx X.K X.mg nm ql C fI B newId initId bmB) (hr : Room k X.A) (ha : PA X [a] ta) (hg : Gl X nm := by rfl) (hdb : (nm == ("__debug__" : Str)) = false := by decide)
    (he : starEach (a :: []) X.env = (false, eval a X.env) :: starEach [] X.env := by rfl) (hpl : (backTo pos (starEach [] X.env)).any (·.1) = false := by rfl) :
    PMk X (.Call (.Name nm p) [a] [] pos) (tMk_part C ta) := by
  intro pins s σ H Q I h
  refine wpAny_Call_Name_kw (ld_glob I hg T.gC ?_ hdb)
  refine PySem.W.callWith_K (h₀ := X.base) I.ok.mod.kin T.kC (thn (ha.run pos pins s σ H _ I h) fun us s1 hh => ?_) he hpl
  obtain ⟨vs, H1, I1, r1, v, ev, q1⟩ := hh
  subst ev
  refine ⟨I1.kIn, ?_⟩
  cases r1 with
  | cons rv rn =>
    rename_i v' us'
    cases rn
    show wpAny _ _ (call (.ref C) [v']) _ _ _
    have hlim := I1.nolimit
    obtain ⟨hp, g, dr, tk, os⟩ := s1
    refine wpAny_call (Of_part.made T I1.kIn hlim (by have := hr.dp; omega) fun h' tk' e d M => ?_)
    show MkP X pins σ Q (.ref e) ⟨h', g, dr, tk', os⟩
    obtain ⟨oe, fv, hoe, hc, hd, hdat, h1⟩ := M.obj
    have hns := M.ns
    obtain ⟨G', g1, g2⟩ := restrict h' fun b => decide (b ≠ e)
    have gk : ∀ b, b ≠ e → G'.get? b = h'.get? b := fun b hb => g1 b (decide_eq_true hb)
    have ge : G'.get? e = none := g2 e (by simp)
    have old : ∀ b o, hp.get? b = some o → G'.get? b = some o := fun b o q => (gk b (Nat.ne_of_lt (Nat.lt_of_lt_of_le (Heap.lt_size q) M.new))).trans (M.keep b o q)
    have ob : ObjOk X.prog X.w (upd H1 d (.xd [(("part" : Str), v)])) G' d (.xd [(("part" : Str), v)]) :=
      ⟨_, hns.at (fun o q => (gk d M.dne).trans q), fun f => relO_part rv f⟩
    have J : L2.Inv X pins σ (upd H1 d (.xd [(("part" : Str), v)])) ⟨G', g, dr, tk', os⟩ := I1.laid (t' := tk') old M.dbig ob
    refine ⟨e, oe, fv, ⟨G', g, dr, tk', os⟩, _, .ref C, some d, rfl, J, fun b o q => ?_, ge, hoe, ⟨hc, hd⟩, hdat, h1, ?_, rfl, I1.bare, raises_own T.ex.hs T.tyC, q1 d (I1.hok.fresh M.dbig)⟩
    · by_cases hb : b = e
      · have q' : G'.get? b = some o := q
        rw [hb, ge] at q'
        cases q'
      · exact (gk b hb).symm.trans q
    · rw [upd_ne (Ne.symm M.dne)]
      exact I1.hok.fresh M.new
/-- raise nm(e) -/
def tRaise_part (C : Addr) (W : WX) (ta : TA) : TS := fun _ σ H => tMk_part C ta σ H fun cls d H' => W cls d σ H'
theorem ps_raise_part {a : Expr} {ta : TA} {W : WX} {p pos pos2 : Pos} {k : Nat} (hc : X.calm = true) (T : Of_part.Tx X.K X.mg nm ql C fI B newId initId bmB) (hr : Room k X.A) (tk : Takes X W) (ha : PA X [a] ta) (hg : Gl X nm := by rfl) (hdb : (nm == ("__debug__" : Str)) = false := by decide)
    (he : starEach (a :: []) X.env = (false, eval a X.env) :: starEach [] X.env := by rfl) (hpl : (backTo pos (starEach [] X.env)).any (·.1) = false := by rfl) :
    PS X (.Raise (some (.Call (.Name nm p) [a] [] pos)) none pos2) (tRaise_part C W ta) := ps_raise hc tk (pmk_part T hr ha hg hdb he hpl)
/-- e.part, e a kept error -/
def tGet_part (K : PySem.W.Frag) (te : TE) : TE := fun σ H Q => te σ H fun x H1 => ∃ (a C dd : Addr) (v : V), x = .ref a ∧ H1 a = some (ExH (.ref C) (some dd) a) ∧ ExcC K C ∧ PySem.W.findIn K (.ref C) "part" = some none ∧ H1 dd = some (.xd [(("part" : Str), v)]) ∧ Q v H1
theorem pe_get_part {e : Expr} {te : TE} {pos : Pos} (he : PE X e te) (hb : attributeBase e "part" X.env (eval e X.env) = eval e X.env := by rfl) : PE X (.Attribute e "part" pos) (tGet_part X.K te) := by
  constructor
  intro pins s σ H Q I h
  refine attr_of hb (thn (he.run pins s σ H _ I h) ?_)
  rintro u s1 ⟨x, H1, I1, rx, a, C, dd, v, rfl, ha, EC, noN, hdd, q⟩
  cases (show u = Value.ref a from rx)
  obtain ⟨oe, od, J, hod⟩ := held_at I1 ha (.inr ⟨dd, _, rfl, hdd⟩)
  obtain ⟨mA, hns, hr⟩ := I1.hok dd _ hdd
  obtain ⟨o, ho, hl⟩ := lookIn_ns hns
  obtain ⟨o', eo, ho'⟩ := hod dd _ rfl hdd
  rw [ho] at ho'
  cases ho'
  subst eo
  have l : List.lookup ("part" : Str) [(("part" : Str), v)] = some v := by simp [List.lookup]
  obtain ⟨u, hu, ru⟩ := RelO.some_of (v := v) (o := mA "part") (by rw [← l]; exact hr "part")
  exact HandSPX.exc_get I1.kIn J EC.hg EC.hk EC.hs (PySem.W.findObj_own EC.hd noN rfl (by rw [hl, hu])) (handed_of ru) ⟨v, H1, I1.tok _, ru, q⟩
end
/-! ### errors of the field wanted -/
namespace Of_wanted
open PySem.W PySem.Calls PySem.HandSPX
def iA (p1 p2 : Pos) : Arguments := { posonlyargs := [], args := [{ arg := "self", annotation := none, pos := p1 }, { arg := "wanted", annotation := none, pos := p2 }], vararg := none, kwonlyargs := [], kw_defaults := [], kwarg := none, defaults := [] }
def iB (q1 q2 q3 q4 : Pos) : List Stmt := [.Assign [.Attribute (.Name "self" q1) "wanted" q2] (.Name "wanted" q3) q4]
def iS : Scope := { kind := .function, names := [(PySem.Str.ofString "self", .local), (PySem.Str.ofString "wanted", .local)], isGenerator := false, isCoroutine := false, more := [] }
/-- the class called nm, at C, and its __init__, at fI, as the top has left them -/
structure Tx (K : Frag) (mg : Str → Option Value) (nm ql : Str) (C fI : Addr) (B newId initId : String) (bmB : List Value) : Prop where
  base : ExcBaseFacts B newId initId bmB
  gC : mg nm = some (.ref C)
  cls : ∃ n1 q N bs bm sn sub ab col dd k0 k1 k2 k3 k5, K.lookup C = some (excClassObj n1 q C N bs bm true sn sub ab col dd k0 k1 k2 k3 k5 newId) ∧ Line bm bmB
  sa : findIn K (.ref C) "__setattr__" = some (some (.builtin "object.__setattr__"))
  ex : ExcC K C
  noN : findIn K (.ref C) "wanted" = some none
  iC : findIn K (.ref C) "__init__" = some (some (.ref fI))
  tC : typeIn K (.ref fI) = some (.type "function")
  kC : keepIn K (.ref C) = true
  tyC : typeIn K (.ref C) = some (.type "type")
  fn : ∃ (oc : Value) (od : Option Addr) (doc pm : Value) (an : Option Addr) (cdv ct : Value) (osl : Array (Option Value)) (p1 p2 q1 q2 q3 q4 : Pos),
    K.lookup fI = some ⟨oc, od, .func (fnOf "__init__" ql (iA p1 p2) (iB q1 q2 q3 q4) iS .none .none doc pm an cdv ct), osl⟩ ∧ codeIn K cdv ql = true
/-- an error made of v, at e, its own dict at d -/
structure Made (h h' : Heap) (e C d : Addr) (v : Value) : Prop where
  keep : ∀ b o, h.get? b = some o → h'.get? b = some o
  new : h.objs.size ≤ e
  obj : ∃ oe vs, h'.get? e = some oe ∧ oe.cls = .ref C ∧ oe.dict = some d ∧ oe.data = .fields vs ∧ vs[1]? = some .none
  dbig : h.objs.size ≤ d
  dne : d ≠ e
  ns : h'.Ns1 d (fun y => if y = "wanted" then some v else none)
section
variable {prog : Program} {w : World} {A : Around} {E : Value → Shared → Prop} {R : Result → Shared → Prop} {s : Shared} {K : Frag} {mg : Str → Option Value} {nm ql : Str} {C fI : Addr} {B newId initId : String} {bmB : List Value}
theorem made (T : Tx K mg nm ql C fI B newId initId bmB) {v : Value} (X : K.In s.heap) (hlim : s.heap.NoLimit) (hroom : A.depth + 1 < recursionLimit) (hq : ∀ h' tk e d, Made s.heap h' e C d v → R (.ok (.ret (.ref e))) { s with heap := h', toks := tk }) :
    codeAny (model prog w) A (.call (.ref C) ⟨[v], []⟩) R s := by
  obtain ⟨n1, q, N, bs, bm, sn, sub, ab, col, dd, k0, k1, k2, k3, k5, hC, ln⟩ := T.cls
  obtain ⟨oc, od, doc, pm, an, cdv, ct, osl, p1, p2, q1, q2, q3, q4, ho, hcd⟩ := T.fn
  have hcl : clsIn K C = some { name := n1, bases := bs, mro := .ref C :: bm, ns := N, qualname := q, hasDict := true, slotNames := sn, subclasses := sub, abstract := ab, collection := col, hasDel := false } := by
    unfold clsIn
    rw [hC]
  obtain ⟨hp, g, dr, tk, os⟩ := s
  have k : ∀ b o, hp.get? b = some o → ((hp.push (kdv_tup [v])).push (excO C hp.objs.size)).get? b = some o := fun b o e => Heap.get?_push_of_some _ (Heap.get?_push_of_some _ e)
  have hx : ((hp.push (kdv_tup [v])).push (excO C hp.objs.size)).get? (hp.objs.size + 1) = some (excO C hp.objs.size) := by heap_get
  refine call_own T.base ln.has (X _ _ hC) (looks_findIn X T.iC) (fun self => bind_fn X self T.tC) (one_size v) ?_
  have X1 := X.keeps k
  have lim1 : ((hp.push (kdv_tup [v])).push (excO C hp.objs.size)).NoLimit := hlim.keeps k
  have size1 : ((hp.push (kdv_tup [v])).push (excO C hp.objs.size)).objs.size = hp.objs.size + 1 + 1 := by rw [Heap.size_push, Heap.size_push]
  generalize (hp.push (kdv_tup [v])).push (excO C hp.objs.size) = h1 at k hx X1 lim1 size1 ⊢
  refine Att.call_fn (binds := [("self", .ref (hp.objs.size + 1)), ("wanted", v)]) X1 lim1 ho hcd hroom (BindsTo.of_eq (by first | rfl | with_unfolding_all rfl)) (by first | rfl | decide | with_unfolding_all rfl) (fun s₁ IC => ?_) rfl rfl rfl
  obtain ⟨h₁, tk₁, rfl⟩ := IC.toInCall.same
  have k1' : ∀ b o, h1.get? b = some o → h₁.get? b = some o := IC.toInCall.keep
  have hn := IC.toInCall.ns
  show wpAny _ _ (execs _ _) _ _ _
  refine wpAny_execs_cons (plainObj_wpAny_Assign_Attribute ?_)
  refine ldC (v := v) hn (by first | rfl | with_unfolding_all rfl | kernel_rfl) (ldC (v := .ref (hp.objs.size + 1)) hn (by first | rfl | with_unfolding_all rfl | kernel_rfl) ?_)
  refine set_plain (X1.keeps k1') (ox := excO C hp.objs.size) (od := none) ⟨k1' _ _ hx, rfl, rfl, trivial⟩ T.sa ?_
  refine store_err (X1.keeps k1') (k1' _ _ hx) hcl (bmB := bmB) ln.own rfl rfl T.noN (fun h₃ tk₃ dx k₃ dn dne hx₃ hn₃ => ?_)
  show wpAny _ _ (execs _ _) _ _ _
  have z : h1.objs.size < h₁.objs.size := hn.lt
  have lt_ : ∀ {b : Addr} {o : Obj}, hp.get? b = some o → b ≠ hp.objs.size + 1 := fun {b o} e => Nat.ne_of_lt (Nat.lt_succ_of_lt (Heap.lt_size e))
  refine wpAny_execs_nil ⟨rfl, hq h₃ tk₃ (hp.objs.size + 1) dx ⟨fun b o e => k₃ b o (lt_ e) (k1' b o (k b o e)), Nat.le_succ _, ⟨_, _, hx₃, rfl, rfl, rfl, rfl⟩, ?_, dne, hn₃⟩⟩
  have dn' : h₁.objs.size ≤ dx := dn
  show hp.objs.size ≤ dx
  omega
end
end Of_wanted
section
variable {X : Cx} {nm ql : Str} {C fI : Addr} {B newId initId : String} {bmB : List Value}
theorem relO_wanted {v : V} {v' : Value} (r : RelV v v') (f : Str) : RelO (List.lookup f [(("wanted" : Str), v)]) (if f = "wanted" then some v' else none) := by
  by_cases hw : f = "wanted"
  · subst hw
    rw [if_pos rfl]
    have q : List.lookup ("wanted" : Str) [(("wanted" : Str), v)] = some v := by simp [List.lookup]
    rw [q]
    exact r
  · rw [if_neg hw]
    have qw : (f == ("wanted" : Str)) = false := by simpa using hw
    have q2 : List.lookup f [(("wanted" : Str), v)] = none := by simp [List.lookup, qw]
    rw [q2]
    trivial
/-- nm(e) -/
def tMk_wanted (C : Addr) (ta : TA) : L2.St → Hp → XK → Prop := fun σ H Q => ta σ H fun vs H1 => ∃ v, vs = [v] ∧ ∀ d, H1 d = none → Q (.ref C) (some d) (upd H1 d (.xd [(("wanted" : Str), v)]))
theorem pmk_wanted {a : Expr} {ta : TA} {p pos : Pos} {k : Nat} (T : Of_wanted.Tx X.K X.mg nm ql C fI B newId initId bmB) (hr : Room k X.A) (ha : PA X [a] ta) (hg : Gl X nm := by rfl) (hdb : (nm == ("__debug__" : Str)) = false := by decide)
    (he : starEach (a :: []) X.env = (false, eval a X.env) :: starEach [] X.env := by rfl) (hpl : (backTo pos (starEach [] X.env)).any (·.1) = false := by rfl) :
    PMk X (.Call (.Name nm p) [a] [] pos) (tMk_wanted C ta) := by
  intro pins s σ H Q I h
  refine wpAny_Call_Name_kw (ld_glob I hg T.gC ?_ hdb)
  refine PySem.W.callWith_K (h₀ := X.base) I.ok.mod.kin T.kC (thn (ha.run pos pins s σ H _ I h) fun us s1 hh => ?_) he hpl
  obtain ⟨vs, H1, I1, r1, v, ev, q1⟩ := hh
  subst ev
  refine ⟨I1.kIn, ?_⟩
  cases r1 with
  | cons rv rn =>
    rename_i v' us'
    cases rn
    show wpAny _ _ (call (.ref C) [v']) _ _ _
    have hlim := I1.nolimit
    obtain ⟨hp, g, dr, tk, os⟩ := s1
    refine wpAny_call (Of_wanted.made T I1.kIn hlim (by have := hr.dp; omega) fun h' tk' e d M => ?_)
    show MkP X pins σ Q (.ref e) ⟨h', g, dr, tk', os⟩
    obtain ⟨oe, fv, hoe, hc, hd, hdat, h1⟩ := M.obj
    have hns := M.ns
    obtain ⟨G', g1, g2⟩ := restrict h' fun b => decide (b ≠ e)
    have gk : ∀ b, b ≠ e → G'.get? b = h'.get? b := fun b hb => g1 b (decide_eq_true hb)
    have ge : G'.get? e = none := g2 e (by simp)
    have old : ∀ b o, hp.get? b = some o → G'.get? b = some o := fun b o q => (gk b (Nat.ne_of_lt (Nat.lt_of_lt_of_le (Heap.lt_size q) M.new))).trans (M.keep b o q)
    have ob : ObjOk X.prog X.w (upd H1 d (.xd [(("wanted" : Str), v)])) G' d (.xd [(("wanted" : Str), v)]) :=
      ⟨_, hns.at (fun o q => (gk d M.dne).trans q), fun f => relO_wanted rv f⟩
    have J : L2.Inv X pins σ (upd H1 d (.xd [(("wanted" : Str), v)])) ⟨G', g, dr, tk', os⟩ := I1.laid (t' := tk') old M.dbig ob
    refine ⟨e, oe, fv, ⟨G', g, dr, tk', os⟩, _, .ref C, some d, rfl, J, fun b o q => ?_, ge, hoe, ⟨hc, hd⟩, hdat, h1, ?_, rfl, I1.bare, raises_own T.ex.hs T.tyC, q1 d (I1.hok.fresh M.dbig)⟩
    · by_cases hb : b = e
      · have q' : G'.get? b = some o := q
        rw [hb, ge] at q'
        cases q'
      · exact (gk b hb).symm.trans q
    · rw [upd_ne (Ne.symm M.dne)]
      exact I1.hok.fresh M.new
/-- raise nm(e) -/
def tRaise_wanted (C : Addr) (W : WX) (ta : TA) : TS := fun _ σ H => tMk_wanted C ta σ H fun cls d H' => W cls d σ H'
theorem ps_raise_wanted {a : Expr} {ta : TA} {W : WX} {p pos pos2 : Pos} {k : Nat} (hc : X.calm = true) (T : Of_wanted.Tx X.K X.mg nm ql C fI B newId initId bmB) (hr : Room k X.A) (tk : Takes X W) (ha : PA X [a] ta) (hg : Gl X nm := by rfl) (hdb : (nm == ("__debug__" : Str)) = false := by decide)
    (he : starEach (a :: []) X.env = (false, eval a X.env) :: starEach [] X.env := by rfl) (hpl : (backTo pos (starEach [] X.env)).any (·.1) = false := by rfl) :
    PS X (.Raise (some (.Call (.Name nm p) [a] [] pos)) none pos2) (tRaise_wanted C W ta) := ps_raise hc tk (pmk_wanted T hr ha hg hdb he hpl)
/-- e.wanted, e a kept error -/
def tGet_wanted (K : PySem.W.Frag) (te : TE) : TE := fun σ H Q => te σ H fun x H1 => ∃ (a C dd : Addr) (v : V), x = .ref a ∧ H1 a = some (ExH (.ref C) (some dd) a) ∧ ExcC K C ∧ PySem.W.findIn K (.ref C) "wanted" = some none ∧ H1 dd = some (.xd [(("wanted" : Str), v)]) ∧ Q v H1
theorem pe_get_wanted {e : Expr} {te : TE} {pos : Pos} (he : PE X e te) (hb : attributeBase e "wanted" X.env (eval e X.env) = eval e X.env := by rfl) : PE X (.Attribute e "wanted" pos) (tGet_wanted X.K te) := by
  constructor
  intro pins s σ H Q I h
  refine attr_of hb (thn (he.run pins s σ H _ I h) ?_)
  rintro u s1 ⟨x, H1, I1, rx, a, C, dd, v, rfl, ha, EC, noN, hdd, q⟩
  cases (show u = Value.ref a from rx)
  obtain ⟨oe, od, J, hod⟩ := held_at I1 ha (.inr ⟨dd, _, rfl, hdd⟩)
  obtain ⟨mA, hns, hr⟩ := I1.hok dd _ hdd
  obtain ⟨o, ho, hl⟩ := lookIn_ns hns
  obtain ⟨o', eo, ho'⟩ := hod dd _ rfl hdd
  rw [ho] at ho'
  cases ho'
  subst eo
  have l : List.lookup ("wanted" : Str) [(("wanted" : Str), v)] = some v := by simp [List.lookup]
  obtain ⟨u, hu, ru⟩ := RelO.some_of (v := v) (o := mA "wanted") (by rw [← l]; exact hr "wanted")
  exact HandSPX.exc_get I1.kIn J EC.hg EC.hk EC.hs (PySem.W.findObj_own EC.hd noN rfl (by rw [hl, hu])) (handed_of ru) ⟨v, H1, I1.tok _, ru, q⟩
end
/-! ### errors of the field at -/
namespace Of_at
open PySem.W PySem.Calls PySem.HandSPX
def iA (p1 p2 : Pos) : Arguments := { posonlyargs := [], args := [{ arg := "self", annotation := none, pos := p1 }, { arg := "at", annotation := none, pos := p2 }], vararg := none, kwonlyargs := [], kw_defaults := [], kwarg := none, defaults := [] }
def iB (q1 q2 q3 q4 : Pos) : List Stmt := [.Assign [.Attribute (.Name "self" q1) "at" q2] (.Name "at" q3) q4]
def iS : Scope := { kind := .function, names := [(PySem.Str.ofString "self", .local), (PySem.Str.ofString "at", .local)], isGenerator := false, isCoroutine := false, more := [] }
/-- the class called nm, at C, and its __init__, at fI, as the top has left them -/
structure Tx (K : Frag) (mg : Str → Option Value) (nm ql : Str) (C fI : Addr) (B newId initId : String) (bmB : List Value) : Prop where
  base : ExcBaseFacts B newId initId bmB
  gC : mg nm = some (.ref C)
  cls : ∃ n1 q N bs bm sn sub ab col dd k0 k1 k2 k3 k5, K.lookup C = some (excClassObj n1 q C N bs bm true sn sub ab col dd k0 k1 k2 k3 k5 newId) ∧ Line bm bmB
  sa : findIn K (.ref C) "__setattr__" = some (some (.builtin "object.__setattr__"))
  ex : ExcC K C
  noN : findIn K (.ref C) "at" = some none
  iC : findIn K (.ref C) "__init__" = some (some (.ref fI))
  tC : typeIn K (.ref fI) = some (.type "function")
  kC : keepIn K (.ref C) = true
  tyC : typeIn K (.ref C) = some (.type "type")
  fn : ∃ (oc : Value) (od : Option Addr) (doc pm : Value) (an : Option Addr) (cdv ct : Value) (osl : Array (Option Value)) (p1 p2 q1 q2 q3 q4 : Pos),
    K.lookup fI = some ⟨oc, od, .func (fnOf "__init__" ql (iA p1 p2) (iB q1 q2 q3 q4) iS .none .none doc pm an cdv ct), osl⟩ ∧ codeIn K cdv ql = true
/-- an error made of v, at e, its own dict at d -/
structure Made (h h' : Heap) (e C d : Addr) (v : Value) : Prop where
  keep : ∀ b o, h.get? b = some o → h'.get? b = some o
  new : h.objs.size ≤ e
  obj : ∃ oe vs, h'.get? e = some oe ∧ oe.cls = .ref C ∧ oe.dict = some d ∧ oe.data = .fields vs ∧ vs[1]? = some .none
  dbig : h.objs.size ≤ d
  dne : d ≠ e
  ns : h'.Ns1 d (fun y => if y = "at" then some v else none)
section
variable {prog : Program} {w : World} {A : Around} {E : Value → Shared → Prop} {R : Result → Shared → Prop} {s : Shared} {K : Frag} {mg : Str → Option Value} {nm ql : Str} {C fI : Addr} {B newId initId : String} {bmB : List Value}
theorem made (T : Tx K mg nm ql C fI B newId initId bmB) {v : Value} (X : K.In s.heap) (hlim : s.heap.NoLimit) (hroom : A.depth + 1 < recursionLimit) (hq : ∀ h' tk e d, Made s.heap h' e C d v → R (.ok (.ret (.ref e))) { s with heap := h', toks := tk }) :
    codeAny (model prog w) A (.call (.ref C) ⟨[v], []⟩) R s := by
  obtain ⟨n1, q, N, bs, bm, sn, sub, ab, col, dd, k0, k1, k2, k3, k5, hC, ln⟩ := T.cls
  obtain ⟨oc, od, doc, pm, an, cdv, ct, osl, p1, p2, q1, q2, q3, q4, ho, hcd⟩ := T.fn
  have hcl : clsIn K C = some { name := n1, bases := bs, mro := .ref C :: bm, ns := N, qualname := q, hasDict := true, slotNames := sn, subclasses := sub, abstract := ab, collection := col, hasDel := false } := by
    unfold clsIn
    rw [hC]
  obtain ⟨hp, g, dr, tk, os⟩ := s
  have k : ∀ b o, hp.get? b = some o → ((hp.push (kdv_tup [v])).push (excO C hp.objs.size)).get? b = some o := fun b o e => Heap.get?_push_of_some _ (Heap.get?_push_of_some _ e)
  have hx : ((hp.push (kdv_tup [v])).push (excO C hp.objs.size)).get? (hp.objs.size + 1) = some (excO C hp.objs.size) := by heap_get
  refine call_own T.base ln.has (X _ _ hC) (looks_findIn X T.iC) (fun self => bind_fn X self T.tC) (one_size v) ?_
  have X1 := X.keeps k
  have lim1 : ((hp.push (kdv_tup [v])).push (excO C hp.objs.size)).NoLimit := hlim.keeps k
  have size1 : ((hp.push (kdv_tup [v])).push (excO C hp.objs.size)).objs.size = hp.objs.size + 1 + 1 := by rw [Heap.size_push, Heap.size_push]
  generalize (hp.push (kdv_tup [v])).push (excO C hp.objs.size) = h1 at k hx X1 lim1 size1 ⊢
  refine Att.call_fn (binds := [("self", .ref (hp.objs.size + 1)), ("at", v)]) X1 lim1 ho hcd hroom (BindsTo.of_eq (by first | rfl | with_unfolding_all rfl)) (by first | rfl | decide | with_unfolding_all rfl) (fun s₁ IC => ?_) rfl rfl rfl
  obtain ⟨h₁, tk₁, rfl⟩ := IC.toInCall.same
  have k1' : ∀ b o, h1.get? b = some o → h₁.get? b = some o := IC.toInCall.keep
  have hn := IC.toInCall.ns
  show wpAny _ _ (execs _ _) _ _ _
  refine wpAny_execs_cons (plainObj_wpAny_Assign_Attribute ?_)
  refine ldC (v := v) hn (by first | rfl | with_unfolding_all rfl | kernel_rfl) (ldC (v := .ref (hp.objs.size + 1)) hn (by first | rfl | with_unfolding_all rfl | kernel_rfl) ?_)
  refine set_plain (X1.keeps k1') (ox := excO C hp.objs.size) (od := none) ⟨k1' _ _ hx, rfl, rfl, trivial⟩ T.sa ?_
  refine store_err (X1.keeps k1') (k1' _ _ hx) hcl (bmB := bmB) ln.own rfl rfl T.noN (fun h₃ tk₃ dx k₃ dn dne hx₃ hn₃ => ?_)
  show wpAny _ _ (execs _ _) _ _ _
  have z : h1.objs.size < h₁.objs.size := hn.lt
  have lt_ : ∀ {b : Addr} {o : Obj}, hp.get? b = some o → b ≠ hp.objs.size + 1 := fun {b o} e => Nat.ne_of_lt (Nat.lt_succ_of_lt (Heap.lt_size e))
  refine wpAny_execs_nil ⟨rfl, hq h₃ tk₃ (hp.objs.size + 1) dx ⟨fun b o e => k₃ b o (lt_ e) (k1' b o (k b o e)), Nat.le_succ _, ⟨_, _, hx₃, rfl, rfl, rfl, rfl⟩, ?_, dne, hn₃⟩⟩
  have dn' : h₁.objs.size ≤ dx := dn
  show hp.objs.size ≤ dx
  omega
end
end Of_at
section
variable {X : Cx} {nm ql : Str} {C fI : Addr} {B newId initId : String} {bmB : List Value}
theorem relO_at {v : V} {v' : Value} (r : RelV v v') (f : Str) : RelO (List.lookup f [(("at" : Str), v)]) (if f = "at" then some v' else none) := by
  by_cases hw : f = "at"
  · subst hw
    rw [if_pos rfl]
    have q : List.lookup ("at" : Str) [(("at" : Str), v)] = some v := by simp [List.lookup]
    rw [q]
    exact r
  · rw [if_neg hw]
    have qw : (f == ("at" : Str)) = false := by simpa using hw
    have q2 : List.lookup f [(("at" : Str), v)] = none := by simp [List.lookup, qw]
    rw [q2]
    trivial
/-- nm(e) -/
def tMk_at (C : Addr) (ta : TA) : L2.St → Hp → XK → Prop := fun σ H Q => ta σ H fun vs H1 => ∃ v, vs = [v] ∧ ∀ d, H1 d = none → Q (.ref C) (some d) (upd H1 d (.xd [(("at" : Str), v)]))
theorem pmk_at {a : Expr} {ta : TA} {p pos : Pos} {k : Nat} (T : Of_at.Tx X.K X.mg nm ql C fI B newId initId bmB) (hr : Room k X.A) (ha : PA X [a] ta) (hg : Gl X nm := by rfl) (hdb : (nm == ("__debug__" : Str)) = false := by decide)
    (he : starEach (a :: []) X.env = (false, eval a X.env) :: starEach [] X.env := by rfl) (hpl : (backTo pos (starEach [] X.env)).any (·.1) = false := by rfl) :
    PMk X (.Call (.Name nm p) [a] [] pos) (tMk_at C ta) := by
  intro pins s σ H Q I h
  refine wpAny_Call_Name_kw (ld_glob I hg T.gC ?_ hdb)
  refine PySem.W.callWith_K (h₀ := X.base) I.ok.mod.kin T.kC (thn (ha.run pos pins s σ H _ I h) fun us s1 hh => ?_) he hpl
  obtain ⟨vs, H1, I1, r1, v, ev, q1⟩ := hh
  subst ev
  refine ⟨I1.kIn, ?_⟩
  cases r1 with
  | cons rv rn =>
    rename_i v' us'
    cases rn
    show wpAny _ _ (call (.ref C) [v']) _ _ _
    have hlim := I1.nolimit
    obtain ⟨hp, g, dr, tk, os⟩ := s1
    refine wpAny_call (Of_at.made T I1.kIn hlim (by have := hr.dp; omega) fun h' tk' e d M => ?_)
    show MkP X pins σ Q (.ref e) ⟨h', g, dr, tk', os⟩
    obtain ⟨oe, fv, hoe, hc, hd, hdat, h1⟩ := M.obj
    have hns := M.ns
    obtain ⟨G', g1, g2⟩ := restrict h' fun b => decide (b ≠ e)
    have gk : ∀ b, b ≠ e → G'.get? b = h'.get? b := fun b hb => g1 b (decide_eq_true hb)
    have ge : G'.get? e = none := g2 e (by simp)
    have old : ∀ b o, hp.get? b = some o → G'.get? b = some o := fun b o q => (gk b (Nat.ne_of_lt (Nat.lt_of_lt_of_le (Heap.lt_size q) M.new))).trans (M.keep b o q)
    have ob : ObjOk X.prog X.w (upd H1 d (.xd [(("at" : Str), v)])) G' d (.xd [(("at" : Str), v)]) :=
      ⟨_, hns.at (fun o q => (gk d M.dne).trans q), fun f => relO_at rv f⟩
    have J : L2.Inv X pins σ (upd H1 d (.xd [(("at" : Str), v)])) ⟨G', g, dr, tk', os⟩ := I1.laid (t' := tk') old M.dbig ob
    refine ⟨e, oe, fv, ⟨G', g, dr, tk', os⟩, _, .ref C, some d, rfl, J, fun b o q => ?_, ge, hoe, ⟨hc, hd⟩, hdat, h1, ?_, rfl, I1.bare, raises_own T.ex.hs T.tyC, q1 d (I1.hok.fresh M.dbig)⟩
    · by_cases hb : b = e
      · have q' : G'.get? b = some o := q
        rw [hb, ge] at q'
        cases q'
      · exact (gk b hb).symm.trans q
    · rw [upd_ne (Ne.symm M.dne)]
      exact I1.hok.fresh M.new
/-- raise nm(e) -/
def tRaise_at (C : Addr) (W : WX) (ta : TA) : TS := fun _ σ H => tMk_at C ta σ H fun cls d H' => W cls d σ H'
theorem ps_raise_at {a : Expr} {ta : TA} {W : WX} {p pos pos2 : Pos} {k : Nat} (hc : X.calm = true) (T : Of_at.Tx X.K X.mg nm ql C fI B newId initId bmB) (hr : Room k X.A) (tk : Takes X W) (ha : PA X [a] ta) (hg : Gl X nm := by rfl) (hdb : (nm == ("__debug__" : Str)) = false := by decide)
    (he : starEach (a :: []) X.env = (false, eval a X.env) :: starEach [] X.env := by rfl) (hpl : (backTo pos (starEach [] X.env)).any (·.1) = false := by rfl) :
    PS X (.Raise (some (.Call (.Name nm p) [a] [] pos)) none pos2) (tRaise_at C W ta) := ps_raise hc tk (pmk_at T hr ha hg hdb he hpl)
/-- e.at, e a kept error -/
def tGet_at (K : PySem.W.Frag) (te : TE) : TE := fun σ H Q => te σ H fun x H1 => ∃ (a C dd : Addr) (v : V), x = .ref a ∧ H1 a = some (ExH (.ref C) (some dd) a) ∧ ExcC K C ∧ PySem.W.findIn K (.ref C) "at" = some none ∧ H1 dd = some (.xd [(("at" : Str), v)]) ∧ Q v H1
theorem pe_get_at {e : Expr} {te : TE} {pos : Pos} (he : PE X e te) (hb : attributeBase e "at" X.env (eval e X.env) = eval e X.env := by rfl) : PE X (.Attribute e "at" pos) (tGet_at X.K te) := by
  constructor
  intro pins s σ H Q I h
  refine attr_of hb (thn (he.run pins s σ H _ I h) ?_)
  rintro u s1 ⟨x, H1, I1, rx, a, C, dd, v, rfl, ha, EC, noN, hdd, q⟩
  cases (show u = Value.ref a from rx)
  obtain ⟨oe, od, J, hod⟩ := held_at I1 ha (.inr ⟨dd, _, rfl, hdd⟩)
  obtain ⟨mA, hns, hr⟩ := I1.hok dd _ hdd
  obtain ⟨o, ho, hl⟩ := lookIn_ns hns
  obtain ⟨o', eo, ho'⟩ := hod dd _ rfl hdd
  rw [ho] at ho'
  cases ho'
  subst eo
  have l : List.lookup ("at" : Str) [(("at" : Str), v)] = some v := by simp [List.lookup]
  obtain ⟨u, hu, ru⟩ := RelO.some_of (v := v) (o := mA "at") (by rw [← l]; exact hr "at")
  exact HandSPX.exc_get I1.kIn J EC.hg EC.hk EC.hs (PySem.W.findObj_own EC.hd noN rfl (by rw [hl, hu])) (handed_of ru) ⟨v, H1, I1.tok _, ru, q⟩
end
/-! ### errors of the field name -/
namespace Of_name
open PySem.W PySem.Calls PySem.HandSPX
def iA (p1 p2 : Pos) : Arguments := { posonlyargs := [], args := [{ arg := "self", annotation := none, pos := p1 }, { arg := "name", annotation := none, pos := p2 }], vararg := none, kwonlyargs := [], kw_defaults := [], kwarg := none, defaults := [] }
def iB (q1 q2 q3 q4 : Pos) : List Stmt := [.Assign [.Attribute (.Name "self" q1) "name" q2] (.Name "name" q3) q4]
def iS : Scope := { kind := .function, names := [(PySem.Str.ofString "self", .local), (PySem.Str.ofString "name", .local)], isGenerator := false, isCoroutine := false, more := [] }
/-- the class called nm, at C, and its __init__, at fI, as the top has left them -/
structure Tx (K : Frag) (mg : Str → Option Value) (nm ql : Str) (C fI : Addr) (B newId initId : String) (bmB : List Value) : Prop where
  base : ExcBaseFacts B newId initId bmB
  gC : mg nm = some (.ref C)
  cls : ∃ n1 q N bs bm sn sub ab col dd k0 k1 k2 k3 k5, K.lookup C = some (excClassObj n1 q C N bs bm true sn sub ab col dd k0 k1 k2 k3 k5 newId) ∧ Line bm bmB
  sa : findIn K (.ref C) "__setattr__" = some (some (.builtin "object.__setattr__"))
  ex : ExcC K C
  noN : findIn K (.ref C) "name" = some none
  iC : findIn K (.ref C) "__init__" = some (some (.ref fI))
  tC : typeIn K (.ref fI) = some (.type "function")
  kC : keepIn K (.ref C) = true
  tyC : typeIn K (.ref C) = some (.type "type")
  fn : ∃ (oc : Value) (od : Option Addr) (doc pm : Value) (an : Option Addr) (cdv ct : Value) (osl : Array (Option Value)) (p1 p2 q1 q2 q3 q4 : Pos),
    K.lookup fI = some ⟨oc, od, .func (fnOf "__init__" ql (iA p1 p2) (iB q1 q2 q3 q4) iS .none .none doc pm an cdv ct), osl⟩ ∧ codeIn K cdv ql = true
/-- an error made of v, at e, its own dict at d -/
structure Made (h h' : Heap) (e C d : Addr) (v : Value) : Prop where
  keep : ∀ b o, h.get? b = some o → h'.get? b = some o
  new : h.objs.size ≤ e
  obj : ∃ oe vs, h'.get? e = some oe ∧ oe.cls = .ref C ∧ oe.dict = some d ∧ oe.data = .fields vs ∧ vs[1]? = some .none
  dbig : h.objs.size ≤ d
  dne : d ≠ e
  ns : h'.Ns1 d (fun y => if y = "name" then some v else none)
section
variable {prog : Program} {w : World} {A : Around} {E : Value → Shared → Prop} {R : Result → Shared → Prop} {s : Shared} {K : Frag} {mg : Str → Option Value} {nm ql : Str} {C fI : Addr} {B newId initId : String} {bmB : List Value}
theorem made (T : Tx K mg nm ql C fI B newId initId bmB) {v : Value} (X : K.In s.heap) (hlim : s.heap.NoLimit) (hroom : A.depth + 1 < recursionLimit) (hq : ∀ h' tk e d, Made s.heap h' e C d v → R (.ok (.ret (.ref e))) { s with heap := h', toks := tk }) :
    codeAny (model prog w) A (.call (.ref C) ⟨[v], []⟩) R s := by
  obtain ⟨n1, q, N, bs, bm, sn, sub, ab, col, dd, k0, k1, k2, k3, k5, hC, ln⟩ := T.cls
  obtain ⟨oc, od, doc, pm, an, cdv, ct, osl, p1, p2, q1, q2, q3, q4, ho, hcd⟩ := T.fn
  have hcl : clsIn K C = some { name := n1, bases := bs, mro := .ref C :: bm, ns := N, qualname := q, hasDict := true, slotNames := sn, subclasses := sub, abstract := ab, collection := col, hasDel := false } := by
    unfold clsIn
    rw [hC]
  obtain ⟨hp, g, dr, tk, os⟩ := s
  have k : ∀ b o, hp.get? b = some o → ((hp.push (kdv_tup [v])).push (excO C hp.objs.size)).get? b = some o := fun b o e => Heap.get?_push_of_some _ (Heap.get?_push_of_some _ e)
  have hx : ((hp.push (kdv_tup [v])).push (excO C hp.objs.size)).get? (hp.objs.size + 1) = some (excO C hp.objs.size) := by heap_get
  refine call_own T.base ln.has (X _ _ hC) (looks_findIn X T.iC) (fun self => bind_fn X self T.tC) (one_size v) ?_
  have X1 := X.keeps k
  have lim1 : ((hp.push (kdv_tup [v])).push (excO C hp.objs.size)).NoLimit := hlim.keeps k
  have size1 : ((hp.push (kdv_tup [v])).push (excO C hp.objs.size)).objs.size = hp.objs.size + 1 + 1 := by rw [Heap.size_push, Heap.size_push]
  generalize (hp.push (kdv_tup [v])).push (excO C hp.objs.size) = h1 at k hx X1 lim1 size1 ⊢
  refine Att.call_fn (binds := [("self", .ref (hp.objs.size + 1)), ("name", v)]) X1 lim1 ho hcd hroom (BindsTo.of_eq (by first | rfl | with_unfolding_all rfl)) (by first | rfl | decide | with_unfolding_all rfl) (fun s₁ IC => ?_) rfl rfl rfl
  obtain ⟨h₁, tk₁, rfl⟩ := IC.toInCall.same
  have k1' : ∀ b o, h1.get? b = some o → h₁.get? b = some o := IC.toInCall.keep
  have hn := IC.toInCall.ns
  show wpAny _ _ (execs _ _) _ _ _
  refine wpAny_execs_cons (plainObj_wpAny_Assign_Attribute ?_)
  refine ldC (v := v) hn (by first | rfl | with_unfolding_all rfl | kernel_rfl) (ldC (v := .ref (hp.objs.size + 1)) hn (by first | rfl | with_unfolding_all rfl | kernel_rfl) ?_)
  refine set_plain (X1.keeps k1') (ox := excO C hp.objs.size) (od := none) ⟨k1' _ _ hx, rfl, rfl, trivial⟩ T.sa ?_
  refine store_err (X1.keeps k1') (k1' _ _ hx) hcl (bmB := bmB) ln.own rfl rfl T.noN (fun h₃ tk₃ dx k₃ dn dne hx₃ hn₃ => ?_)
  show wpAny _ _ (execs _ _) _ _ _
  have z : h1.objs.size < h₁.objs.size := hn.lt
  have lt_ : ∀ {b : Addr} {o : Obj}, hp.get? b = some o → b ≠ hp.objs.size + 1 := fun {b o} e => Nat.ne_of_lt (Nat.lt_succ_of_lt (Heap.lt_size e))
  refine wpAny_execs_nil ⟨rfl, hq h₃ tk₃ (hp.objs.size + 1) dx ⟨fun b o e => k₃ b o (lt_ e) (k1' b o (k b o e)), Nat.le_succ _, ⟨_, _, hx₃, rfl, rfl, rfl, rfl⟩, ?_, dne, hn₃⟩⟩
  have dn' : h₁.objs.size ≤ dx := dn
  show hp.objs.size ≤ dx
  omega
end
end Of_name
section
variable {X : Cx} {nm ql : Str} {C fI : Addr} {B newId initId : String} {bmB : List Value}
theorem relO_name {v : V} {v' : Value} (r : RelV v v') (f : Str) : RelO (List.lookup f [(("name" : Str), v)]) (if f = "name" then some v' else none) := by
  by_cases hw : f = "name"
  · subst hw
    rw [if_pos rfl]
    have q : List.lookup ("name" : Str) [(("name" : Str), v)] = some v := by simp [List.lookup]
    rw [q]
    exact r
  · rw [if_neg hw]
    have qw : (f == ("name" : Str)) = false := by simpa using hw
    have q2 : List.lookup f [(("name" : Str), v)] = none := by simp [List.lookup, qw]
    rw [q2]
    trivial
/-- nm(e) -/
def tMk_name (C : Addr) (ta : TA) : L2.St → Hp → XK → Prop := fun σ H Q => ta σ H fun vs H1 => ∃ v, vs = [v] ∧ ∀ d, H1 d = none → Q (.ref C) (some d) (upd H1 d (.xd [(("name" : Str), v)]))
theorem pmk_name {a : Expr} {ta : TA} {p pos : Pos} {k : Nat} (T : Of_name.Tx X.K X.mg nm ql C fI B newId initId bmB) (hr : Room k X.A) (ha : PA X [a] ta) (hg : Gl X nm := by rfl) (hdb : (nm == ("__debug__" : Str)) = false := by decide)
    (he : starEach (a :: []) X.env = (false, eval a X.env) :: starEach [] X.env := by rfl) (hpl : (backTo pos (starEach [] X.env)).any (·.1) = false := by rfl) :
    PMk X (.Call (.Name nm p) [a] [] pos) (tMk_name C ta) := by
  intro pins s σ H Q I h
  refine wpAny_Call_Name_kw (ld_glob I hg T.gC ?_ hdb)
  refine PySem.W.callWith_K (h₀ := X.base) I.ok.mod.kin T.kC (thn (ha.run pos pins s σ H _ I h) fun us s1 hh => ?_) he hpl
  obtain ⟨vs, H1, I1, r1, v, ev, q1⟩ := hh
  subst ev
  refine ⟨I1.kIn, ?_⟩
  cases r1 with
  | cons rv rn =>
    rename_i v' us'
    cases rn
    show wpAny _ _ (call (.ref C) [v']) _ _ _
    have hlim := I1.nolimit
    obtain ⟨hp, g, dr, tk, os⟩ := s1
    refine wpAny_call (Of_name.made T I1.kIn hlim (by have := hr.dp; omega) fun h' tk' e d M => ?_)
    show MkP X pins σ Q (.ref e) ⟨h', g, dr, tk', os⟩
    obtain ⟨oe, fv, hoe, hc, hd, hdat, h1⟩ := M.obj
    have hns := M.ns
    obtain ⟨G', g1, g2⟩ := restrict h' fun b => decide (b ≠ e)
    have gk : ∀ b, b ≠ e → G'.get? b = h'.get? b := fun b hb => g1 b (decide_eq_true hb)
    have ge : G'.get? e = none := g2 e (by simp)
    have old : ∀ b o, hp.get? b = some o → G'.get? b = some o := fun b o q => (gk b (Nat.ne_of_lt (Nat.lt_of_lt_of_le (Heap.lt_size q) M.new))).trans (M.keep b o q)
    have ob : ObjOk X.prog X.w (upd H1 d (.xd [(("name" : Str), v)])) G' d (.xd [(("name" : Str), v)]) :=
      ⟨_, hns.at (fun o q => (gk d M.dne).trans q), fun f => relO_name rv f⟩
    have J : L2.Inv X pins σ (upd H1 d (.xd [(("name" : Str), v)])) ⟨G', g, dr, tk', os⟩ := I1.laid (t' := tk') old M.dbig ob
    refine ⟨e, oe, fv, ⟨G', g, dr, tk', os⟩, _, .ref C, some d, rfl, J, fun b o q => ?_, ge, hoe, ⟨hc, hd⟩, hdat, h1, ?_, rfl, I1.bare, raises_own T.ex.hs T.tyC, q1 d (I1.hok.fresh M.dbig)⟩
    · by_cases hb : b = e
      · have q' : G'.get? b = some o := q
        rw [hb, ge] at q'
        cases q'
      · exact (gk b hb).symm.trans q
    · rw [upd_ne (Ne.symm M.dne)]
      exact I1.hok.fresh M.new
/-- raise nm(e) -/
def tRaise_name (C : Addr) (W : WX) (ta : TA) : TS := fun _ σ H => tMk_name C ta σ H fun cls d H' => W cls d σ H'
theorem ps_raise_name {a : Expr} {ta : TA} {W : WX} {p pos pos2 : Pos} {k : Nat} (hc : X.calm = true) (T : Of_name.Tx X.K X.mg nm ql C fI B newId initId bmB) (hr : Room k X.A) (tk : Takes X W) (ha : PA X [a] ta) (hg : Gl X nm := by rfl) (hdb : (nm == ("__debug__" : Str)) = false := by decide)
    (he : starEach (a :: []) X.env = (false, eval a X.env) :: starEach [] X.env := by rfl) (hpl : (backTo pos (starEach [] X.env)).any (·.1) = false := by rfl) :
    PS X (.Raise (some (.Call (.Name nm p) [a] [] pos)) none pos2) (tRaise_name C W ta) := ps_raise hc tk (pmk_name T hr ha hg hdb he hpl)
/-- e.name, e a kept error -/
def tGet_name (K : PySem.W.Frag) (te : TE) : TE := fun σ H Q => te σ H fun x H1 => ∃ (a C dd : Addr) (v : V), x = .ref a ∧ H1 a = some (ExH (.ref C) (some dd) a) ∧ ExcC K C ∧ PySem.W.findIn K (.ref C) "name" = some none ∧ H1 dd = some (.xd [(("name" : Str), v)]) ∧ Q v H1
theorem pe_get_name {e : Expr} {te : TE} {pos : Pos} (he : PE X e te) (hb : attributeBase e "name" X.env (eval e X.env) = eval e X.env := by rfl) : PE X (.Attribute e "name" pos) (tGet_name X.K te) := by
  constructor
  intro pins s σ H Q I h
  refine attr_of hb (thn (he.run pins s σ H _ I h) ?_)
  rintro u s1 ⟨x, H1, I1, rx, a, C, dd, v, rfl, ha, EC, noN, hdd, q⟩
  cases (show u = Value.ref a from rx)
  obtain ⟨oe, od, J, hod⟩ := held_at I1 ha (.inr ⟨dd, _, rfl, hdd⟩)
  obtain ⟨mA, hns, hr⟩ := I1.hok dd _ hdd
  obtain ⟨o, ho, hl⟩ := lookIn_ns hns
  obtain ⟨o', eo, ho'⟩ := hod dd _ rfl hdd
  rw [ho] at ho'
  cases ho'
  subst eo
  have l : List.lookup ("name" : Str) [(("name" : Str), v)] = some v := by simp [List.lookup]
  obtain ⟨u, hu, ru⟩ := RelO.some_of (v := v) (o := mA "name") (by rw [← l]; exact hr "name")
  exact HandSPX.exc_get I1.kIn J EC.hg EC.hk EC.hs (PySem.W.findObj_own EC.hd noN rfl (by rw [hl, hu])) (handed_of ru) ⟨v, H1, I1.tok _, ru, q⟩
end
/-! ### errors of the field most -/
namespace Of_most
open PySem.W PySem.Calls PySem.HandSPX
def iA (p1 p2 : Pos) : Arguments := { posonlyargs := [], args := [{ arg := "self", annotation := none, pos := p1 }, { arg := "most", annotation := none, pos := p2 }], vararg := none, kwonlyargs := [], kw_defaults := [], kwarg := none, defaults := [] }
def iB (q1 q2 q3 q4 : Pos) : List Stmt := [.Assign [.Attribute (.Name "self" q1) "most" q2] (.Name "most" q3) q4]
def iS : Scope := { kind := .function, names := [(PySem.Str.ofString "self", .local), (PySem.Str.ofString "most", .local)], isGenerator := false, isCoroutine := false, more := [] }
/-- the class called nm, at C, and its __init__, at fI, as the top has left them -/
structure Tx (K : Frag) (mg : Str → Option Value) (nm ql : Str) (C fI : Addr) (B newId initId : String) (bmB : List Value) : Prop where
  base : ExcBaseFacts B newId initId bmB
  gC : mg nm = some (.ref C)
  cls : ∃ n1 q N bs bm sn sub ab col dd k0 k1 k2 k3 k5, K.lookup C = some (excClassObj n1 q C N bs bm true sn sub ab col dd k0 k1 k2 k3 k5 newId) ∧ Line bm bmB
  sa : findIn K (.ref C) "__setattr__" = some (some (.builtin "object.__setattr__"))
  ex : ExcC K C
  noN : findIn K (.ref C) "most" = some none
  iC : findIn K (.ref C) "__init__" = some (some (.ref fI))
  tC : typeIn K (.ref fI) = some (.type "function")
  kC : keepIn K (.ref C) = true
  tyC : typeIn K (.ref C) = some (.type "type")
  fn : ∃ (oc : Value) (od : Option Addr) (doc pm : Value) (an : Option Addr) (cdv ct : Value) (osl : Array (Option Value)) (p1 p2 q1 q2 q3 q4 : Pos),
    K.lookup fI = some ⟨oc, od, .func (fnOf "__init__" ql (iA p1 p2) (iB q1 q2 q3 q4) iS .none .none doc pm an cdv ct), osl⟩ ∧ codeIn K cdv ql = true
/-- an error made of v, at e, its own dict at d -/
structure Made (h h' : Heap) (e C d : Addr) (v : Value) : Prop where
  keep : ∀ b o, h.get? b = some o → h'.get? b = some o
  new : h.objs.size ≤ e
  obj : ∃ oe vs, h'.get? e = some oe ∧ oe.cls = .ref C ∧ oe.dict = some d ∧ oe.data = .fields vs ∧ vs[1]? = some .none
  dbig : h.objs.size ≤ d
  dne : d ≠ e
  ns : h'.Ns1 d (fun y => if y = "most" then some v else none)
section
variable {prog : Program} {w : World} {A : Around} {E : Value → Shared → Prop} {R : Result → Shared → Prop} {s : Shared} {K : Frag} {mg : Str → Option Value} {nm ql : Str} {C fI : Addr} {B newId initId : String} {bmB : List Value}
theorem made (T : Tx K mg nm ql C fI B newId initId bmB) {v : Value} (X : K.In s.heap) (hlim : s.heap.NoLimit) (hroom : A.depth + 1 < recursionLimit) (hq : ∀ h' tk e d, Made s.heap h' e C d v → R (.ok (.ret (.ref e))) { s with heap := h', toks := tk }) :
    codeAny (model prog w) A (.call (.ref C) ⟨[v], []⟩) R s := by
  obtain ⟨n1, q, N, bs, bm, sn, sub, ab, col, dd, k0, k1, k2, k3, k5, hC, ln⟩ := T.cls
  obtain ⟨oc, od, doc, pm, an, cdv, ct, osl, p1, p2, q1, q2, q3, q4, ho, hcd⟩ := T.fn
  have hcl : clsIn K C = some { name := n1, bases := bs, mro := .ref C :: bm, ns := N, qualname := q, hasDict := true, slotNames := sn, subclasses := sub, abstract := ab, collection := col, hasDel := false } := by
    unfold clsIn
    rw [hC]
  obtain ⟨hp, g, dr, tk, os⟩ := s
  have k : ∀ b o, hp.get? b = some o → ((hp.push (kdv_tup [v])).push (excO C hp.objs.size)).get? b = some o := fun b o e => Heap.get?_push_of_some _ (Heap.get?_push_of_some _ e)
  have hx : ((hp.push (kdv_tup [v])).push (excO C hp.objs.size)).get? (hp.objs.size + 1) = some (excO C hp.objs.size) := by heap_get
  refine call_own T.base ln.has (X _ _ hC) (looks_findIn X T.iC) (fun self => bind_fn X self T.tC) (one_size v) ?_
  have X1 := X.keeps k
  have lim1 : ((hp.push (kdv_tup [v])).push (excO C hp.objs.size)).NoLimit := hlim.keeps k
  have size1 : ((hp.push (kdv_tup [v])).push (excO C hp.objs.size)).objs.size = hp.objs.size + 1 + 1 := by rw [Heap.size_push, Heap.size_push]
  generalize (hp.push (kdv_tup [v])).push (excO C hp.objs.size) = h1 at k hx X1 lim1 size1 ⊢
  refine Att.call_fn (binds := [("self", .ref (hp.objs.size + 1)), ("most", v)]) X1 lim1 ho hcd hroom (BindsTo.of_eq (by first | rfl | with_unfolding_all rfl)) (by first | rfl | decide | with_unfolding_all rfl) (fun s₁ IC => ?_) rfl rfl rfl
  obtain ⟨h₁, tk₁, rfl⟩ := IC.toInCall.same
  have k1' : ∀ b o, h1.get? b = some o → h₁.get? b = some o := IC.toInCall.keep
  have hn := IC.toInCall.ns
  show wpAny _ _ (execs _ _) _ _ _
  refine wpAny_execs_cons (plainObj_wpAny_Assign_Attribute ?_)
  refine ldC (v := v) hn (by first | rfl | with_unfolding_all rfl | kernel_rfl) (ldC (v := .ref (hp.objs.size + 1)) hn (by first | rfl | with_unfolding_all rfl | kernel_rfl) ?_)
  refine set_plain (X1.keeps k1') (ox := excO C hp.objs.size) (od := none) ⟨k1' _ _ hx, rfl, rfl, trivial⟩ T.sa ?_
  refine store_err (X1.keeps k1') (k1' _ _ hx) hcl (bmB := bmB) ln.own rfl rfl T.noN (fun h₃ tk₃ dx k₃ dn dne hx₃ hn₃ => ?_)
  show wpAny _ _ (execs _ _) _ _ _
  have z : h1.objs.size < h₁.objs.size := hn.lt
  have lt_ : ∀ {b : Addr} {o : Obj}, hp.get? b = some o → b ≠ hp.objs.size + 1 := fun {b o} e => Nat.ne_of_lt (Nat.lt_succ_of_lt (Heap.lt_size e))
  refine wpAny_execs_nil ⟨rfl, hq h₃ tk₃ (hp.objs.size + 1) dx ⟨fun b o e => k₃ b o (lt_ e) (k1' b o (k b o e)), Nat.le_succ _, ⟨_, _, hx₃, rfl, rfl, rfl, rfl⟩, ?_, dne, hn₃⟩⟩
  have dn' : h₁.objs.size ≤ dx := dn
  show hp.objs.size ≤ dx
  omega
end
end Of_most
section
variable {X : Cx} {nm ql : Str} {C fI : Addr} {B newId initId : String} {bmB : List Value}
theorem relO_most {v : V} {v' : Value} (r : RelV v v') (f : Str) : RelO (List.lookup f [(("most" : Str), v)]) (if f = "most" then some v' else none) := by
  by_cases hw : f = "most"
  · subst hw
    rw [if_pos rfl]
    have q : List.lookup ("most" : Str) [(("most" : Str), v)] = some v := by simp [List.lookup]
    rw [q]
    exact r
  · rw [if_neg hw]
    have qw : (f == ("most" : Str)) = false := by simpa using hw
    have q2 : List.lookup f [(("most" : Str), v)] = none := by simp [List.lookup, qw]
    rw [q2]
    trivial
/-- nm(e) -/
def tMk_most (C : Addr) (ta : TA) : L2.St → Hp → XK → Prop := fun σ H Q => ta σ H fun vs H1 => ∃ v, vs = [v] ∧ ∀ d, H1 d = none → Q (.ref C) (some d) (upd H1 d (.xd [(("most" : Str), v)]))
theorem pmk_most {a : Expr} {ta : TA} {p pos : Pos} {k : Nat} (T : Of_most.Tx X.K X.mg nm ql C fI B newId initId bmB) (hr : Room k X.A) (ha : PA X [a] ta) (hg : Gl X nm := by rfl) (hdb : (nm == ("__debug__" : Str)) = false := by decide)
    (he : starEach (a :: []) X.env = (false, eval a X.env) :: starEach [] X.env := by rfl) (hpl : (backTo pos (starEach [] X.env)).any (·.1) = false := by rfl) :
    PMk X (.Call (.Name nm p) [a] [] pos) (tMk_most C ta) := by
  intro pins s σ H Q I h
  refine wpAny_Call_Name_kw (ld_glob I hg T.gC ?_ hdb)
  refine PySem.W.callWith_K (h₀ := X.base) I.ok.mod.kin T.kC (thn (ha.run pos pins s σ H _ I h) fun us s1 hh => ?_) he hpl
  obtain ⟨vs, H1, I1, r1, v, ev, q1⟩ := hh
  subst ev
  refine ⟨I1.kIn, ?_⟩
  cases r1 with
  | cons rv rn =>
    rename_i v' us'
    cases rn
    show wpAny _ _ (call (.ref C) [v']) _ _ _
    have hlim := I1.nolimit
    obtain ⟨hp, g, dr, tk, os⟩ := s1
    refine wpAny_call (Of_most.made T I1.kIn hlim (by have := hr.dp; omega) fun h' tk' e d M => ?_)
    show MkP X pins σ Q (.ref e) ⟨h', g, dr, tk', os⟩
    obtain ⟨oe, fv, hoe, hc, hd, hdat, h1⟩ := M.obj
    have hns := M.ns
    obtain ⟨G', g1, g2⟩ := restrict h' fun b => decide (b ≠ e)
    have gk : ∀ b, b ≠ e → G'.get? b = h'.get? b := fun b hb => g1 b (decide_eq_true hb)
    have ge : G'.get? e = none := g2 e (by simp)
    have old : ∀ b o, hp.get? b = some o → G'.get? b = some o := fun b o q => (gk b (Nat.ne_of_lt (Nat.lt_of_lt_of_le (Heap.lt_size q) M.new))).trans (M.keep b o q)
    have ob : ObjOk X.prog X.w (upd H1 d (.xd [(("most" : Str), v)])) G' d (.xd [(("most" : Str), v)]) :=
      ⟨_, hns.at (fun o q => (gk d M.dne).trans q), fun f => relO_most rv f⟩
    have J : L2.Inv X pins σ (upd H1 d (.xd [(("most" : Str), v)])) ⟨G', g, dr, tk', os⟩ := I1.laid (t' := tk') old M.dbig ob
    refine ⟨e, oe, fv, ⟨G', g, dr, tk', os⟩, _, .ref C, some d, rfl, J, fun b o q => ?_, ge, hoe, ⟨hc, hd⟩, hdat, h1, ?_, rfl, I1.bare, raises_own T.ex.hs T.tyC, q1 d (I1.hok.fresh M.dbig)⟩
    · by_cases hb : b = e
      · have q' : G'.get? b = some o := q
        rw [hb, ge] at q'
        cases q'
      · exact (gk b hb).symm.trans q
    · rw [upd_ne (Ne.symm M.dne)]
      exact I1.hok.fresh M.new
/-- raise nm(e) -/
def tRaise_most (C : Addr) (W : WX) (ta : TA) : TS := fun _ σ H => tMk_most C ta σ H fun cls d H' => W cls d σ H'
theorem ps_raise_most {a : Expr} {ta : TA} {W : WX} {p pos pos2 : Pos} {k : Nat} (hc : X.calm = true) (T : Of_most.Tx X.K X.mg nm ql C fI B newId initId bmB) (hr : Room k X.A) (tk : Takes X W) (ha : PA X [a] ta) (hg : Gl X nm := by rfl) (hdb : (nm == ("__debug__" : Str)) = false := by decide)
    (he : starEach (a :: []) X.env = (false, eval a X.env) :: starEach [] X.env := by rfl) (hpl : (backTo pos (starEach [] X.env)).any (·.1) = false := by rfl) :
    PS X (.Raise (some (.Call (.Name nm p) [a] [] pos)) none pos2) (tRaise_most C W ta) := ps_raise hc tk (pmk_most T hr ha hg hdb he hpl)
/-- e.most, e a kept error -/
def tGet_most (K : PySem.W.Frag) (te : TE) : TE := fun σ H Q => te σ H fun x H1 => ∃ (a C dd : Addr) (v : V), x = .ref a ∧ H1 a = some (ExH (.ref C) (some dd) a) ∧ ExcC K C ∧ PySem.W.findIn K (.ref C) "most" = some none ∧ H1 dd = some (.xd [(("most" : Str), v)]) ∧ Q v H1
theorem pe_get_most {e : Expr} {te : TE} {pos : Pos} (he : PE X e te) (hb : attributeBase e "most" X.env (eval e X.env) = eval e X.env := by rfl) : PE X (.Attribute e "most" pos) (tGet_most X.K te) := by
  constructor
  intro pins s σ H Q I h
  refine attr_of hb (thn (he.run pins s σ H _ I h) ?_)
  rintro u s1 ⟨x, H1, I1, rx, a, C, dd, v, rfl, ha, EC, noN, hdd, q⟩
  cases (show u = Value.ref a from rx)
  obtain ⟨oe, od, J, hod⟩ := held_at I1 ha (.inr ⟨dd, _, rfl, hdd⟩)
  obtain ⟨mA, hns, hr⟩ := I1.hok dd _ hdd
  obtain ⟨o, ho, hl⟩ := lookIn_ns hns
  obtain ⟨o', eo, ho'⟩ := hod dd _ rfl hdd
  rw [ho] at ho'
  cases ho'
  subst eo
  have l : List.lookup ("most" : Str) [(("most" : Str), v)] = some v := by simp [List.lookup]
  obtain ⟨u, hu, ru⟩ := RelO.some_of (v := v) (o := mA "most") (by rw [← l]; exact hr "most")
  exact HandSPX.exc_get I1.kIn J EC.hg EC.hk EC.hs (PySem.W.findObj_own EC.hd noN rfl (by rw [hl, hu])) (handed_of ru) ⟨v, H1, I1.tok _, ru, q⟩
end
end Pk
namespace Pk
open PySem L2
theorem same_upd {H : Hp} {p : Addr} {o : HO} (h : H p = none) : Same H (upd H p o) := fun b x e => by
  rw [upd_ne (ne_of_none e h)]
  exact e
end Pk
namespace Pk
open PySem L2
def top (i : Nat) : Stmt := PySem.Challenge.pw_paperkin_k01_numbers_and_names.main.body.getD i (.Pass ⟨0, 0, 0, 0⟩)
abbrev sIsNumber : Stmt := top 20
abbrev sIsWhole : Stmt := top 21
abbrev sIsName : Stmt := top 22
abbrev sIsText : Stmt := top 23
abbrev sNeedName : Stmt := top 24
abbrev sNeedDay : Stmt := top 25
abbrev sMixed : Stmt := top 27
abbrev sStream : Stmt := top 28
abbrev sTake : Stmt := top 29
abbrev sWord : Stmt := top 30
abbrev sNameBy : Stmt := top 31
abbrev sTextBy : Stmt := top 32
abbrev sAsked : Stmt := top 33
abbrev sSaid : Stmt := top 34
abbrev sNameRight : Stmt := top 35
abbrev sTextRight : Stmt := top 36
abbrev sNumberRight : Stmt := top 37
abbrev sByHand : Stmt := top 38
abbrev sLaw : Stmt := top 39
/-! ### promises of the law's helpers -/
/-- some number that isn't negative -/
def spMixed : Sp := fun vs H Q _ => ∃ (n k : Int), vs = [.int n, .int k] ∧ 0 ≤ k ∧ k ≤ 100000 ∧ ∀ v : Int, 0 ≤ v → Q (.int v) H
/-- a stream's list, t numbers taken -/
def StrmAt (H : Hp) (s : Addr) (t : Int) : Prop := ∃ (b : Bool) (c m : Int), H s = some (.lst [.bl b, .int c, .int t, .int m])
def spStream : Sp := fun vs H Q _ => ∃ (c k : Int), vs = [.int c, .int k] ∧ 0 ≤ k ∧ k ≤ 100000 ∧ ∀ (p : Addr) (o : HO), H p = none → StrmAt (upd H p o) p 0 → Q (.ref p) (upd H p o)
/-- a number below many; only the stream's own list is otherwise -/
def But (s : Addr) (H H' : Hp) : Prop := ∀ q o, q ≠ s → H q = some o → H' q = some o
theorem But.refl {s : Addr} {H : Hp} : But s H H := fun _ _ _ h => h
theorem But.trans {s : Addr} {H H1 H2 : Hp} (a : But s H H1) (b : But s H1 H2) : But s H H2 := fun q o n h => b q o n (a q o n h)
theorem But.new {s p : Addr} {H : Hp} {o : HO} (h : H p = none) : But s H (upd H p o) := fun q u _ e => by
  rw [upd_ne (ne_of_none e h)]
  exact e
theorem But.at {s : Addr} {H : Hp} {o : HO} : But s H (upd H s o) := fun q u n e => by
  rw [upd_ne n]
  exact e
theorem But.same {s : Addr} {H H' : Hp} (a : Same H H') : But s H H' := fun q o _ e => a q o e
def spTake : Sp := fun vs H Q _ => ∃ (s : Addr) (t many : Int), vs = [.ref s, .int many] ∧ StrmAt H s t ∧ 0 ≤ t ∧ t < 100000 ∧ 0 < many ∧ many < 1000000 ∧
  ∀ (v : Int) (H' : Hp), 0 ≤ v → v < many → But s H H' → StrmAt H' s (t + 1) → Q (.int v) H'
section
variable {P : Program} {w : World} {K : PySem.W.Frag} {mg : Str → Option Value} {base : Heap}
theorem scMixed : FnScope ["_law_number", "_law_k"] ["_law_number", "_law_k"] (defScope sMixed) := ⟨rfl, rfl, rfl, by decide +kernel, rfl, by decide +kernel, by decide +kernel⟩
theorem ok_mixed {f : Addr} {fd : FuncData} (F : Fun K "_law_mixed" "_law_mixed" sMixed f fd) : FnOk P w K mg base CX0 1 f fd ["_law_number", "_law_k"] spMixed := by
  refine F.ok scMixed (fun vs H Q E h => ?_) (fun cdv A outer s H vs Q E hr h => ?_)
  · obtain ⟨n, k, rfl, _⟩ := h
    rfl
  · obtain ⟨n, k, rfl, k0, k1, q⟩ := h
    refine ⟨_, pss_cons (ps_set (i := 0) scMixed.nd rfl (.inl rfl) (pe_op op_mod (pe_op op_pow (pe_op op_add (pe_op op_add (pe_op op_add (pe_op op_mod (pv 0) pe_int) (pe_op op_mul (pe_op op_mul pe_int (pv 1)) (pv 1))) (pe_op op_mul pe_int (pv 1))) pe_int) pe_int) pe_int))
      (pss_one (ps_ret (pe_op op_fdiv (pe_op op_mod (pe_op op_mul (pv 0) (pe_op op_add pe_int (pe_op op_mul pe_int (pv 1)))) pe_int) pe_int))), ?_⟩
    have b1 : n % 2147483647 < 2147483647 := Int.emod_lt_of_pos _ (by decide)
    have b0 : 0 ≤ n % 2147483647 := Int.emod_nonneg _ (by decide)
    have kk : 7919 * k * k ≤ 7919 * 100000 * 100000 := Int.mul_le_mul (by omega) k1 k0 (by decide)
    have kk0 : 0 ≤ 7919 * k * k := Int.mul_nonneg (by omega) k0
    refine ⟨_, rfl, _, _, rfl, rfl, (by show (0 : Int) < 2147483647; decide), _, rfl, _, _, rfl, rfl, .inl ⟨by decide, by decide⟩, _, rfl, _, _, rfl, rfl, .inl ⟨by omega, by omega⟩, _, _, rfl, rfl, _, rfl, _, _, rfl, rfl, .inl ⟨by decide, by decide⟩, _, _, rfl, rfl, _, _, rfl, rfl, _, _, rfl, rfl, ⟨by decide, by decide, by omega⟩, _, _, rfl, rfl, (by show (0 : Int) < 2147483629; decide), ?_⟩
    refine ⟨_, rfl, _, rfl, _, _, rfl, rfl, .inl ⟨by decide, by decide⟩, _, _, rfl, rfl, _, _, rfl, rfl, .inr ⟨by omega, by omega⟩, _, _, rfl, rfl, (by show (0 : Int) < 2147483587; decide), _, _, rfl, rfl, ⟨by decide, by decide⟩, ?_⟩
    exact q _ (Int.ediv_nonneg (Int.emod_nonneg _ (by decide)) (by decide))
theorem scStream : FnScope ["_law_cell", "_law_k"] ["_law_cell", "_law_k"] (defScope sStream) := ⟨rfl, rfl, rfl, by decide +kernel, rfl, by decide +kernel, by decide +kernel⟩
theorem ok_stream {f fM : Addr} {fd fdM : FuncData} (F : Fun K "_law_stream" "_law_stream" sStream f fd) (FM : Fun K "_law_mixed" "_law_mixed" sMixed fM fdM) (bM : Binds K fdM ["_law_number", "_law_k"] []) (gM : mg "_law_mixed" = some (.ref fM)) :
    FnOk P w K mg base CX0 2 f fd ["_law_cell", "_law_k"] spStream := by
  have GM : FnOk P w K mg base CX0 1 fM fdM ["_law_number", "_law_k"] spMixed := ok_mixed FM
  refine F.ok scStream (fun vs H Q E h => ?_) (fun cdv A outer s H vs Q E hr h => ?_)
  · obtain ⟨n, k, rfl, _⟩ := h
    rfl
  · obtain ⟨c, k, rfl, k0, k1, q⟩ := h
    refine ⟨_, pss_one (ps_ret (pe_lst (pa_cons (pe_cmpR op_ge (pv 0) (pe_op op_pow pe_int pe_int) (nomark _)) (pa_cons (pv 0) (pa_cons pe_int (pa_cons (pe_call GM hr (by rfl) gM FM.kp bM .nil pass0 (pa_cons (pv 0) (pa_cons (pv 1) pa_nil))) pa_nil)))))), ?_⟩
    refine ⟨_, rfl, _, _, rfl, rfl, ⟨by decide, by decide, by decide⟩, _, _, rfl, rfl, _, rfl, _, rfl, _, rfl, c, k, rfl, k0, k1, fun v v0 => ?_⟩
    exact ⟨by show 4 ≤ sizeLine; decide, fun p hp => q p _ hp ⟨_, _, _, upd_same⟩⟩
theorem scTake : FnScope ["_law_stream_here", "_law_many", "_law_number"] ["_law_stream_here", "_law_many"] (defScope sTake) := ⟨rfl, rfl, rfl, by decide +kernel, rfl, by decide +kernel, by decide +kernel⟩
theorem upd_upd {H : Hp} {a : Addr} {o o' : HO} : upd (upd H a o) a o' = upd H a o' := by
  funext b
  unfold upd
  by_cases h : b = a
  · rw [if_pos h, if_pos h]
  · rw [if_neg h, if_neg h, if_neg h]
theorem ok_take {f fM : Addr} {fd fdM : FuncData} (F : Fun K "_law_take" "_law_take" sTake f fd) (FM : Fun K "_law_mixed" "_law_mixed" sMixed fM fdM) (bM : Binds K fdM ["_law_number", "_law_k"] []) (gM : mg "_law_mixed" = some (.ref fM)) :
    FnOk P w K mg base CX0 2 f fd ["_law_stream_here", "_law_many"] spTake := by
  have GM : FnOk P w K mg base CX0 1 fM fdM ["_law_number", "_law_k"] spMixed := ok_mixed FM
  refine F.ok scTake (fun vs H Q E h => ?_) (fun cdv A outer s H vs Q E hr h => ?_)
  · obtain ⟨n, k, m, rfl, _⟩ := h
    rfl
  · obtain ⟨a, t, many, rfl, ⟨b, c, m, ha⟩, t0, t1, m0, m1, q⟩ := h
    refine ⟨_, pss_cons (ps_asg (pe_op op_add (pe_ix ix_list (pv 0) pe_int (fun _ _ => rfl)) pe_int) (pg_sub (pv 0) pe_int set_list))
      (pss_cons (ps_if (PW.pt (pw_or (pt_not (pt_val (pe_ix ix_list (pv 0) pe_int (fun _ _ => rfl)))) (pw_or (pt_cmpR op_in_seq (pe_ix ix_list (pv 0) pe_int (fun _ _ => rfl)) (pe_tup (pa_cons pe_int (pa_cons (pe_un un_neg pe_int) pa_nil))) (by rfl))
          (pw_or1 (pt_cmpR op_gt (pe_ix ix_list (pv 0) pe_int (fun _ _ => rfl)) pe_int (nomark _))))))
        (pss_one (ps_ret (pe_op op_mod (pe_op op_fdiv (pe_call GM hr (by rfl) gM FM.kp bM .nil pass0 (pa_cons (pe_op op_add (pe_ix ix_list (pv 0) pe_int (fun _ _ => rfl)) (pe_op op_mul pe_int (pe_ix ix_list (pv 0) pe_int (fun _ _ => rfl)))) (pa_cons (pe_ix ix_list (pv 0) pe_int (fun _ _ => rfl)) pa_nil))) pe_int) (pv 1)))) pss_nil)
      (pss_cons (ps_set (i := 2) scTake.nd rfl (.inl rfl) (pe_op op_mod (pe_ix ix_list (pv 0) pe_int (fun _ _ => rfl)) (pv 1)))
      (pss_cons (ps_asg (pe_op op_fdiv (pe_ix ix_list (pv 0) pe_int (fun _ _ => rfl)) (pv 1)) (pg_sub (pv 0) pe_int set_list))
      (pss_one (ps_ret (pv 2)))))), ?_⟩
    refine ⟨_, rfl, a, _, _, _, rfl, rfl, SqL.of ha, atI_nat (j := 2) rfl, _, _, rfl, rfl, _, rfl, a, _, _, 2, rfl, rfl, ha, rfl, ?_⟩
    have h1 : upd H a (.lst [.bl b, .int c, .int (t + 1), .int m]) a = some (.lst [.bl b, .int c, .int (t + 1), .int m]) := upd_same
    have u1 : But a H (upd H a (.lst [.bl b, .int c, .int (t + 1), .int m])) := But.at
    show tSeq _ _ _ _ (upd H a (.lst [.bl b, .int c, .int (t + 1), .int m]))
    generalize upd H a (.lst [.bl b, .int c, .int (t + 1), .int m]) = H1 at h1 u1
    -- not stream[0]
    refine ⟨_, rfl, a, _, _, _, rfl, rfl, SqL.of h1, atI_nat (j := 0) rfl, _, rfl, ?_⟩
    cases b with
    | false =>
      refine iteT ?_
      have h2 := h1
      have u2 := u1
      refine ⟨_, rfl, a, _, _, _, rfl, rfl, SqL.of h2, atI_nat (j := 3) rfl, _, rfl, a, _, _, _, rfl, rfl, SqL.of h2, atI_nat (j := 2) rfl, _, _, rfl, rfl, .inl ⟨by decide, by decide⟩, _, _, rfl, rfl, _, rfl, a, _, _, _, rfl, rfl, SqL.of h2, atI_nat (j := 2) rfl, _, _, rfl, by omega, by omega, fun v v0 => ?_⟩
      exact ⟨_, _, rfl, rfl, ⟨by decide, by decide⟩, _, rfl, _, _, rfl, rfl, m0, q _ _ (Int.emod_nonneg _ (by omega)) (Int.emod_lt_of_pos _ m0) u2 ⟨_, _, _, h2⟩⟩
    | true =>
      refine iteF ?_
      -- stream[1] in (0, -1)
      refine ⟨_, rfl, a, _, _, _, rfl, rfl, SqL.of h1, atI_nat (j := 1) rfl, _, rfl, by show 2 ≤ sizeLine; decide, fun p hp => ?_⟩
      have h2 : upd H1 p (.tup [.int 0, .int (-1)]) a = some (.lst [.bl true, .int c, .int (t + 1), .int m]) := by
        rw [upd_ne (ne_of_none h1 hp)]
        exact h1
      have u2 : But a H (upd H1 p (.tup [.int 0, .int (-1)])) := u1.trans (But.new hp)
      refine ⟨p, _, rfl, .inr (SqT.of upd_same), rfl, rfl, _, rfl, ?_⟩
      generalize upd H1 p (.tup [.int 0, .int (-1)]) = H2 at h2 u2
      refine ite2 (fun _ => ?_) (fun _ => ?_)
      · refine ⟨_, rfl, a, _, _, _, rfl, rfl, SqL.of h2, atI_nat (j := 3) rfl, _, rfl, a, _, _, _, rfl, rfl, SqL.of h2, atI_nat (j := 2) rfl, _, _, rfl, rfl, .inl ⟨by decide, by decide⟩, _, _, rfl, rfl, _, rfl, a, _, _, _, rfl, rfl, SqL.of h2, atI_nat (j := 2) rfl, _, _, rfl, by omega, by omega, fun v v0 => ?_⟩
        exact ⟨_, _, rfl, rfl, ⟨by decide, by decide⟩, _, rfl, _, _, rfl, rfl, m0, q _ _ (Int.emod_nonneg _ (by omega)) (Int.emod_lt_of_pos _ m0) u2 ⟨_, _, _, h2⟩⟩
      · -- stream[2] > 60
        refine ⟨_, rfl, a, _, _, _, rfl, rfl, SqL.of h2, atI_nat (j := 2) rfl, _, _, rfl, rfl, _, rfl, ?_⟩
        refine ite2 (fun _ => ?_) (fun _ => ?_)
        · refine ⟨_, rfl, a, _, _, _, rfl, rfl, SqL.of h2, atI_nat (j := 3) rfl, _, rfl, a, _, _, _, rfl, rfl, SqL.of h2, atI_nat (j := 2) rfl, _, _, rfl, rfl, .inl ⟨by decide, by decide⟩, _, _, rfl, rfl, _, rfl, a, _, _, _, rfl, rfl, SqL.of h2, atI_nat (j := 2) rfl, _, _, rfl, by omega, by omega, fun v v0 => ?_⟩
          exact ⟨_, _, rfl, rfl, ⟨by decide, by decide⟩, _, rfl, _, _, rfl, rfl, m0, q _ _ (Int.emod_nonneg _ (by omega)) (Int.emod_lt_of_pos _ m0) u2 ⟨_, _, _, h2⟩⟩
        · refine ⟨_, rfl, a, _, _, _, rfl, rfl, SqL.of h2, atI_nat (j := 1) rfl, _, rfl, _, _, rfl, rfl, m0, ?_⟩
          refine ⟨_, rfl, a, _, _, _, rfl, rfl, SqL.of h2, atI_nat (j := 1) rfl, _, rfl, _, _, rfl, rfl, ⟨m0, by omega⟩, _, rfl, a, _, _, 1, rfl, rfl, h2, rfl, ?_⟩
          exact ⟨_, rfl, q _ _ (Int.emod_nonneg _ (by omega)) (Int.emod_lt_of_pos _ m0) (u2.trans But.at) ⟨_, _, _, upd_same⟩⟩
end
/-! ### the word of a refusal -/
def lawWords : List Str := ["wish", "paper", "sheet", "line", "gone", "question", "text", "such", "place", "many", "kind", "unmet", "answers", "twice"]
/-- the words whose class it is -/
def told (bs : List Bool) : List Str := ((lawWords.zip bs).filter (·.2)).map (·.1)
def wordOf (bs : List Bool) : Str := match told bs with
  | [x] => x
  | _ => "another"
/-- the fourteen classes, as the top has left them -/
structure Fourteen (mg : Str → Option Value) (c : Nat → Addr) : Prop where
  g0 : mg "BadWish" = some (.ref (c 0))
  g1 : mg "BadPaper" = some (.ref (c 1))
  g2 : mg "BadSheet" = some (.ref (c 2))
  g3 : mg "BadLine" = some (.ref (c 3))
  g4 : mg "Gone" = some (.ref (c 4))
  g5 : mg "BadQuestion" = some (.ref (c 5))
  g6 : mg "BadText" = some (.ref (c 6))
  g7 : mg "NoSuch" = some (.ref (c 7))
  g8 : mg "NoPlace" = some (.ref (c 8))
  g9 : mg "TooMany" = some (.ref (c 9))
  g10 : mg "BadKind" = some (.ref (c 10))
  g11 : mg "Unmet" = some (.ref (c 11))
  g12 : mg "NoAnswers" = some (.ref (c 12))
  g13 : mg "Twice" = some (.ref (c 13))
/-- which of them the class D is -/
def Kits (K : PySem.W.Frag) (c : Nat → Addr) (D : Addr) (bs : Nat → Bool) : Prop := ∀ i, i < 14 → PySem.W.kitOne K (.ref D) (.ref (c i)) = some (bs i)
def list14 (bs : Nat → Bool) : List Bool := [bs 0, bs 1, bs 2, bs 3, bs 4, bs 5, bs 6, bs 7, bs 8, bs 9, bs 10, bs 11, bs 12, bs 13]
theorem DictOk.same {H H' : Hp} {d : Option Addr} (h : DictOk H d) (s : Same H H') : DictOk H' d := by
  rcases h with h | ⟨dd, fs, e, q⟩
  · exact .inl h
  · exact .inr ⟨dd, fs, e, s _ _ q⟩
def spWord (K : PySem.W.Frag) (c : Nat → Addr) : Sp := fun vs H Q _ => ∃ (a D : Addr) (d : Option Addr) (bs : Nat → Bool), vs = [.ref a] ∧ H a = some (ExH (.ref D) d a) ∧ DictOk H d ∧ ExcC K D ∧ Kits K c D bs ∧ ∀ H' : Hp, Same H H' → Q (.str (wordOf (list14 bs))) H'
section
variable {P : Program} {w : World} {K : PySem.W.Frag} {mg : Str → Option Value} {base : Heap}
theorem scWord : FnScope ["_law_error", "_law_found", "_law_words", "_law_told", "_law_word_here", "_law_good"] ["_law_error"] (defScope sWord) := ⟨rfl, rfl, rfl, by decide +kernel, rfl, by decide +kernel, by decide +kernel⟩
theorem isi {X : Cx} {x : Str} {p p1 p2 pos : Pos} {a : Addr} (mi : X.mg "isinstance" = none) (g : X.mg x = some (.ref a)) (hi : Gl X "isinstance" := by rfl) (hg : Gl X x := by rfl) (hN : X.N[0]? = some ("_law_error" : Str) := by rfl) (hv : Vis X.env.scope "_law_error" := by exact Or.inl rfl) (hd : (x == ("__debug__" : Str)) = false := by decide) :
    PE X (.Call (.Name "isinstance" p) [.Name "_law_error" p1, .Name x p2] [] pos) (tCB (rIsK X.K) (tCons (tVar 0) (tCons (tC (.ref a)) tNil))) :=
  pe_callB call_isK hi mi (by decide +kernel) (pa_cons (pe_var hN hv) (pa_cons (pe_glob (v := .ref a) hg g rfl hd) pa_nil))
theorem ok_word {f : Addr} {fd : FuncData} {c : Nat → Addr} (F : Fun K "_law_word" "_law_word" sWord f fd) (T : Fourteen mg c) (mi : mg "isinstance" = none) (mz : mg "zip" = none) (ml : mg "len" = none) : FnOk P w K mg base CX0 1 f fd ["_law_error"] (spWord K c) := by
  refine F.ok scWord (fun vs H Q E h => ?_) (fun cdv A outer s H vs Q E hr h => ?_)
  · obtain ⟨a, D, d, bs, rfl, _⟩ := h
    rfl
  · obtain ⟨a, D, d, bs, rfl, ha, hdk, XC, kt, q⟩ := h
    refine ⟨_, pss_cons (ps_if (pt_cmpR op_isN (pv 0) pe_non (nomark _)) (pss_one (ps_ret pe_str)) pss_nil)
      (pss_cons (ps_set (i := 1) scWord.nd rfl (.inl rfl) (pe_lst (pa_cons (isi mi T.g0) (pa_cons (isi mi T.g1) (pa_cons (isi mi T.g2) pa_nil)))))
      (pss_cons (ps_set (i := 1) scWord.nd rfl (.inl rfl) (pe_op op_cat (pv 1) (pe_lst (pa_cons (isi mi T.g3) (pa_cons (isi mi T.g4) (pa_cons (isi mi T.g5) pa_nil))))))
      (pss_cons (ps_set (i := 1) scWord.nd rfl (.inl rfl) (pe_op op_cat (pv 1) (pe_lst (pa_cons (isi mi T.g6) (pa_cons (isi mi T.g7) (pa_cons (isi mi T.g8) pa_nil))))))
      (pss_cons (ps_set (i := 1) scWord.nd rfl (.inl rfl) (pe_op op_cat (pv 1) (pe_lst (pa_cons (isi mi T.g9) (pa_cons (isi mi T.g10) (pa_cons (isi mi T.g11) pa_nil))))))
      (pss_cons (ps_set (i := 1) scWord.nd rfl (.inl rfl) (pe_op op_cat (pv 1) (pe_lst (pa_cons (isi mi T.g12) (pa_cons (isi mi T.g13) pa_nil)))))
      (pss_cons (ps_set (i := 2) scWord.nd rfl (.inl rfl) (pe_lst (pa_cons pe_str (pa_cons pe_str (pa_cons pe_str (pa_cons pe_str (pa_cons pe_str (pa_cons pe_str (pa_cons pe_str (pa_cons pe_str (pa_cons pe_str (pa_cons pe_str (pa_cons pe_str pa_nil)))))))))))))
      (pss_cons (ps_setLc (i := 3) (own := [("_law_word_here", 4), ("_law_good", 5)]) (g := gTup K 2 (gCons (gName 4) (gCons (gName 5) gNil))) rfl scWord.nd rfl rfl (sw_true rfl rfl rfl (by decide +kernel)) (pi_zip (by rfl) mz (pa_cons (pe_op op_cat (pv 2) (pe_lst (pa_cons pe_str (pa_cons pe_str (pa_cons pe_str pa_nil))))) (pa_cons (pv 1) pa_nil)))
          (blkOk_by (N := ["_law_error", "_law_found", "_law_words", "_law_told", "_law_word_here", "_law_good"]) (sc := defScope sWord) (by decide +kernel))
          (fun _ _ _ _ _ => by exact pg_tup rfl (pgs_cons (pg_name (i := 4) scWord.nd rfl (.inl rfl)) (pgs_cons (pg_name (i := 5) scWord.nd rfl (.inl rfl)) pgs_nil))) (fun _ _ _ _ _ => pts_one (pt_val (pv 5))) (fun _ _ _ _ _ => pv 4))
      (pss_one (ps_ret (pe_ifExp (pt_cmpR op_eq (pe_callB call_len_seq (by rfl) ml PySem.boot_len (pa_cons (pv 3) pa_nil)) pe_int (nomark _)) (pe_ix ix_list (pv 3) pe_int (fun _ _ => rfl)) pe_str)))))))))), ?_⟩
    refine ⟨_, rfl, rfl, _, rfl, ite2 (fun e => absurd (of_decide_eq_true e) (by intro z; cases z)) (fun _ => ?_)⟩
    refine ⟨_, rfl, a, D, d, _, _, _, rfl, ha, hdk, XC, .own _, kt 0 (by decide), _, rfl, a, D, d, _, _, _, rfl, ha, hdk, XC, .own _, kt 1 (by decide), _, rfl, a, D, d, _, _, _, rfl, ha, hdk, XC, .own _, kt 2 (by decide), by show 3 ≤ sizeLine; decide, fun p1 hp1 => ?_⟩
    have s1 := same_upd (o := .lst [.bl (bs 0), .bl (bs 1), .bl (bs 2)]) hp1
    have l1 : upd H p1 (.lst [.bl (bs 0), .bl (bs 1), .bl (bs 2)]) p1 = some (.lst [.bl (bs 0), .bl (bs 1), .bl (bs 2)]) := upd_same
    generalize upd H p1 (.lst [.bl (bs 0), .bl (bs 1), .bl (bs 2)]) = H1 at s1 l1
    have a1 := s1 _ _ ha
    refine ⟨_, rfl, _, rfl, a, D, d, _, _, _, rfl, a1, (hdk.same s1), XC, .own _, kt 3 (by decide), _, rfl, a, D, d, _, _, _, rfl, a1, (hdk.same s1), XC, .own _, kt 4 (by decide), _, rfl, a, D, d, _, _, _, rfl, a1, (hdk.same s1), XC, .own _, kt 5 (by decide), by show 3 ≤ sizeLine; decide, fun t1 ht1 => ?_⟩
    have v1 := same_upd (o := .lst [.bl (bs 3), .bl (bs 4), .bl (bs 5)]) ht1
    refine ⟨p1, t1, _, _, rfl, rfl, v1 _ _ l1, upd_same, by show 6 ≤ sizeLine; decide, fun p2 hp2 => ?_⟩
    have s2 := (s1.trans v1).trans (same_upd (o := .lst [.bl (bs 0), .bl (bs 1), .bl (bs 2), .bl (bs 3), .bl (bs 4), .bl (bs 5)]) hp2)
    have l2 : upd (upd H1 t1 (.lst [.bl (bs 3), .bl (bs 4), .bl (bs 5)])) p2 (.lst [.bl (bs 0), .bl (bs 1), .bl (bs 2), .bl (bs 3), .bl (bs 4), .bl (bs 5)]) p2 = some (.lst [.bl (bs 0), .bl (bs 1), .bl (bs 2), .bl (bs 3), .bl (bs 4), .bl (bs 5)]) := upd_same
    show tSeq _ _ _ _ (upd (upd H1 t1 (.lst [.bl (bs 3), .bl (bs 4), .bl (bs 5)])) p2 (.lst [.bl (bs 0), .bl (bs 1), .bl (bs 2), .bl (bs 3), .bl (bs 4), .bl (bs 5)]))
    generalize upd (upd H1 t1 (.lst [.bl (bs 3), .bl (bs 4), .bl (bs 5)])) p2 (.lst [.bl (bs 0), .bl (bs 1), .bl (bs 2), .bl (bs 3), .bl (bs 4), .bl (bs 5)]) = H2 at s2 l2
    have a2 := s2 _ _ ha
    refine ⟨_, rfl, _, rfl, a, D, d, _, _, _, rfl, a2, (hdk.same s2), XC, .own _, kt 6 (by decide), _, rfl, a, D, d, _, _, _, rfl, a2, (hdk.same s2), XC, .own _, kt 7 (by decide), _, rfl, a, D, d, _, _, _, rfl, a2, (hdk.same s2), XC, .own _, kt 8 (by decide), by show 3 ≤ sizeLine; decide, fun t2 ht2 => ?_⟩
    have v2 := same_upd (o := .lst [.bl (bs 6), .bl (bs 7), .bl (bs 8)]) ht2
    refine ⟨p2, t2, _, _, rfl, rfl, v2 _ _ l2, upd_same, by show 9 ≤ sizeLine; decide, fun p3 hp3 => ?_⟩
    have s3 := (s2.trans v2).trans (same_upd (o := .lst [.bl (bs 0), .bl (bs 1), .bl (bs 2), .bl (bs 3), .bl (bs 4), .bl (bs 5), .bl (bs 6), .bl (bs 7), .bl (bs 8)]) hp3)
    have l3 : upd (upd H2 t2 (.lst [.bl (bs 6), .bl (bs 7), .bl (bs 8)])) p3 (.lst [.bl (bs 0), .bl (bs 1), .bl (bs 2), .bl (bs 3), .bl (bs 4), .bl (bs 5), .bl (bs 6), .bl (bs 7), .bl (bs 8)]) p3 = some (.lst [.bl (bs 0), .bl (bs 1), .bl (bs 2), .bl (bs 3), .bl (bs 4), .bl (bs 5), .bl (bs 6), .bl (bs 7), .bl (bs 8)]) := upd_same
    show tSeq _ _ _ _ (upd (upd H2 t2 (.lst [.bl (bs 6), .bl (bs 7), .bl (bs 8)])) p3 (.lst [.bl (bs 0), .bl (bs 1), .bl (bs 2), .bl (bs 3), .bl (bs 4), .bl (bs 5), .bl (bs 6), .bl (bs 7), .bl (bs 8)]))
    generalize upd (upd H2 t2 (.lst [.bl (bs 6), .bl (bs 7), .bl (bs 8)])) p3 (.lst [.bl (bs 0), .bl (bs 1), .bl (bs 2), .bl (bs 3), .bl (bs 4), .bl (bs 5), .bl (bs 6), .bl (bs 7), .bl (bs 8)]) = H3 at s3 l3
    have a3 := s3 _ _ ha
    refine ⟨_, rfl, _, rfl, a, D, d, _, _, _, rfl, a3, (hdk.same s3), XC, .own _, kt 9 (by decide), _, rfl, a, D, d, _, _, _, rfl, a3, (hdk.same s3), XC, .own _, kt 10 (by decide), _, rfl, a, D, d, _, _, _, rfl, a3, (hdk.same s3), XC, .own _, kt 11 (by decide), by show 3 ≤ sizeLine; decide, fun t3 ht3 => ?_⟩
    have v3 := same_upd (o := .lst [.bl (bs 9), .bl (bs 10), .bl (bs 11)]) ht3
    refine ⟨p3, t3, _, _, rfl, rfl, v3 _ _ l3, upd_same, by show 12 ≤ sizeLine; decide, fun p4 hp4 => ?_⟩
    have s4 := (s3.trans v3).trans (same_upd (o := .lst [.bl (bs 0), .bl (bs 1), .bl (bs 2), .bl (bs 3), .bl (bs 4), .bl (bs 5), .bl (bs 6), .bl (bs 7), .bl (bs 8), .bl (bs 9), .bl (bs 10), .bl (bs 11)]) hp4)
    have l4 : upd (upd H3 t3 (.lst [.bl (bs 9), .bl (bs 10), .bl (bs 11)])) p4 (.lst [.bl (bs 0), .bl (bs 1), .bl (bs 2), .bl (bs 3), .bl (bs 4), .bl (bs 5), .bl (bs 6), .bl (bs 7), .bl (bs 8), .bl (bs 9), .bl (bs 10), .bl (bs 11)]) p4 = some (.lst [.bl (bs 0), .bl (bs 1), .bl (bs 2), .bl (bs 3), .bl (bs 4), .bl (bs 5), .bl (bs 6), .bl (bs 7), .bl (bs 8), .bl (bs 9), .bl (bs 10), .bl (bs 11)]) := upd_same
    show tSeq _ _ _ _ (upd (upd H3 t3 (.lst [.bl (bs 9), .bl (bs 10), .bl (bs 11)])) p4 (.lst [.bl (bs 0), .bl (bs 1), .bl (bs 2), .bl (bs 3), .bl (bs 4), .bl (bs 5), .bl (bs 6), .bl (bs 7), .bl (bs 8), .bl (bs 9), .bl (bs 10), .bl (bs 11)]))
    generalize upd (upd H3 t3 (.lst [.bl (bs 9), .bl (bs 10), .bl (bs 11)])) p4 (.lst [.bl (bs 0), .bl (bs 1), .bl (bs 2), .bl (bs 3), .bl (bs 4), .bl (bs 5), .bl (bs 6), .bl (bs 7), .bl (bs 8), .bl (bs 9), .bl (bs 10), .bl (bs 11)]) = H4 at s4 l4
    have a4 := s4 _ _ ha
    refine ⟨_, rfl, _, rfl, a, D, d, _, _, _, rfl, a4, (hdk.same s4), XC, .own _, kt 12 (by decide), _, rfl, a, D, d, _, _, _, rfl, a4, (hdk.same s4), XC, .own _, kt 13 (by decide), by show 2 ≤ sizeLine; decide, fun t4 ht4 => ?_⟩
    have v4 := same_upd (o := .lst [.bl (bs 12), .bl (bs 13)]) ht4
    refine ⟨p4, t4, _, _, rfl, rfl, v4 _ _ l4, upd_same, by show 14 ≤ sizeLine; decide, fun p5 hp5 => ?_⟩
    have s5 := (s4.trans v4).trans (same_upd (o := .lst [.bl (bs 0), .bl (bs 1), .bl (bs 2), .bl (bs 3), .bl (bs 4), .bl (bs 5), .bl (bs 6), .bl (bs 7), .bl (bs 8), .bl (bs 9), .bl (bs 10), .bl (bs 11), .bl (bs 12), .bl (bs 13)]) hp5)
    have l5 : upd (upd H4 t4 (.lst [.bl (bs 12), .bl (bs 13)])) p5 (.lst [.bl (bs 0), .bl (bs 1), .bl (bs 2), .bl (bs 3), .bl (bs 4), .bl (bs 5), .bl (bs 6), .bl (bs 7), .bl (bs 8), .bl (bs 9), .bl (bs 10), .bl (bs 11), .bl (bs 12), .bl (bs 13)]) p5 = some (.lst [.bl (bs 0), .bl (bs 1), .bl (bs 2), .bl (bs 3), .bl (bs 4), .bl (bs 5), .bl (bs 6), .bl (bs 7), .bl (bs 8), .bl (bs 9), .bl (bs 10), .bl (bs 11), .bl (bs 12), .bl (bs 13)]) := upd_same
    show tSeq _ _ _ _ (upd (upd H4 t4 (.lst [.bl (bs 12), .bl (bs 13)])) p5 (.lst [.bl (bs 0), .bl (bs 1), .bl (bs 2), .bl (bs 3), .bl (bs 4), .bl (bs 5), .bl (bs 6), .bl (bs 7), .bl (bs 8), .bl (bs 9), .bl (bs 10), .bl (bs 11), .bl (bs 12), .bl (bs 13)]))
    generalize upd (upd H4 t4 (.lst [.bl (bs 12), .bl (bs 13)])) p5 (.lst [.bl (bs 0), .bl (bs 1), .bl (bs 2), .bl (bs 3), .bl (bs 4), .bl (bs 5), .bl (bs 6), .bl (bs 7), .bl (bs 8), .bl (bs 9), .bl (bs 10), .bl (bs 11), .bl (bs 12), .bl (bs 13)]) = H5 at s5 l5
    refine ⟨by show 11 ≤ sizeLine; decide, fun w1 hw1 => ?_⟩
    have z1 := same_upd (o := .lst ((lawWords.take 11).map V.str)) hw1
    have y1 : upd H5 w1 (.lst ((lawWords.take 11).map V.str)) w1 = some (.lst ((lawWords.take 11).map V.str)) := upd_same
    show tSeq _ _ _ _ (upd H5 w1 (.lst ((lawWords.take 11).map V.str)))
    generalize upd H5 w1 (.lst ((lawWords.take 11).map V.str)) = H6 at z1 y1
    refine ⟨_, rfl, by show 3 ≤ sizeLine; decide, fun w2 hw2 => ?_⟩
    have z2 := same_upd (o := .lst ((lawWords.drop 11).map V.str)) hw2
    refine ⟨w1, w2, _, _, rfl, rfl, z2 _ _ y1, upd_same, by show 14 ≤ sizeLine; decide, fun w3 hw3 => ?_⟩
    have l6 := z1 _ _ l5
    have z3 := same_upd (o := .lst (lawWords.map V.str)) hw3
    have l7 := z3 _ _ (z2 _ _ l6)
    refine ⟨_, rfl, w3, p5, lawWords.map V.str, (list14 bs).map V.bl, rfl, SqL.of upd_same, SqL.of l7, fun D hD => ?_⟩
    have s7 := ((s5.trans z1).trans z2).trans z3
    have nD : ∀ {b : Addr} {o : HO}, upd (upd H6 w2 (.lst ((lawWords.drop 11).map V.str))) w3 (.lst (lawWords.map V.str)) b = some o → b ≠ D := fun {b o} e => ne_of_none e hD
    have w3D := nD upd_same
    have p5D := nD l7
    refine lc_it (walk_zip (K := K) (a := w3) (b := p5) (xs := lawWords.map V.str) (ys := (list14 bs).map V.bl) (n := 14) rfl) (fun i H' => (Same H H' ∧ H' w3 = some (.lst (lawWords.map V.str)) ∧ H' p5 = some (.lst ((list14 bs).map V.bl))) ∧ H' D = some (.lst ((((lawWords.zip (list14 bs)).take i).filter (·.2)).map fun x => V.str x.1))) ⟨⟨?_, ?_, ?_⟩, ?_⟩ ?_ ?_ ?_
    · exact fun b o e => by
        rw [upd_ne (nD (s7 b o e))]
        exact s7 b o e
    · rw [upd_ne w3D]
      exact upd_same
    · rw [upd_ne p5D]
      exact l7
    · exact upd_same
    · exact fun i H' _ h => ⟨SqL.of h.1.2.1, SqL.of h.1.2.2⟩
    · rintro i x H' H'' hi ⟨⟨k1, k2, k3⟩, hd⟩ ⟨T, x1, x2, rfl, nT, rfl, f1, f2⟩
      have sT := same_upd (o := .tup [x1, x2]) nT
      dsimp only at f1 f2
      have h1 : i < lawWords.length := hi
      have h2 : i < (list14 bs).length := hi
      have e1 : x1 = V.str lawWords[i] := by
        rw [List.getElem?_map, List.getElem?_eq_getElem h1] at f1
        exact (Option.some.inj f1).symm
      have e2 : x2 = V.bl (list14 bs)[i] := by
        rw [List.getElem?_map, List.getElem?_eq_getElem h2] at f2
        exact (Option.some.inj f2).symm
      subst e1 e2
      have tk : (lawWords.zip (list14 bs)).take (i + 1) = (lawWords.zip (list14 bs)).take i ++ [(lawWords[i], (list14 bs)[i])] := by
        rw [List.take_add_one, List.getElem?_eq_getElem (by rw [List.length_zip]; omega), List.getElem_zip]
        rfl
      refine ⟨T, _, rfl, SqT.of upd_same, rfl, _, _, rfl, _, _, rfl, rfl, rfl, _, rfl, _, rfl, ?_⟩
      have hdT := sT _ _ hd
      have k1T := k1.trans sT
      have k2T := sT _ _ k2
      have k3T := sT _ _ k3
      generalize upd H' T (.tup [V.str lawWords[i], V.bl (list14 bs)[i]]) = H2 at hdT k1T k2T k3T ⊢
      cases hg : (list14 bs)[i] with
      | false =>
        refine iteF ⟨⟨k1T, k2T, k3T⟩, ?_⟩
        rw [tk, hg, List.filter_append]
        show H2 D = some (.lst (List.map _ (List.filter _ _ ++ [])))
        rw [List.append_nil]
        exact hdT
      | true =>
        have off : ∀ {b : Addr} {o o' : HO}, b ≠ D → H2 b = some o → upd H2 D o' b = some o := fun {b o o'} n e => by
          rw [upd_ne n]
          exact e
        refine iteT ⟨_, rfl, _, hdT, ?_, ⟨fun b o e => off (nD (s7 b o e)) (k1T b o e), off w3D k2T, off p5D k3T⟩, ?_⟩
        · rw [List.length_map]
          refine Nat.lt_of_le_of_lt (List.length_filter_le _ _) ?_
          rw [List.length_take, sizeLine_eq]
          omega
        · rw [upd_same, tk, hg, List.filter_append, List.map_append]
          rfl
    · rintro H' ⟨⟨k1, k2, k3⟩, hd⟩
      have hd' : H' D = some (.lst ((told (list14 bs)).map V.str)) := by
        rw [hd]
        unfold told
        rw [List.map_map, List.take_of_length_le (show 14 ≤ 14 from Nat.le_refl _)]
        rfl
      refine ⟨_, rfl, D, _, rfl, .inl (SqL.of hd'), rfl, _, rfl, ?_⟩
      have qq := q H' k1
      unfold wordOf at qq
      revert qq hd'
      generalize told (list14 bs) = ts
      intro hd' qq
      match ts, hd', qq with
      | [], hd', qq => exact iteF qq
      | [x], hd', qq => exact iteT ⟨_, rfl, D, _, _, _, rfl, rfl, SqL.of hd', atI_nat (j := 0) rfl, qq⟩
      | x :: y :: r, hd', qq =>
        refine ite2 (fun e => ?_) (fun _ => qq)
        have e2 := V.int.inj (of_decide_eq_true e)
        rw [List.length_map, List.length_cons, List.length_cons] at e2
        omega
end
end Pk
namespace Pk
open PySem L2
theorem len_is (z : Str) : z.length = z.cps.toList.length := TL.len_tl z
theorem blank_tl : TL.tl (" " : Str) = [32] := by decide +kernel
theorem empty_tl : TL.tl ("" : Str) = [] := by decide +kernel
/-! ### a text so many times -/
theorem mul_ok {z : Str} {n : Int} (hz : z.length ≤ 100000) (n0 : 0 ≤ n) (n1 : n ≤ 100) : MulOk z n := by
  refine ⟨?_, fun h1 _ h3 => ?_, fun h1 _ => ?_⟩
  · rw [Bool.or_eq_false_iff]
    exact ⟨decide_eq_false (by omega), decide_eq_false (by omega)⟩
  · have : (100000 : Int) ≤ (2 ^ 63 - 1 : Int) / n := Int.le_ediv_of_mul_le (by omega) (by omega)
    omega
  · have h : z.length * n.toNat ≤ 100000 * 100 := Nat.mul_le_mul hz (by omega)
    show decide (z.length * n.toNat > sizeLine) = false
    refine decide_eq_false ?_
    rw [sizeLine_eq]
    omega
theorem fold_app : ∀ (n : Nat) (x : Array Nat) (a : Array Nat), ((List.replicate n x).foldl (· ++ ·) a).toList = a.toList ++ (List.replicate n x.toList).flatten
  | 0, x, a => by simp
  | n + 1, x, a => by
    rw [List.replicate_succ, List.foldl_cons, fold_app n x (a ++ x), Array.toList_append, List.replicate_succ, List.flatten_cons, List.append_assoc]
theorem mul_tl (z : Str) {n : Int} (n0 : 0 ≤ n) : TL.tl (Txt.mul z n) = (List.replicate n.toNat (TL.tl z)).flatten := by
  unfold Txt.mul
  by_cases h1 : n < 1
  · have e : n = 0 := by omega
    subst e
    rw [if_pos h1]
    rfl
  · rw [if_neg h1]
    by_cases h2 : n = 1
    · subst h2
      show z.cps.toList = _
      simp
    · by_cases h3 : z.length = 0
      · rw [if_pos (by simp [h3])]
        have e : TL.tl z = [] := List.length_eq_zero_iff.mp (by rw [← TL.len_tl]; exact h3)
        rw [e]
        simp
      · rw [if_neg (by simp [h2, h3])]
        show ((List.replicate n.toNat z.cps).foldl (· ++ ·) #[]).toList = _
        rw [fold_app]
        rfl
theorem mul_len (z : Str) {n : Int} (n0 : 0 ≤ n) : (Txt.mul z n).length = n.toNat * z.length := by
  rw [TL.len_tl, mul_tl z n0, TL.len_tl]
  simp
/-- all signs are code points -/
def SOk (z : Str) : Prop := ∀ c ∈ z.cps.toList, c < 0x110000
theorem sok_iff (z : Str) : PyData.strOk z = true ↔ SOk z := by
  unfold PyData.strOk SOk
  rw [← Array.all_toList, List.all_eq_true]
  exact ⟨fun h c hc => of_decide_eq_true (h c hc), fun h c hc => decide_eq_true (h c hc)⟩
theorem sok_app {x y : Str} (hx : SOk x) (hy : SOk y) : SOk (x ++ y) := fun c hc => by
  rw [show (x ++ y).cps.toList = x.cps.toList ++ y.cps.toList from TL.tl_append x y] at hc
  rcases List.mem_append.mp hc with h | h
  · exact hx c h
  · exact hy c h
theorem sok_mul {x : Str} (hx : SOk x) {n : Int} (n0 : 0 ≤ n) : SOk (Txt.mul x n) := fun c hc => by
  rw [show (Txt.mul x n).cps.toList = _ from mul_tl x n0] at hc
  obtain ⟨l, hl, h⟩ := List.mem_flatten.mp hc
  rw [(List.mem_replicate.mp hl).2] at h
  exact hx c h
theorem joinL_mem {c : Nat} : ∀ l : List (List Nat), c ∈ TL.joinL [] l → ∃ p ∈ l, c ∈ p
  | [], h => by cases h
  | [p], h => ⟨p, List.mem_cons_self, h⟩
  | p :: q :: r, h => by
    have h' : c ∈ p ++ ([] ++ TL.joinL [] (q :: r)) := h
    rcases List.mem_append.mp h' with h | h
    · exact ⟨p, List.mem_cons_self, h⟩
    · obtain ⟨x, hx, hc⟩ := joinL_mem (q :: r) h
      exact ⟨x, List.mem_cons_of_mem _ hx, hc⟩
theorem sok_join {ys : List Str} (h : ∀ y ∈ ys, SOk y) : SOk (Txt.join "" ys) := fun c hc => by
  rw [show (Txt.join "" ys).cps.toList = TL.joinL (TL.tl "") (ys.map TL.tl) from by rw [TL.join_eq]; exact TL.tl_join "" ys, empty_tl] at hc
  obtain ⟨p, hp, hm⟩ := joinL_mem _ hc
  obtain ⟨y, hy, rfl⟩ := List.mem_map.mp hp
  exact h y hy c hm
theorem sok_blank : SOk " " := fun c hc => by
  rw [show (" " : Str).cps.toList = [32] from blank_tl, List.mem_singleton] at hc
  rw [hc]
  decide
theorem at_some {α : Type} {l : List α} {i : Int} (h0 : 0 ≤ i) (h1 : i < l.length) : ∃ c, atI l i = some c ∧ c ∈ l := by
  obtain ⟨j, rfl⟩ := Int.eq_ofNat_of_zero_le h0
  have hj : j < l.length := by omega
  exact ⟨l[j], atI_nat (List.getElem?_eq_getElem hj), List.getElem_mem hj⟩
theorem joinL_len : ∀ l : List (List Nat), (TL.joinL [] l).length = (l.map List.length).sum
  | [] => rfl
  | [p] => by simp [TL.joinL]
  | p :: q :: r => by
    have ih := joinL_len (q :: r)
    show (p ++ ([] ++ TL.joinL [] (q :: r))).length = _
    rw [List.nil_append, List.length_append, ih]
    simp
theorem join0_len (ys : List Str) : (Txt.join "" ys).length = (ys.map (·.length)).sum := by
  rw [TL.len_tl, TL.join_eq, TL.tl_join, empty_tl, joinL_len, List.map_map]
  exact congrArg List.sum (List.map_congr_left fun p _ => (TL.len_tl p).symm)
theorem app_len (x y : Str) : (x ++ y).length = x.length + y.length := by
  rw [TL.len_tl, TL.tl_append, List.length_append, ← TL.len_tl, ← TL.len_tl]
def S (l : List Nat) : Str := ⟨l.toArray⟩
theorem S_tl (l : List Nat) : TL.tl (S l) = l := rfl
theorem S_len (l : List Nat) : (S l).length = l.length := TL.len_tl _
end Pk
namespace Pk
open PySem L2
/-! ### things that are handed in -/
/-- signs that the texts have: from the blank to ~ but the percent sign, and line ends -/
def Sgn (z : Str) : Prop := ∀ c ∈ z.cps.toList, (32 ≤ c ∧ c ≤ 126 ∧ c ≠ 37) ∨ c = 10
theorem Sgn.ok {z : Str} (h : Sgn z) : SOk z := fun c hc => by
  rcases h c hc with q | q
  · omega
  · rw [q]
    decide
inductive Itm (H : Hp) : V → Prop
  | non : Itm H .non
  | bl (b : Bool) : Itm H (.bl b)
  | int (i : Int) (h : i.natAbs.log2 < 300) : Itm H (.int i)
  | str (z : Str) (hl : z.length ≤ 100) (ho : Sgn z) : Itm H (.str z)
  | lst {a : Addr} {v : V} (h : H a = some (.lst [v])) (hv : v = .int 1 ∨ ∃ z, v = .str z ∧ z.length ≤ 100 ∧ Sgn z) : Itm H (.ref a)
  | tup {a : Addr} (h : H a = some (.tup [.int 1])) : Itm H (.ref a)
  | dct {a : Addr} (h : H a = some (.dK [])) : Itm H (.ref a)
theorem Itm.same {H H' : Hp} {x : V} (h : Itm H x) (s : Same H H') : Itm H' x := by
  cases h with
  | non => exact .non
  | bl b => exact .bl b
  | int i h => exact .int i h
  | str z hl ho => exact .str z hl ho
  | lst h hv => exact .lst (s _ _ h) hv
  | tup h => exact .tup (s _ _ h)
  | dct h => exact .dct (s _ _ h)
def vInt : V → Bool
  | .int _ => true
  | _ => false
def vBool : V → Bool
  | .bl _ => true
  | _ => false
def vStr : V → Bool
  | .str _ => true
  | _ => false
theorem Itm.ty {K : PySem.W.Frag} {H : Hp} {x : V} (h : Itm H x) : ∃ t : String, TyX K H x (.type t) ∧ kitB t "int" = some (vInt x || vBool x) ∧ kitB t "bool" = some (vBool x) ∧ kitB t "str" = some (vStr x) := by
  cases h with
  | non => exact ⟨_, .base .non, by decide +kernel, by decide +kernel, by decide +kernel⟩
  | bl b => exact ⟨_, .base (.bl b), (by decide +kernel : kitB "bool" "int" = some true), (by decide +kernel : kitB "bool" "bool" = some true), (by decide +kernel : kitB "bool" "str" = some false)⟩
  | int i h => exact ⟨_, .base (.int i), (by decide +kernel : kitB "int" "int" = some true), (by decide +kernel : kitB "int" "bool" = some false), (by decide +kernel : kitB "int" "str" = some false)⟩
  | str z hl ho => exact ⟨_, .base (.str z), (by decide +kernel : kitB "str" "int" = some false), (by decide +kernel : kitB "str" "bool" = some false), (by decide +kernel : kitB "str" "str" = some true)⟩
  | lst h hv => exact ⟨_, .base (.lst h), (by decide +kernel : kitB "list" "int" = some false), (by decide +kernel : kitB "list" "bool" = some false), (by decide +kernel : kitB "list" "str" = some false)⟩
  | tup h => exact ⟨_, .base (.tup h), (by decide +kernel : kitB "tuple" "int" = some false), (by decide +kernel : kitB "tuple" "bool" = some false), (by decide +kernel : kitB "tuple" "str" = some false)⟩
  | dct h => exact ⟨_, .base (.dK h), (by decide +kernel : kitB "dict" "int" = some false), (by decide +kernel : kitB "dict" "bool" = some false), (by decide +kernel : kitB "dict" "str" = some false)⟩
/-- whether it is a whole number from lo to hi -/
def whole (x : V) (lo hi : Int) : Bool := match x with
  | .int i => decide (lo ≤ i) && decide (i ≤ hi)
  | _ => false
def letters : Str := "abcdefghijklmnopqrstuvwxyz"
def nameT (z : Str) : Bool := decide (1 ≤ z.length) && decide (z.length ≤ 8) && z.cps.toList.all fun c => decide (c ∈ letters.cps.toList)
def nameV : V → Bool
  | .str z => nameT z
  | _ => false
def signOk (c : Nat) : Bool := decide (32 ≤ c) && decide (c ≤ 126) && !decide (c = 37)
def textT (z : Str) : Bool := decide (1 ≤ z.length) && decide (z.length ≤ 30) && !decide (z.cps.toList[0]? = some 32) && !decide (z.cps.toList.getLast? = some 32) && z.cps.toList.all signOk
def textV : V → Bool
  | .str z => textT z
  | _ => false
end Pk
namespace Pk
open PySem L2
/-! ### signs of names and texts, by str's own looks -/
theorem low_alpha : ∀ c < 128, (Unicode.isAlpha c && !(Unicode.isUpper c || Unicode.isTitle c)) = decide (c ∈ letters.cps.toList) := by decide +kernel
theorem low_lower : ∀ c < 128, decide (c ∈ letters.cps.toList) = Unicode.isLower c := by decide +kernel
theorem low_print : ∀ c < 128, (Unicode.isPrintable c && !decide (c = 37)) = signOk c := by decide +kernel
theorem letters_low : ∀ c ∈ letters.cps.toList, c < 128 := by decide +kernel
theorem name_signs (z : Str) (h : 1 ≤ z.length) : (Txt.isascii z && (Txt.isalpha z && Txt.islower z)) = z.cps.toList.all fun c => decide (c ∈ letters.cps.toList) := by
  unfold Txt.isascii Txt.isalpha Txt.islower
  rw [← Array.all_toList, ← Array.all_toList, ← Array.any_toList, ← Array.any_toList]
  have hl : z.cps.toList.length = z.length := rfl
  rw [show decide (z.length > 0) = true from decide_eq_true h, Bool.true_and]
  generalize z.cps.toList = l at hl ⊢
  rw [← hl] at h
  rw [Bool.eq_iff_iff]
  simp only [Bool.and_eq_true, List.all_eq_true, List.any_eq_true, Bool.not_eq_true', decide_eq_true_eq]
  constructor
  · rintro ⟨h1, h2, _, h4⟩ c hc
    have e := low_alpha c (h1 c hc)
    rw [h2 c hc, Bool.true_and] at e
    have n : (Unicode.isUpper c || Unicode.isTitle c) = false := by
      cases hh : (Unicode.isUpper c || Unicode.isTitle c) with
      | false => rfl
      | true => exact absurd (List.any_eq_true.mpr ⟨c, hc, hh⟩) (by rw [h4]; exact Bool.false_ne_true)
    rw [n] at e
    exact of_decide_eq_true e.symm
  · intro hh
    have lo : ∀ c ∈ l, c < 128 := fun c hc => letters_low c (hh c hc)
    have e : ∀ c ∈ l, (Unicode.isAlpha c && !(Unicode.isUpper c || Unicode.isTitle c)) = true := fun c hc => (low_alpha c (lo c hc)).trans (decide_eq_true (hh c hc))
    refine ⟨lo, fun c hc => (Bool.and_eq_true_iff.mp (e c hc)).1, ?_, ?_⟩
    · cases l with
      | nil => exact absurd h (by decide)
      | cons c r => exact ⟨c, List.mem_cons_self, (low_lower c (lo c List.mem_cons_self)).symm.trans (decide_eq_true (hh c List.mem_cons_self))⟩
    · rw [Bool.eq_false_iff]
      intro a
      obtain ⟨c, hc, a⟩ := List.any_eq_true.mp a
      have := (Bool.and_eq_true_iff.mp (e c hc)).2
      rw [a] at this
      exact absurd this (by decide)
theorem text_signs (z : Str) : (Txt.isascii z && (Txt.isprintable z && z.cps.toList.all fun c => !decide (c = 37))) = z.cps.toList.all signOk := by
  unfold Txt.isascii Txt.isprintable
  rw [← Array.all_toList, ← Array.all_toList]
  generalize z.cps.toList = l
  rw [Bool.eq_iff_iff]
  simp only [Bool.and_eq_true, List.all_eq_true, decide_eq_true_eq]
  constructor
  · rintro ⟨h1, h2, h3⟩ c hc
    rw [← low_print c (h1 c hc), h2 c hc, h3 c hc]
    rfl
  · intro hh
    have lo : ∀ c ∈ l, c < 128 := fun c hc => by
      have := hh c hc
      unfold signOk at this
      rw [Bool.and_eq_true, Bool.and_eq_true] at this
      have := of_decide_eq_true this.1.2
      omega
    have e : ∀ c ∈ l, (Unicode.isPrintable c && !decide (c = 37)) = true := fun c hc => (low_print c (lo c hc)).trans (hh c hc)
    exact ⟨lo, fun c hc => (Bool.and_eq_true_iff.mp (e c hc)).1, fun c hc => (Bool.and_eq_true_iff.mp (e c hc)).2⟩
end Pk
namespace Pk
open PySem L2
/-! ### words.py -/
def spIsNumber : Sp := fun vs H Q _ => ∃ x, vs = [x] ∧ Itm H x ∧ Q (.bl (vInt x)) H
def spIsWhole : Sp := fun vs H Q _ => ∃ (x : V) (lo hi : Int), vs = [x, .int lo, .int hi] ∧ Itm H x ∧ Q (.bl (whole x lo hi)) H
def spIsName : Sp := fun vs H Q _ => ∃ x, vs = [x] ∧ Itm H x ∧ ∀ H', Same H H' → Q (.bl (nameV x)) H'
def spIsText : Sp := fun vs H Q _ => ∃ x, vs = [x] ∧ Itm H x ∧ ∀ H', Same H H' → Q (.bl (textV x)) H'
def spNeedName (C : Addr) : Sp := fun vs H Q E => ∃ x, vs = [x] ∧ Itm H x ∧ ∀ H', Same H H' → (nameV x = true → Q .non H') ∧ (nameV x = false → E (.ref C) none H')
def spNeedDay (C : Addr) : Sp := fun vs H Q E => ∃ x, vs = [x] ∧ Itm H x ∧ (whole x 0 9999 = true → Q .non H) ∧ (whole x 0 9999 = false → ∀ d : Addr, H d = none → E (.ref C) (some d) (upd H d (.xd [(("at" : Str), x)])))
section
variable {P : Program} {w : World} {K : PySem.W.Frag} {mg : Str → Option Value} {base : Heap}
theorem isb {X : Cx} {i : Nat} {v : Str} {y : Str} {T : String} {p p1 p2 pos : Pos} (mi : X.mg "isinstance" = none) (my : X.mg y = none) (by_ : bootBuiltins y = some (.type T)) (hi : Gl X "isinstance" := by rfl) (hg : Gl X y := by rfl) (hN : X.N[i]? = some v := by rfl) (hv : Vis X.env.scope v := by first | exact Or.inl rfl | exact Or.inr (Or.inl rfl)) (hd : (y == ("__debug__" : Str)) = false := by decide) (hd2 : (v == ("__debug__" : Str)) = false := by decide) (hd3 : (v == ("__classdict__" : Str)) = false := by decide) (hn : y ≠ "__name__" := by decide) :
    PE X (.Call (.Name "isinstance" p) [.Name v p1, .Name y p2] [] pos) (tCB (rIsi X.K) (tCons (tVar i) (tCons (tC (.ty T)) tNil))) :=
  pe_callB call_isi hi mi (by decide +kernel) (pa_cons (pe_var hN hv hd2 hd3) (pa_cons (pe_bltn (v := .ty T) hg my by_ rfl hn hd) pa_nil))
theorem scIsNumber : FnScope ["thing"] ["thing"] (defScope sIsNumber) := ⟨rfl, rfl, rfl, by decide +kernel, rfl, by decide +kernel, by decide +kernel⟩
theorem ok_isNumber {f : Addr} {fd : FuncData} (F : Fun K "is_number" "is_number" sIsNumber f fd) (mi : mg "isinstance" = none) (mn : mg "int" = none) (mb : mg "bool" = none) : FnOk P w K mg base CX0 1 f fd ["thing"] spIsNumber := by
  refine F.ok scIsNumber (fun vs H Q E h => ?_) (fun cdv A outer s H vs Q E hr h => ?_)
  · obtain ⟨x, rfl, _⟩ := h
    rfl
  · obtain ⟨x, rfl, hx, q⟩ := h
    obtain ⟨t, ty, k1, k2, _⟩ := hx.ty (K := K)
    refine ⟨_, pss_one (ps_ret (pe_and (isb (i := 0) mi mn PyProof.Rows.boot_int) (pe_one (pe_not (isb (i := 0) (T := "bool") mi mb (by decide +kernel)))))), ?_⟩
    refine ⟨_, rfl, _, _, _, _, _, rfl, .ty "int", ty, kit_ty k1, _, rfl, ?_⟩
    cases hv : vInt x with
    | true =>
      rw [hv] at q
      refine iteT ⟨_, rfl, _, _, _, _, _, rfl, .ty "bool", ty, kit_ty k2, _, rfl, ?_⟩
      have : vBool x = false := by
        cases x <;> first | rfl | cases hv
      rw [this]
      exact q
    | false =>
      rw [hv] at q
      cases hb : vBool x with
      | true =>
        rw [hb] at k2
        exact iteT ⟨_, rfl, _, _, _, _, _, rfl, .ty "bool", ty, kit_ty k2, _, rfl, q⟩
      | false => exact iteF q
theorem scIsWhole : FnScope ["thing", "least", "most"] ["thing", "least", "most"] (defScope sIsWhole) := ⟨rfl, rfl, rfl, by decide +kernel, rfl, by decide +kernel, by decide +kernel⟩
abbrev FunDf (K : PySem.W.Frag) (x : Str) (st : Stmt) (dvs : List V) (f : Addr) (fd : FuncData) : Prop := FunD K x x (defArgs st) (defBody st) (defScope st) dvs [] f fd
theorem ok_isWhole {f fN : Addr} {fd fdN : FuncData} (F : FunDf K "is_whole" sIsWhole [.int 0, .int 9999] f fd) (FN : Fun K "is_number" "is_number" sIsNumber fN fdN) (bN : Binds K fdN ["thing"] []) (gN : mg "is_number" = some (.ref fN))
    (mi : mg "isinstance" = none) (mn : mg "int" = none) (mb : mg "bool" = none) : FnOk P w K mg base CX0 2 f fd ["thing", "least", "most"] spIsWhole := by
  have GN : FnOk P w K mg base CX0 1 fN fdN ["thing"] spIsNumber := ok_isNumber FN mi mn mb
  refine F.ok scIsWhole (fun vs H Q E h => ?_) (fun cdv A outer s H vs Q E hr h => ?_)
  · obtain ⟨x, lo, hi, rfl, _⟩ := h
    rfl
  · obtain ⟨x, lo, hi, rfl, hx, q⟩ := h
    refine ⟨_, pss_one (ps_ret (pe_and (pe_call GN hr (by rfl) gN FN.kp bN .nil pass0 (pa_cons (pv 0) pa_nil)) (pe_one (pe_chain op_le op_le (pv 1) (pv 0) (pv 2))))), ?_⟩
    refine ⟨_, rfl, x, rfl, hx, _, rfl, ?_⟩
    cases hx with
    | int i h =>
      have q' : Q (.bl (decide (lo ≤ i) && decide (i ≤ hi))) H := q
      refine iteT ⟨_, rfl, _, rfl, _, _, rfl, rfl, _, rfl, ?_⟩
      cases hd : decide (lo ≤ i) with
      | true =>
        rw [hd, Bool.true_and] at q'
        exact iteT ⟨_, rfl, _, _, rfl, rfl, q'⟩
      | false =>
        rw [hd, Bool.false_and] at q'
        exact iteF q'
    | non => exact iteF q
    | bl b => exact iteF q
    | str z hl ho => exact iteF q
    | lst h hv => exact iteF q
    | tup h => exact iteF q
    | dct h => exact iteF q
theorem scIsName : FnScope ["thing"] ["thing"] (defScope sIsName) := ⟨rfl, rfl, rfl, by decide +kernel, rfl, by decide +kernel, by decide +kernel⟩
theorem ok_isName {f : Addr} {fd : FuncData} (F : Fun K "is_name" "is_name" sIsName f fd) (mi : mg "isinstance" = none) (ms : mg "str" = none) (ml : mg "len" = none) (gM : ∃ t, mg "MOST_LETTERS" = some (.int 8 t)) :
    FnOk P w K mg base CX0 1 f fd ["thing"] spIsName := by
  obtain ⟨tM, gM⟩ := gM
  refine F.ok scIsName (fun vs H Q E h => ?_) (fun cdv A outer s H vs Q E hr h => ?_)
  · obtain ⟨x, rfl, _⟩ := h
    rfl
  · obtain ⟨x, rfl, hx, q⟩ := h
    obtain ⟨t, ty, _, _, k3⟩ := hx.ty (K := K)
    refine ⟨_, pss_cons (ps_if (PW.pt (pw_or (pt_not (pt_val (isb (i := 0) mi ms PyProof.Rows.boot_str))) (pw_or1 (pt_not (pt_chain op_le op_le pe_int (pe_callB call_len_str (by rfl) ml PySem.boot_len (pa_cons (pv 0) pa_nil)) (pe_glob (v := .int 8) (by rfl) gM ⟨_, rfl⟩)))))) (pss_one (ps_ret pe_bl)) pss_nil)
      (pss_one (ps_ret (pe_and (pe_m0 PySem.F.slot_str_isascii PySem.F.type_str_isascii mt_isascii (pv 0)) (pe_and (pe_m0 PySem.F.slot_str_isalpha PySem.F.type_str_isalpha mt_isalpha (pv 0)) (pe_one (pe_m0 PySem.F.slot_str_islower PySem.F.type_str_islower mt_islower (pv 0))))))), ?_⟩
    refine ⟨_, rfl, _, _, _, _, _, rfl, .ty "str", ty, kit_ty k3, _, rfl, ?_⟩
    have q := q H (Same.refl H)
    cases hx with
    | non => exact iteT q
    | bl b => exact iteT q
    | int i h => exact iteT q
    | lst h hv => exact iteT q
    | tup h => exact iteT q
    | dct h => exact iteT q
    | str z hl ho =>
      refine iteF ⟨_, rfl, z, rfl, by rw [sizeLine_eq]; omega, _, _, rfl, rfl, _, rfl, ?_⟩
      have q' : Q (.bl (decide (1 ≤ z.length) && decide (z.length ≤ 8) && z.cps.toList.all fun c => decide (c ∈ letters.cps.toList))) H := q
      cases h1 : decide (1 ≤ z.length) with
      | false =>
        rw [h1, Bool.false_and, Bool.false_and] at q'
        have e1 : decide ((1 : Int) ≤ z.length) = false := by
          have := of_decide_eq_false h1
          exact decide_eq_false (by omega)
        rw [e1]
        exact iteF ⟨_, rfl, iteT q'⟩
      | true =>
        have e1 : decide ((1 : Int) ≤ z.length) = true := by
          have := of_decide_eq_true h1
          exact decide_eq_true (by omega)
        rw [e1]
        refine iteT ⟨_, _, rfl, rfl, _, rfl, ?_⟩
        cases h2 : decide (z.length ≤ 8) with
        | false =>
          rw [h1, h2, Bool.and_false, Bool.false_and] at q'
          have e2 : decide ((z.length : Int) ≤ 8) = false := by
            have := of_decide_eq_false h2
            exact decide_eq_false (by omega)
          rw [e2]
          exact iteT q'
        | true =>
          rw [h1, h2, Bool.and_true, Bool.true_and, ← name_signs z (of_decide_eq_true h1)] at q'
          have e2 : decide ((z.length : Int) ≤ 8) = true := by
            have := of_decide_eq_true h2
            exact decide_eq_true (by omega)
          rw [e2]
          refine iteF ⟨_, rfl, ⟨z, rfl⟩, z, rfl, rfl, trivial, _, rfl, ?_⟩
          cases h3 : Txt.isascii z with
          | false =>
            rw [h3, Bool.false_and] at q'
            exact iteF q'
          | true =>
            rw [h3, Bool.true_and] at q'
            refine iteT ⟨_, rfl, ⟨z, rfl⟩, z, rfl, rfl, trivial, _, rfl, ?_⟩
            cases h4 : Txt.isalpha z with
            | false =>
              rw [h4, Bool.false_and] at q'
              exact iteF q'
            | true =>
              rw [h4, Bool.true_and] at q'
              exact iteT ⟨_, rfl, ⟨z, rfl⟩, z, rfl, rfl, trivial, q'⟩
end
end Pk
namespace Pk
open PySem L2
section
variable {P : Program} {w : World} {K : PySem.W.Frag} {mg : Str → Option Value} {base : Heap}
theorem at_last {l : List Nat} (h : l ≠ []) : atI l (-1) = some (l.getLast h) :=
  (congrArg (fun x => atI x (-1)) (List.dropLast_concat_getLast h).symm).trans (atI_last _ _)
theorem scIsText : FnScope ["thing", "sign"] ["thing"] (defScope sIsText) := ⟨rfl, rfl, rfl, by decide +kernel, rfl, by decide +kernel, by decide +kernel⟩
theorem ok_isText {f : Addr} {fd : FuncData} (F : Fun K "is_text" "is_text" sIsText f fd) (mi : mg "isinstance" = none) (ms : mg "str" = none) (ml : mg "len" = none) (ma : mg "all" = none) (mo : mg "ord" = none)
    (gP : ∃ t, mg "PERCENT" = some (.int 37 t)) (gM : ∃ t, mg "MOST_SIGNS" = some (.int 30 t)) : FnOk P w K mg base CX0 2 f fd ["thing"] spIsText := by
  obtain ⟨tP, gP⟩ := gP
  obtain ⟨tM, gM⟩ := gM
  refine F.ok scIsText (fun vs H Q E h => ?_) (fun cdv A outer s H vs Q E hr h => ?_)
  · obtain ⟨x, rfl, _⟩ := h
    rfl
  · obtain ⟨x, rfl, hx, q⟩ := h
    obtain ⟨t, ty, _, _, k3⟩ := hx.ty (K := K)
    refine ⟨_, pss_cons (ps_if (PW.pt (pw_or (pt_not (pt_val (isb (i := 0) mi ms PyProof.Rows.boot_str))) (pw_or1 (pt_not (pt_chain op_le op_le pe_int (pe_callB call_len_str (by rfl) ml PySem.boot_len (pa_cons (pv 0) pa_nil)) (pe_glob (v := .int 30) (by rfl) gM ⟨_, rfl⟩)))))) (pss_one (ps_ret pe_bl)) pss_nil)
      (pss_cons (ps_if (PW.pt (pw_or (pt_cmpR op_eq (pe_ix ix_str (pv 0) pe_int (fun _ _ => rfl)) pe_str (nomark _)) (pw_or1 (pt_cmpR op_eq (pe_ix ix_str (pv 0) (pe_un un_neg pe_int) (fun _ _ => rfl)) pe_str (nomark _))))) (pss_one (ps_ret pe_bl)) pss_nil)
      (pss_one (ps_ret (pe_and (pe_m0 PySem.F.slot_str_isascii PySem.F.type_str_isascii mt_isascii (pv 0)) (pe_and (pe_m0 PySem.F.slot_str_isprintable PySem.F.type_str_isprintable mt_isprintable (pv 0)) (pe_one (pe_callB (cr_all rfl) (by rfl) ma (by decide +kernel) (pa_cons (pe_lc (own := [("sign", 1)]) (g := gName 1) rfl scIsText.nd (pi_str (pv 0)) (blkOk_by (N := ["thing", "sign"]) (sc := defScope sIsText) (by decide +kernel))
        (fun _ _ _ _ _ => pg_name (i := 1) scIsText.nd rfl (Or.inl rfl)) (fun _ _ _ _ _ => pts_nil) (fun _ _ _ _ _ => pe_cmpR op_ne (pe_callB call_ord (by rfl) mo (by decide +kernel) (pa_cons (pv 1) pa_nil)) (pe_glob (v := .int 37) (by rfl) gP ⟨_, rfl⟩) (nomark _))) pa_nil)))))))), ?_⟩
    refine ⟨_, rfl, _, _, _, _, _, rfl, .ty "str", ty, kit_ty k3, _, rfl, ?_⟩
    cases hx with
    | non => exact iteT (q H (Same.refl H))
    | bl b => exact iteT (q H (Same.refl H))
    | int i h => exact iteT (q H (Same.refl H))
    | lst h hv => exact iteT (q H (Same.refl H))
    | tup h => exact iteT (q H (Same.refl H))
    | dct h => exact iteT (q H (Same.refl H))
    | str z hl ho =>
      refine iteF ⟨_, rfl, z, rfl, by rw [sizeLine_eq]; omega, _, _, rfl, rfl, _, rfl, ?_⟩
      have q' : ∀ H', Same H H' → Q (.bl (decide (1 ≤ z.length) && decide (z.length ≤ 30) && !decide (z.cps.toList[0]? = some 32) && !decide (z.cps.toList.getLast? = some 32) && z.cps.toList.all signOk)) H' := q
      cases h1 : decide (1 ≤ z.length) with
      | false =>
        rw [h1, Bool.false_and, Bool.false_and, Bool.false_and, Bool.false_and] at q'
        have e1 : decide ((1 : Int) ≤ z.length) = false := by
          have := of_decide_eq_false h1
          exact decide_eq_false (by omega)
        rw [e1]
        exact iteF ⟨_, rfl, iteT (q' H (Same.refl H))⟩
      | true =>
        have p1 : 1 ≤ z.length := of_decide_eq_true h1
        have e1 : decide ((1 : Int) ≤ z.length) = true := decide_eq_true (by omega)
        rw [e1]
        refine iteT ⟨_, _, rfl, rfl, _, rfl, ?_⟩
        cases h2 : decide (z.length ≤ 30) with
        | false =>
          rw [h1, h2, Bool.and_false, Bool.false_and, Bool.false_and, Bool.false_and] at q'
          have e2 : decide ((z.length : Int) ≤ 30) = false := by
            have := of_decide_eq_false h2
            exact decide_eq_false (by omega)
          rw [e2]
          exact iteT (q' H (Same.refl H))
        | true =>
          rw [h1, h2, Bool.and_true, Bool.true_and] at q'
          have e2 : decide ((z.length : Int) ≤ 30) = true := by
            have := of_decide_eq_true h2
            exact decide_eq_true (by omega)
          rw [e2]
          refine iteF ?_
          -- the first and the last sign
          have ln : z.cps.toList.length = z.length := (len_is z).symm
          have g0 : z.cps.toList[0]? = some (z.cps.toList[0]'(by omega)) := List.getElem?_eq_getElem (by omega)
          have hne : z.cps.toList ≠ [] := fun e => by rw [e] at ln; simp at ln; omega
          have gl : z.cps.toList.getLast? = some (z.cps.toList.getLast hne) := List.getLast?_eq_getLast hne
          generalize hc0 : z.cps.toList[0]'(by omega) = c0 at g0
          generalize hcl : z.cps.toList.getLast hne = cl at gl
          have al : atI z.cps.toList (-1) = some cl := by
            rw [← hcl]
            exact at_last hne
          have one_eq : ∀ c : Nat, decide (V.str ⟨#[c]⟩ = V.str " ") = decide (c = 32) := fun c => decide_eq_decide.mpr ⟨fun z => by
            have e := congrArg TL.tl (V.str.inj z)
            rw [blank_tl] at e
            exact (List.cons.inj e).1, fun z => by rw [z]; exact congrArg V.str (by decide +kernel)⟩
          refine ⟨_, rfl, z, 0, c0, rfl, rfl, by rw [sizeLine_eq]; omega, atI_nat (j := 0) g0, rfl, _, rfl, ?_⟩
          rw [one_eq]
          cases h3 : decide (c0 = 32) with
          | true =>
            have e3 : decide (z.cps.toList[0]? = some 32) = true := decide_eq_true (by rw [g0, of_decide_eq_true h3])
            rw [e3, Bool.not_true, Bool.false_and, Bool.false_and] at q'
            exact iteT (q' H (Same.refl H))
          | false =>
            have e3 : decide (z.cps.toList[0]? = some 32) = false := decide_eq_false (by rw [g0]; exact fun e => of_decide_eq_false h3 (Option.some.inj e))
            rw [e3, Bool.not_false, Bool.true_and] at q'
            refine iteF ⟨_, rfl, _, rfl, z, _, cl, rfl, rfl, by rw [sizeLine_eq]; omega, al, rfl, _, rfl, ?_⟩
            rw [one_eq]
            cases h4 : decide (cl = 32) with
            | true =>
              have e4 : decide (z.cps.toList.getLast? = some 32) = true := decide_eq_true (by rw [gl, of_decide_eq_true h4])
              rw [e4, Bool.not_true, Bool.false_and] at q'
              exact iteT (q' H (Same.refl H))
            | false =>
              have e4 : decide (z.cps.toList.getLast? = some 32) = false := decide_eq_false (by rw [gl]; exact fun e => of_decide_eq_false h4 (Option.some.inj e))
              rw [e4, Bool.not_false, Bool.true_and] at q'
              rw [← text_signs z] at q'
              refine iteF ⟨_, rfl, ⟨z, rfl⟩, z, rfl, rfl, trivial, _, rfl, ?_⟩
              cases h5 : Txt.isascii z with
              | false =>
                rw [h5, Bool.false_and] at q'
                exact iteF (q' H (Same.refl H))
              | true =>
                rw [h5, Bool.true_and] at q'
                refine iteT ⟨_, rfl, ⟨z, rfl⟩, z, rfl, rfl, trivial, _, rfl, ?_⟩
                cases h6 : Txt.isprintable z with
                | false =>
                  rw [h6, Bool.false_and] at q'
                  exact iteF (q' H (Same.refl H))
                | true =>
                  rw [h6, Bool.true_and] at q'
                  refine iteT ⟨_, rfl, z, rfl, fun D hD => ?_⟩
                  refine lc_it walk_str (fun i H' => (∀ b o, b ≠ D → H b = some o → H' b = some o) ∧ H' D = some (.lst (((z.cps.toList.take i).map fun c => !decide (c = 37)).map V.bl))) ⟨fun b o n e => ?_, upd_same⟩ (fun _ _ _ _ => trivial) ?_ ?_
                  · rw [upd_ne n]
                    exact e
                  · rintro i x H1 H2 hi ⟨k, hd⟩ ⟨rfl, c, hc, rfl⟩
                    have hc' : z.cps.toList[i]? = some c := by rw [Array.getElem?_toList]; exact hc
                    have e3 : decide (V.int ((⟨#[c]⟩ : Str).cps.getD 0 0 : Nat) = V.int 37) = decide (c = 37) := decide_eq_decide.mpr ⟨fun z => by
                      have := V.int.inj z
                      have e : ((⟨#[c]⟩ : Str).cps.getD 0 0) = c := rfl
                      rw [e] at this
                      omega, fun z => by rw [z]; rfl⟩
                    refine ⟨rfl, _, rfl, _, rfl, rfl, rfl, _, hd, ?_, fun b o n e => ?_, ?_⟩
                    · rw [List.length_map, List.length_map, List.length_take, sizeLine_eq, ← len_is]
                      omega
                    · rw [upd_ne n]
                      exact k b o n e
                    · rw [upd_same, List.take_add_one, hc', List.map_append, List.map_append]
                      show some (HO.lst (_ ++ [V.bl (!decide (V.int ((⟨#[c]⟩ : Str).cps.getD 0 0 : Nat) = V.int 37))])) = _
                      rw [e3]
                      rfl
                  · rintro H1 ⟨k, hd⟩
                    rw [List.take_of_length_le (by rw [Array.length_toList]; exact Nat.le_refl _)] at hd
                    refine ⟨D, _, rfl, SqL.of hd, ?_⟩
                    have e5 : ((z.cps.toList.map fun c => !decide (c = 37)).all id) = z.cps.toList.all fun c => !decide (c = 37) := by
                      rw [List.all_map]
                      rfl
                    rw [e5]
                    exact q' H1 fun b o e => k b o (fun z => by rw [z, hD] at e; cases e) e
end
end Pk
namespace Pk
open PySem L2
/-! ### calls with keywords, of defs with defaults -/
section
variable {K : PySem.W.Frag} {x qual : Str} {params : Arguments} {body : List Stmt} {scope : Scope} {dvs : List V} {f : Addr} {fd : FuncData} {ps : List Str}
theorem kbnD (F : FunD K x qual params body scope dvs [] f fd) (n : Nat) (ks : List Str) (g : {α : Type} → List α → List α → List α → List α) (hd : dvs ≠ [])
    (hrel : ∀ {vs ds zs : List V} {us its ws : List Value}, Vals vs us → Vals ds its → Vals zs ws → Vals (g vs ds zs) (g us its ws))
    (h : ∀ (T : Addr) (kV doc pm : Value) (an : Option Addr) (cdv ct : Value) (us its ws : List Value), us.length = n → its.length = dvs.length → ws.length = ks.length →
      ∃ k, bindArgs (PySem.W.fnOf x qual params body scope (.ref T) kV doc pm an cdv ct) ⟨us, ks.zip ws⟩ = seqItems? (.ref T) >>= k ∧ k (some its.toArray) = pure (ps.zip (g us its ws))) :
    ∃ its : List Value, KBn K fd ps n ks (fun us ws => g us its ws) (fun vs zs => g vs dvs zs) := by
  obtain ⟨oc, od, dV, kV, doc, pm, an, cdv, ct, osl, rfl, lk, hcd, hD, hK⟩ := F.ex
  rcases hD with ⟨e, _⟩ | ⟨_, T, o, its, m, rfl, lT, oT, rT⟩
  · exact absurd e hd
  · refine ⟨its, ⟨fun s us ws X l1 l2 => ?_, fun r1 r2 => hrel r1 rT r2⟩⟩
    obtain ⟨k, e1, e2⟩ := h T kV doc pm an cdv ct us its ws l1 rT.length.symm l2
    refine BindsTo.of_looks fun M => ?_
    rw [e1]
    exact looks_items X lT oT (.of_pure e2)
end
section
variable {X : Cx} {CX : CXT} {k : Nat} {f : Addr} {fd : FuncData} {ps ks : List Str} {sp : Sp} {E : XK} {x : Str} {p pos : Pos} {kws : List Keyword} {tk : TA} {g : List Value → List Value → List Value} {gV : List V → List V → List V}
theorem pe_callN0 (F : FnOk X.prog X.w X.K X.mg X.base CX k f fd ps sp) (hr : Room k X.A) (hg : Gl X x) (hm : X.mg x = some (.ref f)) (hk : PySem.W.keepIn X.K (.ref f) = true) (hb : KBn X.K fd ps 0 ks g gV) (hx : Passes CX X E)
    (hkw : PK X kws tk) (hall : (backToKw pos (keywordEach kws X.env)).all (·.1.isSome) = true := by rfl) (hks : (backToKw pos (keywordEach kws X.env)).filterMap (·.1) = ks := by rfl) (hdb : (x == ("__debug__" : Str)) = false := by decide)
    (hpl : ((backTo pos (starEach [] X.env)).any (·.1) || (backToKw pos (keywordEach kws X.env)).any (·.1.isNone)) = false := by rfl) :
    PE X (.Call (.Name x p) [] kws pos) (tCallN 0 ks.length sp gV E tNil tk) := by
  constructor
  intro pins s σ H Q I h
  refine wpAny_Call_Name_kw (ld_glob I hg hm ?_ hdb)
  refine PySem.W.callWith_KW0 (h₀ := X.base) I.ok.mod.kin hk hall (thn (hkw.run pos pins s σ H _ I h) ?_) hpl
  rintro ws s2 ⟨zs, H2, I2, rz, l1, l2, q2⟩
  refine ⟨I2.kIn, ?_⟩
  rw [hks]
  exact run_fnN (us := []) (vs := []) F hr hb hx I2 .nil rz l1 l2 q2
theorem pe_callK0 (F : FnOk X.prog X.w X.K X.mg X.base CX k f fd ps sp) (hr : Room k X.A) (hg : Gl X x) (hm : X.mg x = some (.ref f)) (hk : PySem.W.keepIn X.K (.ref f) = true) (hb : KBinds X.K fd ps ks g gV) (hx : Passes CX X E)
    (hkw : PK X kws tk) (hall : (backToKw pos (keywordEach kws X.env)).all (·.1.isSome) = true := by rfl) (hks : (backToKw pos (keywordEach kws X.env)).filterMap (·.1) = ks := by rfl) (hdb : (x == ("__debug__" : Str)) = false := by decide)
    (hpl : ((backTo pos (starEach [] X.env)).any (·.1) || (backToKw pos (keywordEach kws X.env)).any (·.1.isNone)) = false := by rfl) :
    PE X (.Call (.Name x p) [] kws pos) (tCallK sp gV E tNil tk) := by
  constructor
  intro pins s σ H Q I h
  refine wpAny_Call_Name_kw (ld_glob I hg hm ?_ hdb)
  refine PySem.W.callWith_KW0 (h₀ := X.base) I.ok.mod.kin hk hall (thn (hkw.run pos pins s σ H _ I h) ?_) hpl
  rintro ws s2 ⟨zs, H2, I2, rz, q2⟩
  refine ⟨I2.kIn, ?_⟩
  rw [hks]
  exact run_fnk (us := []) (vs := []) F hr hb hx I2 .nil rz q2
/-- a def of one parameter, called by its name or by place -/
theorem kbinds_one {K : PySem.W.Frag} {nm ql pr : Str} {st : Stmt} {f : Addr} {fd : FuncData} (F : Fun K nm ql st f fd)
    (h1 : ∀ (kV doc pm : Value) (an : Option Addr) (cdv ct u : Value), bindArgs (PySem.W.fnOf nm ql (defArgs st) (defBody st) (defScope st) .none kV doc pm an cdv ct) ⟨[], [(pr, u)]⟩ = pure [(pr, u)])
    (h2 : ∀ (kV doc pm : Value) (an : Option Addr) (cdv ct u : Value), bindArgs (PySem.W.fnOf nm ql (defArgs st) (defBody st) (defScope st) .none kV doc pm an cdv ct) ⟨[u], []⟩ = pure [(pr, u)]) :
    KBinds K fd [pr] [pr] (fun us ws => us ++ ws) (fun vs zs => vs ++ zs) := by
  obtain ⟨oc, od, kV, doc, pm, an, cdv, ct, osl, rfl, lk, hcd⟩ := F.ex
  exact ⟨fun s us ws _ hl => match us, ws, hl with
    | [], [u], _ => .of_eq (h1 kV doc pm an cdv ct u)
    | [u], [], _ => .of_eq (h2 kV doc pm an cdv ct u), fun r1 r2 => r1.append r2⟩
end
end Pk
namespace Pk
open PySem L2
/-! ### how is_whole's arguments come in -/
section
variable {K : PySem.W.Frag} {f : Addr} {fd : FuncData}
abbrev psW : List Str := ["thing", "least", "most"]
theorem bW1 (F : FunDf K "is_whole" sIsWhole [.int 0, .int 9999] f fd) : ∃ ds, Vals [V.int 0, V.int 9999] ds ∧ Binds K fd psW ds :=
  F.binds1 1 0 (fun z => nomatch z) rfl fun T kV doc pm an cdv ct us its l1 l2 => match us, its, l1, l2 with
    | [_], [_, _], _, _ => ⟨_, rfl, rfl⟩
theorem bW2 (F : FunDf K "is_whole" sIsWhole [.int 0, .int 9999] f fd) : ∃ ds, Vals [V.int 9999] ds ∧ Binds K fd psW ds :=
  F.binds1 2 1 (fun z => nomatch z) rfl fun T kV doc pm an cdv ct us its l1 l2 => match us, its, l1, l2 with
    | [_, _], [_, _], _, _ => ⟨_, rfl, rfl⟩
theorem bW3 (F : FunDf K "is_whole" sIsWhole [.int 0, .int 9999] f fd) : ∃ ds, Vals ([] : List V) ds ∧ Binds K fd psW ds :=
  F.binds1 3 2 (fun z => nomatch z) rfl fun T kV doc pm an cdv ct us its l1 l2 => match us, its, l1, l2 with
    | [_, _, _], [_, _], _, _ => ⟨_, rfl, rfl⟩
def g21 {α : Type} (us _its ws : List α) : List α := match us, ws with
  | [a], [m, l] => [a, l, m]
  | _, _ => []
def g1 {α : Type} (us its ws : List α) : List α := match us, its, ws with
  | [a], [l, _], [m] => [a, l, m]
  | _, _, _ => []
def g0 {α : Type} (us its ws : List α) : List α := match us, its, ws with
  | [], [_, m], [l, a] => [a, l, m]
  | _, _, _ => []
theorem kW21 (F : FunDf K "is_whole" sIsWhole [.int 0, .int 9999] f fd) : ∃ its : List Value, KBn K fd psW 1 ["most", "least"] (fun us ws => g21 us its ws) (fun vs zs => g21 vs [.int 0, .int 9999] zs) :=
  kbnD F 1 ["most", "least"] g21 (fun z => nomatch z) (fun r1 r2 r3 => match r1, r3 with
    | .cons a .nil, .cons m (.cons l .nil) => .cons a (.cons l (.cons m .nil))
    | .nil, _ => .nil
    | .cons _ (.cons _ _), _ => .nil
    | .cons _ .nil, .nil => .nil
    | .cons _ .nil, .cons _ .nil => .nil
    | .cons _ .nil, .cons _ (.cons _ (.cons _ _)) => .nil) fun T kV doc pm an cdv ct us its ws l1 l2 l3 => match us, its, ws, l1, l2, l3 with
    | [_], [_, _], [_, _], _, _, _ => ⟨_, rfl, rfl⟩
theorem kW1 (F : FunDf K "is_whole" sIsWhole [.int 0, .int 9999] f fd) : ∃ its : List Value, KBn K fd psW 1 ["most"] (fun us ws => g1 us its ws) (fun vs zs => g1 vs [.int 0, .int 9999] zs) :=
  kbnD F 1 ["most"] g1 (fun z => nomatch z) (fun r1 r2 r3 => match r1, r2, r3 with
    | .cons a .nil, .cons l (.cons _ .nil), .cons m .nil => .cons a (.cons l (.cons m .nil))
    | .nil, _, _ => .nil
    | .cons _ (.cons _ _), _, _ => .nil
    | .cons _ .nil, .nil, _ => .nil
    | .cons _ .nil, .cons _ .nil, _ => .nil
    | .cons _ .nil, .cons _ (.cons _ (.cons _ _)), _ => .nil
    | .cons _ .nil, .cons _ (.cons _ .nil), .nil => .nil
    | .cons _ .nil, .cons _ (.cons _ .nil), .cons _ (.cons _ _) => .nil) fun T kV doc pm an cdv ct us its ws l1 l2 l3 => match us, its, ws, l1, l2, l3 with
    | [_], [_, _], [_], _, _, _ => ⟨_, rfl, rfl⟩
theorem kW0 (F : FunDf K "is_whole" sIsWhole [.int 0, .int 9999] f fd) : ∃ its : List Value, KBn K fd psW 0 ["least", "thing"] (fun us ws => g0 us its ws) (fun vs zs => g0 vs [.int 0, .int 9999] zs) :=
  kbnD F 0 ["least", "thing"] g0 (fun z => nomatch z) (fun r1 r2 r3 => match r1, r2, r3 with
    | .nil, .cons _ (.cons m .nil), .cons l (.cons a .nil) => .cons a (.cons l (.cons m .nil))
    | .cons _ _, _, _ => .nil
    | .nil, .nil, _ => .nil
    | .nil, .cons _ .nil, _ => .nil
    | .nil, .cons _ (.cons _ (.cons _ _)), _ => .nil
    | .nil, .cons _ (.cons _ .nil), .nil => .nil
    | .nil, .cons _ (.cons _ .nil), .cons _ .nil => .nil
    | .nil, .cons _ (.cons _ .nil), .cons _ (.cons _ (.cons _ _)) => .nil) fun T kV doc pm an cdv ct us its ws l1 l2 l3 => match us, its, ws, l1, l2, l3 with
    | [], [_, _], [_, _], _, _, _ => ⟨_, rfl, rfl⟩
end
/-! ### the refusals -/
/-- BadText as the top has left it -/
structure BadTxt (K : PySem.W.Frag) (mg : Str → Option Value) (C : Addr) : Prop where
  g : mg "BadText" = some (.ref C)
  x : PySem.W.excIn K C [.type "ValueError", .type "Exception", .type "BaseException", .type "object"] "ValueError.__new__" = true
  k : PySem.W.keepIn K (.ref C) = true
  b : PySem.W.subIn K (.ref C) (.type "BaseException") = some true
  t : PySem.W.typeIn K (.ref C) = some (.type "type")
abbrev IxLine : List Value := [.type "IndexError", .type "LookupError", .type "Exception", .type "BaseException", .type "object"]
/-- the classes, the names of the built-ins and of the module, as the top has left them -/
def caughtBy (cB : Addr) (c : Nat → Addr) : List Value := [.ref cB, .ref (c 5), .ref (c 6), .ref (c 7), .ref (c 8), .ref (c 9), .ref (c 10), .ref (c 11), .ref (c 12), .ref (c 13)]
structure Txt (K : PySem.W.Frag) (mg : Str → Option Value) (cB fI : Addr) (c : Nat → Addr) : Prop where
  gB : mg "BankError" = some (.ref cB)
  cl : Fourteen mg c
  bt : BadTxt K mg (c 6)
  ex : ExcC K (c 6)
  kt : Kits K c (c 6) (fun i => decide (i = 6))
  ca : PySem.W.exmAny K (.ref (c 6)) (caughtBy cB c) = some true
  np : Of_at.Tx K mg "NoPlace" "NoPlace.__init__" (c 8) fI "IndexError" "IndexError.__new__" "IndexError.__init__" IxLine
  kt8 : Kits K c (c 8) (fun i => decide (i = 8))
  ca8 : PySem.W.exmAny K (.ref (c 8)) (caughtBy cB c) = some true
  isi : mg "isinstance" = none
  zip : mg "zip" = none
  len : mg "len" = none
  str : mg "str" = none
  int : mg "int" = none
  bool : mg "bool" = none
  range : mg "range" = none
  enum : mg "enumerate" = none
  all : mg "all" = none
  ord : mg "ord" = none
  repr : mg "repr" = none
  gM : ∃ t, mg "MOST_LETTERS" = some (.int 8 t)
  gS : ∃ t, mg "MOST_SIGNS" = some (.int 30 t)
  gP : ∃ t, mg "PERCENT" = some (.int 37 t)
section
variable {P : Program} {w : World} {K : PySem.W.Frag} {mg : Str → Option Value} {base : Heap} {cB fI : Addr} {c : Nat → Addr}
theorem scNeedName : FnScope ["thing"] ["thing"] (defScope sNeedName) := ⟨rfl, rfl, rfl, by decide +kernel, rfl, by decide +kernel, by decide +kernel⟩
theorem ok_needName {f fN : Addr} {fd fdN : FuncData} (F : Fun K "need_name" "need_name" sNeedName f fd) (T : Txt K mg cB fI c) (FN : Fun K "is_name" "is_name" sIsName fN fdN) (bN : Binds K fdN ["thing"] []) (gN : mg "is_name" = some (.ref fN)) : FnOk P w K mg base (L2.CX P w) 2 f fd ["thing"] (spNeedName (c 6)) := by
  have GN : FnOk P w K mg base CX0 1 fN fdN ["thing"] spIsName := ok_isName FN T.isi T.str T.len T.gM
  refine F.okX scNeedName (fun vs H Q E h => ?_) (fun cdv A outer s H vs Q E hr h => ?_)
  · obtain ⟨x, rfl, _⟩ := h
    rfl
  · obtain ⟨x, rfl, hx, q⟩ := h
    refine ⟨_, pss_one (ps_if (pt_not (pt_val (pe_call GN hr (by rfl) gN FN.kp bN .nil pass0 (pa_cons (pv 0) pa_nil)))) (pss_one (ps_raise rfl (takes_of rfl rfl rfl rfl) (pmk_own PySem.F.excBase_ValueError T.bt.x T.bt.g T.bt.k (raises_own T.bt.b T.bt.t) (by exact rfl)))) pss_nil), ?_⟩
    refine ⟨_, rfl, x, rfl, hx, fun H1 s1 => ⟨_, rfl, ?_⟩⟩
    cases hn : nameV x with
    | true => exact iteF ((q H1 s1).1 hn)
    | false => exact iteT ((q H1 s1).2 hn)
theorem scNeedDay : FnScope ["thing"] ["thing"] (defScope sNeedDay) := ⟨rfl, rfl, rfl, by decide +kernel, rfl, by decide +kernel, by decide +kernel⟩
theorem ok_needDay {f fW fN : Addr} {fd fdW fdN : FuncData} (F : Fun K "need_day" "need_day" sNeedDay f fd) (T : Txt K mg cB fI c) (FW : FunDf K "is_whole" sIsWhole [.int 0, .int 9999] fW fdW) (kW : PySem.W.keepIn K (.ref fW) = true) (gW : mg "is_whole" = some (.ref fW)) (FN : Fun K "is_number" "is_number" sIsNumber fN fdN) (bN : Binds K fdN ["thing"] []) (gN : mg "is_number" = some (.ref fN)) :
    FnOk P w K mg base (L2.CX P w) 4 f fd ["thing"] (spNeedDay (c 8)) := by
  have GW : FnOk P w K mg base CX0 2 fW fdW psW spIsWhole := ok_isWhole FW FN bN gN T.isi T.int T.bool
  obtain ⟨ds, hds, bW⟩ := bW1 FW
  refine F.okX scNeedDay (fun vs H Q E h => ?_) (fun cdv A outer s H vs Q E hr h => ?_)
  · obtain ⟨x, rfl, _⟩ := h
    rfl
  · obtain ⟨x, rfl, hx, q1, q2⟩ := h
    have r2 : Room 2 _ := hr.mono (by decide)
    refine ⟨_, pss_one (ps_if (pt_not (pt_val (pe_call GW r2 (by rfl) gW kW bW hds pass0 (pa_cons (pv 0) pa_nil)))) (pss_one (ps_raise_at rfl T.np hr (takes_of rfl rfl rfl rfl) (by exact (pa_cons (pv 0) pa_nil)))) pss_nil), ?_⟩
    refine ⟨_, rfl, x, 0, 9999, rfl, hx, _, rfl, ?_⟩
    cases hn : whole x 0 9999 with
    | true => exact iteF (q1 hn)
    | false => exact iteT ⟨_, rfl, x, rfl, fun d hd => q2 hn d hd⟩
end
end Pk
namespace Pk
open PySem L2
def spAsked (cT cP : Addr) : Sp := fun vs H Q E => ∃ (k : Int) (x : V), vs = [.int k, x] ∧ Itm H x ∧
  (((k = 0 ∨ k = 2) ∧ ∀ H', Same H H' → (nameV x = true → Q .non H') ∧ (nameV x = false → E (.ref cT) none H')) ∨
   ((k = 1 ∨ k = 3) ∧ (whole x 0 9999 = true → Q .non H) ∧ (whole x 0 9999 = false → ∀ d : Addr, H d = none → E (.ref cP) (some d) (upd H d (.xd [(("at" : Str), x)])))))
/-- what is said of an item: how it is refused, if it is -/
def saidOf (k : Int) (x : V) : Str := if k = 0 ∨ k = 2 then (if nameV x = true then "" else "text") else (if whole x 0 9999 = true then "" else "place")
def spSaid : Sp := fun vs H Q _ => ∃ (k : Int) (x : V), vs = [.int k, x] ∧ Itm H x ∧ 0 ≤ k ∧ k ≤ 3 ∧ ∀ H', Same H H' → Q (.str (saidOf k x)) H'
section
variable {P : Program} {w : World} {K : PySem.W.Frag} {mg : Str → Option Value} {base : Heap} {cB fI : Addr} {c : Nat → Addr}
structure Dw (K : PySem.W.Frag) (mg : Str → Option Value) (fN fW fA fT fB fD : Addr) (fdN fdW fdA fdT fdB fdD : FuncData) : Prop where
  N : Fun K "is_number" "is_number" sIsNumber fN fdN
  bN : Binds K fdN ["thing"] []
  gN : mg "is_number" = some (.ref fN)
  W : FunDf K "is_whole" sIsWhole [.int 0, .int 9999] fW fdW
  kW : PySem.W.keepIn K (.ref fW) = true
  gW : mg "is_whole" = some (.ref fW)
  A : Fun K "is_name" "is_name" sIsName fA fdA
  bA : Binds K fdA ["thing"] []
  kA : KBinds K fdA ["thing"] ["thing"] (fun us ws => us ++ ws) (fun vs zs => vs ++ zs)
  gA : mg "is_name" = some (.ref fA)
  T : Fun K "is_text" "is_text" sIsText fT fdT
  bT : Binds K fdT ["thing"] []
  kT : KBinds K fdT ["thing"] ["thing"] (fun us ws => us ++ ws) (fun vs zs => vs ++ zs)
  gT : mg "is_text" = some (.ref fT)
  B : Fun K "need_name" "need_name" sNeedName fB fdB
  bB : Binds K fdB ["thing"] []
  kB : KBinds K fdB ["thing"] ["thing"] (fun us ws => us ++ ws) (fun vs zs => vs ++ zs)
  gB : mg "need_name" = some (.ref fB)
  D : Fun K "need_day" "need_day" sNeedDay fD fdD
  bD : Binds K fdD ["thing"] []
  kD : KBinds K fdD ["thing"] ["thing"] (fun us ws => us ++ ws) (fun vs zs => vs ++ zs)
  gD : mg "need_day" = some (.ref fD)
variable {fN fW fA fT fB fD : Addr} {fdN fdW fdA fdT fdB fdD : FuncData}
theorem scAsked : FnScope ["_law_which", "_law_item"] ["_law_which", "_law_item"] (defScope sAsked) := ⟨rfl, rfl, rfl, by decide +kernel, rfl, by decide +kernel, by decide +kernel⟩
theorem ok_asked {f : Addr} {fd : FuncData} (F : Fun K "_law_asked" "_law_asked" sAsked f fd) (T : Txt K mg cB fI c) (D : Dw K mg fN fW fA fT fB fD fdN fdW fdA fdT fdB fdD) : FnOk P w K mg base (L2.CX P w) 5 f fd ["_law_which", "_law_item"] (spAsked (c 6) (c 8)) := by
  have GB : FnOk P w K mg base (L2.CX P w) 2 fB fdB ["thing"] (spNeedName (c 6)) := ok_needName D.B T D.A D.bA D.gA
  have GD : FnOk P w K mg base (L2.CX P w) 4 fD fdD ["thing"] (spNeedDay (c 8)) := ok_needDay D.D T D.W D.kW D.gW D.N D.bN D.gN
  refine F.okX scAsked (fun vs H Q E h => ?_) (fun cdv A outer s H vs Q E hr h => ?_)
  · obtain ⟨k, x, rfl, _⟩ := h
    rfl
  · obtain ⟨k, x, rfl, hx, h⟩ := h
    have r2 : Room 2 _ := hr.mono (by decide)
    refine ⟨_, pss_cons (ps_if (pt_cmpR op_eq (pv 0) pe_int (nomark _)) (pss_one (ps_ret (pe_call (E := E) GB r2 (by rfl) D.gB D.B.kp D.bB .nil (passes_call (takes_of rfl rfl rfl rfl) fun _ _ _ _ h => h) (pa_cons (pv 1) pa_nil)))) pss_nil)
      (pss_cons (ps_if (pt_cmpR op_eq (pv 0) pe_int (nomark _)) (pss_one (ps_ret (pe_call (E := E) GD hr (by rfl) D.gD D.D.kp D.bD .nil (passes_call (takes_of rfl rfl rfl rfl) fun _ _ _ _ h => h) (pa_cons (pv 1) pa_nil)))) pss_nil)
      (pss_one (ps_ret (pe_ifExp (pt_cmpR op_eq (pv 0) pe_int (nomark _)) (pe_callK0 (E := E) GB r2 (by rfl) D.gB D.B.kp D.kB (passes_call (takes_of rfl rfl rfl rfl) fun _ _ _ _ h => h) (pk_cons (pv 1) pk_nil)) (pe_callK0 (E := E) GD hr (by rfl) D.gD D.D.kp D.kD (passes_call (takes_of rfl rfl rfl rfl) fun _ _ _ _ h => h) (pk_cons (pv 1) pk_nil)))))), ?_⟩
    rcases h with ⟨hk, q⟩ | ⟨hk, q1, q2⟩
    · rcases hk with rfl | rfl
      · exact ⟨_, rfl, rfl, _, rfl, iteT ⟨_, rfl, x, rfl, hx, q⟩⟩
      · exact ⟨_, rfl, rfl, _, rfl, iteF ⟨_, rfl, rfl, _, rfl, iteF ⟨_, rfl, rfl, _, rfl, iteT ⟨_, rfl, x, rfl, hx, q⟩⟩⟩⟩
    · rcases hk with rfl | rfl
      · exact ⟨_, rfl, rfl, _, rfl, iteF ⟨_, rfl, rfl, _, rfl, iteT ⟨_, rfl, x, rfl, hx, q1, q2⟩⟩⟩
      · exact ⟨_, rfl, rfl, _, rfl, iteF ⟨_, rfl, rfl, _, rfl, iteF ⟨_, rfl, rfl, _, rfl, iteF ⟨_, rfl, x, rfl, hx, q1, q2⟩⟩⟩⟩
end
end Pk
namespace Pk
open PySem L2
/-! ### how things are shown -/
theorem from_le : ∀ (ts : List Str) (k : Nat) (acc : Str), (textFrom k acc ts).length ≤ acc.length + (ts.map fun t => t.length + 2).sum
  | [], k, acc => by
    show acc.length ≤ _
    omega
  | t :: r, k, acc => by
    have h := from_le r (k + 1) (acc ++ (if k > 0 then ", " else "" : String) ++ t)
    rw [app_len, app_len] at h
    have h2 : ((if k > 0 then ", " else "" : String) : Str).length ≤ 2 := by
      split <;> decide +kernel
    rw [List.map_cons, List.sum_cons]
    have h3 : textFrom k acc (t :: r) = textFrom (k + 1) (acc ++ (if k > 0 then ", " else "" : String) ++ t) r := rfl
    rw [h3]
    omega
theorem list_le (ts : List Str) : (listText ts).length ≤ 2 + (ts.map fun t => t.length + 2).sum := by
  unfold listText
  rw [app_len, show ("]" : Str).length = 1 by decide +kernel]
  have := from_le ts 0 "["
  rw [show ("[" : Str).length = 1 by decide +kernel] at this
  omega
/-- fit to be shown -/
structure Shows (K : PySem.W.Frag) (H : Hp) (x : V) (d : PyData) : Prop where
  dq : Dq K H x d
  sh : d.showable = true
  dp : d.depth ≤ 64
  sz : d.shown.length ≤ sizeLine
theorem repr_le {z : Str} (hl : z.length ≤ 100) (ho : Sgn z) : (reprText z).length ≤ 1002 := by
  have h := StrLaws.reprText_len z fun c hc => by
    have := ho.ok c hc
    omega
  omega
theorem bools_le : ∀ bs : List Bool, ((PyData.shownAll (bs.map .bool)).map fun t => t.length + 2).sum ≤ 7 * bs.length
  | [] => Nat.le_refl _
  | b :: r => by
    have ih := bools_le r
    show ((PyData.shown (.bool b)).length + 2) + ((PyData.shownAll (r.map .bool)).map fun t => t.length + 2).sum ≤ 7 * (r.length + 1)
    have : (PyData.shown (.bool b)).length ≤ 5 := by
      cases b <;> decide +kernel
    omega
theorem bools_show : ∀ bs : List Bool, PyData.showableAll (bs.map .bool) = true
  | [] => by simp [PyData.showableAll]
  | b :: r => by simp [PyData.showableAll, PyData.showable, bools_show r]
theorem bools_depth : ∀ bs : List Bool, PyData.depthAll (bs.map .bool) = 0
  | [] => by simp [PyData.depthAll]
  | b :: r => by simp [PyData.depthAll, PyData.depth, bools_depth r]
theorem bools_dict : ∀ bs : List Bool, PyData.hasDictAll (bs.map .bool) = false
  | [] => by simp [PyData.hasDictAll]
  | b :: r => by simp [PyData.hasDictAll, PyData.hasDict, bools_dict r]
theorem bools_dp {K : PySem.W.Frag} {H : Hp} : ∀ bs : List Bool, DpAll K H (bs.map V.bl) (bs.map .bool)
  | [] => .nil
  | b :: r => .cons (.bl b) (bools_dp r)
/-- a list of truths -/
theorem shows_bools {K : PySem.W.Frag} {H : Hp} {p : Addr} (bs : List Bool) (h : H p = some (.lst (bs.map V.bl))) (n : bs.length ≤ 100) : Shows K H (.ref p) (.list (bs.map .bool)) where
  dq := .of (.lst (SqL.of h) (bools_dp bs)) (by simp [PyData.hasDict, bools_dict])
  sh := by simp [PyData.showable, bools_show]
  dp := by simp [PyData.depth, bools_depth]
  sz := by
    have h1 := list_le (PyData.shownAll (bs.map .bool))
    have h2 := bools_le bs
    have e : (PyData.list (bs.map .bool)).shown = listText (PyData.shownAll (bs.map .bool)) := by simp [PyData.shown]
    rw [e, sizeLine_eq]
    omega
theorem Itm.shows {K : PySem.W.Frag} {H : Hp} {x : V} (h : Itm H x) : ∃ d, Shows K H x d := by
  cases h with
  | non => exact ⟨.none, .of .non rfl, rfl, by decide, by decide +kernel⟩
  | bl b => exact ⟨.bool b, .of (.bl b) (by simp [PyData.hasDict]), by simp [PyData.showable], by simp [PyData.depth], by cases b <;> decide +kernel⟩
  | int i h =>
    refine ⟨.int i, .of (.int i) (by simp [PyData.hasDict]), decide_eq_true (by omega), by simp [PyData.depth], ?_⟩
    have e : (PyData.int i).shown = Str.ofString (toString i) := by simp [PyData.shown]
    rw [e]
    exact int_text_fits (by omega)
  | str z hl ho =>
    refine ⟨.str z, .of (.str z) (by simp [PyData.hasDict]), by simp [PyData.showable], by simp [PyData.depth], ?_⟩
    have e : (PyData.str z).shown = reprText z := by simp [PyData.shown]
    have := repr_le hl ho
    rw [e, sizeLine_eq]
    omega
  | @lst a v h hv =>
    rcases hv with rfl | ⟨z, rfl, hl, ho⟩
    · refine ⟨.list [.int 1], .of (.lst (SqL.of h) (.cons (.int 1) .nil)) (by simp [PyData.hasDict, PyData.hasDictAll]), by decide +kernel, by decide +kernel, by decide +kernel⟩
    · refine ⟨.list [.str z], .of (.lst (SqL.of h) (.cons (.str z) .nil)) (by simp [PyData.hasDict, PyData.hasDictAll]), by simp [PyData.showable, PyData.showableAll], by simp [PyData.depth, PyData.depthAll], ?_⟩
      have e : (PyData.list [.str z]).shown = listText [reprText z] := by simp [PyData.shown, PyData.shownAll]
      have h1 := list_le [reprText z]
      have h2 := repr_le hl ho
      rw [e, sizeLine_eq]
      simp at h1
      omega
  | tup h => exact ⟨.tuple [.int 1], .of (.tup (SqT.of h) (.cons (.int 1) .nil)) (by simp [PyData.hasDict, PyData.hasDictAll]), by decide +kernel, by decide +kernel, by decide +kernel⟩
  | dct h => exact ⟨.dict [], .emp h, by decide +kernel, by decide +kernel, by decide +kernel⟩
theorem Dq.same {K : PySem.W.Frag} {H H' : Hp} {x : V} {d : PyData} (s : Same H H') (h : Itm H x) (g : Shows K H x d) : True := trivial
end Pk
namespace Pk
open PySem L2
theorem room_show {k : Nat} {A : Around} (hr : Room k A) : A.units + 70 < cLine := by
  have := hr.un
  omega
theorem names10 {X : Cx} {cB : Addr} {c : Nat → Addr} {p0 p1 p2 p3 p4 p5 p6 p7 p8 p9 : Pos} (gB : X.mg "BankError" = some (.ref cB)) (T : Fourteen X.mg c) (h0 : Gl X "BankError") (h5 : Gl X "BadQuestion") (h6 : Gl X "BadText") (h7 : Gl X "NoSuch") (h8 : Gl X "NoPlace") (h9 : Gl X "TooMany") (h10 : Gl X "BadKind") (h11 : Gl X "Unmet") (h12 : Gl X "NoAnswers") (h13 : Gl X "Twice") :
    NamesAll X [.Name "BankError" p0, .Name "BadQuestion" p1, .Name "BadText" p2, .Name "NoSuch" p3, .Name "NoPlace" p4, .Name "TooMany" p5, .Name "BadKind" p6, .Name "Unmet" p7, .Name "NoAnswers" p8, .Name "Twice" p9] (caughtBy cB c) :=
  .cons h0 (by decide) gB (.cons h5 (by decide) T.g5 (.cons h6 (by decide) T.g6 (.cons h7 (by decide) T.g7 (.cons h8 (by decide) T.g8 (.cons h9 (by decide) T.g9 (.cons h10 (by decide) T.g10 (.cons h11 (by decide) T.g11 (.cons h12 (by decide) T.g12 (.cons h13 (by decide) T.g13 .nil)))))))))
section
variable {P : Program} {w : World} {K : PySem.W.Frag} {mg : Str → Option Value} {base : Heap} {cB fI : Addr} {c : Nat → Addr}
variable {fN fW fA fT fB fD : Addr} {fdN fdW fdA fdT fdB fdD : FuncData}
theorem scSaid : FnScope ["_law_which", "_law_item", "_law_caught", "_law_found", "_law_error"] ["_law_which", "_law_item"] (defScope sSaid) := ⟨rfl, rfl, rfl, by decide +kernel, rfl, by decide +kernel, by decide +kernel⟩
theorem word6 : wordOf (list14 fun i => decide (i = 6)) = "text" := by decide +kernel
theorem word8 : wordOf (list14 fun i => decide (i = 8)) = "place" := by decide +kernel
theorem ok_said {f fQ fV : Addr} {fd fdQ fdV : FuncData} (F : Fun K "_law_said" "_law_said" sSaid f fd) (T : Txt K mg cB fI c) (D : Dw K mg fN fW fA fT fB fD fdN fdW fdA fdT fdB fdD) (FQ : Fun K "_law_asked" "_law_asked" sAsked fQ fdQ) (bQ : Binds K fdQ ["_law_which", "_law_item"] []) (gQ : mg "_law_asked" = some (.ref fQ))
    (FV : Fun K "_law_word" "_law_word" sWord fV fdV) (bV : Binds K fdV ["_law_error"] []) (gV : mg "_law_word" = some (.ref fV)) : FnG P w K mg base CX0 7 f fd ["_law_which", "_law_item"] spSaid := by
  have GQ : FnOk P w K mg base (L2.CX P w) 5 fQ fdQ ["_law_which", "_law_item"] (spAsked (c 6) (c 8)) := ok_asked FQ T D
  have GV : FnOk P w K mg base CX0 1 fV fdV ["_law_error"] (spWord K c) := ok_word FV T.cl T.isi T.zip T.len
  refine okG F scSaid (fun vs H Q E h => ?_) (fun cdv A calm outer s H vs Q E hr h => ?_)
  · obtain ⟨k, x, rfl, _⟩ := h
    rfl
  · obtain ⟨k, x, rfl, hx, k0, k3, q⟩ := h
    have r5 : Room 5 _ := hr.mono (by decide)
    have r1 : Room 1 _ := hr.mono (by decide)
    refine ⟨_, pss_cons (ps_set (i := 2) scSaid.nd rfl (.inl rfl) pe_non) (pss_cons (ps_set (i := 3) scSaid.nd rfl (.inl rfl) pe_non)
      (pss_cons (ps_try_held (i := 4) (cs := caughtBy cB c) (tb := fun W => tAsg (tCallS (spAsked (c 6) (c 8)) (WE W) (tCons (tVar 0) (tCons (tVar 1) tNil))) (gName 3)) (ts := fun a cls d => tAsg (tVar 4) (gName 2)) (Wout := fun _ _ _ _ => False) rfl rfl scSaid.nd rfl rfl
          (names10 T.gB T.cl rfl rfl rfl rfl rfl rfl rfl rfl rfl rfl) (by decide) takes0
          (fun W pn xe tk _ => pss_one (ps_set (i := 3) scSaid.nd rfl (.inl rfl) (by exact (pe_callS GQ r5 rfl gQ FQ.kp bQ (fun σ => passAt tk σ) (by exact (pa_cons (pv 0) (pa_cons (pv 1) pa_nil)))))))
          (fun a oe cls d pn hz hf => pss_one (ps_set (i := 2) scSaid.nd rfl (.inl rfl) (by exact (pv 4)))))
      (pss_cons (ps_if (pt_cmpR op_isN (pv 2) pe_non (nomark _)) (pss_one (ps_ret (pe_ifExp (pt_cmpR op_isN (pv 3) pe_non (nomark _)) pe_str pe_str))) pss_nil)
      (pss_cons (ps_if (PW.pt (pw_and (pt_val (pe_callB call_isK (by rfl) T.isi (by decide +kernel) (pa_cons (pv 2) (pa_cons (pe_glob (v := .ref (c 8)) (by rfl) T.cl.g8 rfl) pa_nil))))
          (pw_and1 (pt_cmpR op_ne (pe_callB (call_show (show Calm _ from calm) (room_show hr)) (by rfl) T.repr (by decide +kernel) (pa_cons (pe_get_at (pv 2)) pa_nil)) (pe_callB (call_show (show Calm _ from calm) (room_show hr)) (by rfl) T.repr (by decide +kernel) (pa_cons (pv 1) pa_nil)) (nomark _))))) (pss_one (ps_ret pe_str)) pss_nil)
      (pss_one (ps_ret (pe_call GV r1 (by rfl) gV FV.kp bV .nil pass0 (pa_cons (pv 2) pa_nil)))))))), ?_⟩
    have words : (k = 0 ∨ k = 2) ∨ (k = 1 ∨ k = 3) := by omega
    rcases words with hk | hk
    · have es : saidOf k x = (if nameV x = true then ("" : Str) else ("text" : Str)) := by
        unfold saidOf
        rw [if_pos hk]
      refine ⟨_, rfl, _, rfl, k, x, rfl, hx, .inl ⟨hk, fun H1 s1 => ⟨fun hn => ?_, fun hn => ?_⟩⟩⟩
      · refine ⟨_, rfl, rfl, _, rfl, iteT ⟨_, rfl, rfl, _, rfl, iteT ?_⟩⟩
        rw [es, if_pos hn] at q
        exact q H1 s1
      · refine ⟨true, T.ca, fun _ a na => ?_, fun z => nomatch z⟩
        refine ⟨_, rfl, fun na' => ?_⟩
        have s2 : Same H1 (upd H1 a (ExH (.ref (c 6)) none a)) := same_upd na
        have h2 : upd H1 a (ExH (.ref (c 6)) none a) a = some (ExH (.ref (c 6)) none a) := upd_same
        refine ⟨_, rfl, rfl, _, rfl, iteF ?_⟩
        refine ⟨_, rfl, a, c 6, none, _, _, _, rfl, h2, .inl rfl, T.ex, .own _, T.kt 8 (by decide), _, rfl, iteF ?_⟩
        refine ⟨_, rfl, a, c 6, none, _, rfl, h2, .inl rfl, T.ex, T.kt, fun H3 s3 => ?_⟩
        rw [word6]
        rw [es, if_neg (by rw [hn]; exact Bool.false_ne_true)] at q
        exact q H3 ((s1.trans s2).trans s3)
    · have es : saidOf k x = (if whole x 0 9999 = true then ("" : Str) else ("place" : Str)) := by
        unfold saidOf
        rw [if_neg (by omega)]
      refine ⟨_, rfl, _, rfl, k, x, rfl, hx, .inr ⟨hk, fun hn => ?_, fun hn d hd => ?_⟩⟩
      · refine ⟨_, rfl, rfl, _, rfl, iteT ⟨_, rfl, rfl, _, rfl, iteT ?_⟩⟩
        rw [es, if_pos hn] at q
        exact q H (Same.refl H)
      · have s1 : Same H (upd H d (.xd [(("at" : Str), x)])) := same_upd hd
        have hdd : upd H d (.xd [(("at" : Str), x)]) d = some (.xd [(("at" : Str), x)]) := upd_same
        generalize upd H d (.xd [(("at" : Str), x)]) = H1 at s1 hdd
        refine ⟨true, T.ca8, fun _ a na => ?_, fun z => nomatch z⟩
        refine ⟨_, rfl, fun na' => ?_⟩
        have s2 : Same H1 (upd H1 a (ExH (.ref (c 8)) (some d) a)) := same_upd na
        have h2 : upd H1 a (ExH (.ref (c 8)) (some d) a) a = some (ExH (.ref (c 8)) (some d) a) := upd_same
        have hd2 := s2 _ _ hdd
        have x2 := (hx.same s1).same s2
        obtain ⟨dd, sw⟩ := x2.shows (K := K)
        generalize upd H1 a (ExH (.ref (c 8)) (some d) a) = H2 at s2 h2 hd2 x2 sw
        refine ⟨_, rfl, rfl, _, rfl, iteF ?_⟩
        refine ⟨_, rfl, a, c 8, some d, _, _, _, rfl, h2, .inr ⟨d, _, rfl, hd2⟩, T.np.ex, .own _, T.kt8 8 (by decide), _, rfl, iteT ?_⟩
        refine ⟨_, rfl, a, c 8, d, x, rfl, h2, T.np.ex, T.np.noN, hd2, x, dd, rfl, sw.dq, sw.sh, sw.dp, sw.sz, ?_⟩
        refine ⟨_, rfl, x, dd, rfl, sw.dq, sw.sh, sw.dp, sw.sz, rfl, _, rfl, ?_⟩
        rw [decide_eq_true (rfl : V.str dd.shown = V.str dd.shown)]
        refine iteF ?_
        refine ⟨_, rfl, a, c 8, some d, _, rfl, h2, .inr ⟨d, _, rfl, hd2⟩, T.np.ex, T.kt8, fun H3 s3 => ?_⟩
        rw [word8]
        rw [es, if_neg (by rw [hn]; exact Bool.false_ne_true)] at q
        exact q H3 ((s1.trans s2).trans s3)
end
end Pk
namespace Pk
open PySem L2
def spRight : Sp := fun vs H Q _ => ∃ x, vs = [x] ∧ Itm H x ∧ ∀ H', Same H H' → Q (.bl true) H'
def spRight3 : Sp := fun vs H Q _ => ∃ (x : V) (lo hi : Int), vs = [x, .int lo, .int hi] ∧ Itm H x ∧ ∀ H', Same H H' → Q (.bl true) H'
/-- signs as texts -/
def sgnD (l : List Nat) : PyData := .list (l.map fun c => .str ⟨#[c]⟩)
theorem sgn_lay : ∀ l : List Nat, (∀ c ∈ l, c < 0x110000) → PyData.canLayAll0 (l.map fun c => .str ⟨#[c]⟩) = true
  | [], _ => by simp [PyData.canLayAll0]
  | c :: r, h => by
    have h1 : PyData.strOk ⟨#[c]⟩ = true := (sok_iff _).mpr fun d hd => by
      rw [List.mem_singleton.mp hd]
      exact h c List.mem_cons_self
    have h2 := sgn_lay r fun d hd => h d (List.mem_cons_of_mem _ hd)
    simp [PyData.canLayAll0, PyData.canLay0, h1, h2]
theorem sgn_depth : ∀ l : List Nat, PyData.depthAll (l.map fun c => .str ⟨#[c]⟩) = 0
  | [] => by simp [PyData.depthAll]
  | c :: r => by simp [PyData.depthAll, PyData.depth, sgn_depth r]
theorem sgn_shaped (l : List Nat) (h : ∀ c ∈ l, c < 0x110000) : SeqAt.shaped (sgnD l) = true := by
  unfold sgnD
  simp [SeqAt.shaped, PyData.canLay0, PyData.depth, sgn_lay l h, sgn_depth]
theorem sgn_dp {K : PySem.W.Frag} {H : Hp} {p : Addr} {l : List Nat} (h : H p = some (.lst (l.map fun c => V.str ⟨#[c]⟩))) : Dp K H (.ref p) (sgnD l) := by
  refine .lst (SqL.of h) ?_
  clear h
  induction l with
  | nil => exact .nil
  | cons c r ih => exact .cons (.str _) ih
theorem sgn_nil (l : List Nat) : PyData.eqv (sgnD l) (sgnD []) = decide (l = []) := by
  cases l with
  | nil => simp [sgnD, PyData.eqv, PyData.eqvAll]
  | cons c r => simp [sgnD, PyData.eqv, PyData.eqvAll]
/-- two texts in a list -/
def twoD (a b : Str) : PyData := .list [.str a, .str b]
theorem two_shaped {a b : Str} (ha : SOk a) (hb : SOk b) : SeqAt.shaped (twoD a b) = true := by
  have h1 := (sok_iff a).mpr ha
  have h2 := (sok_iff b).mpr hb
  simp [twoD, SeqAt.shaped, PyData.canLay0, PyData.canLayAll0, PyData.depth, PyData.depthAll, h1, h2]
theorem two_dp {K : PySem.W.Frag} {H : Hp} {p : Addr} {a b : Str} (h : H p = some (.lst [.str a, .str b])) : Dp K H (.ref p) (twoD a b) := .lst (SqL.of h) (.cons (.str a) (.cons (.str b) .nil))
theorem two_eqv {a b : Str} (ha : SOk a) (hb : SOk b) : PyData.eqv (twoD a b) (twoD a b) = true := SeqAt.eqv_refl _ (SeqAt.canLay_of_shaped (two_shaped ha hb))
theorem sok_empty : SOk "" := (sok_iff _).mp (by decide +kernel)
theorem sok_text : SOk "text" := (sok_iff _).mp (by decide +kernel)
theorem sok_place : SOk "place" := (sok_iff _).mp (by decide +kernel)
theorem name_filter (z : Str) : nameT z = (decide (0 < z.length) && (decide (z.length < 9) && decide (z.cps.toList.filter (fun c => !decide (c ∈ letters.cps.toList)) = []))) := by
  unfold nameT
  have e : (z.cps.toList.all fun c => decide (c ∈ letters.cps.toList)) = decide (z.cps.toList.filter (fun c => !decide (c ∈ letters.cps.toList)) = []) := by
    rw [Bool.eq_iff_iff, List.all_eq_true, decide_eq_true_iff, List.filter_eq_nil_iff]
    constructor
    · intro h c hc
      rw [h c hc]
      decide
    · intro h c hc
      have := h c hc
      simpa using this
  rw [e]
  have e1 : decide (1 ≤ z.length) = decide (0 < z.length) := decide_eq_decide.mpr (by omega)
  have e2 : decide (z.length ≤ 8) = decide (z.length < 9) := decide_eq_decide.mpr (by omega)
  rw [e1, e2, Bool.and_assoc]
section
variable {P : Program} {w : World} {K : PySem.W.Frag} {mg : Str → Option Value} {base : Heap} {cB fI : Addr} {c : Nat → Addr}
variable {fN fW fA fT fB fD : Addr} {fdN fdW fdA fdT fdB fdD : FuncData}
/-- the law's own helpers, where they stand -/
structure Dl (K : PySem.W.Frag) (mg : Str → Option Value) (fQ fV fZ : Addr) (fdQ fdV fdZ : FuncData) : Prop where
  Q : Fun K "_law_asked" "_law_asked" sAsked fQ fdQ
  bQ : Binds K fdQ ["_law_which", "_law_item"] []
  gQ : mg "_law_asked" = some (.ref fQ)
  V : Fun K "_law_word" "_law_word" sWord fV fdV
  bV : Binds K fdV ["_law_error"] []
  gV : mg "_law_word" = some (.ref fV)
  Z : Fun K "_law_said" "_law_said" sSaid fZ fdZ
  bZ : Binds K fdZ ["_law_which", "_law_item"] []
  gZ : mg "_law_said" = some (.ref fZ)
variable {fQ fV fZ : Addr} {fdQ fdV fdZ : FuncData}
abbrev NNameRight : List Str := ["_law_item", "_law_letters", "_law_good", "_law_sign"]
theorem scNameRight : FnScope NNameRight ["_law_item"] (defScope sNameRight) := ⟨rfl, rfl, rfl, by decide +kernel, rfl, by decide +kernel, by decide +kernel⟩
theorem ok_nameRight {f : Addr} {fd : FuncData} (F : Fun K "_law_name_right" "_law_name_right" sNameRight f fd) (T : Txt K mg cB fI c) (D : Dw K mg fN fW fA fT fB fD fdN fdW fdA fdT fdB fdD) (L : Dl K mg fQ fV fZ fdQ fdV fdZ) : FnG P w K mg base CX0 8 f fd ["_law_item"] spRight := by
  have GA : FnOk P w K mg base CX0 1 fA fdA ["thing"] spIsName := ok_isName D.A T.isi T.str T.len T.gM
  have GZ : FnG P w K mg base CX0 7 fZ fdZ ["_law_which", "_law_item"] spSaid := ok_said L.Z T D L.Q L.bQ L.gQ L.V L.bV L.gV
  refine okG F scNameRight (fun vs H Q E h => ?_) (fun cdv A calm outer s H vs Q E hr h => ?_)
  · obtain ⟨x, rfl, _⟩ := h
    rfl
  · obtain ⟨x, rfl, hx, q⟩ := h
    have r1 : Room 1 _ := hr.mono (by decide)
    refine ⟨_, pss_cons (ps_set (i := 1) scNameRight.nd rfl (.inr rfl) pe_str)
      (pss_cons (ps_set (i := 2) scNameRight.nd rfl (.inl rfl) (pe_and (isb (i := 0) T.isi T.str PyProof.Rows.boot_str) (pe_and (pe_chain op_lt op_lt pe_int (pe_callB call_len_str (by rfl) T.len PySem.boot_len (pa_cons (pv 0) pa_nil)) pe_int)
          (pe_one (pe_cmpR (op_eqD hr.units) (pe_lc (own := [("_law_sign", 3)]) (g := gName 3) rfl scNameRight.nd (pi_str (pv 0)) (blkOk_by (N := NNameRight) (sc := defScope sNameRight) (by decide +kernel))
            (fun _ _ _ _ _ => pg_name (i := 3) scNameRight.nd rfl (Or.inl rfl)) (fun _ _ _ _ _ => pts_one (pt_cmpR op_notIn_sign (pv 3) (pv 1) (by rfl))) (fun _ _ _ _ _ => pv 3)) (pe_lst pa_nil) (nomark _))))))
      (pss_cons (ps_if (pt_cmpR op_ne (pe_callB (call_show (show Calm _ from calm) (room_show hr)) (by rfl) T.repr (by decide +kernel) (pa_cons (pe_lst (pa_cons (pe_call GA r1 (by rfl) D.gA D.A.kp D.bA .nil pass0 (pa_cons (pv 0) pa_nil)) (pa_cons (pe_callK0 GA r1 (by rfl) D.gA D.A.kp D.kA pass0 (pk_cons (pv 0) pk_nil)) pa_nil))) pa_nil))
          (pe_callB (call_show (show Calm _ from calm) (room_show hr)) (by rfl) T.repr (by decide +kernel) (pa_cons (pe_lst (pa_cons (pv 2) (pa_cons (pv 2) pa_nil))) pa_nil)) (nomark _)) (pss_one (ps_ret pe_bl)) pss_nil)
      (pss_one (ps_ret (pe_cmpR (op_eqD hr.units) (pe_lst (pa_cons (pe_callG GZ (show Calm _ from calm) hr (by rfl) L.gZ L.Z.kp L.bZ .nil pass0 (pa_cons pe_int (pa_cons (pv 0) pa_nil))) (pa_cons (pe_callG GZ (show Calm _ from calm) hr (by rfl) L.gZ L.Z.kp L.bZ .nil pass0 (pa_cons pe_int (pa_cons (pv 0) pa_nil))) pa_nil)))
        (pe_op op_rep (pe_lst (pa_cons (pe_ix ix_list (pe_lst (pa_cons pe_str (pa_cons pe_str pa_nil))) (pe_callTy call_int1 (by rfl) T.int PyProof.Rows.boot_int (pa_cons (pv 2) pa_nil)) (fun _ _ => rfl)) pa_nil)) pe_int) (nomark _)))))), ?_⟩
    refine ⟨_, rfl, _, _, _, _, _, rfl, .ty "str", (hx.ty (K := K)).choose_spec.1, kit_ty (hx.ty (K := K)).choose_spec.2.2.2, _, rfl, ?_⟩
    cases hv : vStr x with
    | false =>
      have hb : nameV x = false := by
        cases x <;> first | rfl | cases hv
      refine iteF ?_
      have x1 := hx.same (Same.refl H)
      refine ⟨_, rfl, x, rfl, x1, fun H2 s2 => ?_⟩
      have x2 := x1.same s2
      refine ⟨_, rfl, x, rfl, x2, fun H3 s3 => ?_⟩
      have x3 := x2.same s3
      refine ⟨by show 2 ≤ sizeLine; decide, fun p hp => ?_⟩
      have s4 := same_upd (o := .lst [.bl (nameV x), .bl (nameV x)]) hp
      have sw := shows_bools (K := K) [nameV x, nameV x] (upd_same (H := H3) (a := p) (o := .lst [.bl (nameV x), .bl (nameV x)])) (by show 2 ≤ 100; decide)
      refine ⟨.ref p, _, rfl, sw.dq, sw.sh, sw.dp, sw.sz, ?_⟩
      refine ⟨_, rfl, _, rfl, by show 2 ≤ sizeLine; decide, fun p2 hp2 => ?_⟩
      have s5 := same_upd (o := .lst [.bl false, .bl false]) hp2
      have sw2 := shows_bools (K := K) [false, false] (upd_same (H := upd H3 p (.lst [.bl (nameV x), .bl (nameV x)])) (a := p2) (o := .lst [.bl false, .bl false])) (by decide)
      refine ⟨.ref p2, _, rfl, sw2.dq, sw2.sh, sw2.dp, sw2.sz, rfl, _, rfl, ?_⟩
      have s6 := ((((Same.refl H).trans s2).trans s3).trans s4).trans s5
      have x6 := hx.same s6
      generalize upd (upd H3 p (.lst [.bl (nameV x), .bl (nameV x)])) p2 (.lst [.bl false, .bl false]) = H6 at s6 x6 ⊢
      rw [decide_eq_true (show V.str _ = V.str _ from by rw [hb])]
      refine iteF ?_
      refine ⟨_, rfl, 0, x, rfl, x6, by decide, by decide, fun H7 s7 => ?_⟩
      have x7 := x6.same s7
      refine ⟨_, rfl, 2, x, rfl, x7, by decide, by decide, fun H8 s8 => ?_⟩
      refine ⟨by show 2 ≤ sizeLine; decide, fun p3 hp3 => ?_⟩
      have s9 := same_upd (o := .lst [.str (saidOf 0 x), .str (saidOf 2 x)]) hp3
      have l9 := upd_same (H := H8) (a := p3) (o := .lst [.str (saidOf 0 x), .str (saidOf 2 x)])
      refine ⟨by show 2 ≤ sizeLine; decide, fun p4 hp4 => ?_⟩
      have s10 := same_upd (o := .lst [.str "text", .str ""]) hp4
      have e0 : saidOf 0 x = if nameV x = true then ("" : Str) else ("text" : Str) := rfl
      have e2 : saidOf 2 x = saidOf 0 x := rfl
      have at_ : atI [V.str "text", V.str ""] (if false then 1 else 0) = some (.str (saidOf 0 x)) := by
        rw [e0, hb]
        rfl
      refine ⟨_, rfl, .inr ⟨_, rfl, p4, _, _, _, rfl, rfl, SqL.of upd_same, at_, by show 1 ≤ sizeLine; decide, fun p5 hp5 => ?_⟩⟩
      have s11 := same_upd (o := .lst [.str (saidOf 0 x)]) hp5
      refine ⟨p5, 2, _, rfl, rfl, upd_same, by decide, by decide, by show 2 ≤ sizeLine; decide, fun p6 hp6 => ?_⟩
      have s12 := same_upd (o := .lst [.str (saidOf 0 x), .str (saidOf 0 x)]) hp6
      have ok0 : SOk (saidOf 0 x) := by
        rw [e0]
        split
        · exact sok_empty
        · exact sok_text
      refine ⟨twoD (saidOf 0 x) (saidOf 2 x), twoD (saidOf 0 x) (saidOf 0 x), two_dp (s12 _ _ (s11 _ _ (s10 _ _ l9))), two_dp upd_same, two_shaped ok0 ok0, two_shaped ok0 ok0, ?_⟩
      rw [e2, two_eqv ok0 ok0]
      exact q _ ((((((s6.trans s7).trans s8).trans s9).trans s10).trans s11).trans s12)
    | true =>
      obtain ⟨z, rfl⟩ : ∃ z, x = V.str z := by
        cases x <;> first | exact ⟨_, rfl⟩ | cases hv
      have hz : z.length ≤ 100 ∧ Sgn z := by
        cases hx with
        | str _ hl ho => exact ⟨hl, ho⟩
      have nf : nameV (.str z) = (decide (0 < z.length) && (decide (z.length < 9) && decide (z.cps.toList.filter (fun c => !decide (c ∈ letters.cps.toList)) = []))) := name_filter z
      refine iteT ⟨_, rfl, z, rfl, by rw [sizeLine_eq]; omega, _, _, rfl, rfl, _, rfl, ?_⟩
      have i1 : decide ((0 : Int) < z.length) = decide (0 < z.length) := decide_eq_decide.mpr (by omega)
      have i2 : decide ((z.length : Int) < 9) = decide (z.length < 9) := decide_eq_decide.mpr (by omega)
      rw [i1]
      generalize hx0 : V.str z = x at hx nf q ⊢
      cases h1 : decide (0 < z.length) with
      | false =>
        have hb : nameV x = false := by rw [nf, h1, Bool.false_and]
        refine iteF ⟨_, rfl, iteF ?_⟩
        have x1 := hx.same (Same.refl H)
        refine ⟨_, rfl, x, rfl, x1, fun H2 s2 => ?_⟩
        have x2 := x1.same s2
        refine ⟨_, rfl, x, rfl, x2, fun H3 s3 => ?_⟩
        have x3 := x2.same s3
        refine ⟨by show 2 ≤ sizeLine; decide, fun p hp => ?_⟩
        have s4 := same_upd (o := .lst [.bl (nameV x), .bl (nameV x)]) hp
        have sw := shows_bools (K := K) [nameV x, nameV x] (upd_same (H := H3) (a := p) (o := .lst [.bl (nameV x), .bl (nameV x)])) (by show 2 ≤ 100; decide)
        refine ⟨.ref p, _, rfl, sw.dq, sw.sh, sw.dp, sw.sz, ?_⟩
        refine ⟨_, rfl, _, rfl, by show 2 ≤ sizeLine; decide, fun p2 hp2 => ?_⟩
        have s5 := same_upd (o := .lst [.bl false, .bl false]) hp2
        have sw2 := shows_bools (K := K) [false, false] (upd_same (H := upd H3 p (.lst [.bl (nameV x), .bl (nameV x)])) (a := p2) (o := .lst [.bl false, .bl false])) (by decide)
        refine ⟨.ref p2, _, rfl, sw2.dq, sw2.sh, sw2.dp, sw2.sz, rfl, _, rfl, ?_⟩
        have s6 := ((((Same.refl H).trans s2).trans s3).trans s4).trans s5
        have x6 := hx.same s6
        generalize upd (upd H3 p (.lst [.bl (nameV x), .bl (nameV x)])) p2 (.lst [.bl false, .bl false]) = H6 at s6 x6 ⊢
        rw [decide_eq_true (show V.str _ = V.str _ from by rw [hb])]
        refine iteF ?_
        refine ⟨_, rfl, 0, x, rfl, x6, by decide, by decide, fun H7 s7 => ?_⟩
        have x7 := x6.same s7
        refine ⟨_, rfl, 2, x, rfl, x7, by decide, by decide, fun H8 s8 => ?_⟩
        refine ⟨by show 2 ≤ sizeLine; decide, fun p3 hp3 => ?_⟩
        have s9 := same_upd (o := .lst [.str (saidOf 0 x), .str (saidOf 2 x)]) hp3
        have l9 := upd_same (H := H8) (a := p3) (o := .lst [.str (saidOf 0 x), .str (saidOf 2 x)])
        refine ⟨by show 2 ≤ sizeLine; decide, fun p4 hp4 => ?_⟩
        have s10 := same_upd (o := .lst [.str "text", .str ""]) hp4
        have e0 : saidOf 0 x = if nameV x = true then ("" : Str) else ("text" : Str) := rfl
        have e2 : saidOf 2 x = saidOf 0 x := rfl
        have at_ : atI [V.str "text", V.str ""] (if false then 1 else 0) = some (.str (saidOf 0 x)) := by
          rw [e0, hb]
          rfl
        refine ⟨_, rfl, .inr ⟨_, rfl, p4, _, _, _, rfl, rfl, SqL.of upd_same, at_, by show 1 ≤ sizeLine; decide, fun p5 hp5 => ?_⟩⟩
        have s11 := same_upd (o := .lst [.str (saidOf 0 x)]) hp5
        refine ⟨p5, 2, _, rfl, rfl, upd_same, by decide, by decide, by show 2 ≤ sizeLine; decide, fun p6 hp6 => ?_⟩
        have s12 := same_upd (o := .lst [.str (saidOf 0 x), .str (saidOf 0 x)]) hp6
        have ok0 : SOk (saidOf 0 x) := by
          rw [e0]
          split
          · exact sok_empty
          · exact sok_text
        refine ⟨twoD (saidOf 0 x) (saidOf 2 x), twoD (saidOf 0 x) (saidOf 0 x), two_dp (s12 _ _ (s11 _ _ (s10 _ _ l9))), two_dp upd_same, two_shaped ok0 ok0, two_shaped ok0 ok0, ?_⟩
        rw [e2, two_eqv ok0 ok0]
        exact q _ ((((((s6.trans s7).trans s8).trans s9).trans s10).trans s11).trans s12)
      | true =>
        refine iteT ⟨_, _, rfl, rfl, _, rfl, ?_⟩
        rw [i2]
        cases h2 : decide (z.length < 9) with
        | false =>
          have hb : nameV x = false := by rw [nf, h1, h2, Bool.false_and, Bool.and_false]
          refine iteF ?_
          have x1 := hx.same (Same.refl H)
          refine ⟨_, rfl, x, rfl, x1, fun H2 s2 => ?_⟩
          have x2 := x1.same s2
          refine ⟨_, rfl, x, rfl, x2, fun H3 s3 => ?_⟩
          have x3 := x2.same s3
          refine ⟨by show 2 ≤ sizeLine; decide, fun p hp => ?_⟩
          have s4 := same_upd (o := .lst [.bl (nameV x), .bl (nameV x)]) hp
          have sw := shows_bools (K := K) [nameV x, nameV x] (upd_same (H := H3) (a := p) (o := .lst [.bl (nameV x), .bl (nameV x)])) (by show 2 ≤ 100; decide)
          refine ⟨.ref p, _, rfl, sw.dq, sw.sh, sw.dp, sw.sz, ?_⟩
          refine ⟨_, rfl, _, rfl, by show 2 ≤ sizeLine; decide, fun p2 hp2 => ?_⟩
          have s5 := same_upd (o := .lst [.bl false, .bl false]) hp2
          have sw2 := shows_bools (K := K) [false, false] (upd_same (H := upd H3 p (.lst [.bl (nameV x), .bl (nameV x)])) (a := p2) (o := .lst [.bl false, .bl false])) (by decide)
          refine ⟨.ref p2, _, rfl, sw2.dq, sw2.sh, sw2.dp, sw2.sz, rfl, _, rfl, ?_⟩
          have s6 := ((((Same.refl H).trans s2).trans s3).trans s4).trans s5
          have x6 := hx.same s6
          generalize upd (upd H3 p (.lst [.bl (nameV x), .bl (nameV x)])) p2 (.lst [.bl false, .bl false]) = H6 at s6 x6 ⊢
          rw [decide_eq_true (show V.str _ = V.str _ from by rw [hb])]
          refine iteF ?_
          refine ⟨_, rfl, 0, x, rfl, x6, by decide, by decide, fun H7 s7 => ?_⟩
          have x7 := x6.same s7
          refine ⟨_, rfl, 2, x, rfl, x7, by decide, by decide, fun H8 s8 => ?_⟩
          refine ⟨by show 2 ≤ sizeLine; decide, fun p3 hp3 => ?_⟩
          have s9 := same_upd (o := .lst [.str (saidOf 0 x), .str (saidOf 2 x)]) hp3
          have l9 := upd_same (H := H8) (a := p3) (o := .lst [.str (saidOf 0 x), .str (saidOf 2 x)])
          refine ⟨by show 2 ≤ sizeLine; decide, fun p4 hp4 => ?_⟩
          have s10 := same_upd (o := .lst [.str "text", .str ""]) hp4
          have e0 : saidOf 0 x = if nameV x = true then ("" : Str) else ("text" : Str) := rfl
          have e2 : saidOf 2 x = saidOf 0 x := rfl
          have at_ : atI [V.str "text", V.str ""] (if false then 1 else 0) = some (.str (saidOf 0 x)) := by
            rw [e0, hb]
            rfl
          refine ⟨_, rfl, .inr ⟨_, rfl, p4, _, _, _, rfl, rfl, SqL.of upd_same, at_, by show 1 ≤ sizeLine; decide, fun p5 hp5 => ?_⟩⟩
          have s11 := same_upd (o := .lst [.str (saidOf 0 x)]) hp5
          refine ⟨p5, 2, _, rfl, rfl, upd_same, by decide, by decide, by show 2 ≤ sizeLine; decide, fun p6 hp6 => ?_⟩
          have s12 := same_upd (o := .lst [.str (saidOf 0 x), .str (saidOf 0 x)]) hp6
          have ok0 : SOk (saidOf 0 x) := by
            rw [e0]
            split
            · exact sok_empty
            · exact sok_text
          refine ⟨twoD (saidOf 0 x) (saidOf 2 x), twoD (saidOf 0 x) (saidOf 0 x), two_dp (s12 _ _ (s11 _ _ (s10 _ _ l9))), two_dp upd_same, two_shaped ok0 ok0, two_shaped ok0 ok0, ?_⟩
          rw [e2, two_eqv ok0 ok0]
          exact q _ ((((((s6.trans s7).trans s8).trans s9).trans s10).trans s11).trans s12)
        | true =>
          have hb : nameV x = decide (z.cps.toList.filter (fun c => !decide (c ∈ letters.cps.toList)) = []) := by rw [nf, h1, h2, Bool.true_and, Bool.true_and]
          refine iteT ?_
          refine ⟨_, rfl, z, hx0.symm, fun D hD => ?_⟩
          refine lc_it walk_str (fun i H' => (∀ b o, b ≠ D → H b = some o → H' b = some o) ∧ H' D = some (.lst (((z.cps.toList.take i).filter (fun c => !decide (c ∈ letters.cps.toList))).map fun c => V.str ⟨#[c]⟩))) ⟨fun b o n e => ?_, upd_same⟩ (fun _ _ _ _ => trivial) ?_ ?_
          · rw [upd_ne n]
            exact e
          · rintro i y H1 H2 hi ⟨k, hd⟩ ⟨rfl, c, hc, rfl⟩
            have hc' : z.cps.toList[i]? = some c := by rw [Array.getElem?_toList]; exact hc
            have tk : z.cps.toList.take (i + 1) = z.cps.toList.take i ++ [c] := by
              rw [List.take_add_one, hc']
              rfl
            refine ⟨rfl, _, rfl, _, rfl, c, letters, rfl, rfl, _, rfl, ?_⟩
            cases hin : decide (c ∈ letters.cps.toList) with
            | true =>
              refine iteF ⟨k, ?_⟩
              rw [hd, tk, List.filter_append, List.filter_cons, if_neg (by rw [hin]; decide), List.filter_nil, List.append_nil]
            | false =>
              refine iteT ⟨_, rfl, _, hd, ?_, fun b o n e => ?_, ?_⟩
              · rw [List.length_map]
                refine Nat.lt_of_le_of_lt (List.length_filter_le _ _) ?_
                rw [List.length_take, sizeLine_eq, ← len_is]
                omega
              · rw [upd_ne n]
                exact k b o n e
              · rw [upd_same, tk, List.filter_append, List.map_append, List.filter_cons, if_pos (by rw [hin]; rfl), List.filter_nil]
                rfl
          · rintro H1 ⟨k, hd⟩
            rw [List.take_of_length_le (by rw [Array.length_toList]; exact Nat.le_refl _)] at hd
            refine ⟨by show 0 ≤ sizeLine; decide, fun pe hpe => ?_⟩
            have se := same_upd (o := .lst []) hpe
            have okf : ∀ c ∈ z.cps.toList.filter (fun c => !decide (c ∈ letters.cps.toList)), c < 0x110000 := fun c hc => hz.2.ok c (List.mem_filter.mp hc).1
            refine ⟨sgnD _, sgnD [], sgn_dp (se _ _ hd), sgn_dp (l := []) upd_same, sgn_shaped _ okf, sgn_shaped [] (fun c h => by cases h), ?_⟩
            rw [sgn_nil]
            have s1 : Same H (upd H1 pe (.lst [])) := fun b o e => se _ _ (k b o (fun z => by rw [z, hD] at e; cases e) e)
            generalize upd H1 pe (.lst []) = H1' at s1 ⊢
            have x1 := hx.same s1
            refine ⟨_, rfl, x, rfl, x1, fun H2 s2 => ?_⟩
            have x2 := x1.same s2
            refine ⟨_, rfl, x, rfl, x2, fun H3 s3 => ?_⟩
            have x3 := x2.same s3
            refine ⟨by show 2 ≤ sizeLine; decide, fun p hp => ?_⟩
            have s4 := same_upd (o := .lst [.bl (nameV x), .bl (nameV x)]) hp
            have sw := shows_bools (K := K) [nameV x, nameV x] (upd_same (H := H3) (a := p) (o := .lst [.bl (nameV x), .bl (nameV x)])) (by show 2 ≤ 100; decide)
            refine ⟨.ref p, _, rfl, sw.dq, sw.sh, sw.dp, sw.sz, ?_⟩
            refine ⟨_, rfl, _, rfl, by show 2 ≤ sizeLine; decide, fun p2 hp2 => ?_⟩
            have s5 := same_upd (o := .lst [.bl (decide (z.cps.toList.filter (fun c => !decide (c ∈ letters.cps.toList)) = [])), .bl (decide (z.cps.toList.filter (fun c => !decide (c ∈ letters.cps.toList)) = []))]) hp2
            have sw2 := shows_bools (K := K) [(decide (z.cps.toList.filter (fun c => !decide (c ∈ letters.cps.toList)) = [])), (decide (z.cps.toList.filter (fun c => !decide (c ∈ letters.cps.toList)) = []))] (upd_same (H := upd H3 p (.lst [.bl (nameV x), .bl (nameV x)])) (a := p2) (o := .lst [.bl (decide (z.cps.toList.filter (fun c => !decide (c ∈ letters.cps.toList)) = [])), .bl (decide (z.cps.toList.filter (fun c => !decide (c ∈ letters.cps.toList)) = []))])) (by show 2 ≤ 100; decide)
            refine ⟨.ref p2, _, rfl, sw2.dq, sw2.sh, sw2.dp, sw2.sz, rfl, _, rfl, ?_⟩
            have s6 := (((s1.trans s2).trans s3).trans s4).trans s5
            have x6 := hx.same s6
            generalize upd (upd H3 p (.lst [.bl (nameV x), .bl (nameV x)])) p2 (.lst [.bl (decide (z.cps.toList.filter (fun c => !decide (c ∈ letters.cps.toList)) = [])), .bl (decide (z.cps.toList.filter (fun c => !decide (c ∈ letters.cps.toList)) = []))]) = H6 at s6 x6 ⊢
            rw [decide_eq_true (show V.str _ = V.str _ from by rw [hb])]
            refine iteF ?_
            refine ⟨_, rfl, 0, x, rfl, x6, by decide, by decide, fun H7 s7 => ?_⟩
            have x7 := x6.same s7
            refine ⟨_, rfl, 2, x, rfl, x7, by decide, by decide, fun H8 s8 => ?_⟩
            refine ⟨by show 2 ≤ sizeLine; decide, fun p3 hp3 => ?_⟩
            have s9 := same_upd (o := .lst [.str (saidOf 0 x), .str (saidOf 2 x)]) hp3
            have l9 := upd_same (H := H8) (a := p3) (o := .lst [.str (saidOf 0 x), .str (saidOf 2 x)])
            refine ⟨by show 2 ≤ sizeLine; decide, fun p4 hp4 => ?_⟩
            have s10 := same_upd (o := .lst [.str "text", .str ""]) hp4
            have e0 : saidOf 0 x = if nameV x = true then ("" : Str) else ("text" : Str) := rfl
            have e2 : saidOf 2 x = saidOf 0 x := rfl
            have at_ : atI [V.str "text", V.str ""] (if (decide (z.cps.toList.filter (fun c => !decide (c ∈ letters.cps.toList)) = [])) then 1 else 0) = some (.str (saidOf 0 x)) := by
              rw [e0, hb]
              cases (decide (z.cps.toList.filter (fun c => !decide (c ∈ letters.cps.toList)) = [])) <;> rfl
            refine ⟨_, rfl, .inr ⟨_, rfl, p4, _, _, _, rfl, rfl, SqL.of upd_same, at_, by show 1 ≤ sizeLine; decide, fun p5 hp5 => ?_⟩⟩
            have s11 := same_upd (o := .lst [.str (saidOf 0 x)]) hp5
            refine ⟨p5, 2, _, rfl, rfl, upd_same, by decide, by decide, by show 2 ≤ sizeLine; decide, fun p6 hp6 => ?_⟩
            have s12 := same_upd (o := .lst [.str (saidOf 0 x), .str (saidOf 0 x)]) hp6
            have ok0 : SOk (saidOf 0 x) := by
              rw [e0]
              split
              · exact sok_empty
              · exact sok_text
            refine ⟨twoD (saidOf 0 x) (saidOf 2 x), twoD (saidOf 0 x) (saidOf 0 x), two_dp (s12 _ _ (s11 _ _ (s10 _ _ l9))), two_dp upd_same, two_shaped ok0 ok0, two_shaped ok0 ok0, ?_⟩
            rw [e2, two_eqv ok0 ok0]
            exact q _ ((((((s6.trans s7).trans s8).trans s9).trans s10).trans s11).trans s12)
end
end Pk
namespace Pk
open PySem L2
theorem cut_first {z : Str} (h : 1 ≤ z.length) : decide (V.str (cutS z none (some 1)) = V.str " ") = decide (z.cps.toList[0]? = some 32) := by
  have ln := len_is z
  have e : TL.tl (cutS z none (some 1)) = z.cps.toList.take 1 := by
    show ((z.cps.toList.drop (HT.sIx z.length 0 none)).take (HT.sIx z.length z.length (some 1) - HT.sIx z.length 0 none)) = _
    rw [HT.sIx_none, show HT.sIx z.length z.length (some 1) = min 1 z.length from HT.sIx_nat z.length z.length 1, List.drop_zero, Nat.min_eq_left h]
  refine decide_eq_decide.mpr ⟨fun q => ?_, fun q => ?_⟩
  · have e2 := congrArg TL.tl (V.str.inj q)
    rw [e, blank_tl] at e2
    cases hz : z.cps.toList with
    | nil =>
      rw [hz] at e2
      cases e2
    | cons c r =>
      rw [hz] at e2
      have e3 : [c] = [32] := e2
      rw [(List.cons.inj e3).1]
      rfl
  · refine congrArg V.str (TL.ext_tl ?_)
    rw [e, blank_tl]
    cases hz : z.cps.toList with
    | nil =>
      rw [hz] at q
      cases q
    | cons c r =>
      rw [hz] at q
      have : c = 32 := Option.some.inj q
      rw [this]
      rfl
theorem drop_last {l : List Nat} (h : l ≠ []) : l.drop (l.length - 1) = [l.getLast h] :=
  (congrArg (List.drop (l.length - 1)) (List.dropLast_concat_getLast h).symm).trans (List.drop_left' List.length_dropLast)
theorem cut_last {z : Str} (h : 1 ≤ z.length) : decide (V.str (cutS z (some (-1)) none) = V.str " ") = decide (z.cps.toList.getLast? = some 32) := by
  have ln := len_is z
  have hne : z.cps.toList ≠ [] := fun e => by rw [e] at ln; simp at ln; omega
  have e : TL.tl (cutS z (some (-1)) none) = [z.cps.toList.getLast hne] := by
    show ((z.cps.toList.drop (HT.sIx z.length 0 (some (-1)))).take (HT.sIx z.length z.length none - HT.sIx z.length 0 (some (-1)))) = _
    have e1 : HT.sIx z.length 0 (some (-1)) = z.length - 1 := by
      show (if (-1 : Int) < 0 then ((-1 : Int) + (z.length : Int)).toNat else min (-1 : Int).toNat z.length) = z.length - 1
      rw [if_pos (by decide)]
      omega
    rw [e1, HT.sIx_none, show z.length - (z.length - 1) = 1 by omega]
    have e2 : z.cps.toList.drop (z.length - 1) = [z.cps.toList.getLast hne] := by
      have h3 := drop_last hne
      rw [← ln] at h3
      exact h3
    rw [e2]
    rfl
  have gl : z.cps.toList.getLast? = some (z.cps.toList.getLast hne) := List.getLast?_eq_getLast hne
  rw [gl]
  refine decide_eq_decide.mpr ⟨fun q => ?_, fun q => ?_⟩
  · have e2 := congrArg TL.tl (V.str.inj q)
    rw [e, blank_tl] at e2
    rw [(List.cons.inj e2).1]
  · refine congrArg V.str (TL.ext_tl ?_)
    rw [e, blank_tl, Option.some.inj q]
theorem sign_ten {z : Str} (ho : Sgn z) : z.cps.toList.all signOk = !decide (10 ∈ z.cps.toList) := by
  rw [Bool.eq_iff_iff, List.all_eq_true]
  constructor
  · intro h
    have : ¬ (10 ∈ z.cps.toList) := fun hm => by
      have := h 10 hm
      revert this
      decide
    rw [decide_eq_false this]
    rfl
  · intro h c hc
    have hn : ¬ (10 ∈ z.cps.toList) := by
      intro hm
      rw [decide_eq_true hm] at h
      cases h
    rcases ho c hc with q | q
    · unfold signOk
      rw [decide_eq_true q.1, decide_eq_true q.2.1, decide_eq_false q.2.2]
      rfl
    · rw [q] at hc
      exact absurd hc hn
theorem text_law {z : Str} (ho : Sgn z) : textT z = ((decide (0 < z.length) && (decide (z.length < 31) && !decide (10 ∈ z.cps.toList))) && (!decide (z.cps.toList[0]? = some 32) && !decide (z.cps.toList.getLast? = some 32))) := by
  unfold textT
  rw [sign_ten ho]
  have e1 : decide (1 ≤ z.length) = decide (0 < z.length) := decide_eq_decide.mpr (by omega)
  have e2 : decide (z.length ≤ 30) = decide (z.length < 31) := decide_eq_decide.mpr (by omega)
  rw [e1, e2]
  cases decide (0 < z.length) <;> cases decide (z.length < 31) <;> cases decide (10 ∈ z.cps.toList) <;> cases decide (z.cps.toList[0]? = some 32) <;> cases decide (z.cps.toList.getLast? = some 32) <;> rfl
section
variable {P : Program} {w : World} {K : PySem.W.Frag} {mg : Str → Option Value} {base : Heap} {cB fI : Addr} {c : Nat → Addr}
variable {fN fW fA fT fB fD : Addr} {fdN fdW fdA fdT fdB fdD : FuncData}
theorem scTextRight : FnScope ["_law_item", "_law_good"] ["_law_item"] (defScope sTextRight) := ⟨rfl, rfl, rfl, by decide +kernel, rfl, by decide +kernel, by decide +kernel⟩
theorem ok_textRight {f : Addr} {fd : FuncData} (F : Fun K "_law_text_right" "_law_text_right" sTextRight f fd) (T : Txt K mg cB fI c) (D : Dw K mg fN fW fA fT fB fD fdN fdW fdA fdT fdB fdD) : FnG P w K mg base CX0 3 f fd ["_law_item"] spRight := by
  have GT : FnOk P w K mg base CX0 2 fT fdT ["thing"] spIsText := ok_isText D.T T.isi T.str T.len T.all T.ord T.gP T.gS
  refine okG F scTextRight (fun vs H Q E h => ?_) (fun cdv A calm outer s H vs Q E hr h => ?_)
  · obtain ⟨x, rfl, _⟩ := h
    rfl
  · obtain ⟨x, rfl, hx, q⟩ := h
    refine ⟨_, pss_cons (ps_set (i := 1) scTextRight.nd rfl (.inl rfl) (pe_and (isb (i := 0) T.isi T.str PyProof.Rows.boot_str) (pe_and (pe_chain op_lt op_lt pe_int (pe_callB call_len_str (by rfl) T.len PySem.boot_len (pa_cons (pv 0) pa_nil)) pe_int)
          (pe_one (pe_cmpR op_notIn_sign pe_str (pv 0) (by rfl))))))
      (pss_cons (ps_set (i := 1) scTextRight.nd rfl (.inl rfl) (pe_and (pv 1) (pe_and (pe_cmpR op_ne (pe_slice sl_str (pv 0) po_none (po_some pe_int)) pe_str (nomark _)) (pe_one (pe_cmpR op_ne (pe_slice sl_str (pv 0) (po_some (pe_un un_neg pe_int)) po_none) pe_str (nomark _))))))
      (pss_one (ps_ret (pe_cmpR op_eq (pe_callB (call_show (show Calm _ from calm) (room_show hr)) (by rfl) T.repr (by decide +kernel) (pa_cons (pe_lst (pa_cons (pe_call GT hr (by rfl) D.gT D.T.kp D.bT .nil pass0 (pa_cons (pv 0) pa_nil)) (pa_cons (pe_callK0 GT hr (by rfl) D.gT D.T.kp D.kT pass0 (pk_cons (pv 0) pk_nil)) pa_nil))) pa_nil))
          (pe_callB (call_show (show Calm _ from calm) (room_show hr)) (by rfl) T.repr (by decide +kernel) (pa_cons (pe_lst (pa_cons (pv 1) (pa_cons (pv 1) pa_nil))) pa_nil)) (nomark _))))), ?_⟩
    refine ⟨_, rfl, _, _, _, _, _, rfl, .ty "str", (hx.ty (K := K)).choose_spec.1, kit_ty (hx.ty (K := K)).choose_spec.2.2.2, _, rfl, ?_⟩
    cases hv : vStr x with
    | false =>
      have hb : textV x = false := by
        cases x <;> first | rfl | cases hv
      refine iteF ⟨_, rfl, _, rfl, iteF ?_⟩
      refine ⟨_, rfl, x, rfl, hx, fun H2 s2 => ?_⟩
      have x2 := hx.same s2
      refine ⟨_, rfl, x, rfl, x2, fun H3 s3 => ?_⟩
      refine ⟨by show 2 ≤ sizeLine; decide, fun p hp => ?_⟩
      have s4 := same_upd (o := .lst [.bl (textV x), .bl (textV x)]) hp
      have sw := shows_bools (K := K) [textV x, textV x] (upd_same (H := H3) (a := p) (o := .lst [.bl (textV x), .bl (textV x)])) (by show 2 ≤ 100; decide)
      refine ⟨.ref p, _, rfl, sw.dq, sw.sh, sw.dp, sw.sz, ?_⟩
      refine ⟨_, rfl, _, rfl, by show 2 ≤ sizeLine; decide, fun p2 hp2 => ?_⟩
      have s5 := same_upd (o := .lst [.bl false, .bl false]) hp2
      have sw2 := shows_bools (K := K) [false, false] (upd_same (H := upd H3 p (.lst [.bl (textV x), .bl (textV x)])) (a := p2) (o := .lst [.bl false, .bl false])) (by show 2 ≤ 100; decide)
      refine ⟨.ref p2, _, rfl, sw2.dq, sw2.sh, sw2.dp, sw2.sz, rfl, ?_⟩
      have ed : decide (V.str (PyData.list ([textV x, textV x].map .bool)).shown = V.str (PyData.list ([false, false].map .bool)).shown) = true := decide_eq_true (by rw [hb])
      show Q (.bl (decide (V.str (PyData.list ([textV x, textV x].map .bool)).shown = V.str (PyData.list ([false, false].map .bool)).shown))) _
      rw [ed]
      exact q _ (((s2.trans s3).trans s4).trans s5)
    | true =>
      obtain ⟨z, rfl⟩ : ∃ z, x = V.str z := by
        cases x <;> first | exact ⟨_, rfl⟩ | cases hv
      have hz : z.length ≤ 100 ∧ Sgn z := by
        cases hx with
        | str _ hl ho => exact ⟨hl, ho⟩
      have nf : textV (.str z) = _ := text_law hz.2
      refine iteT ⟨_, rfl, z, rfl, by rw [sizeLine_eq]; omega, _, _, rfl, rfl, _, rfl, ?_⟩
      have i1 : decide ((0 : Int) < z.length) = decide (0 < z.length) := decide_eq_decide.mpr (by omega)
      have i2 : decide ((z.length : Int) < 31) = decide (z.length < 31) := decide_eq_decide.mpr (by omega)
      rw [i1]
      generalize hx0 : V.str z = x at hx nf q ⊢
      cases h1 : decide (0 < z.length) with
      | false =>
        have hb : textV x = false := by rw [nf, h1, Bool.false_and, Bool.false_and]
        refine iteF ⟨_, rfl, iteF ⟨_, rfl, _, rfl, iteF ?_⟩⟩
        refine ⟨_, rfl, x, rfl, hx, fun H2 s2 => ?_⟩
        have x2 := hx.same s2
        refine ⟨_, rfl, x, rfl, x2, fun H3 s3 => ?_⟩
        refine ⟨by show 2 ≤ sizeLine; decide, fun p hp => ?_⟩
        have s4 := same_upd (o := .lst [.bl (textV x), .bl (textV x)]) hp
        have sw := shows_bools (K := K) [textV x, textV x] (upd_same (H := H3) (a := p) (o := .lst [.bl (textV x), .bl (textV x)])) (by show 2 ≤ 100; decide)
        refine ⟨.ref p, _, rfl, sw.dq, sw.sh, sw.dp, sw.sz, ?_⟩
        refine ⟨_, rfl, _, rfl, by show 2 ≤ sizeLine; decide, fun p2 hp2 => ?_⟩
        have s5 := same_upd (o := .lst [.bl false, .bl false]) hp2
        have sw2 := shows_bools (K := K) [false, false] (upd_same (H := upd H3 p (.lst [.bl (textV x), .bl (textV x)])) (a := p2) (o := .lst [.bl false, .bl false])) (by show 2 ≤ 100; decide)
        refine ⟨.ref p2, _, rfl, sw2.dq, sw2.sh, sw2.dp, sw2.sz, rfl, ?_⟩
        have ed : decide (V.str (PyData.list ([textV x, textV x].map .bool)).shown = V.str (PyData.list ([false, false].map .bool)).shown) = true := decide_eq_true (by rw [hb])
        show Q (.bl (decide (V.str (PyData.list ([textV x, textV x].map .bool)).shown = V.str (PyData.list ([false, false].map .bool)).shown))) _
        rw [ed]
        exact q _ (((s2.trans s3).trans s4).trans s5)
      | true =>
        have p1 : 1 ≤ z.length := of_decide_eq_true h1
        refine iteT ⟨_, _, rfl, rfl, _, rfl, ?_⟩
        rw [i2]
        cases h2 : decide (z.length < 31) with
        | false =>
          have hb : textV x = false := by rw [nf, h1, h2, Bool.false_and, Bool.and_false, Bool.false_and]
          refine iteF ⟨_, rfl, _, rfl, iteF ?_⟩
          refine ⟨_, rfl, x, rfl, hx, fun H2 s2 => ?_⟩
          have x2 := hx.same s2
          refine ⟨_, rfl, x, rfl, x2, fun H3 s3 => ?_⟩
          refine ⟨by show 2 ≤ sizeLine; decide, fun p hp => ?_⟩
          have s4 := same_upd (o := .lst [.bl (textV x), .bl (textV x)]) hp
          have sw := shows_bools (K := K) [textV x, textV x] (upd_same (H := H3) (a := p) (o := .lst [.bl (textV x), .bl (textV x)])) (by show 2 ≤ 100; decide)
          refine ⟨.ref p, _, rfl, sw.dq, sw.sh, sw.dp, sw.sz, ?_⟩
          refine ⟨_, rfl, _, rfl, by show 2 ≤ sizeLine; decide, fun p2 hp2 => ?_⟩
          have s5 := same_upd (o := .lst [.bl false, .bl false]) hp2
          have sw2 := shows_bools (K := K) [false, false] (upd_same (H := upd H3 p (.lst [.bl (textV x), .bl (textV x)])) (a := p2) (o := .lst [.bl false, .bl false])) (by show 2 ≤ 100; decide)
          refine ⟨.ref p2, _, rfl, sw2.dq, sw2.sh, sw2.dp, sw2.sz, rfl, ?_⟩
          have ed : decide (V.str (PyData.list ([textV x, textV x].map .bool)).shown = V.str (PyData.list ([false, false].map .bool)).shown) = true := decide_eq_true (by rw [hb])
          show Q (.bl (decide (V.str (PyData.list ([textV x, textV x].map .bool)).shown = V.str (PyData.list ([false, false].map .bool)).shown))) _
          rw [ed]
          exact q _ (((s2.trans s3).trans s4).trans s5)
        | true =>
          refine iteT ⟨_, rfl, 10, z, congrArg V.str (by decide +kernel), hx0.symm, _, rfl, _, rfl, ?_⟩
          cases h3 : decide (10 ∈ z.cps.toList) with
          | true =>
            have hb : textV x = false := by rw [nf, h1, h2, h3]; rfl
            refine iteF ?_
            refine ⟨_, rfl, x, rfl, hx, fun H2 s2 => ?_⟩
            have x2 := hx.same s2
            refine ⟨_, rfl, x, rfl, x2, fun H3 s3 => ?_⟩
            refine ⟨by show 2 ≤ sizeLine; decide, fun p hp => ?_⟩
            have s4 := same_upd (o := .lst [.bl (textV x), .bl (textV x)]) hp
            have sw := shows_bools (K := K) [textV x, textV x] (upd_same (H := H3) (a := p) (o := .lst [.bl (textV x), .bl (textV x)])) (by show 2 ≤ 100; decide)
            refine ⟨.ref p, _, rfl, sw.dq, sw.sh, sw.dp, sw.sz, ?_⟩
            refine ⟨_, rfl, _, rfl, by show 2 ≤ sizeLine; decide, fun p2 hp2 => ?_⟩
            have s5 := same_upd (o := .lst [.bl false, .bl false]) hp2
            have sw2 := shows_bools (K := K) [false, false] (upd_same (H := upd H3 p (.lst [.bl (textV x), .bl (textV x)])) (a := p2) (o := .lst [.bl false, .bl false])) (by show 2 ≤ 100; decide)
            refine ⟨.ref p2, _, rfl, sw2.dq, sw2.sh, sw2.dp, sw2.sz, rfl, ?_⟩
            have ed : decide (V.str (PyData.list ([textV x, textV x].map .bool)).shown = V.str (PyData.list ([false, false].map .bool)).shown) = true := decide_eq_true (by rw [hb])
            show Q (.bl (decide (V.str (PyData.list ([textV x, textV x].map .bool)).shown = V.str (PyData.list ([false, false].map .bool)).shown))) _
            rw [ed]
            exact q _ (((s2.trans s3).trans s4).trans s5)
          | false =>
            refine iteT ⟨_, rfl, _, rfl, z, hx0.symm, by rw [sizeLine_eq]; omega, rfl, _, rfl, ?_⟩
            rw [cut_first p1]
            cases h4 : decide (z.cps.toList[0]? = some 32) with
            | true =>
              have hb : textV x = false := by rw [nf, h1, h2, h3, h4]; rfl
              refine iteF ?_
              refine ⟨_, rfl, x, rfl, hx, fun H2 s2 => ?_⟩
              have x2 := hx.same s2
              refine ⟨_, rfl, x, rfl, x2, fun H3 s3 => ?_⟩
              refine ⟨by show 2 ≤ sizeLine; decide, fun p hp => ?_⟩
              have s4 := same_upd (o := .lst [.bl (textV x), .bl (textV x)]) hp
              have sw := shows_bools (K := K) [textV x, textV x] (upd_same (H := H3) (a := p) (o := .lst [.bl (textV x), .bl (textV x)])) (by show 2 ≤ 100; decide)
              refine ⟨.ref p, _, rfl, sw.dq, sw.sh, sw.dp, sw.sz, ?_⟩
              refine ⟨_, rfl, _, rfl, by show 2 ≤ sizeLine; decide, fun p2 hp2 => ?_⟩
              have s5 := same_upd (o := .lst [.bl false, .bl false]) hp2
              have sw2 := shows_bools (K := K) [false, false] (upd_same (H := upd H3 p (.lst [.bl (textV x), .bl (textV x)])) (a := p2) (o := .lst [.bl false, .bl false])) (by show 2 ≤ 100; decide)
              refine ⟨.ref p2, _, rfl, sw2.dq, sw2.sh, sw2.dp, sw2.sz, rfl, ?_⟩
              have ed : decide (V.str (PyData.list ([textV x, textV x].map .bool)).shown = V.str (PyData.list ([false, false].map .bool)).shown) = true := decide_eq_true (by rw [hb])
              show Q (.bl (decide (V.str (PyData.list ([textV x, textV x].map .bool)).shown = V.str (PyData.list ([false, false].map .bool)).shown))) _
              rw [ed]
              exact q _ (((s2.trans s3).trans s4).trans s5)
            | false =>
              refine iteT ⟨_, rfl, _, rfl, _, rfl, z, hx0.symm, by rw [sizeLine_eq]; omega, rfl, ?_⟩
              have hb : textV x = (!decide (V.str (cutS z (some (-1)) none) = V.str " ")) := by rw [nf, h1, h2, h3, h4, cut_last p1]; rfl
              refine ⟨_, rfl, x, rfl, hx, fun H2 s2 => ?_⟩
              have x2 := hx.same s2
              refine ⟨_, rfl, x, rfl, x2, fun H3 s3 => ?_⟩
              refine ⟨by show 2 ≤ sizeLine; decide, fun p hp => ?_⟩
              have s4 := same_upd (o := .lst [.bl (textV x), .bl (textV x)]) hp
              have sw := shows_bools (K := K) [textV x, textV x] (upd_same (H := H3) (a := p) (o := .lst [.bl (textV x), .bl (textV x)])) (by show 2 ≤ 100; decide)
              refine ⟨.ref p, _, rfl, sw.dq, sw.sh, sw.dp, sw.sz, ?_⟩
              refine ⟨_, rfl, _, rfl, by show 2 ≤ sizeLine; decide, fun p2 hp2 => ?_⟩
              have s5 := same_upd (o := .lst [.bl (!decide (V.str (cutS z (some (-1)) none) = V.str " ")), .bl (!decide (V.str (cutS z (some (-1)) none) = V.str " "))]) hp2
              have sw2 := shows_bools (K := K) [(!decide (V.str (cutS z (some (-1)) none) = V.str " ")), (!decide (V.str (cutS z (some (-1)) none) = V.str " "))] (upd_same (H := upd H3 p (.lst [.bl (textV x), .bl (textV x)])) (a := p2) (o := .lst [.bl (!decide (V.str (cutS z (some (-1)) none) = V.str " ")), .bl (!decide (V.str (cutS z (some (-1)) none) = V.str " "))])) (by show 2 ≤ 100; decide)
              refine ⟨.ref p2, _, rfl, sw2.dq, sw2.sh, sw2.dp, sw2.sz, rfl, ?_⟩
              have ed : decide (V.str (PyData.list ([textV x, textV x].map .bool)).shown = V.str (PyData.list ([(!decide (V.str (cutS z (some (-1)) none) = V.str " ")), (!decide (V.str (cutS z (some (-1)) none) = V.str " "))].map .bool)).shown) = true := decide_eq_true (by rw [hb])
              show Q (.bl (decide (V.str (PyData.list ([textV x, textV x].map .bool)).shown = V.str (PyData.list ([(!decide (V.str (cutS z (some (-1)) none) = V.str " ")), (!decide (V.str (cutS z (some (-1)) none) = V.str " "))].map .bool)).shown))) _
              rw [ed]
              exact q _ (((s2.trans s3).trans s4).trans s5)
end
end Pk
namespace Pk
open PySem L2
theorem le_var {k : Bool} {n : Nat} {σ : L2.St} {H : Hp} {i hi : Int} {QQ : VK} (hn : σ[n]? = some (some (.int hi))) (q : QQ (.bl (k && decide (i ≤ hi))) H) :
    if k = true then tVar n σ H (fun w' H4 => rI0 (fun i j => .bl (decide (i ≤ j))) (.int i) w' H4 QQ) else QQ (.bl false) H := by
  cases k with
  | true => exact iteT ⟨_, hn, _, _, rfl, rfl, q⟩
  | false => exact iteF q
theorem le_int {k : Bool} {σ : L2.St} {H : Hp} {i hi : Int} {QQ : VK} (q : QQ (.bl (k && decide (i ≤ hi))) H) :
    if k = true then tC (.int hi) σ H (fun w' H4 => rI0 (fun i j => .bl (decide (i ≤ j))) (.int i) w' H4 QQ) else QQ (.bl false) H := by
  cases k with
  | true => exact iteT ⟨_, _, rfl, rfl, q⟩
  | false => exact iteF q
section
variable {P : Program} {w : World} {K : PySem.W.Frag} {mg : Str → Option Value} {base : Heap} {cB fI : Addr} {c : Nat → Addr}
variable {fN fW fA fT fB fD : Addr} {fdN fdW fdA fdT fdB fdD : FuncData} {fQ fV fZ : Addr} {fdQ fdV fdZ : FuncData}
theorem scNumberRight : FnScope ["_law_item", "_law_low", "_law_high", "_law_whole", "_law_told", "_law_due"] ["_law_item", "_law_low", "_law_high"] (defScope sNumberRight) := ⟨rfl, rfl, rfl, by decide +kernel, rfl, by decide +kernel, by decide +kernel⟩
theorem ok_numberRight {f : Addr} {fd : FuncData} (F : Fun K "_law_number_right" "_law_number_right" sNumberRight f fd) (T : Txt K mg cB fI c) (D : Dw K mg fN fW fA fT fB fD fdN fdW fdA fdT fdB fdD) (L : Dl K mg fQ fV fZ fdQ fdV fdZ) : FnG P w K mg base CX0 8 f fd ["_law_item", "_law_low", "_law_high"] spRight3 := by
  have GW : FnOk P w K mg base CX0 2 fW fdW psW spIsWhole := ok_isWhole D.W D.N D.bN D.gN T.isi T.int T.bool
  have GZ : FnG P w K mg base CX0 7 fZ fdZ ["_law_which", "_law_item"] spSaid := ok_said L.Z T D L.Q L.bQ L.gQ L.V L.bV L.gV
  obtain ⟨d1, hd1, b1⟩ := bW1 D.W
  obtain ⟨d2, hd2, b2⟩ := bW2 D.W
  obtain ⟨d3, hd3, b3⟩ := bW3 D.W
  obtain ⟨i21, k21⟩ := kW21 D.W
  obtain ⟨i1, k1⟩ := kW1 D.W
  obtain ⟨i0, k0⟩ := kW0 D.W
  refine okG F scNumberRight (fun vs H Q E h => ?_) (fun cdv A calm outer s H vs Q E hr h => ?_)
  · obtain ⟨x, lo, hi, rfl, _⟩ := h
    rfl
  · obtain ⟨x, lo, hi, rfl, hx, q⟩ := h
    have r2 : Room 2 _ := hr.mono (by decide)
    refine ⟨_, pss_cons (ps_set (i := 3) scNumberRight.nd rfl (.inl rfl) (pe_and (isb (i := 0) T.isi T.int PyProof.Rows.boot_int) (pe_one (pe_not (isb (i := 0) (T := "bool") T.isi T.bool (by decide +kernel))))))
      (pss_cons (ps_set (i := 4) scNumberRight.nd rfl (.inl rfl) (pe_lst (pa_cons (pe_call GW r2 (by rfl) D.gW D.kW b3 hd3 pass0 (pa_cons (pv 0) (pa_cons (pv 1) (pa_cons (pv 2) pa_nil)))) (pa_cons (pe_callN GW r2 (by rfl) D.gW D.kW k21 pass0 (pa_cons (pv 0) pa_nil) (pk_cons (pv 2) (pk_cons (pv 1) pk_nil))) (pa_cons (pe_call GW r2 (by rfl) D.gW D.kW b2 hd2 pass0 (pa_cons (pv 0) (pa_cons (pv 1) pa_nil))) pa_nil)))))
      (pss_cons (ps_set (i := 4) scNumberRight.nd rfl (.inl rfl) (pe_op op_cat (pv 4) (pe_lst (pa_cons (pe_callN GW r2 (by rfl) D.gW D.kW k1 pass0 (pa_cons (pv 0) pa_nil) (pk_cons (pv 2) pk_nil)) (pa_cons (pe_call GW r2 (by rfl) D.gW D.kW b1 hd1 pass0 (pa_cons (pv 0) pa_nil)) (pa_cons (pe_callN0 GW r2 (by rfl) D.gW D.kW k0 pass0 (pk_cons (pv 1) (pk_cons (pv 0) pk_nil))) pa_nil))))))
      (pss_cons (ps_set (i := 5) scNumberRight.nd rfl (.inl rfl) (pe_lst (pa_cons (pe_and (pv 3) (pe_one (pe_chain op_le op_le (pv 1) (pv 0) (pv 2)))) (pa_cons (pe_and (pv 3) (pe_one (pe_chain op_le op_le (pv 1) (pv 0) (pv 2)))) (pa_cons (pe_and (pv 3) (pe_one (pe_chain op_le op_le (pv 1) (pv 0) pe_int))) pa_nil)))))
      (pss_cons (ps_set (i := 5) scNumberRight.nd rfl (.inl rfl) (pe_op op_cat (pv 5) (pe_lst (pa_cons (pe_and (pv 3) (pe_one (pe_chain op_le op_le pe_int (pv 0) (pv 2)))) (pa_cons (pe_and (pv 3) (pe_one (pe_chain op_le op_le pe_int (pv 0) pe_int))) (pa_cons (pe_and (pv 3) (pe_one (pe_chain op_le op_le (pv 1) (pv 0) pe_int))) pa_nil))))))
      (pss_cons (ps_if (pt_cmpR op_ne (pe_callB (call_show (show Calm _ from calm) (room_show hr)) (by rfl) T.repr (by decide +kernel) (pa_cons (pv 4) pa_nil)) (pe_callB (call_show (show Calm _ from calm) (room_show hr)) (by rfl) T.repr (by decide +kernel) (pa_cons (pv 5) pa_nil)) (nomark _)) (pss_one (ps_ret pe_bl)) pss_nil)
      (pss_one (ps_ret (pe_cmpR (op_eqD hr.units) (pe_lst (pa_cons (pe_callG GZ (show Calm _ from calm) hr (by rfl) L.gZ L.Z.kp L.bZ .nil pass0 (pa_cons pe_int (pa_cons (pv 0) pa_nil))) (pa_cons (pe_callG GZ (show Calm _ from calm) hr (by rfl) L.gZ L.Z.kp L.bZ .nil pass0 (pa_cons pe_int (pa_cons (pv 0) pa_nil))) pa_nil)))
        (pe_op op_rep (pe_lst (pa_cons (pe_ix ix_list (pe_lst (pa_cons pe_str (pa_cons pe_str pa_nil))) (pe_callTy call_int1 (by rfl) T.int PyProof.Rows.boot_int (pa_cons (pe_and (pv 3) (pe_one (pe_chain op_le op_le pe_int (pv 0) pe_int))) pa_nil)) (fun _ _ => rfl)) pa_nil)) pe_int) (nomark _))))))))), ?_⟩
    obtain ⟨t, ty, kk1, kk2, _⟩ := hx.ty (K := K)
    refine ⟨_, rfl, _, _, _, _, _, rfl, .ty "int", ty, kit_ty kk1, _, rfl, ?_⟩
    cases hv : vInt x with
    | true =>
      obtain ⟨i, rfl⟩ : ∃ i, x = V.int i := by
        cases x <;> first | exact ⟨_, rfl⟩ | cases hv
      refine iteT ⟨_, rfl, _, _, _, _, _, rfl, .ty "bool", ty, kit_ty kk2, _, rfl, ?_⟩
      refine ⟨_, rfl, _, rfl, _, rfl, .int i, lo, hi, rfl, hx, _, rfl, _, rfl, _, rfl, rfl, rfl, .int i, lo, hi, rfl, hx, _, rfl, _, rfl, .int i, lo, 9999, rfl, hx, by show 3 ≤ sizeLine; decide, fun p1 hp1 => ?_⟩
      have s1 := same_upd (o := .lst [.bl (whole (.int i) lo hi), .bl (whole (.int i) lo hi), .bl (whole (.int i) lo 9999)]) hp1
      have l1 := upd_same (H := H) (a := p1) (o := .lst [.bl (whole (.int i) lo hi), .bl (whole (.int i) lo hi), .bl (whole (.int i) lo 9999)])
      have x1 := hx.same s1
      show tSeq _ _ _ _ (upd H p1 (.lst [.bl (whole (.int i) lo hi), .bl (whole (.int i) lo hi), .bl (whole (.int i) lo 9999)]))
      generalize upd H p1 (.lst [.bl (whole (.int i) lo hi), .bl (whole (.int i) lo hi), .bl (whole (.int i) lo 9999)]) = H1 at s1 l1 x1
      refine ⟨_, rfl, _, rfl, _, rfl, rfl, rfl, .int i, 0, hi, rfl, x1, _, rfl, .int i, 0, 9999, rfl, x1, _, rfl, _, rfl, rfl, rfl, .int i, lo, 9999, rfl, x1, by show 3 ≤ sizeLine; decide, fun t1 ht1 => ?_⟩
      have v1 := same_upd (o := .lst [.bl (whole (.int i) 0 hi), .bl (whole (.int i) 0 9999), .bl (whole (.int i) lo 9999)]) ht1
      refine ⟨p1, t1, _, _, rfl, rfl, v1 _ _ l1, upd_same, by show 6 ≤ sizeLine; decide, fun p2 hp2 => ?_⟩
      have s2 := (s1.trans v1).trans (same_upd (o := .lst [.bl (whole (.int i) lo hi), .bl (whole (.int i) lo hi), .bl (whole (.int i) lo 9999), .bl (whole (.int i) 0 hi), .bl (whole (.int i) 0 9999), .bl (whole (.int i) lo 9999)]) hp2)
      have l2 := upd_same (H := upd H1 t1 (.lst [.bl (whole (.int i) 0 hi), .bl (whole (.int i) 0 9999), .bl (whole (.int i) lo 9999)])) (a := p2) (o := .lst [.bl (whole (.int i) lo hi), .bl (whole (.int i) lo hi), .bl (whole (.int i) lo 9999), .bl (whole (.int i) 0 hi), .bl (whole (.int i) 0 9999), .bl (whole (.int i) lo 9999)])
      show tSeq _ _ _ _ (upd (upd H1 t1 (.lst [.bl (whole (.int i) 0 hi), .bl (whole (.int i) 0 9999), .bl (whole (.int i) lo 9999)])) p2 (.lst [.bl (whole (.int i) lo hi), .bl (whole (.int i) lo hi), .bl (whole (.int i) lo 9999), .bl (whole (.int i) 0 hi), .bl (whole (.int i) 0 9999), .bl (whole (.int i) lo 9999)]))
      generalize upd (upd H1 t1 (.lst [.bl (whole (.int i) 0 hi), .bl (whole (.int i) 0 9999), .bl (whole (.int i) lo 9999)])) p2 (.lst [.bl (whole (.int i) lo hi), .bl (whole (.int i) lo hi), .bl (whole (.int i) lo 9999), .bl (whole (.int i) 0 hi), .bl (whole (.int i) 0 9999), .bl (whole (.int i) lo 9999)]) = H2 at s2 l2
      refine ⟨_, rfl, _, rfl, iteT ⟨_, rfl, _, rfl, _, _, rfl, rfl, _, rfl, le_var rfl ⟨_, rfl, _, rfl, iteT ⟨_, rfl, _, rfl, _, _, rfl, rfl, _, rfl, le_var rfl ⟨_, rfl, _, rfl, iteT ⟨_, rfl, _, rfl, _, _, rfl, rfl, _, rfl, le_int ⟨by show 3 ≤ sizeLine; decide, fun p3 hp3 => ?_⟩⟩⟩⟩⟩⟩⟩
      have v3 := same_upd (o := .lst [.bl (whole (.int i) lo hi), .bl (whole (.int i) lo hi), .bl (whole (.int i) lo 9999)]) hp3
      have l3 := upd_same (H := H2) (a := p3) (o := .lst [.bl (whole (.int i) lo hi), .bl (whole (.int i) lo hi), .bl (whole (.int i) lo 9999)])
      have l2' := v3 _ _ l2
      have s3 := s2.trans v3
      show tSeq _ _ _ _ (upd H2 p3 (.lst [.bl (whole (.int i) lo hi), .bl (whole (.int i) lo hi), .bl (whole (.int i) lo 9999)]))
      generalize upd H2 p3 (.lst [.bl (whole (.int i) lo hi), .bl (whole (.int i) lo hi), .bl (whole (.int i) lo 9999)]) = H3 at s3 l3 l2'
      refine ⟨_, rfl, _, rfl, _, rfl, iteT ⟨_, rfl, _, _, rfl, rfl, _, rfl, le_var rfl ⟨_, rfl, _, rfl, iteT ⟨_, rfl, _, _, rfl, rfl, _, rfl, le_int ⟨_, rfl, _, rfl, iteT ⟨_, rfl, _, rfl, _, _, rfl, rfl, _, rfl, le_int ⟨by show 3 ≤ sizeLine; decide, fun t3 ht3 => ?_⟩⟩⟩⟩⟩⟩⟩
      have v4 := same_upd (o := .lst [.bl (whole (.int i) 0 hi), .bl (whole (.int i) 0 9999), .bl (whole (.int i) lo 9999)]) ht3
      refine ⟨p3, t3, _, _, rfl, rfl, v4 _ _ l3, upd_same, by show 6 ≤ sizeLine; decide, fun p4 hp4 => ?_⟩
      have v5 : Same (upd H3 t3 (.lst [.bl (whole (.int i) 0 hi), .bl (whole (.int i) 0 9999), .bl (whole (.int i) lo 9999)])) (upd (upd H3 t3 (.lst [.bl (whole (.int i) 0 hi), .bl (whole (.int i) 0 9999), .bl (whole (.int i) lo 9999)])) p4 (.lst [.bl (whole (.int i) lo hi), .bl (whole (.int i) lo hi), .bl (whole (.int i) lo 9999), .bl (whole (.int i) 0 hi), .bl (whole (.int i) 0 9999), .bl (whole (.int i) lo 9999)])) := same_upd hp4
      have s4 := (s3.trans v4).trans v5
      have l4 := upd_same (H := upd H3 t3 (.lst [.bl (whole (.int i) 0 hi), .bl (whole (.int i) 0 9999), .bl (whole (.int i) lo 9999)])) (a := p4) (o := .lst [.bl (whole (.int i) lo hi), .bl (whole (.int i) lo hi), .bl (whole (.int i) lo 9999), .bl (whole (.int i) 0 hi), .bl (whole (.int i) 0 9999), .bl (whole (.int i) lo 9999)])
      have l2'' := v5 _ _ (v4 _ _ l2')
      have x4 := hx.same s4
      show tSeq _ _ _ _ (upd (upd H3 t3 (.lst [.bl (whole (.int i) 0 hi), .bl (whole (.int i) 0 9999), .bl (whole (.int i) lo 9999)])) p4 (.lst [.bl (whole (.int i) lo hi), .bl (whole (.int i) lo hi), .bl (whole (.int i) lo 9999), .bl (whole (.int i) 0 hi), .bl (whole (.int i) 0 9999), .bl (whole (.int i) lo 9999)]))
      generalize upd (upd H3 t3 (.lst [.bl (whole (.int i) 0 hi), .bl (whole (.int i) 0 9999), .bl (whole (.int i) lo 9999)])) p4 (.lst [.bl (whole (.int i) lo hi), .bl (whole (.int i) lo hi), .bl (whole (.int i) lo 9999), .bl (whole (.int i) 0 hi), .bl (whole (.int i) 0 9999), .bl (whole (.int i) lo 9999)]) = H4 at s4 l4 l2'' x4
      have sw := shows_bools (K := K) [whole (.int i) lo hi, whole (.int i) lo hi, whole (.int i) lo 9999, whole (.int i) 0 hi, whole (.int i) 0 9999, whole (.int i) lo 9999] l2'' (by show 6 ≤ 100; decide)
      have sw2 : Shows K H4 (.ref p4) (.list ([whole (.int i) lo hi, whole (.int i) lo hi, whole (.int i) lo 9999, whole (.int i) 0 hi, whole (.int i) 0 9999, whole (.int i) lo 9999].map .bool)) := shows_bools (K := K) [whole (.int i) lo hi, whole (.int i) lo hi, whole (.int i) lo 9999, whole (.int i) 0 hi, whole (.int i) 0 9999, whole (.int i) lo 9999] (by rw [l4]; rfl) (by show 6 ≤ 100; decide)
      refine ⟨_, rfl, .ref p2, _, rfl, sw.dq, sw.sh, sw.dp, sw.sz, _, rfl, .ref p4, _, rfl, sw2.dq, sw2.sh, sw2.dp, sw2.sz, rfl, _, rfl, ?_⟩
      rw [decide_eq_true (rfl : V.str (PyData.list ([whole (.int i) lo hi, whole (.int i) lo hi, whole (.int i) lo 9999, whole (.int i) 0 hi, whole (.int i) 0 9999, whole (.int i) lo 9999].map .bool)).shown = V.str (PyData.list ([whole (.int i) lo hi, whole (.int i) lo hi, whole (.int i) lo 9999, whole (.int i) 0 hi, whole (.int i) 0 9999, whole (.int i) lo 9999].map .bool)).shown)]
      refine iteF ?_
      refine ⟨_, rfl, 1, .int i, rfl, x4, by decide, by decide, fun H7 s7 => ?_⟩
      have x7 := x4.same s7
      refine ⟨_, rfl, 3, .int i, rfl, x7, by decide, by decide, fun H8 s8 => ?_⟩
      refine ⟨by show 2 ≤ sizeLine; decide, fun p5 hp5 => ?_⟩
      have s9 := same_upd (o := .lst [.str (saidOf 1 (.int i)), .str (saidOf 3 (.int i))]) hp5
      have l9 := upd_same (H := H8) (a := p5) (o := .lst [.str (saidOf 1 (.int i)), .str (saidOf 3 (.int i))])
      refine ⟨by show 2 ≤ sizeLine; decide, fun p6 hp6 => ?_⟩
      have s10 := same_upd (o := .lst [.str "place", .str ""]) hp6
      have e0 : saidOf 1 (.int i) = if whole (.int i) 0 9999 = true then ("" : Str) else ("place" : Str) := rfl
      have e2 : saidOf 3 (.int i) = saidOf 1 (.int i) := rfl
      have at_ : atI [V.str "place", V.str ""] (if whole (.int i) 0 9999 then 1 else 0) = some (.str (saidOf 1 (.int i))) := by
        rw [e0]
        cases whole (.int i) 0 9999 <;> rfl
      refine ⟨_, rfl, _, rfl, iteT ⟨_, rfl, _, _, rfl, rfl, _, rfl, le_int (.inr ⟨_, rfl, p6, _, _, _, rfl, rfl, SqL.of upd_same, at_, by show 1 ≤ sizeLine; decide, fun p7 hp7 => ?_⟩)⟩⟩
      have s11 := same_upd (o := .lst [.str (saidOf 1 (.int i))]) hp7
      refine ⟨p7, 2, _, rfl, rfl, upd_same, by decide, by decide, by show 2 ≤ sizeLine; decide, fun p8 hp8 => ?_⟩
      have s12 := same_upd (o := .lst [.str (saidOf 1 (.int i)), .str (saidOf 1 (.int i))]) hp8
      have ok0 : SOk (saidOf 1 (.int i)) := by
        rw [e0]
        split
        · exact sok_empty
        · exact sok_place
      refine ⟨twoD (saidOf 1 (.int i)) (saidOf 3 (.int i)), twoD (saidOf 1 (.int i)) (saidOf 1 (.int i)), two_dp (s12 _ _ (s11 _ _ (s10 _ _ l9))), two_dp upd_same, two_shaped ok0 ok0, two_shaped ok0 ok0, ?_⟩
      rw [e2, two_eqv ok0 ok0]
      exact q _ ((((((s4.trans s7).trans s8).trans s9).trans s10).trans s11).trans s12)
    | false =>
      have hw : ∀ a b, whole x a b = false := fun a b => by
        cases x <;> first | rfl | cases hv
      have bb : ∀ H', Same H H' → Q (V.bl true) H' := q
      cases hb : vBool x with
      | true =>
        rw [hb] at kk2
        refine iteT ⟨_, rfl, _, _, _, _, _, rfl, .ty "bool", ty, kit_ty kk2, _, rfl, ?_⟩
        refine ⟨_, rfl, _, rfl, _, rfl, x, lo, hi, rfl, hx, _, rfl, _, rfl, _, rfl, rfl, rfl, x, lo, hi, rfl, hx, _, rfl, _, rfl, x, lo, 9999, rfl, hx, by show 3 ≤ sizeLine; decide, fun p1 hp1 => ?_⟩
        have s1 := same_upd (o := .lst [.bl (whole x lo hi), .bl (whole x lo hi), .bl (whole x lo 9999)]) hp1
        have l1 := upd_same (H := H) (a := p1) (o := .lst [.bl (whole x lo hi), .bl (whole x lo hi), .bl (whole x lo 9999)])
        have x1 := hx.same s1
        show tSeq _ _ _ _ (upd H p1 (.lst [.bl (whole x lo hi), .bl (whole x lo hi), .bl (whole x lo 9999)]))
        generalize upd H p1 (.lst [.bl (whole x lo hi), .bl (whole x lo hi), .bl (whole x lo 9999)]) = H1 at s1 l1 x1
        refine ⟨_, rfl, _, rfl, _, rfl, rfl, rfl, x, 0, hi, rfl, x1, _, rfl, x, 0, 9999, rfl, x1, _, rfl, _, rfl, rfl, rfl, x, lo, 9999, rfl, x1, by show 3 ≤ sizeLine; decide, fun t1 ht1 => ?_⟩
        have v1 := same_upd (o := .lst [.bl (whole x 0 hi), .bl (whole x 0 9999), .bl (whole x lo 9999)]) ht1
        refine ⟨p1, t1, _, _, rfl, rfl, v1 _ _ l1, upd_same, by show 6 ≤ sizeLine; decide, fun p2 hp2 => ?_⟩
        have s2 := (s1.trans v1).trans (same_upd (o := .lst [.bl (whole x lo hi), .bl (whole x lo hi), .bl (whole x lo 9999), .bl (whole x 0 hi), .bl (whole x 0 9999), .bl (whole x lo 9999)]) hp2)
        have l2 := upd_same (H := upd H1 t1 (.lst [.bl (whole x 0 hi), .bl (whole x 0 9999), .bl (whole x lo 9999)])) (a := p2) (o := .lst [.bl (whole x lo hi), .bl (whole x lo hi), .bl (whole x lo 9999), .bl (whole x 0 hi), .bl (whole x 0 9999), .bl (whole x lo 9999)])
        show tSeq _ _ _ _ (upd (upd H1 t1 (.lst [.bl (whole x 0 hi), .bl (whole x 0 9999), .bl (whole x lo 9999)])) p2 (.lst [.bl (whole x lo hi), .bl (whole x lo hi), .bl (whole x lo 9999), .bl (whole x 0 hi), .bl (whole x 0 9999), .bl (whole x lo 9999)]))
        generalize upd (upd H1 t1 (.lst [.bl (whole x 0 hi), .bl (whole x 0 9999), .bl (whole x lo 9999)])) p2 (.lst [.bl (whole x lo hi), .bl (whole x lo hi), .bl (whole x lo 9999), .bl (whole x 0 hi), .bl (whole x 0 9999), .bl (whole x lo 9999)]) = H2 at s2 l2
        refine ⟨_, rfl, _, rfl, iteF ⟨_, rfl, _, rfl, iteF ⟨_, rfl, _, rfl, iteF ⟨by show 3 ≤ sizeLine; decide, fun p3 hp3 => ?_⟩⟩⟩⟩
        have v3 := same_upd (o := .lst [.bl false, .bl false, .bl false]) hp3
        have l3 := upd_same (H := H2) (a := p3) (o := .lst [.bl false, .bl false, .bl false])
        have l2' := v3 _ _ l2
        have s3 := s2.trans v3
        show tSeq _ _ _ _ (upd H2 p3 (.lst [.bl false, .bl false, .bl false]))
        generalize upd H2 p3 (.lst [.bl false, .bl false, .bl false]) = H3 at s3 l3 l2'
        refine ⟨_, rfl, _, rfl, _, rfl, iteF ⟨_, rfl, _, rfl, iteF ⟨_, rfl, _, rfl, iteF ⟨by show 3 ≤ sizeLine; decide, fun t3 ht3 => ?_⟩⟩⟩⟩
        have v4 := same_upd (o := .lst [.bl false, .bl false, .bl false]) ht3
        refine ⟨p3, t3, _, _, rfl, rfl, v4 _ _ l3, upd_same, by show 6 ≤ sizeLine; decide, fun p4 hp4 => ?_⟩
        have v5 : Same (upd H3 t3 (.lst [.bl false, .bl false, .bl false])) (upd (upd H3 t3 (.lst [.bl false, .bl false, .bl false])) p4 (.lst [.bl false, .bl false, .bl false, .bl false, .bl false, .bl false])) := same_upd hp4
        have s4 := (s3.trans v4).trans v5
        have l4 := upd_same (H := upd H3 t3 (.lst [.bl false, .bl false, .bl false])) (a := p4) (o := .lst [.bl false, .bl false, .bl false, .bl false, .bl false, .bl false])
        have l2'' := v5 _ _ (v4 _ _ l2')
        have x4 := hx.same s4
        show tSeq _ _ _ _ (upd (upd H3 t3 (.lst [.bl false, .bl false, .bl false])) p4 (.lst [.bl false, .bl false, .bl false, .bl false, .bl false, .bl false]))
        generalize upd (upd H3 t3 (.lst [.bl false, .bl false, .bl false])) p4 (.lst [.bl false, .bl false, .bl false, .bl false, .bl false, .bl false]) = H4 at s4 l4 l2'' x4
        have sw := shows_bools (K := K) [whole x lo hi, whole x lo hi, whole x lo 9999, whole x 0 hi, whole x 0 9999, whole x lo 9999] l2'' (by show 6 ≤ 100; decide)
        have sw2 : Shows K H4 (.ref p4) (.list ([whole x lo hi, whole x lo hi, whole x lo 9999, whole x 0 hi, whole x 0 9999, whole x lo 9999].map .bool)) := shows_bools (K := K) [whole x lo hi, whole x lo hi, whole x lo 9999, whole x 0 hi, whole x 0 9999, whole x lo 9999] (by rw [l4]; simp [hw]) (by show 6 ≤ 100; decide)
        refine ⟨_, rfl, .ref p2, _, rfl, sw.dq, sw.sh, sw.dp, sw.sz, _, rfl, .ref p4, _, rfl, sw2.dq, sw2.sh, sw2.dp, sw2.sz, rfl, _, rfl, ?_⟩
        rw [decide_eq_true (rfl : V.str (PyData.list ([whole x lo hi, whole x lo hi, whole x lo 9999, whole x 0 hi, whole x 0 9999, whole x lo 9999].map .bool)).shown = V.str (PyData.list ([whole x lo hi, whole x lo hi, whole x lo 9999, whole x 0 hi, whole x 0 9999, whole x lo 9999].map .bool)).shown)]
        refine iteF ?_
        refine ⟨_, rfl, 1, x, rfl, x4, by decide, by decide, fun H7 s7 => ?_⟩
        have x7 := x4.same s7
        refine ⟨_, rfl, 3, x, rfl, x7, by decide, by decide, fun H8 s8 => ?_⟩
        refine ⟨by show 2 ≤ sizeLine; decide, fun p5 hp5 => ?_⟩
        have s9 := same_upd (o := .lst [.str (saidOf 1 x), .str (saidOf 3 x)]) hp5
        have l9 := upd_same (H := H8) (a := p5) (o := .lst [.str (saidOf 1 x), .str (saidOf 3 x)])
        refine ⟨by show 2 ≤ sizeLine; decide, fun p6 hp6 => ?_⟩
        have s10 := same_upd (o := .lst [.str "place", .str ""]) hp6
        have e0 : saidOf 1 x = if whole x 0 9999 = true then ("" : Str) else ("place" : Str) := rfl
        have e2 : saidOf 3 x = saidOf 1 x := rfl
        have at_ : atI [V.str "place", V.str ""] (if whole x 0 9999 then 1 else 0) = some (.str (saidOf 1 x)) := by
          rw [e0]
          cases whole x 0 9999 <;> rfl
        rw [hw] at at_
        refine ⟨_, rfl, _, rfl, iteF (.inr ⟨_, rfl, p6, _, _, _, rfl, rfl, SqL.of upd_same, at_, by show 1 ≤ sizeLine; decide, fun p7 hp7 => ?_⟩)⟩
        have s11 := same_upd (o := .lst [.str (saidOf 1 x)]) hp7
        refine ⟨p7, 2, _, rfl, rfl, upd_same, by decide, by decide, by show 2 ≤ sizeLine; decide, fun p8 hp8 => ?_⟩
        have s12 := same_upd (o := .lst [.str (saidOf 1 x), .str (saidOf 1 x)]) hp8
        have ok0 : SOk (saidOf 1 x) := by
          rw [e0]
          split
          · exact sok_empty
          · exact sok_place
        refine ⟨twoD (saidOf 1 x) (saidOf 3 x), twoD (saidOf 1 x) (saidOf 1 x), two_dp (s12 _ _ (s11 _ _ (s10 _ _ l9))), two_dp upd_same, two_shaped ok0 ok0, two_shaped ok0 ok0, ?_⟩
        rw [e2, two_eqv ok0 ok0]
        exact q _ ((((((s4.trans s7).trans s8).trans s9).trans s10).trans s11).trans s12)
      | false =>
        refine iteF ?_
        refine ⟨_, rfl, _, rfl, _, rfl, x, lo, hi, rfl, hx, _, rfl, _, rfl, _, rfl, rfl, rfl, x, lo, hi, rfl, hx, _, rfl, _, rfl, x, lo, 9999, rfl, hx, by show 3 ≤ sizeLine; decide, fun p1 hp1 => ?_⟩
        have s1 := same_upd (o := .lst [.bl (whole x lo hi), .bl (whole x lo hi), .bl (whole x lo 9999)]) hp1
        have l1 := upd_same (H := H) (a := p1) (o := .lst [.bl (whole x lo hi), .bl (whole x lo hi), .bl (whole x lo 9999)])
        have x1 := hx.same s1
        show tSeq _ _ _ _ (upd H p1 (.lst [.bl (whole x lo hi), .bl (whole x lo hi), .bl (whole x lo 9999)]))
        generalize upd H p1 (.lst [.bl (whole x lo hi), .bl (whole x lo hi), .bl (whole x lo 9999)]) = H1 at s1 l1 x1
        refine ⟨_, rfl, _, rfl, _, rfl, rfl, rfl, x, 0, hi, rfl, x1, _, rfl, x, 0, 9999, rfl, x1, _, rfl, _, rfl, rfl, rfl, x, lo, 9999, rfl, x1, by show 3 ≤ sizeLine; decide, fun t1 ht1 => ?_⟩
        have v1 := same_upd (o := .lst [.bl (whole x 0 hi), .bl (whole x 0 9999), .bl (whole x lo 9999)]) ht1
        refine ⟨p1, t1, _, _, rfl, rfl, v1 _ _ l1, upd_same, by show 6 ≤ sizeLine; decide, fun p2 hp2 => ?_⟩
        have s2 := (s1.trans v1).trans (same_upd (o := .lst [.bl (whole x lo hi), .bl (whole x lo hi), .bl (whole x lo 9999), .bl (whole x 0 hi), .bl (whole x 0 9999), .bl (whole x lo 9999)]) hp2)
        have l2 := upd_same (H := upd H1 t1 (.lst [.bl (whole x 0 hi), .bl (whole x 0 9999), .bl (whole x lo 9999)])) (a := p2) (o := .lst [.bl (whole x lo hi), .bl (whole x lo hi), .bl (whole x lo 9999), .bl (whole x 0 hi), .bl (whole x 0 9999), .bl (whole x lo 9999)])
        show tSeq _ _ _ _ (upd (upd H1 t1 (.lst [.bl (whole x 0 hi), .bl (whole x 0 9999), .bl (whole x lo 9999)])) p2 (.lst [.bl (whole x lo hi), .bl (whole x lo hi), .bl (whole x lo 9999), .bl (whole x 0 hi), .bl (whole x 0 9999), .bl (whole x lo 9999)]))
        generalize upd (upd H1 t1 (.lst [.bl (whole x 0 hi), .bl (whole x 0 9999), .bl (whole x lo 9999)])) p2 (.lst [.bl (whole x lo hi), .bl (whole x lo hi), .bl (whole x lo 9999), .bl (whole x 0 hi), .bl (whole x 0 9999), .bl (whole x lo 9999)]) = H2 at s2 l2
        refine ⟨_, rfl, _, rfl, iteF ⟨_, rfl, _, rfl, iteF ⟨_, rfl, _, rfl, iteF ⟨by show 3 ≤ sizeLine; decide, fun p3 hp3 => ?_⟩⟩⟩⟩
        have v3 := same_upd (o := .lst [.bl false, .bl false, .bl false]) hp3
        have l3 := upd_same (H := H2) (a := p3) (o := .lst [.bl false, .bl false, .bl false])
        have l2' := v3 _ _ l2
        have s3 := s2.trans v3
        show tSeq _ _ _ _ (upd H2 p3 (.lst [.bl false, .bl false, .bl false]))
        generalize upd H2 p3 (.lst [.bl false, .bl false, .bl false]) = H3 at s3 l3 l2'
        refine ⟨_, rfl, _, rfl, _, rfl, iteF ⟨_, rfl, _, rfl, iteF ⟨_, rfl, _, rfl, iteF ⟨by show 3 ≤ sizeLine; decide, fun t3 ht3 => ?_⟩⟩⟩⟩
        have v4 := same_upd (o := .lst [.bl false, .bl false, .bl false]) ht3
        refine ⟨p3, t3, _, _, rfl, rfl, v4 _ _ l3, upd_same, by show 6 ≤ sizeLine; decide, fun p4 hp4 => ?_⟩
        have v5 : Same (upd H3 t3 (.lst [.bl false, .bl false, .bl false])) (upd (upd H3 t3 (.lst [.bl false, .bl false, .bl false])) p4 (.lst [.bl false, .bl false, .bl false, .bl false, .bl false, .bl false])) := same_upd hp4
        have s4 := (s3.trans v4).trans v5
        have l4 := upd_same (H := upd H3 t3 (.lst [.bl false, .bl false, .bl false])) (a := p4) (o := .lst [.bl false, .bl false, .bl false, .bl false, .bl false, .bl false])
        have l2'' := v5 _ _ (v4 _ _ l2')
        have x4 := hx.same s4
        show tSeq _ _ _ _ (upd (upd H3 t3 (.lst [.bl false, .bl false, .bl false])) p4 (.lst [.bl false, .bl false, .bl false, .bl false, .bl false, .bl false]))
        generalize upd (upd H3 t3 (.lst [.bl false, .bl false, .bl false])) p4 (.lst [.bl false, .bl false, .bl false, .bl false, .bl false, .bl false]) = H4 at s4 l4 l2'' x4
        have sw := shows_bools (K := K) [whole x lo hi, whole x lo hi, whole x lo 9999, whole x 0 hi, whole x 0 9999, whole x lo 9999] l2'' (by show 6 ≤ 100; decide)
        have sw2 : Shows K H4 (.ref p4) (.list ([whole x lo hi, whole x lo hi, whole x lo 9999, whole x 0 hi, whole x 0 9999, whole x lo 9999].map .bool)) := shows_bools (K := K) [whole x lo hi, whole x lo hi, whole x lo 9999, whole x 0 hi, whole x 0 9999, whole x lo 9999] (by rw [l4]; simp [hw]) (by show 6 ≤ 100; decide)
        refine ⟨_, rfl, .ref p2, _, rfl, sw.dq, sw.sh, sw.dp, sw.sz, _, rfl, .ref p4, _, rfl, sw2.dq, sw2.sh, sw2.dp, sw2.sz, rfl, _, rfl, ?_⟩
        rw [decide_eq_true (rfl : V.str (PyData.list ([whole x lo hi, whole x lo hi, whole x lo 9999, whole x 0 hi, whole x 0 9999, whole x lo 9999].map .bool)).shown = V.str (PyData.list ([whole x lo hi, whole x lo hi, whole x lo 9999, whole x 0 hi, whole x 0 9999, whole x lo 9999].map .bool)).shown)]
        refine iteF ?_
        refine ⟨_, rfl, 1, x, rfl, x4, by decide, by decide, fun H7 s7 => ?_⟩
        have x7 := x4.same s7
        refine ⟨_, rfl, 3, x, rfl, x7, by decide, by decide, fun H8 s8 => ?_⟩
        refine ⟨by show 2 ≤ sizeLine; decide, fun p5 hp5 => ?_⟩
        have s9 := same_upd (o := .lst [.str (saidOf 1 x), .str (saidOf 3 x)]) hp5
        have l9 := upd_same (H := H8) (a := p5) (o := .lst [.str (saidOf 1 x), .str (saidOf 3 x)])
        refine ⟨by show 2 ≤ sizeLine; decide, fun p6 hp6 => ?_⟩
        have s10 := same_upd (o := .lst [.str "place", .str ""]) hp6
        have e0 : saidOf 1 x = if whole x 0 9999 = true then ("" : Str) else ("place" : Str) := rfl
        have e2 : saidOf 3 x = saidOf 1 x := rfl
        have at_ : atI [V.str "place", V.str ""] (if whole x 0 9999 then 1 else 0) = some (.str (saidOf 1 x)) := by
          rw [e0]
          cases whole x 0 9999 <;> rfl
        rw [hw] at at_
        refine ⟨_, rfl, _, rfl, iteF (.inr ⟨_, rfl, p6, _, _, _, rfl, rfl, SqL.of upd_same, at_, by show 1 ≤ sizeLine; decide, fun p7 hp7 => ?_⟩)⟩
        have s11 := same_upd (o := .lst [.str (saidOf 1 x)]) hp7
        refine ⟨p7, 2, _, rfl, rfl, upd_same, by decide, by decide, by show 2 ≤ sizeLine; decide, fun p8 hp8 => ?_⟩
        have s12 := same_upd (o := .lst [.str (saidOf 1 x), .str (saidOf 1 x)]) hp8
        have ok0 : SOk (saidOf 1 x) := by
          rw [e0]
          split
          · exact sok_empty
          · exact sok_place
        refine ⟨twoD (saidOf 1 x) (saidOf 3 x), twoD (saidOf 1 x) (saidOf 1 x), two_dp (s12 _ _ (s11 _ _ (s10 _ _ l9))), two_dp upd_same, two_shaped ok0 ok0, two_shaped ok0 ok0, ?_⟩
        rw [e2, two_eqv ok0 ok0]
        exact q _ ((((((s4.trans s7).trans s8).trans s9).trans s10).trans s11).trans s12)
end
end Pk
namespace Pk
open PySem L2
/-- a text of so many signs at most, so many numbers taken at most -/
def spBy (n : Nat) (m : Int) : Sp := fun vs H Q _ => ∃ (s : Addr) (t : Int), vs = [.ref s] ∧ StrmAt H s t ∧ 0 ≤ t ∧ t ≤ 1000 ∧
  ∀ (z : Str) (H' : Hp) (t' : Int), z.length ≤ n → Sgn z → But s H H' → StrmAt H' s t' → 0 ≤ t' → t' ≤ t + m → Q (.str z) H'
theorem sgn_app {x y : Str} (hx : Sgn x) (hy : Sgn y) : Sgn (x ++ y) := fun c hc => by
  rw [show (x ++ y).cps.toList = x.cps.toList ++ y.cps.toList from TL.tl_append x y] at hc
  rcases List.mem_append.mp hc with h | h
  · exact hx c h
  · exact hy c h
theorem sgn_mul {x : Str} (hx : Sgn x) {n : Int} (n0 : 0 ≤ n) : Sgn (Txt.mul x n) := fun c hc => by
  rw [show (Txt.mul x n).cps.toList = _ from mul_tl x n0] at hc
  obtain ⟨l, hl, h⟩ := List.mem_flatten.mp hc
  rw [(List.mem_replicate.mp hl).2] at h
  exact hx c h
theorem sgn_join {ys : List Str} (h : ∀ y ∈ ys, Sgn y) : Sgn (Txt.join "" ys) := fun c hc => by
  rw [show (Txt.join "" ys).cps.toList = TL.joinL (TL.tl "") (ys.map TL.tl) from by rw [TL.join_eq]; exact TL.tl_join "" ys, empty_tl] at hc
  obtain ⟨p, hp, hm⟩ := joinL_mem _ hc
  obtain ⟨y, hy, rfl⟩ := List.mem_map.mp hp
  exact h y hy c hm
theorem sgn_cut {z : Str} (h : Sgn z) (lo hi : Option Int) : Sgn (cutS z lo hi) := fun c hc => h c (List.mem_of_mem_drop (List.mem_of_mem_take hc))
theorem sgn_one {z : Str} {c : Nat} (h : Sgn z) (hc : c ∈ z.cps.toList) : Sgn ⟨#[c]⟩ := fun d hd => by
  rw [List.mem_singleton.mp hd]
  exact h c hc
theorem sum_ones {ys : List Str} (h : ∀ y ∈ ys, y.length = 1 ∧ Sgn y) : (ys.map (·.length)).sum = ys.length := by
  induction ys with
  | nil => rfl
  | cons y r ih =>
    rw [List.map_cons, List.sum_cons, ih fun x hx => h x (List.mem_cons_of_mem _ hx), (h y List.mem_cons_self).1, List.length_cons, Nat.add_comm]
theorem sgnB {z : Str} (h : z.cps.toList.all (fun c => (decide (32 ≤ c) && decide (c ≤ 126) && !decide (c = 37)) || decide (c = 10)) = true) : Sgn z := fun c hc => by
  have := List.all_eq_true.mp h c hc
  simp at this
  omega
theorem letters_sgn : Sgn letters := sgnB (by decide +kernel)
theorem letters_len : letters.cps.toList.length = 26 := by decide +kernel
section
variable {P : Program} {w : World} {K : PySem.W.Frag} {mg : Str → Option Value} {base : Heap} {cB fI : Addr} {c : Nat → Addr}
abbrev NNameBy : List Str := ["_law_stream_here", "_law_letters", "_law_turn"]
theorem scNameBy : FnScope NNameBy ["_law_stream_here"] (defScope sNameBy) := ⟨rfl, rfl, rfl, by decide +kernel, rfl, by decide +kernel, by decide +kernel⟩
theorem ok_nameBy {f fT fM : Addr} {fd fdT fdM : FuncData} (F : Fun K "_law_name_by" "_law_name_by" sNameBy f fd) (mr : mg "range" = none) (FT : Fun K "_law_take" "_law_take" sTake fT fdT) (bT : Binds K fdT ["_law_stream_here", "_law_many"] []) (gT : mg "_law_take" = some (.ref fT))
    (FM : Fun K "_law_mixed" "_law_mixed" sMixed fM fdM) (bM : Binds K fdM ["_law_number", "_law_k"] []) (gM : mg "_law_mixed" = some (.ref fM)) : FnOk P w K mg base CX0 3 f fd ["_law_stream_here"] (spBy 8 9) := by
  have GT : FnOk P w K mg base CX0 2 fT fdT ["_law_stream_here", "_law_many"] spTake := ok_take FT FM bM gM
  refine F.ok scNameBy (fun vs H Q E h => ?_) (fun cdv A outer s H vs Q E hr h => ?_)
  · obtain ⟨a, t, rfl, _⟩ := h
    rfl
  · obtain ⟨a, t, rfl, st, t0, t1, q⟩ := h
    refine ⟨_, pss_cons (ps_set (i := 1) scNameBy.nd rfl (.inr rfl) pe_str)
      (pss_one (ps_ret (pe_join pe_str (pe_lc (own := [("_law_turn", 2)]) (g := gName 2) rfl scNameBy.nd
            (pi_range1 (by rfl) mr (pa_cons (pe_op op_add pe_int (pe_call GT hr (by rfl) gT FT.kp bT .nil pass0 (pa_cons (pv 0) (pa_cons pe_int pa_nil)))) pa_nil)) (blkOk_by (N := NNameBy) (sc := defScope sNameBy) (by decide +kernel))
            (fun _ _ _ _ _ => pg_name (i := 2) scNameBy.nd rfl (Or.inl rfl)) (fun _ _ _ _ _ => pts_nil) (fun _ _ _ _ _ => pe_ix ix_str (pv 1) (pe_call GT hr (by rfl) gT FT.kp bT .nil pass0 (pa_cons (pv 0) (pa_cons pe_int pa_nil))) (fun _ _ => rfl)))))), ?_⟩
    refine ⟨⟨_, rfl⟩, _, rfl, a, t, 8, rfl, st, t0, by omega, by decide, by decide, fun v2 H4 w0 w4 u4 st4 => ?_⟩
    refine ⟨1, v2, rfl, rfl, _, rfl, by omega, by omega, fun D hD => ?_⟩
    obtain ⟨b4, c4, m4, e4⟩ := id st4
    have aD : a ≠ D := ne_of_none e4 hD
    refine lc_it walk_range (fun j H' => (∀ b o, b ≠ a → b ≠ D → H4 b = some o → H' b = some o) ∧ StrmAt H' a (t + 1 + j) ∧ ∃ ys : List Str, ys.length = j ∧ (∀ y ∈ ys, y.length = 1 ∧ Sgn y) ∧ H' D = some (.lst (ys.map V.str))) ⟨fun b o n1 n2 e => ?_, ⟨b4, c4, m4, ?_⟩, [], rfl, (fun _ h => by cases h), upd_same⟩ (fun _ _ _ _ => trivial) ?_ ?_
    · rw [upd_ne n2]
      exact e
    · rw [upd_ne aD, e4]
      simp
    · rintro j x H5 H6 hj ⟨k5, st5, ys, ly, oy, hd⟩ ⟨rfl, rfl⟩
      refine ⟨rfl, _, rfl, _, rfl, a, _, 26, rfl, st5, by omega, by omega, by decide, by decide, fun v3 H6 x0 x9 u6 st6 => ?_⟩
      obtain ⟨c6, hc6, mc6⟩ := at_some (l := letters.cps.toList) x0 (by rw [letters_len]; exact x9)
      refine ⟨_, v3, c6, rfl, rfl, by decide +kernel, hc6, _, u6 _ _ (Ne.symm aD) hd, ?_, fun b o n1 n2 e => ?_, ?_, ys ++ [⟨#[c6]⟩], ?_, ?_, ?_⟩
      · rw [List.length_map, sizeLine_eq]
        omega
      · rw [upd_ne n2]
        exact u6 b o n1 (k5 b o n1 n2 e)
      · obtain ⟨b6, c7, m6, e6⟩ := st6
        refine ⟨b6, c7, m6, ?_⟩
        rw [upd_ne aD, e6]
        simp
        omega
      · rw [List.length_append, ly]
        rfl
      · intro y hy
        rcases List.mem_append.mp hy with h | h
        · exact oy y h
        · rw [List.mem_singleton.mp h]
          exact ⟨rfl, sgn_one letters_sgn mc6⟩
      · rw [upd_same, List.map_append]
        rfl
    · rintro H5 ⟨k5, st5, ys, ly, oy, hd⟩
      have sm := sum_ones oy
      have l4 : ys.length ≤ 8 := by omega
      refine ⟨_, D, ys, rfl, rfl, .inl (SqL.of hd), by rw [sm, show ("" : Str).length = 0 by decide +kernel]; omega, ?_⟩
      refine q _ H5 _ (by rw [join0_len, sm]; exact l4) (sgn_join fun y hy => (oy y hy).2) (fun b o n e => ?_) st5 (by omega) (by omega)
      have e4' := u4 b o n e
      exact k5 b o n (ne_of_none e4' hD) e4'
end
end Pk
namespace Pk
open PySem L2
theorem strip_mem {x y : Str} {c : Nat} (h : c ∈ (Txt.stripChars x y).cps.toList) : c ∈ x.cps.toList := by
  unfold Txt.stripChars Txt.stripBy at h
  split at h
  · exact h
  · obtain ⟨i, j, h'⟩ : ∃ i j, c ∈ (x.cps.extract i j).toList := ⟨_, _, h⟩
    rw [Array.toList_extract] at h'
    have h2 : c ∈ (x.cps.toList.drop i).take (j - i) := by
      first
        | exact h'
        | simpa [List.extract_eq_drop_take] using h'
        | simpa [List.extract] using h'
    exact List.mem_of_mem_drop (List.mem_of_mem_take h2)
def someT : Str := " !\"#$&'()*+,-./0123456789:;<=>?@ABCDEFGHIJKLMNOPQRSTUVWXYZ[\\]^_`abcdefghijklmnopqrstuvwxyz{|}~"
theorem someT_sgn : Sgn someT := sgnB (by decide +kernel)
theorem someT_len : someT.length = 94 := by decide +kernel
section
variable {P : Program} {w : World} {K : PySem.W.Frag} {mg : Str → Option Value} {base : Heap} {cB fI : Addr} {c : Nat → Addr}
abbrev NTextBy : List Str := ["_law_stream_here", "_law_some", "_law_signs", "_law_size", "_law_text", "_law_turn"]
theorem scTextBy : FnScope NTextBy ["_law_stream_here"] (defScope sTextBy) := ⟨rfl, rfl, rfl, by decide +kernel, rfl, by decide +kernel, by decide +kernel⟩
theorem ok_textBy {f fT fM : Addr} {fd fdT fdM : FuncData} (F : Fun K "_law_text_by" "_law_text_by" sTextBy f fd) (mr : mg "range" = none) (ml : mg "len" = none) (FT : Fun K "_law_take" "_law_take" sTake fT fdT) (bT : Binds K fdT ["_law_stream_here", "_law_many"] []) (gT : mg "_law_take" = some (.ref fT))
    (FM : Fun K "_law_mixed" "_law_mixed" sMixed fM fdM) (bM : Binds K fdM ["_law_number", "_law_k"] []) (gM : mg "_law_mixed" = some (.ref fM)) : FnOk P w K mg base CX0 3 f fd ["_law_stream_here"] (spBy 30 33) := by
  have GT : FnOk P w K mg base CX0 2 fT fdT ["_law_stream_here", "_law_many"] spTake := ok_take FT FM bM gM
  refine F.ok scTextBy (fun vs H Q E h => ?_) (fun cdv A outer s H vs Q E hr h => ?_)
  · obtain ⟨a, t, rfl, _⟩ := h
    rfl
  · obtain ⟨a, t, rfl, st, t0, t1, q⟩ := h
    refine ⟨_, pss_cons (ps_set (i := 1) scTextBy.nd rfl (.inl rfl) pe_str)
      (pss_cons (ps_set (i := 2) scTextBy.nd rfl (.inr rfl) (pe_ix ix_list (pe_lst (pa_cons (pv 1) (pa_cons pe_str (pa_cons pe_str pa_nil)))) (pe_call GT hr (by rfl) gT FT.kp bT .nil pass0 (pa_cons (pv 0) (pa_cons pe_int pa_nil))) (fun _ _ => rfl)))
      (pss_cons (ps_set (i := 3) scTextBy.nd rfl (.inl rfl) (pe_ix ix_list (pe_lst (pa_cons pe_int (pa_cons pe_int (pa_cons pe_int (pa_cons (pe_op op_add pe_int (pe_call GT hr (by rfl) gT FT.kp bT .nil pass0 (pa_cons (pv 0) (pa_cons pe_int pa_nil)))) pa_nil))))) (pe_call GT hr (by rfl) gT FT.kp bT .nil pass0 (pa_cons (pv 0) (pa_cons pe_int pa_nil))) (fun _ _ => rfl)))
      (pss_cons (ps_set (i := 4) scTextBy.nd rfl (.inl rfl) (pe_bm PySem.F.plainAttrs_str PySem.F.slot_str_strip PySem.F.type_str_strip mt_stripChars (pe_join pe_str (pe_lc (own := [("_law_turn", 5)]) (g := gName 5) rfl scTextBy.nd
            (pi_range1 (by rfl) mr (pa_cons (pv 3) pa_nil)) (blkOk_by (N := NTextBy) (sc := defScope sTextBy) (by decide +kernel))
            (fun _ _ _ _ _ => pg_name (i := 5) scTextBy.nd rfl (Or.inl rfl)) (fun _ _ _ _ _ => pts_nil) (fun _ _ _ _ _ => pe_ix ix_str (pv 2) (pe_call GT hr (by rfl) gT FT.kp bT .nil pass0 (pa_cons (pv 0) (pa_cons (pe_callB call_len_str (by rfl) ml PySem.boot_len (pa_cons (pv 2) pa_nil)) pa_nil))) (fun _ _ => rfl)))) (pa_cons pe_str pa_nil)))
      (pss_one (ps_ret (pe_ifExp (pt_cmpR op_ne (pv 4) pe_str (nomark _)) (pv 4) pe_str)))))), ?_⟩
    -- the signs
    refine ⟨_, rfl, by show 3 ≤ sizeLine; decide, fun l1 hl1 => ?_⟩
    obtain ⟨b1, c1, m1, e1⟩ := id st
    have al1 : a ≠ l1 := ne_of_none e1 hl1
    have st1 : StrmAt (upd H l1 (.lst [.str someT, .str "ab 1", .str "x "])) a t := ⟨b1, c1, m1, by rw [upd_ne al1]; exact e1⟩
    refine ⟨_, rfl, a, t, 3, rfl, st1, t0, by omega, by decide, by decide, fun v1 H1 v10 v13 u1 st2 => ?_⟩
    obtain ⟨x1, hx1, mx1⟩ := at_some (l := [V.str someT, V.str "ab 1", V.str "x "]) v10 v13
    obtain ⟨zs, rfl, zs1, zs2, zs3⟩ : ∃ z, x1 = V.str z ∧ 1 ≤ z.length ∧ z.length ≤ 94 ∧ Sgn z := by
      simp only [List.mem_cons, List.not_mem_nil, or_false] at mx1
      rcases mx1 with rfl | rfl | rfl
      · exact ⟨_, rfl, by rw [someT_len]; decide, by rw [someT_len]; decide, someT_sgn⟩
      · exact ⟨_, rfl, by decide +kernel, by decide +kernel, sgnB (by decide +kernel)⟩
      · exact ⟨_, rfl, by decide +kernel, by decide +kernel, sgnB (by decide +kernel)⟩
    refine ⟨l1, _, v1, _, rfl, rfl, SqL.of (u1 _ _ (Ne.symm al1) upd_same), hx1, ?_⟩
    -- the size
    refine ⟨_, rfl, a, t + 1, 30, rfl, st2, by omega, by omega, by decide, by decide, fun v2 H2 v20 v23 u2 st3 => ?_⟩
    refine ⟨1, v2, rfl, rfl, by show 4 ≤ sizeLine; decide, fun l2 hl2 => ?_⟩
    obtain ⟨b2, c2, m2, e2⟩ := id st3
    have al2 : a ≠ l2 := ne_of_none e2 hl2
    have st4 : StrmAt (upd H2 l2 (.lst [.int 1, .int 2, .int 30, .int (1 + v2)])) a (t + 2) := ⟨b2, c2, m2, by rw [upd_ne al2, show t + 2 = t + 1 + 1 by omega]; exact e2⟩
    refine ⟨_, rfl, a, t + 2, 4, rfl, st4, by omega, by omega, by decide, by decide, fun v3 H3 v30 v33 u3 st5 => ?_⟩
    obtain ⟨x2, hx2, mx2⟩ := at_some (l := [V.int 1, V.int 2, V.int 30, V.int (1 + v2)]) v30 v33
    obtain ⟨n, rfl, n0, n30⟩ : ∃ n : Int, x2 = V.int n ∧ 1 ≤ n ∧ n ≤ 30 := by
      simp only [List.mem_cons, List.not_mem_nil, or_false] at mx2
      rcases mx2 with rfl | rfl | rfl | rfl
      · exact ⟨1, rfl, by decide, by decide⟩
      · exact ⟨2, rfl, by decide, by decide⟩
      · exact ⟨30, rfl, by decide, by decide⟩
      · exact ⟨1 + v2, rfl, by omega, by omega⟩
    refine ⟨l2, _, v3, _, rfl, rfl, SqL.of (u3 _ _ (Ne.symm al2) upd_same), hx2, ?_⟩
    have bu : But a H H3 := fun b o n e => by
      refine u3 b o n ?_
      have e2' := u2 b o n (u1 b o n (by rw [upd_ne (ne_of_none e hl1)]; exact e))
      rw [upd_ne (ne_of_none e2' hl2)]
      exact e2'
    -- the text
    refine ⟨⟨_, rfl⟩, _, rfl, n, rfl, by omega, by omega, fun D hD => ?_⟩
    obtain ⟨b4, c4, m4, e4⟩ := id st5
    have aD : a ≠ D := ne_of_none e4 hD
    refine lc_it walk_range (fun j H' => (∀ b o, b ≠ a → b ≠ D → H3 b = some o → H' b = some o) ∧ StrmAt H' a (t + 3 + j) ∧ ∃ ys : List Str, ys.length = j ∧ (∀ y ∈ ys, y.length = 1 ∧ Sgn y) ∧ H' D = some (.lst (ys.map V.str))) ⟨fun b o n1 n2 e => ?_, ⟨b4, c4, m4, ?_⟩, [], rfl, (fun _ h => by cases h), upd_same⟩ (fun _ _ _ _ => trivial) ?_ ?_
    · rw [upd_ne n2]
      exact e
    · rw [upd_ne aD, e4]
      simp
      omega
    · rintro j x H5 H6 hj ⟨k5, st6, ys, ly, oy, hd⟩ ⟨rfl, rfl⟩
      refine ⟨rfl, _, rfl, _, rfl, _, rfl, zs, rfl, by rw [sizeLine_eq]; omega, a, _, zs.length, rfl, st6, by omega, by omega, by omega, by omega, fun v4 H6 x0 x9 u6 st7 => ?_⟩
      obtain ⟨c6, hc6, mc6⟩ := at_some (l := zs.cps.toList) x0 (by rw [← len_is]; exact x9)
      refine ⟨_, v4, c6, rfl, rfl, by rw [sizeLine_eq]; omega, hc6, _, u6 _ _ (Ne.symm aD) hd, ?_, fun b o n1 n2 e => ?_, ?_, ys ++ [⟨#[c6]⟩], ?_, ?_, ?_⟩
      · rw [List.length_map, sizeLine_eq]
        omega
      · rw [upd_ne n2]
        exact u6 b o n1 (k5 b o n1 n2 e)
      · obtain ⟨b6, c7, m6, e6⟩ := st7
        refine ⟨b6, c7, m6, ?_⟩
        rw [upd_ne aD, e6]
        simp
        omega
      · rw [List.length_append, ly]
        rfl
      · intro y hy
        rcases List.mem_append.mp hy with h | h
        · exact oy y h
        · rw [List.mem_singleton.mp h]
          exact ⟨rfl, sgn_one zs3 mc6⟩
      · rw [upd_same, List.map_append]
        rfl
    · rintro H5 ⟨k5, st6, ys, ly, oy, hd⟩
      have sm := sum_ones oy
      have l4 : ys.length ≤ 30 := by omega
      have sj : Sgn (Txt.join "" ys) := sgn_join fun y hy => (oy y hy).2
      have lj : (Txt.join "" ys).length ≤ 30 := by rw [join0_len, sm]; exact l4
      have bu5 : But a H H5 := fun b o n e => by
        have e3 := bu b o n e
        exact k5 b o n (ne_of_none e3 hD) e3
      have q' : ∀ z : Str, z.length ≤ 30 → Sgn z → Q (.str z) H5 := fun z hz1 hz2 => q z H5 _ hz1 hz2 bu5 st6 (by omega) (by omega)
      refine ⟨_, D, ys, rfl, rfl, .inl (SqL.of hd), by rw [sm, show ("" : Str).length = 0 by decide +kernel]; omega, ?_⟩
      refine ⟨rfl, _, _, rfl, rfl, by rw [sizeLine_eq]; omega, ?_⟩
      have lz := PyProof.Rows.len_stripChars (Txt.join "" ys) " "
      have oz : Sgn (Txt.stripChars (Txt.join "" ys) " ") := fun c hc => sj c (strip_mem hc)
      refine ⟨_, rfl, rfl, _, rfl, ite2 (fun _ => ?_) (fun _ => ?_)⟩
      · exact ⟨_, rfl, q' _ (by omega) oz⟩
      · exact q' _ (by decide +kernel) (sgnB (by decide +kernel))
end
end Pk
namespace Pk
open PySem L2
def spHand : Sp := fun vs H Q _ => vs = [] ∧ ∀ H', Same H H' → Q (.bl true) H'
def someH : Str := " !\"#$&'()*+,-./0123456789:;<=>?@ABCDEFGHIJKLMNOPQRSTUVWXYZ[\\]^_`abcdefghijklmnopqrstuvwxyz{|}~\n"
theorem someH_sgn : Sgn someH := sgnB (by decide +kernel)
theorem a_sgn : Sgn "a" := sgnB (by decide +kernel)
theorem x_sgn : Sgn "x" := sgnB (by decide +kernel)
theorem b_sgn : Sgn " " := sgnB (by decide +kernel)
theorem a_len : ("a" : Str).length = 1 := by decide +kernel
theorem x_len : ("x" : Str).length = 1 := by decide +kernel
theorem b_len : (" " : Str).length = 1 := by decide +kernel
section
variable {P : Program} {w : World} {K : PySem.W.Frag} {mg : Str → Option Value} {base : Heap} {cB fI : Addr} {c : Nat → Addr}
variable {fN fW fA fT fB fD : Addr} {fdN fdW fdA fdT fdB fdD : FuncData} {fQ fV fZ : Addr} {fdQ fdV fdZ : FuncData}
/-- the looks at one thing, where they stand -/
structure Dr (K : PySem.W.Frag) (mg : Str → Option Value) (fn ft fu : Addr) (fdn fdt fdu : FuncData) : Prop where
  n : Fun K "_law_name_right" "_law_name_right" sNameRight fn fdn
  bn : Binds K fdn ["_law_item"] []
  gn : mg "_law_name_right" = some (.ref fn)
  t : Fun K "_law_text_right" "_law_text_right" sTextRight ft fdt
  bt : Binds K fdt ["_law_item"] []
  gt : mg "_law_text_right" = some (.ref ft)
  u : Fun K "_law_number_right" "_law_number_right" sNumberRight fu fdu
  bu : Binds K fdu ["_law_item", "_law_low", "_law_high"] []
  gu : mg "_law_number_right" = some (.ref fu)
variable {fn ft fu : Addr} {fdn fdt fdu : FuncData}
theorem scByHand : FnScope ["_law_some", "_law_sign", "_law_text", "_law_size", "_law_item"] [] (defScope sByHand) := ⟨rfl, rfl, rfl, by decide +kernel, rfl, by decide +kernel, by decide +kernel⟩
theorem ok_byHand {f : Addr} {fd : FuncData} (F : Fun K "_law_by_hand_right" "_law_by_hand_right" sByHand f fd) (T : Txt K mg cB fI c) (D : Dw K mg fN fW fA fT fB fD fdN fdW fdA fdT fdB fdD) (L : Dl K mg fQ fV fZ fdQ fdV fdZ) (R : Dr K mg fn ft fu fdn fdt fdu) : FnG P w K mg base CX0 9 f fd [] spHand := by
  have Gn : FnG P w K mg base CX0 8 fn fdn ["_law_item"] spRight := ok_nameRight R.n T D L
  have Gt : FnG P w K mg base CX0 3 ft fdt ["_law_item"] spRight := ok_textRight R.t T D
  have Gu : FnG P w K mg base CX0 8 fu fdu ["_law_item", "_law_low", "_law_high"] spRight3 := ok_numberRight R.u T D L
  refine okG F scByHand (fun vs H Q E h => ?_) (fun cdv A calm outer s H vs Q E hr h => ?_)
  · obtain ⟨rfl, _⟩ := h
    rfl
  · obtain ⟨rfl, q⟩ := h
    have r3 : Room 3 _ := hr.mono (by decide)
    refine ⟨_, pss_cons (ps_set (i := 0) scByHand.nd rfl (.inl rfl) pe_str)
      (pss_cons (ps_for PassesOwn.never rfl (pi_str (pv 0)) (pg_name (i := 1) scByHand.nd rfl (.inl rfl))
        (pss_one (ps_for PassesOwn.never rfl (pi_tup (pe_tup (pa_cons (pv 1) (pa_cons (pe_op op_add_str pe_str (pv 1)) (pa_cons (pe_op op_add_str (pv 1) pe_str) (pa_cons (pe_op op_add_str (pe_op op_add_str pe_str (pv 1)) pe_str) (pa_cons (pe_op op_times (pv 1) pe_int) (pa_cons (pe_op op_times (pv 1) pe_int) pa_nil)))))))) (pg_name (i := 2) scByHand.nd rfl (.inl rfl))
          (pss_one (ps_if (PW.pt (pw_or (pt_not (pt_val (pe_callG Gn (show Calm _ from calm) hr (by rfl) R.gn R.n.kp R.bn .nil pass0 (pa_cons (pv 2) pa_nil)))) (pw_or1 (pt_not (pt_val (pe_callG Gt (show Calm _ from calm) r3 (by rfl) R.gt R.t.kp R.bt .nil pass0 (pa_cons (pv 2) pa_nil))))))) (pss_one (ps_ret pe_bl)) pss_nil)))))
      (pss_cons (ps_for PassesOwn.never rfl (pi_tup (pe_tup (pa_cons pe_int (pa_cons pe_int (pa_cons pe_int (pa_cons pe_int pa_nil)))))) (pg_name (i := 3) scByHand.nd rfl (.inl rfl))
        (pss_one (ps_for PassesOwn.never rfl (pi_tup (pe_tup (pa_cons (pe_op op_times pe_str (pv 3)) (pa_cons (pe_op op_add_str (pe_op op_add_str pe_str (pe_op op_times pe_str (pv 3))) pe_str) (pa_cons (pe_op op_add_str (pe_op op_times pe_str (pv 3)) pe_str) pa_nil))))) (pg_name (i := 2) scByHand.nd rfl (.inl rfl))
          (pss_one (ps_if (pt_not (pt_val (pe_callG Gt (show Calm _ from calm) r3 (by rfl) R.gt R.t.kp R.bt .nil pass0 (pa_cons (pv 2) pa_nil)))) (pss_one (ps_ret pe_bl)) pss_nil)))))
      (pss_cons (ps_for PassesOwn.never rfl (pi_tup (pe_tup (pa_cons pe_int (pa_cons pe_bl (pa_cons pe_int (pa_cons pe_bl (pa_cons pe_int (pa_cons pe_int (pa_cons (pe_un un_neg pe_int) (pa_cons (pe_op op_pow pe_int pe_int) (pa_cons pe_non (pa_cons pe_str (pa_cons (pe_lst (pa_cons pe_int pa_nil)) (pa_cons (pe_tup (pa_cons pe_int pa_nil)) (pa_cons pe_dnewK pa_nil))))))))))))))) (pg_name (i := 4) scByHand.nd rfl (.inl rfl))
        (pss_one (ps_if (PW.pt (pw_or (pt_not (pt_val (pe_callG Gu (show Calm _ from calm) hr (by rfl) R.gu R.u.kp R.bu .nil pass0 (pa_cons (pv 4) (pa_cons pe_int (pa_cons pe_int pa_nil)))))) (pw_or1 (pt_not (pt_val (pe_callG Gu (show Calm _ from calm) hr (by rfl) R.gu R.u.kp R.bu .nil pass0 (pa_cons (pv 4) (pa_cons (pe_un un_neg pe_int) (pa_cons (pe_op op_pow pe_int pe_int) pa_nil))))))))) (pss_one (ps_ret pe_bl)) pss_nil)))
      (pss_one (ps_ret pe_bl))))), ?_⟩
    refine ⟨_, rfl, someH, rfl, ?_⟩
    refine for_it walk_str (fun i σ H' => ∃ v1 v2, σ = [some (.str someH), v1, v2, none, none] ∧ Same H H') ⟨none, none, rfl, Same.refl H⟩ (fun _ _ _ _ _ => trivial) ?_ ?_
    · rintro i x σ H1 H2 hi ⟨v1, v2, rfl, k1⟩ ⟨rfl, c, hc, rfl⟩
      have hc' : someH.cps.toList[i]? = some c := by rw [Array.getElem?_toList]; exact hc
      have sc : Sgn ⟨#[c]⟩ := sgn_one someH_sgn (List.mem_of_getElem? hc')
      have lc : (⟨#[c]⟩ : Str).length = 1 := rfl
      refine ⟨_, rfl, _, rfl, _, _, rfl, rfl, by rw [a_len, lc, sizeLine_eq]; decide, _, rfl, _, _, rfl, rfl, by rw [a_len, lc, sizeLine_eq]; decide, _, rfl, _, _, rfl, rfl, by rw [a_len, lc, sizeLine_eq]; decide, _, _, rfl, rfl, by rw [app_len, a_len, lc, sizeLine_eq]; decide, _, rfl, _, _, rfl, rfl, mul_ok (by rw [lc]; decide) (by decide) (by decide), _, rfl, _, _, rfl, rfl, mul_ok (by rw [lc]; decide) (by decide) (by decide), by show 6 ≤ sizeLine; decide, fun p hp => ?_⟩
      obtain ⟨six, h6, g6⟩ : ∃ six : List Str, six = [(⟨#[c]⟩ : Str), ("a" : Str) ++ (⟨#[c]⟩ : Str), (⟨#[c]⟩ : Str) ++ ("a" : Str), (("a" : Str) ++ (⟨#[c]⟩ : Str)) ++ ("a" : Str), Txt.mul ⟨#[c]⟩ 8, Txt.mul ⟨#[c]⟩ 9] ∧ ∀ z ∈ six, z.length ≤ 100 ∧ Sgn z := by
        refine ⟨_, rfl, fun z hz => ?_⟩
        simp only [List.mem_cons, List.not_mem_nil, or_false] at hz
        rcases hz with rfl | rfl | rfl | rfl | rfl | rfl
        · exact ⟨by rw [lc]; decide, sc⟩
        · exact ⟨by rw [app_len, a_len, lc]; decide, sgn_app a_sgn sc⟩
        · exact ⟨by rw [app_len, a_len, lc]; decide, sgn_app sc a_sgn⟩
        · exact ⟨by rw [app_len, app_len, a_len, lc]; decide, sgn_app (sgn_app a_sgn sc) a_sgn⟩
        · exact ⟨by rw [mul_len _ (by decide), lc]; decide, sgn_mul sc (by decide)⟩
        · exact ⟨by rw [mul_len _ (by decide), lc]; decide, sgn_mul sc (by decide)⟩
      have sp : Same H2 (upd H2 p (.tup (six.map V.str))) := same_upd hp
      have lp := upd_same (H := H2) (a := p) (o := .tup (six.map V.str))
      refine ⟨p, rfl, ⟨_, SqT.of upd_same⟩, ?_⟩
      refine for_it (walk_tup (K := K) (a := p) (xs := six.map V.str)) (fun j σ H' => ∃ v2, σ = [some (.str someH), some (.str ⟨#[c]⟩), v2, none, none] ∧ Same H H' ∧ H' p = some (.tup (six.map V.str))) ⟨v2, rfl, ?_, ?_⟩ (fun j σ H' _ ⟨_, _, _, e⟩ => SqT.of e) ?_ ?_
      · rw [h6] at sp
        exact k1.trans sp
      · rw [h6]
        exact upd_same
      · rintro j x σ H3 H4 hj ⟨v3, rfl, k3, l3⟩ ⟨rfl, hx⟩
        rw [List.getElem?_map] at hx
        obtain ⟨z, hz, rfl⟩ : ∃ z, z ∈ six ∧ x = V.str z := by
          cases e : six[j]? with
          | none =>
            rw [e] at hx
            cases hx
          | some z =>
            rw [e] at hx
            exact ⟨z, List.mem_of_getElem? e, (Option.some.inj hx).symm⟩
        have it : Itm H4 (.str z) := .str z (g6 z hz).1 (g6 z hz).2
        refine ⟨_, rfl, _, rfl, it, fun H5 s5 => ⟨_, rfl, iteF ?_⟩⟩
        refine ⟨_, rfl, _, rfl, it.same s5, fun H6 s6 => ⟨_, rfl, iteF ?_⟩⟩
        exact ⟨_, rfl, (k3.trans s5).trans s6, s6 _ _ (s5 _ _ l3)⟩
      · rintro σ H3 ⟨v3, rfl, k3, l3⟩
        exact ⟨_, _, rfl, k3⟩
    · rintro σ H1 ⟨v1, v2, rfl, k1⟩
      -- sizes
      refine ⟨by show 4 ≤ sizeLine; decide, fun p hp => ?_⟩
      have sp := same_upd (o := .tup [.int 0, .int 29, .int 30, .int 31]) hp
      refine ⟨p, rfl, ⟨_, SqT.of upd_same⟩, ?_⟩
      refine for_it (walk_tup (K := K) (a := p) (xs := [.int 0, .int 29, .int 30, .int 31])) (fun j σ H' => ∃ v1 v2 v3, σ = [some (.str someH), v1, v2, v3, none] ∧ Same H H' ∧ H' p = some (.tup [.int 0, .int 29, .int 30, .int 31])) ⟨_, _, _, rfl, k1.trans sp, upd_same⟩ (fun j σ H' _ ⟨_, _, _, _, _, e⟩ => SqT.of e) ?_ ?_
      · rintro j x σ H3 H4 hj ⟨w1, w2, w3, rfl, k3, l3⟩ ⟨rfl, hx⟩
        obtain ⟨n, rfl, n0, n31⟩ : ∃ n : Int, x = V.int n ∧ 0 ≤ n ∧ n ≤ 31 := by
          have hm := List.mem_of_getElem? hx
          simp only [List.mem_cons, List.not_mem_nil, or_false] at hm
          rcases hm with rfl | rfl | rfl | rfl
          · exact ⟨0, rfl, by decide, by decide⟩
          · exact ⟨29, rfl, by decide, by decide⟩
          · exact ⟨30, rfl, by decide, by decide⟩
          · exact ⟨31, rfl, by decide, by decide⟩
        have mx : MulOk "x" n := mul_ok (by rw [x_len]; decide) n0 (by omega)
        have mb : MulOk " " n := mul_ok (by rw [b_len]; decide) n0 (by omega)
        have ex : (Txt.mul "x" n).length ≤ 31 := by rw [mul_len _ n0, x_len]; omega
        have eb : (Txt.mul " " n).length ≤ 31 := by rw [mul_len _ n0, b_len]; omega
        refine ⟨_, rfl, _, _, rfl, rfl, mx, _, rfl, _, _, rfl, rfl, mb, _, _, rfl, rfl, by rw [x_len, sizeLine_eq]; omega, _, _, rfl, rfl, by rw [app_len, x_len, sizeLine_eq]; omega, _, rfl, _, _, rfl, rfl, mx, _, _, rfl, rfl, by rw [b_len, sizeLine_eq]; omega, by show 3 ≤ sizeLine; decide, fun p2 hp2 => ?_⟩
        obtain ⟨six, h6, g6⟩ : ∃ six : List Str, six = [Txt.mul "x" n, (("x" : Str) ++ Txt.mul " " n) ++ ("x" : Str), Txt.mul "x" n ++ (" " : Str)] ∧ ∀ z ∈ six, z.length ≤ 100 ∧ Sgn z := by
          refine ⟨_, rfl, fun z hz => ?_⟩
          simp only [List.mem_cons, List.not_mem_nil, or_false] at hz
          rcases hz with rfl | rfl | rfl
          · exact ⟨by omega, sgn_mul x_sgn n0⟩
          · exact ⟨by rw [app_len, app_len, x_len]; omega, sgn_app (sgn_app x_sgn (sgn_mul b_sgn n0)) x_sgn⟩
          · exact ⟨by rw [app_len, b_len]; omega, sgn_app (sgn_mul x_sgn n0) b_sgn⟩
        have sp2 : Same H4 (upd H4 p2 (.tup (six.map V.str))) := same_upd hp2
        refine ⟨p2, rfl, ⟨_, SqT.of upd_same⟩, ?_⟩
        refine for_it (walk_tup (K := K) (a := p2) (xs := six.map V.str)) (fun j σ H' => ∃ w1 v2, σ = [some (.str someH), w1, v2, some (.int n), none] ∧ (Same H H' ∧ H' p = some (.tup [.int 0, .int 29, .int 30, .int 31])) ∧ H' p2 = some (.tup (six.map V.str))) ⟨w1, w2, rfl, ?_, ?_⟩ (fun j σ H' _ ⟨_, _, _, _, e⟩ => SqT.of e) ?_ ?_
        · rw [h6] at sp2
          exact ⟨k3.trans sp2, sp2 _ _ l3⟩
        · rw [h6]
          exact upd_same
        · rintro j2 x2 σ H5 H6 hj2 ⟨u1, u2, rfl, k5, l5⟩ ⟨rfl, hx2⟩
          rw [List.getElem?_map] at hx2
          obtain ⟨z, hz, rfl⟩ : ∃ z, z ∈ six ∧ x2 = V.str z := by
            cases e : six[j2]? with
            | none =>
              rw [e] at hx2
              cases hx2
            | some z =>
              rw [e] at hx2
              exact ⟨z, List.mem_of_getElem? e, (Option.some.inj hx2).symm⟩
          have it : Itm H6 (.str z) := .str z (g6 z hz).1 (g6 z hz).2
          refine ⟨_, rfl, _, rfl, it, fun H7 s7 => ⟨_, rfl, iteF ?_⟩⟩
          exact ⟨_, _, rfl, ⟨k5.1.trans s7, s7 _ _ k5.2⟩, s7 _ _ l5⟩
        · rintro σ H5 ⟨u1, u2, rfl, k5, l5⟩
          exact ⟨_, _, _, rfl, k5.1, k5.2⟩
      · rintro σ H3 ⟨w1, w2, w3, rfl, k3, l3⟩
        -- items
        refine ⟨_, rfl, _, _, rfl, rfl, ⟨by decide, by decide, by decide⟩, by show 1 ≤ sizeLine; decide, fun a1 ha1 => ?_⟩
        have t1 := same_upd (o := .lst [.int 1]) ha1
        refine ⟨by show 1 ≤ sizeLine; decide, fun a2 ha2 => ?_⟩
        have t2 := same_upd (o := .tup [.int 1]) ha2
        intro a3 ha3
        have t3 := same_upd (o := .dK []) ha3
        refine ⟨by show 13 ≤ sizeLine; decide, fun a4 ha4 => ?_⟩
        obtain ⟨xs, hxs⟩ : ∃ xs : List V, xs = [.int 1, .bl true, .int 0, .bl false, .int 9999, .int 10000, .int (-1), .int (10 ^ (60 : Int).toNat), .non, .str "1", .ref a1, .ref a2, .ref a3] := ⟨_, rfl⟩
        have t4 : Same (upd (upd (upd H3 a1 (.lst [.int 1])) a2 (.tup [.int 1])) a3 (.dK [])) (upd (upd (upd (upd H3 a1 (.lst [.int 1])) a2 (.tup [.int 1])) a3 (.dK [])) a4 (.tup xs)) := same_upd ha4
        have l4 : upd (upd (upd (upd H3 a1 (.lst [.int 1])) a2 (.tup [.int 1])) a3 (.dK [])) a4 (.tup xs) a4 = some (.tup xs) := upd_same
        have g1 := t4 _ _ (t3 _ _ (t2 _ _ (upd_same (H := H3) (a := a1) (o := .lst [.int 1]))))
        have g2 := t4 _ _ (t3 _ _ (upd_same (H := upd H3 a1 (.lst [.int 1])) (a := a2) (o := .tup [.int 1])))
        have g3 := t4 _ _ (upd_same (H := upd (upd H3 a1 (.lst [.int 1])) a2 (.tup [.int 1])) (a := a3) (o := .dK []))
        have k4 := (((k3.trans t1).trans t2).trans t3).trans t4
        have its : ∀ x ∈ xs, Itm (upd (upd (upd (upd H3 a1 (.lst [.int 1])) a2 (.tup [.int 1])) a3 (.dK [])) a4 (.tup xs)) x := by
          intro x hx
          rw [hxs] at hx
          simp only [List.mem_cons, List.not_mem_nil, or_false] at hx
          rcases hx with rfl | rfl | rfl | rfl | rfl | rfl | rfl | rfl | rfl | rfl | rfl | rfl | rfl
          · exact .int _ (by decide +kernel)
          · exact .bl true
          · exact .int _ (by decide +kernel)
          · exact .bl false
          · exact .int _ (by decide +kernel)
          · exact .int _ (by decide +kernel)
          · exact .int _ (by decide +kernel)
          · exact .int _ (by decide +kernel)
          · exact .non
          · exact .str _ (by decide +kernel) (sgnB (by decide +kernel))
          · exact .lst g1 (.inl rfl)
          · exact .tup g2
          · exact .dct g3
        rw [hxs] at its k4 l4
        refine ⟨a4, rfl, ⟨_, SqT.of upd_same⟩, ?_⟩
        refine for_it (walk_tup (K := K) (a := a4) (xs := [.int 1, .bl true, .int 0, .bl false, .int 9999, .int 10000, .int (-1), .int (10 ^ (60 : Int).toNat), .non, .str "1", .ref a1, .ref a2, .ref a3])) (fun j σ H' => ∃ v1 v2 v3 v4, σ = [some (.str someH), v1, v2, v3, v4] ∧ Same H H' ∧ H' a4 = some (.tup [.int 1, .bl true, .int 0, .bl false, .int 9999, .int 10000, .int (-1), .int (10 ^ (60 : Int).toNat), .non, .str "1", .ref a1, .ref a2, .ref a3]) ∧ ∀ x ∈ ([.int 1, .bl true, .int 0, .bl false, .int 9999, .int 10000, .int (-1), .int (10 ^ (60 : Int).toNat), .non, .str "1", .ref a1, .ref a2, .ref a3] : List V), Itm H' x) ⟨_, _, _, _, rfl, k4, l4, its⟩ (fun j σ H' _ ⟨_, _, _, _, _, _, e, _⟩ => SqT.of e) ?_ ?_
        · rintro j x σ H5 H6 hj ⟨u1, u2, u3, u4, rfl, k5, l5, i5⟩ ⟨rfl, hx⟩
          have ix := i5 x (List.mem_of_getElem? hx)
          refine ⟨_, rfl, x, 0, 1, rfl, ix, fun H7 s7 => ⟨_, rfl, iteF ?_⟩⟩
          refine ⟨_, rfl, _, rfl, _, _, rfl, rfl, ⟨by decide, by decide, by decide⟩, x, _, _, rfl, ix.same s7, fun H8 s8 => ⟨_, rfl, iteF ?_⟩⟩
          exact ⟨_, _, _, _, rfl, (k5.trans s7).trans s8, s8 _ _ (s7 _ _ l5), fun x hx => ((i5 x hx).same s7).same s8⟩
        · rintro σ H5 ⟨u1, u2, u3, u4, rfl, k5, _⟩
          exact q H5 k5
end
end Pk
namespace Pk
open PySem L2
/-! ### list + list, whatever they are read from -/
def rCatS (K : PySem.W.Frag) : R2 := fun x y H Q => ∃ l b xs zs, x = .ref l ∧ y = .ref b ∧ SqL K H l xs ∧ SqL K H b zs ∧ xs.length + zs.length ≤ sizeLine ∧ ∀ p, H p = none → Q (.ref p) (upd H p (.lst (xs ++ zs)))
theorem op_catS {X : Cx} : OpR X (binaryOp .Add) (rCatS X.K) := by
  rintro pins s σ H x y v u Q I rx ry ⟨l, b, xs, zs, ex, ey, hl, hb, hz, q⟩
  subst ex ey
  cases rx
  cases ry
  obtain ⟨its, r, ⟨⟨c1, d1, dt1, sl1⟩, n1, e1, ec1, ed1, et1⟩, _⟩ := I.list hl
  obtain ⟨its2, r2, ⟨⟨c2, d2, dt2, sl2⟩, n2, e2, ec2, ed2, et2⟩, _⟩ := I.list hb
  dsimp only at ec1 ed1 et1 ec2 ed2 et2
  subst ec1 ed1 et1 ec2 ed2 et2
  have k1 := r.length
  have k2 := r2.length
  refine concat_meets ⟨_, e1, rfl⟩ ⟨_, e2, rfl⟩ noFill_list_add seq_list_add PySem.F.slot_list_add PySem.F.entry_list_add (PySem.F.args_list_add_2 _ _)
    (PyProof.Rows.list_addW l b its.toArray its2.toArray n1 n2 none none sl1 sl2 (by rw [List.size_toArray, List.size_toArray]; omega)) ⟨e1, e2, ?_⟩
  rw [show its.toArray ++ its2.toArray = (its ++ its2).toArray by simp]
  exact ⟨.ref _, _, I.lnew (t' := s.toks) (r.append r2) (by rw [List.length_append]; omega), rfl, q _ I.fresh⟩
theorem StrmAt.same {H H' : Hp} {s : Addr} {t : Int} (h : StrmAt H s t) (k : Same H H') : StrmAt H' s t := by
  obtain ⟨b, c, m, e⟩ := h
  exact ⟨b, c, m, k _ _ e⟩
theorem cut_int {ns : List Int} {lo hi : Option Int} {x : V} (h : x ∈ cutV (ns.map V.int ++ [V.int 0]) lo hi) : ∃ i : Int, x = V.int i := by
  unfold cutV at h
  have h2 := List.mem_of_mem_drop (List.mem_of_mem_take h)
  rcases List.mem_append.mp h2 with h | h
  · obtain ⟨i, _, rfl⟩ := List.mem_map.mp h
    exact ⟨i, rfl⟩
  · exact ⟨0, List.mem_singleton.mp h⟩
/-! ### the law -/
def spLaw (K : PySem.W.Frag) : Sp := fun vs H Q _ => ∃ (a : Addr) (ns : List Int), vs = [.ref a] ∧ SqL K H a (ns.map V.int) ∧ ns.length ≤ 63 ∧ ∀ H', Q (.bl true) H'
abbrev NLaw : List Str := ["_law_script", "_law_signs", "_law_k", "_law_cell", "_law_stream_here", "_law_some", "_law_item", "_law_text", "_law_at", "_law_sign", "_law_bent", "_law_one"]
theorem Itm.but {H H' : Hp} {s : Addr} {t : Int} {x : V} (h : Itm H x) (st : StrmAt H s t) (b : But s H H') : Itm H' x := by
  obtain ⟨b0, c0, m0, e0⟩ := st
  cases h with
  | non => exact .non
  | bl b => exact .bl b
  | int i h => exact .int i h
  | str z hl ho => exact .str z hl ho
  | lst h hv => exact .lst (b _ _ (fun e => by rw [e, e0] at h; cases h) h) hv
  | tup h => exact .tup (b _ _ (fun e => by rw [e, e0] at h; cases h) h)
  | dct h => exact .dct (b _ _ (fun e => by rw [e, e0] at h; cases h) h)
def signsL : Str := " A1_-\n!~az"
theorem signsL_sgn : Sgn signsL := sgnB (by decide +kernel)
theorem signsL_len : signsL.cps.toList.length = 10 := by decide +kernel
section
variable {P : Program} {w : World} {K : PySem.W.Frag} {mg : Str → Option Value} {base : Heap} {cB fI : Addr} {c : Nat → Addr}
variable {fN fW fA fT fB fD : Addr} {fdN fdW fdA fdT fdB fdD : FuncData} {fQ fV fZ : Addr} {fdQ fdV fdZ : FuncData} {fn ft fu : Addr} {fdn fdt fdu : FuncData}
structure Ds (K : PySem.W.Frag) (mg : Str → Option Value) (fM fR fK fX fY fH : Addr) (fdM fdR fdK fdX fdY fdH : FuncData) : Prop where
  M : Fun K "_law_mixed" "_law_mixed" sMixed fM fdM
  bM : Binds K fdM ["_law_number", "_law_k"] []
  gM : mg "_law_mixed" = some (.ref fM)
  R : Fun K "_law_stream" "_law_stream" sStream fR fdR
  bR : Binds K fdR ["_law_cell", "_law_k"] []
  gR : mg "_law_stream" = some (.ref fR)
  T : Fun K "_law_take" "_law_take" sTake fK fdK
  bT : Binds K fdK ["_law_stream_here", "_law_many"] []
  gT : mg "_law_take" = some (.ref fK)
  X : Fun K "_law_name_by" "_law_name_by" sNameBy fX fdX
  bX : Binds K fdX ["_law_stream_here"] []
  gX : mg "_law_name_by" = some (.ref fX)
  Y : Fun K "_law_text_by" "_law_text_by" sTextBy fY fdY
  bY : Binds K fdY ["_law_stream_here"] []
  gY : mg "_law_text_by" = some (.ref fY)
  H : Fun K "_law_by_hand_right" "_law_by_hand_right" sByHand fH fdH
  bH : Binds K fdH [] []
  gH : mg "_law_by_hand_right" = some (.ref fH)
variable {fM fR fK fX fY fH : Addr} {fdM fdR fdK fdX fdY fdH : FuncData}
theorem scLaw : FnScope NLaw ["_law_script"] (defScope sLaw) := ⟨rfl, rfl, rfl, by decide +kernel, rfl, by decide +kernel, by decide +kernel⟩
theorem ok_law {f : Addr} {fd : FuncData} (F : Fun K "law" "law" sLaw f fd) (T : Txt K mg cB fI c) (D : Dw K mg fN fW fA fT fB fD fdN fdW fdA fdT fdB fdD) (L : Dl K mg fQ fV fZ fdQ fdV fdZ) (R : Dr K mg fn ft fu fdn fdt fdu) (B : Ds K mg fM fR fK fX fY fH fdM fdR fdK fdX fdY fdH) : FnG P w K mg base CX0 10 f fd ["_law_script"] (spLaw K) := by
  have Gn : FnG P w K mg base CX0 8 fn fdn ["_law_item"] spRight := ok_nameRight R.n T D L
  have Gt : FnG P w K mg base CX0 3 ft fdt ["_law_item"] spRight := ok_textRight R.t T D
  have Gu : FnG P w K mg base CX0 8 fu fdu ["_law_item", "_law_low", "_law_high"] spRight3 := ok_numberRight R.u T D L
  have Gh : FnG P w K mg base CX0 9 fH fdH [] spHand := ok_byHand B.H T D L R
  have GR : FnOk P w K mg base CX0 2 fR fdR ["_law_cell", "_law_k"] spStream := ok_stream B.R B.M B.bM B.gM
  have GT : FnOk P w K mg base CX0 2 fK fdK ["_law_stream_here", "_law_many"] spTake := ok_take B.T B.M B.bM B.gM
  have GX : FnOk P w K mg base CX0 3 fX fdX ["_law_stream_here"] (spBy 8 9) := ok_nameBy B.X T.range B.T B.bT B.gT B.M B.bM B.gM
  have GY : FnOk P w K mg base CX0 3 fY fdY ["_law_stream_here"] (spBy 30 33) := ok_textBy B.Y T.range T.len B.T B.bT B.gT B.M B.bM B.gM
  refine okG F scLaw (fun vs H Q E h => ?_) (fun cdv A calm outer s H vs Q E hr h => ?_)
  · obtain ⟨a, ns, rfl, _⟩ := h
    rfl
  · obtain ⟨a, ns, rfl, hS, hlen, q⟩ := h
    have r2 : Room 2 _ := hr.mono (by decide)
    have r3 : Room 3 _ := hr.mono (by decide)
    have r8 : Room 8 _ := hr.mono (by decide)
    refine ⟨_, pss_cons (ps_if (pt_not (pt_val (pe_call0G Gh (show Calm _ from calm) hr (by rfl) B.gH B.H.kp B.bH .nil pass0))) (pss_one (ps_ret pe_bl)) pss_nil)
      (pss_cons (ps_set (i := 1) scLaw.nd rfl (.inl rfl) pe_str)
      (pss_cons (ps_for PassesOwn.never rfl (pi_enum (by rfl) T.enum (pa_cons (pe_slice sl_list (pe_op op_catS (pv 0) (pe_lst (pa_cons pe_int pa_nil))) po_none (po_some pe_int)) pa_nil)) (pg_tup rfl (pgs_cons (pg_name (i := 2) scLaw.nd rfl (.inl rfl)) (pgs_cons (pg_name (i := 3) scLaw.nd rfl (.inl rfl)) pgs_nil)))
        (pss_cons (ps_set (i := 4) scLaw.nd rfl (.inl rfl) (pe_call GR r2 (by rfl) B.gR B.R.kp B.bR .nil pass0 (pa_cons (pv 3) (pa_cons (pv 2) pa_nil))))
        (pss_cons (ps_set (i := 5) scLaw.nd rfl (.inl rfl) (pe_lst (pa_cons (pe_op op_sub (pe_call GT r2 (by rfl) B.gT B.T.kp B.bT .nil pass0 (pa_cons (pv 4) (pa_cons pe_int pa_nil))) pe_int) (pa_cons (pe_op op_add pe_int (pe_call GT r2 (by rfl) B.gT B.T.kp B.bT .nil pass0 (pa_cons (pv 4) (pa_cons pe_int pa_nil)))) (pa_cons (pe_op op_pow pe_int pe_int) (pa_cons pe_bl (pa_cons pe_non (pa_cons pe_str (pa_cons (pe_lst (pa_cons pe_int pa_nil)) (pa_cons (pe_tup (pa_cons pe_int pa_nil)) pa_nil))))))))))
        (pss_cons (ps_set (i := 6) scLaw.nd rfl (.inl rfl) (pe_ix ix_list (pe_op op_cat (pv 5) (pe_lst (pa_cons pe_dnewK pa_nil))) (pe_call GT r2 (by rfl) B.gT B.T.kp B.bT .nil pass0 (pa_cons (pv 4) (pa_cons pe_int pa_nil))) (fun _ _ => rfl)))
        (pss_cons (ps_if (pt_not (pt_val (pe_callG Gu (show Calm _ from calm) r8 (by rfl) R.gu R.u.kp R.bu .nil pass0 (pa_cons (pv 6) (pa_cons (pe_op op_sub (pe_call GT r2 (by rfl) B.gT B.T.kp B.bT .nil pass0 (pa_cons (pv 4) (pa_cons pe_int pa_nil))) pe_int) (pa_cons (pe_op op_sub (pe_call GT r2 (by rfl) B.gT B.T.kp B.bT .nil pass0 (pa_cons (pv 4) (pa_cons pe_int pa_nil))) pe_int) pa_nil)))))) (pss_one (ps_ret pe_bl)) pss_nil)
        (pss_one (ps_for PassesOwn.never rfl (pi_tup (pe_tup (pa_cons (pe_call GX r3 (by rfl) B.gX B.X.kp B.bX .nil pass0 (pa_cons (pv 4) pa_nil)) (pa_cons (pe_call GY r3 (by rfl) B.gY B.Y.kp B.bY .nil pass0 (pa_cons (pv 4) pa_nil)) pa_nil)))) (pg_name (i := 7) scLaw.nd rfl (.inl rfl))
          (pss_cons (ps_par (i := 8) (j := 9) (by rfl) scLaw.nd rfl rfl (by decide) rfl rfl (pa_cons (pe_call GT r2 (by rfl) B.gT B.T.kp B.bT .nil pass0 (pa_cons (pv 4) (pa_cons (pe_op op_add (pe_callB call_len_str (by rfl) T.len PySem.boot_len (pa_cons (pv 7) pa_nil)) pe_int) pa_nil))) (pa_cons (pe_ix ix_str (pv 1) (pe_call GT r2 (by rfl) B.gT B.T.kp B.bT .nil pass0 (pa_cons (pv 4) (pa_cons pe_int pa_nil))) (fun _ _ => rfl)) pa_nil)) (by rfl))
          (pss_cons (ps_set (i := 10) scLaw.nd rfl (.inl rfl) (pe_lst (pa_cons (pe_op op_add_str (pe_op op_add_str (pe_slice sl_str (pv 7) po_none (po_some (pv 8))) (pv 9)) (pe_slice sl_str (pv 7) (po_some (pv 8)) po_none)) (pa_cons (pe_op op_add_str (pe_op op_add_str (pe_slice sl_str (pv 7) po_none (po_some (pv 8))) (pv 9)) (pe_slice sl_str (pv 7) (po_some (pe_op op_add (pv 8) pe_int)) po_none)) (pa_cons (pe_op op_add_str (pe_slice sl_str (pv 7) po_none (po_some (pv 8))) (pe_slice sl_str (pv 7) (po_some (pe_op op_add (pv 8) pe_int)) po_none)) pa_nil)))))
          (pss_one (ps_for PassesOwn.never rfl (pi_tup (pe_tup (pa_cons (pv 7) (pa_cons (pe_ix ix_list (pv 10) (pe_call GT r2 (by rfl) B.gT B.T.kp B.bT .nil pass0 (pa_cons (pv 4) (pa_cons pe_int pa_nil))) (fun _ _ => rfl)) (pa_cons (pv 6) (pa_cons (pe_lst (pa_cons (pv 7) pa_nil)) pa_nil)))))) (pg_name (i := 11) scLaw.nd rfl (.inl rfl))
            (pss_one (ps_if (PW.pt (pw_or (pt_not (pt_val (pe_callG Gn (show Calm _ from calm) r8 (by rfl) R.gn R.n.kp R.bn .nil pass0 (pa_cons (pv 11) pa_nil)))) (pw_or1 (pt_not (pt_val (pe_callG Gt (show Calm _ from calm) r3 (by rfl) R.gt R.t.kp R.bt .nil pass0 (pa_cons (pv 11) pa_nil))))))) (pss_one (ps_ret pe_bl)) pss_nil)))))))))))))
      (pss_one (ps_ret pe_bl)))), ?_⟩
    refine ⟨rfl, fun H0 s0 => ⟨_, rfl, iteF ?_⟩⟩
    refine ⟨_, rfl, by show 1 ≤ sizeLine; decide, fun l hl => ?_⟩
    have s2 := same_upd (o := .lst [.int 0]) hl
    refine ⟨a, l, ns.map V.int, [.int 0], rfl, rfl, s2.seq (s0.seq hS), SqL.of upd_same, by rw [List.length_map, sizeLine_eq]; show ns.length + 1 ≤ _; omega, fun m hm => ?_⟩
    refine ⟨63, rfl, m, _, rfl, SqL.of upd_same, fun n hn => ?_⟩
    refine ⟨n, _, rfl, SqL.of upd_same, ?_⟩
    generalize hcut : cutV (ns.map V.int ++ [V.int 0]) none (some 63) = cut
    have cutI : ∀ x ∈ cut, ∃ i : Int, x = V.int i := fun x hx => by
      rw [← hcut] at hx
      exact cut_int hx
    have cutL : cut.length ≤ 64 := by
      have h := cutV_length (ns.map V.int ++ [V.int 0]) none (some 63)
      rw [hcut, List.length_append, List.length_map, List.length_singleton] at h
      omega
    refine for_it (walk_enum (K := K) (a := n) (xs := cut)) (fun i σ H' => ∃ v2 v3 v4 v5 v6 v7 v8 v9 v10 v11, σ = [some (.ref a), some (.str signsL), v2, v3, v4, v5, v6, v7, v8, v9, v10, v11] ∧ H' n = some (.lst cut)) ⟨_, _, _, _, _, _, _, _, _, _, rfl, upd_same⟩ (fun i σ H' _ ⟨_, _, _, _, _, _, _, _, _, _, _, e⟩ => SqL.of e) ?_ ?_
    · rintro i x σ H3 H4 hi ⟨v2, v3, v4, v5, v6, v7, v8, v9, v10, v11, rfl, en⟩ ⟨T0, x1, x2, rfl, nT, rfl, f1, f2⟩
      dsimp only at f1 f2
      obtain ⟨cell, rfl⟩ := cutI x2 (List.mem_of_getElem? f2)
      obtain rfl := Option.some.inj f1
      have sT := same_upd (o := .tup [.int (i : Nat), .int cell]) nT
      have en4 := sT _ _ en
      refine ⟨T0, _, rfl, SqT.of upd_same, rfl, _, _, rfl, _, _, rfl, rfl, ?_⟩
      generalize upd H3 T0 (.tup [.int (i : Nat), .int cell]) = H4 at sT en4 ⊢
      -- the stream
      refine ⟨_, rfl, _, rfl, cell, i, rfl, by omega, by omega, fun ps o hps st5 => ?_⟩
      have s5 := same_upd (o := o) hps
      have en5 := s5 _ _ en4
      have nps : n ≠ ps := ne_of_none en4 hps
      generalize upd H4 ps o = H5 at st5 s5 en5 ⊢
      -- some things
      refine ⟨_, rfl, ps, 0, 41, rfl, st5, by decide, by decide, by decide, by decide, fun y1 H6 y10 y11 u6 st6 => ?_⟩
      have en6 := u6 _ _ nps en5
      refine ⟨y1, 20, rfl, rfl, _, rfl, ps, _, 20, rfl, st6, by decide, by decide, by decide, by decide, fun y2 H7 y20 y21 u7 st7 => ?_⟩
      have en7 := u7 _ _ nps en6
      refine ⟨9990, y2, rfl, rfl, _, _, rfl, rfl, ⟨by decide, by decide, by decide⟩, by show 1 ≤ sizeLine; decide, fun a1 ha1 => ?_⟩
      have t1 := same_upd (o := .lst [.int 1]) ha1
      refine ⟨by show 1 ≤ sizeLine; decide, fun a2 ha2 => ?_⟩
      have t2 := same_upd (o := .tup [.int 1]) ha2
      have g1 := t2 _ _ (upd_same (H := H7) (a := a1) (o := .lst [.int 1]))
      have g2 := upd_same (H := upd H7 a1 (.lst [.int 1])) (a := a2) (o := .tup [.int 1])
      have k8 := t1.trans t2
      have en8 := k8 _ _ en7
      have st8 := st7.same k8
      refine ⟨by show 8 ≤ sizeLine; decide, fun a4 ha4 => ?_⟩
      generalize upd (upd H7 a1 (.lst [.int 1])) a2 (.tup [.int 1]) = H8 at g1 g2 k8 en8 st8 ha4 ⊢
      have t4 := same_upd (o := .lst [.int (y1 - 20), .int (9990 + y2), .int (10 ^ (20 : Int).toNat), .bl true, .non, .str "1", .ref a1, .ref a2]) ha4
      have l4 := upd_same (H := H8) (a := a4) (o := .lst [.int (y1 - 20), .int (9990 + y2), .int (10 ^ (20 : Int).toNat), .bl true, .non, .str "1", .ref a1, .ref a2])
      have g1 := t4 _ _ g1
      have g2 := t4 _ _ g2
      have en9 := t4 _ _ en8
      have st9 := st8.same t4
      show tSeq _ _ _ _ (upd H8 a4 (.lst [.int (y1 - 20), .int (9990 + y2), .int (10 ^ (20 : Int).toNat), .bl true, .non, .str "1", .ref a1, .ref a2]))
      generalize upd H8 a4 (.lst [.int (y1 - 20), .int (9990 + y2), .int (10 ^ (20 : Int).toNat), .bl true, .non, .str "1", .ref a1, .ref a2]) = H9 at l4 g1 g2 en9 st9
      -- the item
      refine ⟨_, rfl, ?_⟩
      intro a5 ha5
      have t5 := same_upd (o := .dK []) ha5
      refine ⟨by show 1 ≤ sizeLine; decide, fun a6 ha6 => ?_⟩
      have t6 := same_upd (o := .lst [.ref a5]) ha6
      refine ⟨a4, a6, _, _, rfl, rfl, t6 _ _ (t5 _ _ l4), upd_same, by show 9 ≤ sizeLine; decide, fun a7 ha7 => ?_⟩
      have t7 := same_upd (o := .lst [.int (y1 - 20), .int (9990 + y2), .int (10 ^ (20 : Int).toNat), .bl true, .non, .str "1", .ref a1, .ref a2, .ref a5]) ha7
      have k10 := (t5.trans t6).trans t7
      have g1 := k10 _ _ g1
      have g2 := k10 _ _ g2
      have g3 := t7 _ _ (t6 _ _ (upd_same (H := H9) (a := a5) (o := .dK [])))
      have l7 := upd_same (H := upd (upd H9 a5 (.dK [])) a6 (.lst [.ref a5])) (a := a7) (o := .lst [.int (y1 - 20), .int (9990 + y2), .int (10 ^ (20 : Int).toNat), .bl true, .non, .str "1", .ref a1, .ref a2, .ref a5])
      have en10 := k10 _ _ en9
      have st10 := st9.same k10
      refine ⟨_, rfl, ps, _, 9, rfl, st10, by decide, by decide, by decide, by decide, fun y3 H11 y30 y31 u11 st11 => ?_⟩
      obtain ⟨x, hx, mx⟩ := at_some (l := [V.int (y1 - 20), V.int (9990 + y2), V.int (10 ^ (20 : Int).toNat), V.bl true, V.non, V.str "1", V.ref a1, V.ref a2, V.ref a5]) y30 y31
      have l11 := u11 _ _ (fun e => by obtain ⟨_, _, _, z⟩ := st10; rw [← e, l7] at z; cases z) l7
      have en11 := u11 _ _ nps en10
      have lg : ∀ i : Int, i.natAbs < 2 ^ 200 → i.natAbs.log2 < 300 := fun i hi => by
        by_cases h0 : i.natAbs = 0
        · rw [h0]
          decide
        · have := (Nat.log2_lt h0).mpr hi
          omega
      have ix10 : Itm (upd (upd (upd H9 a5 (.dK [])) a6 (.lst [.ref a5])) a7 (.lst [.int (y1 - 20), .int (9990 + y2), .int (10 ^ (20 : Int).toNat), .bl true, .non, .str "1", .ref a1, .ref a2, .ref a5])) x := by
        simp only [List.mem_cons, List.not_mem_nil, or_false] at mx
        rcases mx with rfl | rfl | rfl | rfl | rfl | rfl | rfl | rfl | rfl
        · exact .int _ (lg _ (by omega))
        · exact .int _ (lg _ (by omega))
        · exact .int _ (by decide +kernel)
        · exact .bl true
        · exact .non
        · exact .str _ (by decide +kernel) (sgnB (by decide +kernel))
        · exact .lst g1 (.inl rfl)
        · exact .tup g2
        · exact .dct g3
      have ix11 := ix10.but st10 u11
      refine ⟨a7, _, y3, x, rfl, rfl, SqL.of l11, hx, ?_⟩
      -- number_right
      refine ⟨_, rfl, _, rfl, ps, _, 41, rfl, st11, by decide, by decide, by decide, by decide, fun y4 H12 y40 y41 u12 st12 => ?_⟩
      have ix12 := ix11.but st11 u12
      have en12 := u12 _ _ nps en11
      refine ⟨y4, 20, rfl, rfl, _, rfl, ps, _, 41, rfl, st12, by decide, by decide, by decide, by decide, fun y5 H13 y50 y51 u13 st13 => ?_⟩
      have ix13 := ix12.but st12 u13
      have en13 := u13 _ _ nps en12
      refine ⟨y5, 20, rfl, rfl, x, _, _, rfl, ix13, fun H14 s14 => ⟨_, rfl, iteF ?_⟩⟩
      have ix14 := ix13.same s14
      have en14 := s14 _ _ en13
      have st14 := st13.same s14
      -- two texts
      refine ⟨_, rfl, ps, _, rfl, st14, by decide, by decide, fun z1 H15 t15 lz1 oz1 u15 st15 t150 t151 => ?_⟩
      have ix15 := ix14.but st14 u15
      have en15 := u15 _ _ nps en14
      refine ⟨_, rfl, ps, t15, rfl, st15, t150, by omega, fun z2 H16 t16 lz2 oz2 u16 st16 t160 t161 => ?_⟩
      have ix16 := ix15.but st15 u16
      have en16 := u16 _ _ nps en15
      refine ⟨by show 2 ≤ sizeLine; decide, fun p hp => ?_⟩
      have sp := same_upd (o := .tup [.str z1, .str z2]) hp
      have lp := upd_same (H := H16) (a := p) (o := .tup [.str z1, .str z2])
      have ix17 := ix16.same sp
      have en17 := sp _ _ en16
      have st17 := st16.same sp
      refine ⟨p, rfl, ⟨_, SqT.of upd_same⟩, ?_⟩
      refine for_it (walk_tup (K := K) (a := p) (xs := [.str z1, .str z2])) (fun j σ H' => ∃ v7 v8 v9 v10 v11 t', σ = [some (.ref a), some (.str signsL), some (.int (i : Nat)), some (.int cell), some (.ref ps), some (.ref a4), some x, v7, v8, v9, v10, v11] ∧ H' n = some (.lst cut) ∧ StrmAt H' ps t' ∧ 0 ≤ t' ∧ t' ≤ 100 + 3 * (j : Int) ∧ Itm H' x ∧ H' p = some (.tup [.str z1, .str z2]))
        ⟨_, _, _, _, _, t16, rfl, en17, st17, t160, by omega, ix17, lp⟩ (fun j σ H' _ ⟨_, _, _, _, _, _, _, _, _, _, _, _, e⟩ => SqT.of e) ?_ ?_
      · rintro j y σ H18 H19 hj ⟨w7, w8, w9, w10, w11, t', rfl, en18, st18, t180, t181, ix18, l18⟩ ⟨rfl, hy⟩
        obtain ⟨z, rfl, lz, oz⟩ : ∃ z, y = V.str z ∧ z.length ≤ 30 ∧ Sgn z := by
          have hm := List.mem_of_getElem? hy
          simp only [List.mem_cons, List.not_mem_nil, or_false] at hm
          rcases hm with rfl | rfl
          · exact ⟨z1, rfl, by omega, oz1⟩
          · exact ⟨z2, rfl, lz2, oz2⟩
        have j2 : j < 2 := hj
        -- at, sign
        refine ⟨_, rfl, _, rfl, z, rfl, by rw [sizeLine_eq]; omega, _, _, rfl, rfl, ps, t', _, rfl, st18, t180, by omega, by omega, by omega, fun y6 H20 y60 y61 u20 st20 => ?_⟩
        have ix20 := ix18.but st18 u20
        have en20 := u20 _ _ nps en18
        have np : p ≠ ps := fun e => by
          obtain ⟨_, _, _, z0⟩ := st18
          rw [← e, l18] at z0
          cases z0
        have l20 := u20 _ _ np l18
        refine ⟨_, rfl, _, rfl, ps, _, 10, rfl, st20, by omega, by omega, by decide, by decide, fun y7 H21 y70 y71 u21 st21 => ?_⟩
        have ix21 := ix20.but st20 u21
        have en21 := u21 _ _ nps en20
        have l21 := u21 _ _ np l20
        obtain ⟨c7, hc7, mc7⟩ := at_some (l := signsL.cps.toList) y70 (by rw [signsL_len]; exact y71)
        have oc7 : Sgn ⟨#[c7]⟩ := sgn_one signsL_sgn mc7
        have lc7 : (⟨#[c7]⟩ : Str).length = 1 := rfl
        refine ⟨_, y7, c7, rfl, rfl, by decide +kernel, hc7, _, _, rfl, ?_⟩
        -- bent
        have lcut : ∀ lo hi, (cutS z lo hi).length ≤ 30 := fun lo hi => Nat.le_trans (cutS_length z lo hi) lz
        have ocut : ∀ lo hi, Sgn (cutS z lo hi) := fun lo hi => sgn_cut oz lo hi
        have zl : z.length ≤ sizeLine := by rw [sizeLine_eq]; omega
        refine ⟨_, rfl, _, rfl, y6, rfl, z, rfl, zl, _, rfl, _, _, rfl, rfl, by rw [lc7, sizeLine_eq]; have := lcut none (some y6); omega, _, rfl, _, rfl, y6, rfl, z, rfl, zl, _, _, rfl, rfl, by rw [app_len, lc7, sizeLine_eq]; have := lcut none (some y6); have := lcut (some y6) none; omega, ?_⟩
        refine ⟨_, rfl, _, rfl, y6, rfl, z, rfl, zl, _, rfl, _, _, rfl, rfl, by rw [lc7, sizeLine_eq]; have := lcut none (some y6); omega, _, rfl, _, rfl, _, _, rfl, rfl, _, rfl, z, rfl, zl, _, _, rfl, rfl, by rw [app_len, lc7, sizeLine_eq]; have := lcut none (some y6); have := lcut (some (y6 + 1)) none; omega, ?_⟩
        refine ⟨_, rfl, _, rfl, y6, rfl, z, rfl, zl, _, rfl, _, rfl, _, _, rfl, rfl, _, rfl, z, rfl, zl, _, _, rfl, rfl, by rw [sizeLine_eq]; have := lcut none (some y6); have := lcut (some (y6 + 1)) none; omega, by show 3 ≤ sizeLine; decide, fun p2 hp2 => ?_⟩
        have t22 := same_upd (o := .lst [.str (cutS z none (some y6) ++ (⟨#[c7]⟩ : Str) ++ cutS z (some y6) none), .str (cutS z none (some y6) ++ (⟨#[c7]⟩ : Str) ++ cutS z (some (y6 + 1)) none), .str (cutS z none (some y6) ++ cutS z (some (y6 + 1)) none)]) hp2
        have l22 := upd_same (H := H21) (a := p2) (o := .lst [.str (cutS z none (some y6) ++ (⟨#[c7]⟩ : Str) ++ cutS z (some y6) none), .str (cutS z none (some y6) ++ (⟨#[c7]⟩ : Str) ++ cutS z (some (y6 + 1)) none), .str (cutS z none (some y6) ++ cutS z (some (y6 + 1)) none)])
        have ix22 := ix21.same t22
        have en22 := t22 _ _ en21
        have lp22 := t22 _ _ l21
        have st22 := st21.same t22
        refine ⟨_, rfl, _, rfl, _, rfl, ps, _, 3, rfl, st22, by omega, by omega, by decide, by decide, fun y8 H23 y80 y81 u23 st23 => ?_⟩
        have ix23 := ix22.but st22 u23
        have en23 := u23 _ _ nps en22
        have lp23 := u23 _ _ np lp22
        have np2 : p2 ≠ ps := fun e => by
          obtain ⟨_, _, _, z0⟩ := st22
          rw [← e, l22] at z0
          cases z0
        have l23 := u23 _ _ np2 l22
        obtain ⟨xb, hxb, mxb⟩ := at_some (l := [V.str (cutS z none (some y6) ++ (⟨#[c7]⟩ : Str) ++ cutS z (some y6) none), V.str (cutS z none (some y6) ++ (⟨#[c7]⟩ : Str) ++ cutS z (some (y6 + 1)) none), V.str (cutS z none (some y6) ++ cutS z (some (y6 + 1)) none)]) y80 y81
        have ixb : ∀ H', Itm H' xb := by
          intro H'
          simp only [List.mem_cons, List.not_mem_nil, or_false] at mxb
          have q1 := lcut none (some y6)
          have q2 := lcut (some y6) none
          have q3 := lcut (some (y6 + 1)) none
          rcases mxb with rfl | rfl | rfl
          · exact .str _ (by rw [app_len, app_len, lc7]; omega) (sgn_app (sgn_app (ocut _ _) oc7) (ocut _ _))
          · exact .str _ (by rw [app_len, app_len, lc7]; omega) (sgn_app (sgn_app (ocut _ _) oc7) (ocut _ _))
          · exact .str _ (by rw [app_len]; omega) (sgn_app (ocut _ _) (ocut _ _))
        refine ⟨p2, _, y8, xb, rfl, rfl, SqL.of l23, hxb, _, rfl, _, rfl, by show 1 ≤ sizeLine; decide, fun p3 hp3 => ?_⟩
        have t24 := same_upd (o := .lst [.str z]) hp3
        have l24 := upd_same (H := H23) (a := p3) (o := .lst [.str z])
        refine ⟨by show 4 ≤ sizeLine; decide, fun p4 hp4 => ?_⟩
        have t25 := same_upd (o := .tup [.str z, xb, x, .ref p3]) hp4
        have k25 := t24.trans t25
        have ix25 := ix23.same k25
        have en25 := k25 _ _ en23
        have lp25 := k25 _ _ lp23
        have st25 := st23.same k25
        have l25 := t25 _ _ l24
        refine ⟨p4, rfl, ⟨_, SqT.of upd_same⟩, ?_⟩
        have all4 : ∀ y ∈ [V.str z, xb, x, V.ref p3], Itm (upd (upd H23 p3 (.lst [.str z])) p4 (.tup [.str z, xb, x, .ref p3])) y := by
          intro y hy
          simp only [List.mem_cons, List.not_mem_nil, or_false] at hy
          rcases hy with rfl | rfl | rfl | rfl
          · exact .str z (by omega) oz
          · exact ixb _
          · exact ix25
          · exact .lst l25 (.inr ⟨z, rfl, by omega, oz⟩)
        refine for_it (walk_tup (K := K) (a := p4) (xs := [.str z, xb, x, .ref p3])) (fun k σ H' => ∃ v8 v9 v10 v11, σ = [some (.ref a), some (.str signsL), some (.int (i : Nat)), some (.int cell), some (.ref ps), some (.ref a4), some x, some (.str z), v8, v9, v10, v11] ∧ Same (upd (upd H23 p3 (.lst [.str z])) p4 (.tup [.str z, xb, x, .ref p3])) H')
          ⟨_, _, _, _, rfl, Same.refl _⟩ (fun k σ H' _ ⟨_, _, _, _, _, e⟩ => SqT.of (e _ _ upd_same)) ?_ ?_
        · rintro k y σ H26 H27 hk ⟨o8, o9, o10, o11, rfl, k26⟩ ⟨rfl, hy⟩
          have iy := (all4 y (List.mem_of_getElem? hy)).same k26
          refine ⟨_, rfl, y, rfl, iy, fun H28 s28 => ⟨_, rfl, iteF ?_⟩⟩
          refine ⟨_, rfl, y, rfl, iy.same s28, fun H29 s29 => ⟨_, rfl, iteF ?_⟩⟩
          exact ⟨_, _, _, _, rfl, (k26.trans s28).trans s29⟩
        · rintro σ H26 ⟨o8, o9, o10, o11, rfl, k26⟩
          exact ⟨_, _, _, _, _, _, rfl, k26 _ _ en25, st25.same k26, by omega, by omega, ix25.same k26, k26 _ _ lp25⟩
      · rintro σ H18 ⟨w7, w8, w9, w10, w11, t', rfl, en18, _⟩
        exact ⟨_, _, _, _, _, _, _, _, _, _, rfl, en18⟩
    · rintro σ H3 _
      exact q _
end
end Pk
namespace Pk
open PySem L2
/-! ### what the top has left -/
def kitsB (K : PySem.W.Frag) (c : Nat → Addr) (D : Addr) (bs : Nat → Bool) : Bool := (List.range 14).all fun i => PySem.W.kitOne K (.ref D) (.ref (c i)) == some (bs i)
theorem kits_of {K : PySem.W.Frag} {c : Nat → Addr} {D : Addr} {bs : Nat → Bool} (h : kitsB K c D bs = true) : Kits K c D bs := fun i hi => beq_iff_eq.mp (List.all_eq_true.mp h i (List.mem_range.mpr hi))
def pick (l : List Addr) : Nat → Addr := fun i => l.getD i 0
theorem ix_line : Line IxLine IxLine := ⟨fun _ => rfl, F.store_IndexError.passes, by decide +kernel⟩
theorem all_mk {l : PySem.W.OpenLaw} {w : World} {K : PySem.W.Frag} {h : Heap} {mg : Str → Option Value} {fa cB fI fW tW c0 c1 c2 c3 c4 c5 c6 c7 c8 c9 c10 c11 c12 c13 f1 f2 f3 f4 f5 f6 f7 f8 f9 f10 f11 f12 f13 f14 f15 f16 f17 f18 : Addr} (X : K.In h) (G : h.Ns mainGlobals mg) (hfa : mg "law" = some (.ref fa))
    {od1 an1 od2 an2 od3 an3 od4 an4 od5 an5 od6 an6 od7 an7 od8 an8 od9 an9 od10 an10 od11 an11 od12 an12 od13 an13 od14 an14 od15 an15 od16 an16 od17 an17 od18 an18 odI anI odW anW odT : Option Addr} {sl1 sl2 sl3 sl4 sl5 sl6 sl7 sl8 sl9 sl10 sl11 sl12 sl13 sl14 sl15 sl16 sl17 sl18 slI slW slT : Array (Option Value)} {oc1 kV1 dc1 pm1 cd1 ct1 oc2 kV2 dc2 pm2 cd2 ct2 oc3 kV3 dc3 pm3 cd3 ct3 oc4 kV4 dc4 pm4 cd4 ct4 oc5 kV5 dc5 pm5 cd5 ct5 oc6 kV6 dc6 pm6 cd6 ct6 oc7 kV7 dc7 pm7 cd7 ct7 oc8 kV8 dc8 pm8 cd8 ct8 oc9 kV9 dc9 pm9 cd9 ct9 oc10 kV10 dc10 pm10 cd10 ct10 oc11 kV11 dc11 pm11 cd11 ct11 oc12 kV12 dc12 pm12 cd12 ct12 oc13 kV13 dc13 pm13 cd13 ct13 oc14 kV14 dc14 pm14 cd14 ct14 oc15 kV15 dc15 pm15 cd15 ct15 oc16 kV16 dc16 pm16 cd16 ct16 oc17 kV17 dc17 pm17 cd17 ct17 oc18 kV18 dc18 pm18 cd18 ct18 ocI dcI pmI cdI ctI ocW kVW dcW pmW cdW ctW ocT : Value}
    {nm q : Str} {N : Addr} {bs : List Value} {sn : List Str} {sub : List Value} {ab : Bool} {col : Option Bool} {dd : Option Addr} {m0 m1 m2 m3 m5 : Option Value} {u0 u1 uM uS uP : Tok} {nT : Nat}
    (gB : PySem.W.nsIn K mainGlobals "BankError" = some (some (.ref cB)))
    (g0 : PySem.W.nsIn K mainGlobals "BadWish" = some (some (.ref c0)))
    (g1 : PySem.W.nsIn K mainGlobals "BadPaper" = some (some (.ref c1)))
    (g2 : PySem.W.nsIn K mainGlobals "BadSheet" = some (some (.ref c2)))
    (g3 : PySem.W.nsIn K mainGlobals "BadLine" = some (some (.ref c3)))
    (g4 : PySem.W.nsIn K mainGlobals "Gone" = some (some (.ref c4)))
    (g5 : PySem.W.nsIn K mainGlobals "BadQuestion" = some (some (.ref c5)))
    (g6 : PySem.W.nsIn K mainGlobals "BadText" = some (some (.ref c6)))
    (g7 : PySem.W.nsIn K mainGlobals "NoSuch" = some (some (.ref c7)))
    (g8 : PySem.W.nsIn K mainGlobals "NoPlace" = some (some (.ref c8)))
    (g9 : PySem.W.nsIn K mainGlobals "TooMany" = some (some (.ref c9)))
    (g10 : PySem.W.nsIn K mainGlobals "BadKind" = some (some (.ref c10)))
    (g11 : PySem.W.nsIn K mainGlobals "Unmet" = some (some (.ref c11)))
    (g12 : PySem.W.nsIn K mainGlobals "NoAnswers" = some (some (.ref c12)))
    (g13 : PySem.W.nsIn K mainGlobals "Twice" = some (some (.ref c13)))
    (xT : PySem.W.excIn K c6 [.type "ValueError", .type "Exception", .type "BaseException", .type "object"] "ValueError.__new__" = true)
    (kT : PySem.W.keepIn K (.ref c6) = true)
    (tT : PySem.W.typeIn K (.ref c6) = some (.type "type"))
    (e1_6 : PySem.W.findIn K (.ref c6) "__getattribute__" = some (some (.builtin "BaseException.__getattribute__")))
    (e2_6 : PySem.W.findIn K (.ref c6) "__getattr__" = some none)
    (e3_6 : PySem.W.subIn K (.ref c6) (.type "BaseException") = some true)
    (e4_6 : PySem.W.hasDictIn K c6 = true)
    (e5_6 : PySem.W.findIn K (.ref c6) "__class__" = some (some (.builtin "object.__class__")))
    (e8_6 : PySem.W.mroIn K c6 (.type "object") = some true)
    (kt_6 : kitsB K (pick [c0, c1, c2, c3, c4, c5, c6, c7, c8, c9, c10, c11, c12, c13]) c6 (fun i => decide (i = 6)) = true)
    (ca_6 : PySem.W.exmAny K (.ref c6) (caughtBy cB (pick [c0, c1, c2, c3, c4, c5, c6, c7, c8, c9, c10, c11, c12, c13])) = some true)
    (e1_8 : PySem.W.findIn K (.ref c8) "__getattribute__" = some (some (.builtin "BaseException.__getattribute__")))
    (e2_8 : PySem.W.findIn K (.ref c8) "__getattr__" = some none)
    (e3_8 : PySem.W.subIn K (.ref c8) (.type "BaseException") = some true)
    (e4_8 : PySem.W.hasDictIn K c8 = true)
    (e5_8 : PySem.W.findIn K (.ref c8) "__class__" = some (some (.builtin "object.__class__")))
    (e8_8 : PySem.W.mroIn K c8 (.type "object") = some true)
    (kt_8 : kitsB K (pick [c0, c1, c2, c3, c4, c5, c6, c7, c8, c9, c10, c11, c12, c13]) c8 (fun i => decide (i = 8)) = true)
    (ca_8 : PySem.W.exmAny K (.ref c8) (caughtBy cB (pick [c0, c1, c2, c3, c4, c5, c6, c7, c8, c9, c10, c11, c12, c13])) = some true)
    (e6 : PySem.W.specialIn K (.builtin "object.__class__") "__get__" = some (some (.builtin "getset_descriptor.__get__")))
    (e7 : PySem.W.takesIn K (.builtin "object.__class__") = some true)
    (xL : K.lookup c8 = some (excClassObj nm q c8 N bs IxLine true sn sub ab col dd m0 m1 m2 m3 m5 "IndexError.__new__"))
    (sa : PySem.W.findIn K (.ref c8) "__setattr__" = some (some (.builtin "object.__setattr__")))
    (nb : PySem.W.findIn K (.ref c8) "at" = some none)
    (aI : PySem.W.findIn K (.ref c8) "__init__" = some (some (.ref fI)))
    (tI : PySem.W.typeIn K (.ref fI) = some (.type "function"))
    (kI : PySem.W.keepIn K (.ref c8) = true)
    (yI : PySem.W.typeIn K (.ref c8) = some (.type "type"))
    (lI : K.lookup fI = some ⟨ocI, odI, .func (PySem.W.fnOf "__init__" "NoPlace.__init__" (Of_at.iA ⟨41, 17, 41, 21⟩ ⟨41, 23, 41, 25⟩) (Of_at.iB ⟨42, 8, 42, 12⟩ ⟨42, 8, 42, 15⟩ ⟨42, 18, 42, 20⟩ ⟨42, 8, 42, 20⟩) Of_at.iS .none .none dcI pmI anI cdI ctI), slI⟩)
    (qI : PySem.W.codeIn K cdI "NoPlace.__init__" = true)
    (z0 : PySem.W.nsIn K mainGlobals "isinstance" = some none)
    (z1 : PySem.W.nsIn K mainGlobals "zip" = some none)
    (z2 : PySem.W.nsIn K mainGlobals "len" = some none)
    (z3 : PySem.W.nsIn K mainGlobals "str" = some none)
    (z4 : PySem.W.nsIn K mainGlobals "int" = some none)
    (z5 : PySem.W.nsIn K mainGlobals "bool" = some none)
    (z6 : PySem.W.nsIn K mainGlobals "range" = some none)
    (z7 : PySem.W.nsIn K mainGlobals "enumerate" = some none)
    (z8 : PySem.W.nsIn K mainGlobals "all" = some none)
    (z9 : PySem.W.nsIn K mainGlobals "ord" = some none)
    (z10 : PySem.W.nsIn K mainGlobals "repr" = some none)
    (yM : PySem.W.nsIn K mainGlobals "MOST_LETTERS" = some (some (.int 8 uM)))
    (yS : PySem.W.nsIn K mainGlobals "MOST_SIGNS" = some (some (.int 30 uS)))
    (yP : PySem.W.nsIn K mainGlobals "PERCENT" = some (some (.int 37 uP)))
    (aW : PySem.W.nsIn K mainGlobals "is_whole" = some (some (.ref fW)))
    (lW : K.lookup fW = some ⟨ocW, odW, .func (PySem.W.fnOf "is_whole" "is_whole" (defArgs sIsWhole) (defBody sIsWhole) (defScope sIsWhole) (.ref tW) kVW dcW pmW anW cdW ctW), slW⟩)
    (qW : PySem.W.codeIn K cdW "is_whole" = true)
    (kW : PySem.W.keepIn K (.ref fW) = true)
    (lT : K.lookup tW = some ⟨ocT, odT, .seq #[.int 0 u0, .int 9999 u1] nT, slT⟩)
    (a1 : PySem.W.nsIn K mainGlobals "is_number" = some (some (.ref f1)))
    (l1 : K.lookup f1 = some ⟨oc1, od1, .func (PySem.W.fnOf "is_number" "is_number" (defArgs sIsNumber) (defBody sIsNumber) (defScope sIsNumber) .none kV1 dc1 pm1 an1 cd1 ct1), sl1⟩)
    (q1 : PySem.W.codeIn K cd1 "is_number" = true)
    (k1 : PySem.W.keepIn K (.ref f1) = true)
    (a2 : PySem.W.nsIn K mainGlobals "is_name" = some (some (.ref f2)))
    (l2 : K.lookup f2 = some ⟨oc2, od2, .func (PySem.W.fnOf "is_name" "is_name" (defArgs sIsName) (defBody sIsName) (defScope sIsName) .none kV2 dc2 pm2 an2 cd2 ct2), sl2⟩)
    (q2 : PySem.W.codeIn K cd2 "is_name" = true)
    (k2 : PySem.W.keepIn K (.ref f2) = true)
    (a3 : PySem.W.nsIn K mainGlobals "is_text" = some (some (.ref f3)))
    (l3 : K.lookup f3 = some ⟨oc3, od3, .func (PySem.W.fnOf "is_text" "is_text" (defArgs sIsText) (defBody sIsText) (defScope sIsText) .none kV3 dc3 pm3 an3 cd3 ct3), sl3⟩)
    (q3 : PySem.W.codeIn K cd3 "is_text" = true)
    (k3 : PySem.W.keepIn K (.ref f3) = true)
    (a4 : PySem.W.nsIn K mainGlobals "need_name" = some (some (.ref f4)))
    (l4 : K.lookup f4 = some ⟨oc4, od4, .func (PySem.W.fnOf "need_name" "need_name" (defArgs sNeedName) (defBody sNeedName) (defScope sNeedName) .none kV4 dc4 pm4 an4 cd4 ct4), sl4⟩)
    (q4 : PySem.W.codeIn K cd4 "need_name" = true)
    (k4 : PySem.W.keepIn K (.ref f4) = true)
    (a5 : PySem.W.nsIn K mainGlobals "need_day" = some (some (.ref f5)))
    (l5 : K.lookup f5 = some ⟨oc5, od5, .func (PySem.W.fnOf "need_day" "need_day" (defArgs sNeedDay) (defBody sNeedDay) (defScope sNeedDay) .none kV5 dc5 pm5 an5 cd5 ct5), sl5⟩)
    (q5 : PySem.W.codeIn K cd5 "need_day" = true)
    (k5 : PySem.W.keepIn K (.ref f5) = true)
    (a6 : PySem.W.nsIn K mainGlobals "_law_asked" = some (some (.ref f6)))
    (l6 : K.lookup f6 = some ⟨oc6, od6, .func (PySem.W.fnOf "_law_asked" "_law_asked" (defArgs sAsked) (defBody sAsked) (defScope sAsked) .none kV6 dc6 pm6 an6 cd6 ct6), sl6⟩)
    (q6 : PySem.W.codeIn K cd6 "_law_asked" = true)
    (k6 : PySem.W.keepIn K (.ref f6) = true)
    (a7 : PySem.W.nsIn K mainGlobals "_law_word" = some (some (.ref f7)))
    (l7 : K.lookup f7 = some ⟨oc7, od7, .func (PySem.W.fnOf "_law_word" "_law_word" (defArgs sWord) (defBody sWord) (defScope sWord) .none kV7 dc7 pm7 an7 cd7 ct7), sl7⟩)
    (q7 : PySem.W.codeIn K cd7 "_law_word" = true)
    (k7 : PySem.W.keepIn K (.ref f7) = true)
    (a8 : PySem.W.nsIn K mainGlobals "_law_said" = some (some (.ref f8)))
    (l8 : K.lookup f8 = some ⟨oc8, od8, .func (PySem.W.fnOf "_law_said" "_law_said" (defArgs sSaid) (defBody sSaid) (defScope sSaid) .none kV8 dc8 pm8 an8 cd8 ct8), sl8⟩)
    (q8 : PySem.W.codeIn K cd8 "_law_said" = true)
    (k8 : PySem.W.keepIn K (.ref f8) = true)
    (a9 : PySem.W.nsIn K mainGlobals "_law_name_right" = some (some (.ref f9)))
    (l9 : K.lookup f9 = some ⟨oc9, od9, .func (PySem.W.fnOf "_law_name_right" "_law_name_right" (defArgs sNameRight) (defBody sNameRight) (defScope sNameRight) .none kV9 dc9 pm9 an9 cd9 ct9), sl9⟩)
    (q9 : PySem.W.codeIn K cd9 "_law_name_right" = true)
    (k9 : PySem.W.keepIn K (.ref f9) = true)
    (a10 : PySem.W.nsIn K mainGlobals "_law_text_right" = some (some (.ref f10)))
    (l10 : K.lookup f10 = some ⟨oc10, od10, .func (PySem.W.fnOf "_law_text_right" "_law_text_right" (defArgs sTextRight) (defBody sTextRight) (defScope sTextRight) .none kV10 dc10 pm10 an10 cd10 ct10), sl10⟩)
    (q10 : PySem.W.codeIn K cd10 "_law_text_right" = true)
    (k10 : PySem.W.keepIn K (.ref f10) = true)
    (a11 : PySem.W.nsIn K mainGlobals "_law_number_right" = some (some (.ref f11)))
    (l11 : K.lookup f11 = some ⟨oc11, od11, .func (PySem.W.fnOf "_law_number_right" "_law_number_right" (defArgs sNumberRight) (defBody sNumberRight) (defScope sNumberRight) .none kV11 dc11 pm11 an11 cd11 ct11), sl11⟩)
    (q11 : PySem.W.codeIn K cd11 "_law_number_right" = true)
    (k11 : PySem.W.keepIn K (.ref f11) = true)
    (a12 : PySem.W.nsIn K mainGlobals "_law_mixed" = some (some (.ref f12)))
    (l12 : K.lookup f12 = some ⟨oc12, od12, .func (PySem.W.fnOf "_law_mixed" "_law_mixed" (defArgs sMixed) (defBody sMixed) (defScope sMixed) .none kV12 dc12 pm12 an12 cd12 ct12), sl12⟩)
    (q12 : PySem.W.codeIn K cd12 "_law_mixed" = true)
    (k12 : PySem.W.keepIn K (.ref f12) = true)
    (a13 : PySem.W.nsIn K mainGlobals "_law_stream" = some (some (.ref f13)))
    (l13 : K.lookup f13 = some ⟨oc13, od13, .func (PySem.W.fnOf "_law_stream" "_law_stream" (defArgs sStream) (defBody sStream) (defScope sStream) .none kV13 dc13 pm13 an13 cd13 ct13), sl13⟩)
    (q13 : PySem.W.codeIn K cd13 "_law_stream" = true)
    (k13 : PySem.W.keepIn K (.ref f13) = true)
    (a14 : PySem.W.nsIn K mainGlobals "_law_take" = some (some (.ref f14)))
    (l14 : K.lookup f14 = some ⟨oc14, od14, .func (PySem.W.fnOf "_law_take" "_law_take" (defArgs sTake) (defBody sTake) (defScope sTake) .none kV14 dc14 pm14 an14 cd14 ct14), sl14⟩)
    (q14 : PySem.W.codeIn K cd14 "_law_take" = true)
    (k14 : PySem.W.keepIn K (.ref f14) = true)
    (a15 : PySem.W.nsIn K mainGlobals "_law_name_by" = some (some (.ref f15)))
    (l15 : K.lookup f15 = some ⟨oc15, od15, .func (PySem.W.fnOf "_law_name_by" "_law_name_by" (defArgs sNameBy) (defBody sNameBy) (defScope sNameBy) .none kV15 dc15 pm15 an15 cd15 ct15), sl15⟩)
    (q15 : PySem.W.codeIn K cd15 "_law_name_by" = true)
    (k15 : PySem.W.keepIn K (.ref f15) = true)
    (a16 : PySem.W.nsIn K mainGlobals "_law_text_by" = some (some (.ref f16)))
    (l16 : K.lookup f16 = some ⟨oc16, od16, .func (PySem.W.fnOf "_law_text_by" "_law_text_by" (defArgs sTextBy) (defBody sTextBy) (defScope sTextBy) .none kV16 dc16 pm16 an16 cd16 ct16), sl16⟩)
    (q16 : PySem.W.codeIn K cd16 "_law_text_by" = true)
    (k16 : PySem.W.keepIn K (.ref f16) = true)
    (a17 : PySem.W.nsIn K mainGlobals "_law_by_hand_right" = some (some (.ref f17)))
    (l17 : K.lookup f17 = some ⟨oc17, od17, .func (PySem.W.fnOf "_law_by_hand_right" "_law_by_hand_right" (defArgs sByHand) (defBody sByHand) (defScope sByHand) .none kV17 dc17 pm17 an17 cd17 ct17), sl17⟩)
    (q17 : PySem.W.codeIn K cd17 "_law_by_hand_right" = true)
    (k17 : PySem.W.keepIn K (.ref f17) = true)
    (a18 : PySem.W.nsIn K mainGlobals "law" = some (some (.ref f18)))
    (l18 : K.lookup f18 = some ⟨oc18, od18, .func (PySem.W.fnOf "law" "law" (defArgs sLaw) (defBody sLaw) (defScope sLaw) .none kV18 dc18 pm18 an18 cd18 ct18), sl18⟩)
    (q18 : PySem.W.codeIn K cd18 "law" = true)
    (k18 : PySem.W.keepIn K (.ref f18) = true) :
    ∃ fd : FuncData, (∀ (s : Shared) (v : Value), BindsTo s fd ⟨[v], []⟩ [("_law_script", v)]) ∧ ∀ base : Heap, K.In base → base.Ns mainGlobals mg → FnG l.prog w K mg base CX0 10 fa fd ["_law_script"] (spLaw K) := by
  have e := hfa.symm.trans (PySem.W.mg_of X G a18)
  cases e
  have F1 := fun_mk (st := sIsNumber) l1 q1 k1
  have b1 := F1.binds (ps := (["thing"] : List Str)) fun _ _ _ _ _ _ us hl => match us, hl with | [_], _ => rfl
  have F2 := fun_mk (st := sIsName) l2 q2 k2
  have b2 := F2.binds (ps := (["thing"] : List Str)) fun _ _ _ _ _ _ us hl => match us, hl with | [_], _ => rfl
  have F3 := fun_mk (st := sIsText) l3 q3 k3
  have b3 := F3.binds (ps := (["thing"] : List Str)) fun _ _ _ _ _ _ us hl => match us, hl with | [_], _ => rfl
  have F4 := fun_mk (st := sNeedName) l4 q4 k4
  have b4 := F4.binds (ps := (["thing"] : List Str)) fun _ _ _ _ _ _ us hl => match us, hl with | [_], _ => rfl
  have F5 := fun_mk (st := sNeedDay) l5 q5 k5
  have b5 := F5.binds (ps := (["thing"] : List Str)) fun _ _ _ _ _ _ us hl => match us, hl with | [_], _ => rfl
  have F6 := fun_mk (st := sAsked) l6 q6 k6
  have b6 := F6.binds (ps := (["_law_which", "_law_item"] : List Str)) fun _ _ _ _ _ _ us hl => match us, hl with | [_, _], _ => rfl
  have F7 := fun_mk (st := sWord) l7 q7 k7
  have b7 := F7.binds (ps := (["_law_error"] : List Str)) fun _ _ _ _ _ _ us hl => match us, hl with | [_], _ => rfl
  have F8 := fun_mk (st := sSaid) l8 q8 k8
  have b8 := F8.binds (ps := (["_law_which", "_law_item"] : List Str)) fun _ _ _ _ _ _ us hl => match us, hl with | [_, _], _ => rfl
  have F9 := fun_mk (st := sNameRight) l9 q9 k9
  have b9 := F9.binds (ps := (["_law_item"] : List Str)) fun _ _ _ _ _ _ us hl => match us, hl with | [_], _ => rfl
  have F10 := fun_mk (st := sTextRight) l10 q10 k10
  have b10 := F10.binds (ps := (["_law_item"] : List Str)) fun _ _ _ _ _ _ us hl => match us, hl with | [_], _ => rfl
  have F11 := fun_mk (st := sNumberRight) l11 q11 k11
  have b11 := F11.binds (ps := (["_law_item", "_law_low", "_law_high"] : List Str)) fun _ _ _ _ _ _ us hl => match us, hl with | [_, _, _], _ => rfl
  have F12 := fun_mk (st := sMixed) l12 q12 k12
  have b12 := F12.binds (ps := (["_law_number", "_law_k"] : List Str)) fun _ _ _ _ _ _ us hl => match us, hl with | [_, _], _ => rfl
  have F13 := fun_mk (st := sStream) l13 q13 k13
  have b13 := F13.binds (ps := (["_law_cell", "_law_k"] : List Str)) fun _ _ _ _ _ _ us hl => match us, hl with | [_, _], _ => rfl
  have F14 := fun_mk (st := sTake) l14 q14 k14
  have b14 := F14.binds (ps := (["_law_stream_here", "_law_many"] : List Str)) fun _ _ _ _ _ _ us hl => match us, hl with | [_, _], _ => rfl
  have F15 := fun_mk (st := sNameBy) l15 q15 k15
  have b15 := F15.binds (ps := (["_law_stream_here"] : List Str)) fun _ _ _ _ _ _ us hl => match us, hl with | [_], _ => rfl
  have F16 := fun_mk (st := sTextBy) l16 q16 k16
  have b16 := F16.binds (ps := (["_law_stream_here"] : List Str)) fun _ _ _ _ _ _ us hl => match us, hl with | [_], _ => rfl
  have F17 := fun_mk (st := sByHand) l17 q17 k17
  have b17 := F17.binds (ps := ([] : List Str)) fun _ _ _ _ _ _ us hl => match us, hl with | [], _ => rfl
  have F18 := fun_mk (st := sLaw) l18 q18 k18
  have kk2 := kbinds_one (pr := "thing") F2 (fun _ _ _ _ _ _ _ => rfl) (fun _ _ _ _ _ _ _ => rfl)
  have kk3 := kbinds_one (pr := "thing") F3 (fun _ _ _ _ _ _ _ => rfl) (fun _ _ _ _ _ _ _ => rfl)
  have kk4 := kbinds_one (pr := "thing") F4 (fun _ _ _ _ _ _ _ => rfl) (fun _ _ _ _ _ _ _ => rfl)
  have kk5 := kbinds_one (pr := "thing") F5 (fun _ _ _ _ _ _ _ => rfl) (fun _ _ _ _ _ _ _ => rfl)
  have FW : FunDf K "is_whole" sIsWhole [.int 0, .int 9999] fW _ := ⟨⟨ocW, odW, .ref tW, kVW, dcW, pmW, anW, cdW, ctW, slW, rfl, lW, qW, .inr ⟨(fun z => nomatch z), tW, _, [.int 0 u0, .int 9999 u1], nT, rfl, lT, rfl, .cons ⟨_, rfl⟩ (.cons ⟨_, rfl⟩ .nil)⟩, .inl rfl⟩, kW⟩
  have x6 : ExcC K c6 := ⟨e1_6, e2_6, e3_6, e4_6, e5_6, e6, e7, e8_6⟩
  have x8 : ExcC K c8 := ⟨e1_8, e2_8, e3_8, e4_8, e5_8, e6, e7, e8_8⟩
  have np : Of_at.Tx K mg "NoPlace" "NoPlace.__init__" c8 fI "IndexError" "IndexError.__new__" "IndexError.__init__" IxLine :=
    { base := PySem.F.excBase_IndexError, gC := PySem.W.mg_of X G g8, cls := ⟨nm, q, N, bs, _, sn, sub, ab, col, dd, m0, m1, m2, m3, m5, xL, ix_line⟩, sa := sa, ex := x8, noN := nb, iC := aI, tC := tI, kC := kI, tyC := yI, fn := ⟨_, _, _, _, _, _, _, _, _, _, _, _, _, _, lI, qI⟩ }
  have T : Txt K mg cB fI (pick [c0, c1, c2, c3, c4, c5, c6, c7, c8, c9, c10, c11, c12, c13]) :=
    { gB := PySem.W.mg_of X G gB, cl := ⟨PySem.W.mg_of X G g0, PySem.W.mg_of X G g1, PySem.W.mg_of X G g2, PySem.W.mg_of X G g3, PySem.W.mg_of X G g4, PySem.W.mg_of X G g5, PySem.W.mg_of X G g6, PySem.W.mg_of X G g7, PySem.W.mg_of X G g8, PySem.W.mg_of X G g9, PySem.W.mg_of X G g10, PySem.W.mg_of X G g11, PySem.W.mg_of X G g12, PySem.W.mg_of X G g13⟩, bt := ⟨PySem.W.mg_of X G g6, xT, kT, e3_6, tT⟩, ex := x6, kt := kits_of kt_6, ca := ca_6, np := np, kt8 := kits_of kt_8, ca8 := ca_8,
      isi := PySem.W.mg_none_of X G z0, zip := PySem.W.mg_none_of X G z1, len := PySem.W.mg_none_of X G z2, str := PySem.W.mg_none_of X G z3, int := PySem.W.mg_none_of X G z4, bool := PySem.W.mg_none_of X G z5, range := PySem.W.mg_none_of X G z6, enum := PySem.W.mg_none_of X G z7, all := PySem.W.mg_none_of X G z8, ord := PySem.W.mg_none_of X G z9, repr := PySem.W.mg_none_of X G z10, gM := ⟨_, PySem.W.mg_of X G yM⟩, gS := ⟨_, PySem.W.mg_of X G yS⟩, gP := ⟨_, PySem.W.mg_of X G yP⟩ }
  have D : Dw K mg f1 fW f2 f3 f4 f5 _ _ _ _ _ _ := ⟨F1, b1, PySem.W.mg_of X G a1, FW, kW, PySem.W.mg_of X G aW, F2, b2, kk2, PySem.W.mg_of X G a2, F3, b3, kk3, PySem.W.mg_of X G a3, F4, b4, kk4, PySem.W.mg_of X G a4, F5, b5, kk5, PySem.W.mg_of X G a5⟩
  have L : Dl K mg f6 f7 f8 _ _ _ := ⟨F6, b6, PySem.W.mg_of X G a6, F7, b7, PySem.W.mg_of X G a7, F8, b8, PySem.W.mg_of X G a8⟩
  have R : Dr K mg f9 f10 f11 _ _ _ := ⟨F9, b9, PySem.W.mg_of X G a9, F10, b10, PySem.W.mg_of X G a10, F11, b11, PySem.W.mg_of X G a11⟩
  have B : Ds K mg f12 f13 f14 f15 f16 f17 _ _ _ _ _ _ := ⟨F12, b12, PySem.W.mg_of X G a12, F13, b13, PySem.W.mg_of X G a13, F14, b14, PySem.W.mg_of X G a14, F15, b15, PySem.W.mg_of X G a15, F16, b16, PySem.W.mg_of X G a16, F17, b17, PySem.W.mg_of X G a17⟩
  exact ⟨_, fun s v => .of_eq rfl, fun base _ _ => ok_law F18 T D L R B⟩
end Pk
open PySem PySem.W PyProof.Rows
set_option maxRecDepth 100000 in
set_option maxHeartbeats 0 in
theorem PySem.Challenge.cw_paperkin_k01_numbers_and_names_holds : PySem.Challenge.rw_paperkin_k01_numbers_and_names.Holds := by
  w_on; o_law; k_head; (case hw => w_witness2)
  k_fill
  refine Pk.walkG (l := PySem.Challenge.rw_paperkin_k01_numbers_and_names) (n := 63) (k := 10) (x := "_law_script") (sp := Pk.spLaw) rfl (by decide) rfl ⟨rfl, by decide, by decide⟩ (fun w h Y => PySem.W.kIn_of Y) ?F (fun _ _ a ns hl hS => ⟨a, ns, rfl, hS, hl, fun _ => rfl⟩)
  case F =>
    intro w mg fa h KX G hmg
    refine' Pk.all_mk KX G hmg ?pk_gB ?pk_g0 ?pk_g1 ?pk_g2 ?pk_g3 ?pk_g4 ?pk_g5 ?pk_g6 ?pk_g7 ?pk_g8 ?pk_g9 ?pk_g10 ?pk_g11 ?pk_g12 ?pk_g13 ?pk_xT ?pk_kT ?pk_tT ?pk_e1_6 ?pk_e2_6 ?pk_e3_6 ?pk_e4_6 ?pk_e5_6 ?pk_e8_6 ?pk_kt_6 ?pk_ca_6 ?pk_e1_8 ?pk_e2_8 ?pk_e3_8 ?pk_e4_8 ?pk_e5_8 ?pk_e8_8 ?pk_kt_8 ?pk_ca_8 ?pk_e6 ?pk_e7 ?pk_xL ?pk_sa ?pk_nb ?pk_aI ?pk_tI ?pk_kI ?pk_yI ?pk_lI ?pk_qI ?pk_z0 ?pk_z1 ?pk_z2 ?pk_z3 ?pk_z4 ?pk_z5 ?pk_z6 ?pk_z7 ?pk_z8 ?pk_z9 ?pk_z10 ?pk_yM ?pk_yS ?pk_yP ?pk_aW ?pk_lW ?pk_qW ?pk_kW ?pk_lT ?pk_a1 ?pk_l1 ?pk_q1 ?pk_k1 ?pk_a2 ?pk_l2 ?pk_q2 ?pk_k2 ?pk_a3 ?pk_l3 ?pk_q3 ?pk_k3 ?pk_a4 ?pk_l4 ?pk_q4 ?pk_k4 ?pk_a5 ?pk_l5 ?pk_q5 ?pk_k5 ?pk_a6 ?pk_l6 ?pk_q6 ?pk_k6 ?pk_a7 ?pk_l7 ?pk_q7 ?pk_k7 ?pk_a8 ?pk_l8 ?pk_q8 ?pk_k8 ?pk_a9 ?pk_l9 ?pk_q9 ?pk_k9 ?pk_a10 ?pk_l10 ?pk_q10 ?pk_k10 ?pk_a11 ?pk_l11 ?pk_q11 ?pk_k11 ?pk_a12 ?pk_l12 ?pk_q12 ?pk_k12 ?pk_a13 ?pk_l13 ?pk_q13 ?pk_k13 ?pk_a14 ?pk_l14 ?pk_q14 ?pk_k14 ?pk_a15 ?pk_l15 ?pk_q15 ?pk_k15 ?pk_a16 ?pk_l16 ?pk_q16 ?pk_k16 ?pk_a17 ?pk_l17 ?pk_q17 ?pk_k17 ?pk_a18 ?pk_l18 ?pk_q18 ?pk_k18
    (case pk_gB => k_is)
    (case pk_g0 => k_is)
    (case pk_g1 => k_is)
    (case pk_g2 => k_is)
    (case pk_g3 => k_is)
    (case pk_g4 => k_is)
    (case pk_g5 => k_is)
    (case pk_g6 => k_is)
    (case pk_g7 => k_is)
    (case pk_g8 => k_is)
    (case pk_g9 => k_is)
    (case pk_g10 => k_is)
    (case pk_g11 => k_is)
    (case pk_g12 => k_is)
    (case pk_g13 => k_is)
    (case pk_xT => k_exc)
    (case pk_kT => k_is)
    (case pk_tT => k_is)
    (case pk_e1_6 => k_is)
    (case pk_e2_6 => k_is)
    (case pk_e3_6 => k_is)
    (case pk_e4_6 => k_is)
    (case pk_e5_6 => k_is)
    (case pk_e8_6 => k_is)
    (case pk_kt_6 => kernel_rfl)
    (case pk_ca_6 => kernel_rfl)
    (case pk_e1_8 => k_is)
    (case pk_e2_8 => k_is)
    (case pk_e3_8 => k_is)
    (case pk_e4_8 => k_is)
    (case pk_e5_8 => k_is)
    (case pk_e8_8 => k_is)
    (case pk_kt_8 => kernel_rfl)
    (case pk_ca_8 => kernel_rfl)
    (case pk_e6 => k_is)
    (case pk_e7 => k_is)
    (case pk_xL => k_is)
    (case pk_sa => k_is)
    (case pk_nb => k_is)
    (case pk_aI => k_is)
    (case pk_tI => k_is)
    (case pk_kI => k_is)
    (case pk_yI => k_is)
    (case pk_lI => k_is)
    (case pk_qI => k_is)
    (case pk_z0 => k_is)
    (case pk_z1 => k_is)
    (case pk_z2 => k_is)
    (case pk_z3 => k_is)
    (case pk_z4 => k_is)
    (case pk_z5 => k_is)
    (case pk_z6 => k_is)
    (case pk_z7 => k_is)
    (case pk_z8 => k_is)
    (case pk_z9 => k_is)
    (case pk_z10 => k_is)
    (case pk_yM => k_is)
    (case pk_yS => k_is)
    (case pk_yP => k_is)
    (case pk_aW => k_is)
    (case pk_lW => k_is)
    (case pk_qW => k_is)
    (case pk_kW => k_is)
    (case pk_lT => k_is)
    (case pk_a1 => k_is)
    (case pk_l1 => k_is)
    (case pk_q1 => k_is)
    (case pk_k1 => k_is)
    (case pk_a2 => k_is)
    (case pk_l2 => k_is)
    (case pk_q2 => k_is)
    (case pk_k2 => k_is)
    (case pk_a3 => k_is)
    (case pk_l3 => k_is)
    (case pk_q3 => k_is)
    (case pk_k3 => k_is)
    (case pk_a4 => k_is)
    (case pk_l4 => k_is)
    (case pk_q4 => k_is)
    (case pk_k4 => k_is)
    (case pk_a5 => k_is)
    (case pk_l5 => k_is)
    (case pk_q5 => k_is)
    (case pk_k5 => k_is)
    (case pk_a6 => k_is)
    (case pk_l6 => k_is)
    (case pk_q6 => k_is)
    (case pk_k6 => k_is)
    (case pk_a7 => k_is)
    (case pk_l7 => k_is)
    (case pk_q7 => k_is)
    (case pk_k7 => k_is)
    (case pk_a8 => k_is)
    (case pk_l8 => k_is)
    (case pk_q8 => k_is)
    (case pk_k8 => k_is)
    (case pk_a9 => k_is)
    (case pk_l9 => k_is)
    (case pk_q9 => k_is)
    (case pk_k9 => k_is)
    (case pk_a10 => k_is)
    (case pk_l10 => k_is)
    (case pk_q10 => k_is)
    (case pk_k10 => k_is)
    (case pk_a11 => k_is)
    (case pk_l11 => k_is)
    (case pk_q11 => k_is)
    (case pk_k11 => k_is)
    (case pk_a12 => k_is)
    (case pk_l12 => k_is)
    (case pk_q12 => k_is)
    (case pk_k12 => k_is)
    (case pk_a13 => k_is)
    (case pk_l13 => k_is)
    (case pk_q13 => k_is)
    (case pk_k13 => k_is)
    (case pk_a14 => k_is)
    (case pk_l14 => k_is)
    (case pk_q14 => k_is)
    (case pk_k14 => k_is)
    (case pk_a15 => k_is)
    (case pk_l15 => k_is)
    (case pk_q15 => k_is)
    (case pk_k15 => k_is)
    (case pk_a16 => k_is)
    (case pk_l16 => k_is)
    (case pk_q16 => k_is)
    (case pk_k16 => k_is)
    (case pk_a17 => k_is)
    (case pk_l17 => k_is)
    (case pk_q17 => k_is)
    (case pk_k17 => k_is)
    (case pk_a18 => k_is)
    (case pk_l18 => k_is)
    (case pk_q18 => k_is)
    (case pk_k18 => k_is)
