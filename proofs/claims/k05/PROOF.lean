import PyProof.Rows.All
import Wide.All
import OpenK.AllK
import Wide.FinOn
import KE.KTryMore
import HandS.Base
import HandS.Call
import HandS.List
import HandS.Exc
import HandS.Text
import HandS.ForMost
import HandS.ForExc
import HandS.Defaults
import KE.KExcInit
import KE.KExcIs
import HandS.ExcIs
import HandS.IsInst
import HandS.Walk
import HandS.Strs
import HandS.StrMore
import PyProof.FString5
import KE.KCallOwn
import HandS.FStr
import HandS.MakeKwOnly
import PyProof.StrLawsRepr
import PyProof.Rows.StrCut
import HandS.TupAny
import HandS.TupMul
import HandS.OwnEq
import HandS.More
import PyProof.InstNe
import PyProof.Rows.SortStrRead
import HandS.Deep
import PySem.Challenge.RW_paperkin_k05_by_their_own_words
set_option Elab.async false
set_option linter.all false
set_option maxRecDepth 100000
set_option maxHeartbeats 4000000
namespace Pk
open PySem PySem.Spec PyProof.Rows L2
open PySem.W (Looks Frag exmOne exmAny)
/-! ### a text, so many times -/
theorem op_times {X : Cx} : OpR X (binaryOp .Mult) (fun x y H Q => ∃ z n, x = .str z ∧ y = .int n ∧ MulOk z n ∧ Q (.str (Txt.mul z n)) H) := by
  rintro pins s σ H x y v u Q I rx ry ⟨z, n, ex, ey, ok, q⟩
  subst ex ey
  obtain ⟨t1, rfl⟩ := rx
  obtain ⟨t2, rfl⟩ := ry
  exact SB.mul ok fun t3 k => ⟨.str (Txt.mul z n), H, I.tok k, ⟨t3, rfl⟩, q⟩
/-! ### except (A, B, ..): the tuple's classes, one after the other -/
section
variable {M : Model} {K : Frag} {h : Heap}
theorem looks_every {β : Type} {cs : List Value} {b0 : β} {f : Value → β → Sem (ForInStep β)} (hf : ∀ c ∈ cs, Looks M h (f c b0) (.yield b0)) : Looks M h (forIn cs b0 f) b0 := by
  induction cs with
  | nil =>
    rw [List.forIn_nil]
    exact .now
  | cons c r ih =>
    rw [List.forIn_cons]
    exact (hf c List.mem_cons_self).andThen (ih fun d hd => hf d (List.mem_cons_of_mem _ hd))
theorem looks_first {β : Type} {b0 b1 : β} {f : Value → β → Sem (ForInStep β)} {g : Value → Bool} : ∀ {cs : List Value}, (∀ c ∈ cs, Looks M h (f c b0) (if g c = true then .done b1 else .yield b0)) → Looks M h (forIn cs b0 f) (if cs.any g = true then b1 else b0)
  | [], _ => by
    rw [List.forIn_nil]
    exact .now
  | c :: r, hf => by
    rw [List.forIn_cons]
    have h1 := hf c List.mem_cons_self
    have h2 := looks_first (cs := r) fun d hd => hf d (List.mem_cons_of_mem _ hd)
    rw [List.any_cons]
    cases hg : g c with
    | true =>
      rw [hg] at h1
      exact h1.andThen .now
    | false =>
      rw [hg] at h1
      rw [Bool.false_or]
      exact h1.andThen h2
theorem exm_all {cls : Value} : ∀ {cs : List Value} {b : Bool}, exmAny K cls cs = some b → ∀ c ∈ cs, exmOne K cls c = some ((exmOne K cls c).getD false)
  | [], _, _, _, hc => by cases hc
  | d :: r, b, e, c, hc => by
    obtain ⟨b1, d1, x1, y1, _⟩ := PySem.W.exmAny_cons e
    rcases List.mem_cons.mp hc with q | q
    · subst q
      rw [x1]
      rfl
    · exact exm_all y1 c q
theorem exm_any {cls : Value} : ∀ {cs : List Value} {b : Bool}, exmAny K cls cs = some b → b = cs.any fun c => (exmOne K cls c).getD false
  | [], b, e => (Option.some.inj e).symm
  | d :: r, b, e => by
    obtain ⟨b1, d1, x1, y1, z⟩ := PySem.W.exmAny_cons e
    rw [List.any_cons, x1, ← exm_any y1, z]
    rfl
/-- an exception held against a tuple of classes, however many -/
theorem exm_tuple {cls : Value} {cs : List Value} {tp e : Addr} {b : Bool} {n : Nat} {ot : Obj} (X : K.In h) (LT : Looks M h (typeOf (.ref e)) cls) (hp : h.get? tp = some ot) (hc : ot.cls = .type "tuple") (hd : ot.data = .seq cs.toArray n) (hx : exmAny K cls cs = some b) :
    Looks M h (excMatches (.ref e) (.ref tp)) b := by
  have LT0 : Looks M h (isInstance (.ref tp) (.type "tuple")) true := ((Looks.ld hp).andThen (by rw [hc]; exact .now)).andThen (Looks.of_pure isSubtype_tuple_tuple)
  have LS : Looks M h (seqItems? (.ref tp)) (some cs.toArray) := fun A Q E s k q => wpAny_seqItems (k _ _ hp) hd q
  have hall := exm_all hx
  have hany := exm_any hx
  unfold excMatches
  refine LT0.andThen ?_
  dsimp only
  rw [if_pos rfl]
  refine LS.andThen (Looks.andThen (a := cs) (by rw [Option.getD_some, List.toList_toArray]; exact .now) ?_)
  refine (looks_every (b0 := PUnit.unit) fun c hc => ?_).andThen ?_
  · refine (PySem.W.exm_cls X (hall c hc)).1.andThen ?_
    exact .now
  · refine LT.andThen ?_
    refine (looks_first (b0 := ((none, ()) : Option Bool × Unit)) (b1 := (some true, ())) (g := fun c => (exmOne K cls c).getD false) fun c hc => ?_).andThen ?_
    · refine (PySem.W.exm_cls X (hall c hc)).2.andThen ?_
      cases (exmOne K cls c).getD false with
      | true => exact .now
      | false => exact .now
    · rw [← hany]
      cases b with
      | true => exact .now
      | false => exact .now
end

/-! ### a caught exception that is kept -/
/-- an exception that was caught and is held as a value at a: its class, its own dict -/
def ExH (cls : Value) (d : Option Addr) (a : Addr) : HO := .ext fun h => ∃ (oe : Obj) (vs : Array Value), h.get? a = some oe ∧ Zc cls d oe ∧ oe.data = .fields vs
section
variable {X : Cx} {pins : List (Addr × Obj)} {σ : L2.St} {H : Hp} {s : Shared}
theorem held_ok {P : Program} {w : World} {h : Heap} {a : Addr} {cls : Value} {d : Option Addr} {oe : Obj} {vs : Array Value} (e : h.get? a = some oe) (z : Zc cls d oe) (hv : oe.data = .fields vs) : ObjOk P w H h a (ExH cls d a) :=
  ⟨⟨oe, vs, e, z, hv⟩, ⟨oe, e⟩, fun _ _ ⟨o, v, q, r⟩ k => ⟨o, v, k o q, r⟩⟩
/-- what was pinned is tracked -/
theorem inv_hold {a : Addr} {oe : Obj} {vs : Array Value} {cls : Value} {d : Option Addr} (J : Inv X ((a, oe) :: pins) σ H s) (z : Zc cls d oe) (hv : oe.data = .fields vs)
    (n0 : ∀ b o, X.s_0.heap.get? b = some o → b ∉ X.ex → b ≠ a) (nc : ∀ x c, X.env.cells.lookup x = some c → c ≠ a) (np : ∀ p ∈ X.pn ++ pins, p.1 ≠ a) : Inv X pins σ (upd H a (ExH cls d a)) s := by
  obtain ⟨ea, na, aL, aF, _⟩ := J.pin (a, oe) (List.mem_append_right _ List.mem_cons_self)
  have ne : ∀ {b : Addr} {o : HO}, H b = some o → b ≠ a := fun {b o} q => ne_of_none q na
  refine ⟨J.ok, J.os, J.bare, ⟨J.base.keep, J.base.slot, ?_, J.base.there, ?_, ?_, ?_⟩, J.loc, J.cell, ?_, ?_, ?_, ?_, J.len⟩
  · intro b o e n hx
    rw [upd_ne (n0 b o e hx)]
    exact J.base.free b o e n hx
  · intro b xs e
    have q := J.base.tups b xs e
    rw [upd_ne (ne q)]
    exact q
  · intro b o u e
    have q := J.base.frzs b o u e
    rw [upd_ne (ne q)]
    exact q
  · intro b ps e
    obtain ⟨m, q⟩ := J.base.tbls b ps e
    exact ⟨m, by rw [upd_ne (ne q)]; exact q⟩
  · rw [upd_ne (Ne.symm aL)]
    exact J.free
  · intro x c e
    rw [upd_ne (nc x c e)]
    exact J.freeC x c e
  · intro p hp
    have hq : p ∈ X.pn ++ (a, oe) :: pins := by
      rcases List.mem_append.mp hp with q | q
      · exact List.mem_append_left _ q
      · exact List.mem_append_right _ (List.mem_cons_of_mem _ q)
    obtain ⟨e, n, r⟩ := J.pin p hq
    exact ⟨e, by rw [upd_ne (np p hp)]; exact n, r⟩
  · intro b u e
    by_cases hb : b = a
    · subst hb
      rw [upd_same] at e
      cases e
      exact held_ok ea z hv
    · rw [upd_ne hb] at e
      exact (J.hok b u e).stay (fun _ _ _ q => q) (fun c q => by rw [upd_ne (ne q)]; exact q) fun c xs q => by rw [upd_ne (ne q)]; exact q
end
/-- what 'except (A, B, ..) as n: suite' wishes of an exception of the body, where the suite may keep it: behind the suite it is tracked -/
def wHeld (K : Frag) (cs : List Value) (i : Nat) (ts : Addr → Value → Option Addr → TS) (Wout : WX) (D : Ends) : WX := fun cls d σ H =>
  ∃ b, exmAny K cls cs = some b ∧
    (b = true → ∀ a, H a = none → ts a cls d { nx := fun σ' H' => H' a = none → D.nx (σ'.set i none) (upd H' a (ExH cls d a)), rt := fun _ _ => False, bk := fun _ _ => False, ct := fun _ _ => False } (σ.set i (some (.ref a))) H) ∧
    (b = false → Wout cls d σ H)
/-- the names of a written tuple of classes -/
inductive NamesAll (X : Cx) : List Expr → List Value → Prop
  | nil : NamesAll X [] []
  | cons {x : Str} {c : Value} {np : Pos} {es : List Expr} {cs : List Value} (hg : Gl X x) (hd : (x == ("__debug__" : Str)) = false) (hm : X.mg x = some c) (r : NamesAll X es cs) : NamesAll X (.Name x np :: es) (c :: cs)
section
variable {X : Cx} {n : Str} {cs : List Value} {es : List Expr} {i kk : Nat} {body suite : List Stmt} {b₀ : Stmt} {tpos pos pos' : Pos} {tb : WX → TS} {ts : Addr → Value → Option Addr → TS} {Wout : WX}
/-- the tuple of the clause is laid, nothing else is done -/
theorem names_run {a : Addr} {pn : List (Addr × Obj)} {σ : L2.St} {H : Hp} {s : Shared} {pins : List (Addr × Obj)} {E : Value → Shared → Prop} (S : Inv (X.suite a pn) pins σ H s) : ∀ {es : List Expr} {cs : List Value}, NamesAll X es cs → ∀ {Q : List Value → Shared → Prop}, Q cs s →
    wpAny (model X.prog X.w) (X.A.mark (some (.ref a))) (spliced (backTo tpos (starEach es X.env))) Q E s
  | _, _, .nil, Q, q => wpAny_items_nil q
  | _, _, .cons hg hd hm r, Q, q => wpAny_items_cons (ld_glob (X := X.suite a pn) S hg hm (names_run S r q) hd)
theorem names_len : ∀ {es : List Expr} {cs : List Value}, NamesAll X es cs → cs.length = es.length
  | _, _, .nil => rfl
  | _, _, .cons _ _ _ r => by rw [List.length_cons, List.length_cons, names_len r]
theorem flying_more {B : Heap} {l : List Env} {a : Addr} {Z : Obj → Prop} {h h' : Heap} (k : ∀ b o, h.get? b = some o → h'.get? b = some o) (f : HandSPX.FlyingZ B l a Z h) : HandSPX.FlyingZ B l a Z h' := by
  obtain ⟨f1, f2, f3, oe, vs, T, oT, tts, e1, e2, e3, e4, e5, e6, e7, e8⟩ := f
  exact ⟨fun b o q => k b o (f1 b o q), f2, f3.of_keeps fun b o q _ => ⟨o, k b o q, rfl⟩, oe, vs, T, oT, tts, k _ _ e1, e2, e3, e4, e5, e6, k _ _ e7, e8⟩
theorem ps_try_held (hs : X.stack = X.env :: X.outer) (hf : X.env.frame = some X.env.locals) (hN : X.N.Nodup) (hi : X.N[i]? = some n) (hln : X.env.kindOf n = some .local) (hc : NamesAll X es cs) (hz : es.length ≤ 1000) (tk : Takes X Wout)
    (hb : ∀ (W : WX) (pn : List (Addr × Obj)) (xe : Value → Shared → Prop), Takes (X.tr pn xe) W → PassesOwn (model X.prog X.w) X.A X.env xe → PSs (X.tr pn xe) body (tb W))
    (hsu : ∀ (a : Addr) (oe : Obj) (cls : Value) (d : Option Addr) (pn : List (Addr × Obj)), Zc cls d oe → (∃ vs, oe.data = .fields vs) → PSs (X.suite a ((a, oe) :: pn)) (b₀ :: suite) (ts a cls d)) :
    PS X (.Try body [.ExceptHandler (some (.Tuple es kk tpos)) (some n) (b₀ :: suite) pos'] [] [] pos) (fun D σ H => tb (wHeld X.K cs i ts Wout D) D σ H) := by
  constructor
  intro pins s σ H D I h
  have ok := I.ok
  have hfr : X.A.frames = some (X.env :: X.outer) := ok.frames.trans (congrArg some hs)
  refine wpAny_Try_except ?_
  have body_ := hb (wHeld X.K cs i ts Wout D) (X.pn ++ pins) (fun e s₁ => wpAny (model X.prog X.w) X.A (noteFrame e X.env) (fun _ s₂ => wpAny (model X.prog X.w) X.A (setFlight e none)
    (fun _ s₃ => wpAny (model X.prog X.w) X.A (handleBy e X.env [.ExceptHandler (some (.Tuple es kk tpos)) (some n) (b₀ :: suite) pos']) (SP X pins D) X.xe s₃) X.xe s₂) X.xe s₁) ?caught PassesOwn.looking
  refine wpAny_mono (body_.run [] s σ H D (I.toTry _) h) ?through fun e s1 he => he
  case through =>
    intro f s1 hsp
    cases f with
    | next =>
      obtain ⟨σ', H', J', q⟩ := hsp
      exact wpAny_execs_nil ⟨σ', H', J'.ofTry ok, q⟩
    | brk =>
      obtain ⟨σ', H', J', q⟩ := hsp
      exact ⟨σ', H', J'.ofTry ok, q⟩
    | cont =>
      obtain ⟨σ', H', J', q⟩ := hsp
      exact ⟨σ', H', J'.ofTry ok, q⟩
    | ret u =>
      obtain ⟨v, σ', H', J', r, q⟩ := hsp
      exact ⟨v, σ', H', J'.ofTry ok, r, q⟩
  case caught =>
    rintro u s' ⟨a, B, sI, pins', σ', H', cls, d, rfl, J', nb, up, sky, na, os, ag, b, hb1, hyes, hno⟩
    have J : Inv X pins σ' H' sI := J'.ofTry ok
    rw [hs] at sky
    show wpAny (model X.prog X.w) X.A (noteFrame (.ref a) X.env) _ _ _
    refine Sky.land Zc.steady hfr hf sky fun h3 fl3 up3 => ?_
    obtain ⟨oe3, vs3, he3, hz3, hd3⟩ := fl3.there
    -- where the exception stands: in no frame, new
    have nfr : a ∉ frs (X.env :: X.outer) := fun hm => by
      obtain ⟨_, o', e', hnf⟩ := fl3.2.2.1.mem hm
      rw [he3] at e'
      cases e'
      exact hnf _ hd3
    have nL : a ≠ X.env.locals := fun z => nfr (List.mem_filterMap.mpr ⟨X.env, List.mem_cons_self, by rw [hf, z]⟩)
    have nF : a ∉ X.fs := fun hm => by
      obtain ⟨e, he, q⟩ := List.mem_filterMap.mp hm
      exact nfr (List.mem_filterMap.mpr ⟨e, List.mem_cons_of_mem _ he, q⟩)
    have new : sI.heap.get? a = none := by
      cases q : sI.heap.get? a with
      | none => rfl
      | some o =>
        have z := nb a o q (by rw [hs]; exact nfr)
        rw [fl3.2.1] at z
        cases z
    have ne_ : ∀ {b : Addr} {o : Obj}, sI.heap.get? b = some o → b ≠ a := fun {b o} q z => by
      rw [z, new] at q
      cases q
    have n0 : ∀ b o, X.s_0.heap.get? b = some o → b ∉ X.ex → b ≠ a := fun b o e hx => by
      obtain ⟨o', q⟩ := J.base.there b o e hx
      exact ne_ q
    have nc : ∀ x c, X.env.cells.lookup x = some c → c ≠ a := fun x c e => by
      obtain ⟨v, o, q, _⟩ := J.cell x c e
      exact ne_ q
    have np : ∀ p ∈ X.pn ++ pins, p.1 ≠ a := fun p hp => ne_ (J.pin p hp).1
    have J3 : Inv X pins σ' H' { s' with heap := h3 } := J.landed nb fl3.1 (up.trans up3) os ag
    have S3 := J3.suite he3 hd3 na nL nF
    refine wpAny_handleBy_cons (codeAny_handlers_test ?_) (by intro q; cases q)
    -- the tuple
    refine wpAny_Tuple (names_run S3 hc ⟨by rw [names_len hc]; exact Nat.le_trans hz (by decide), ?_⟩)
    have kp : ∀ q o, h3.get? q = some o → (h3.push { cls := .type "tuple", data := .seq cs.toArray }).get? q = some o := fun _ _ z => Heap.get?_push_of_some _ z
    have fl5 := flying_more kp fl3
    have up5 : sI.heap.UpToSlots (h3.push { cls := .type "tuple", data := .seq cs.toArray }) := (up.trans up3).trans (.of_keeps kp)
    generalize hh5 : h3.push { cls := .type "tuple", data := .seq cs.toArray } = h5 at kp fl5 up5
    have htp : h5.get? h3.objs.size = some { cls := .type "tuple", data := .seq cs.toArray } := by
      rw [← hh5]
      exact Heap.get?_push_size h3 rfl
    have J5 : Inv X pins σ' H' { s' with heap := h5 } := J.landed nb fl5.1 up5 os ag
    have LT : Looks (model X.prog X.w) h5 (typeOf (.ref a)) cls := fun A Q E s k q => wpAny_typeOf_ref (k _ _ (kp _ _ he3)) (by rw [hz3.1]; exact q)
    refine (exm_tuple J5.kIn LT htp rfl rfl hb1).here ?_
    cases b with
    | true =>
      refine codeAny_handlers_suite_as ?_
      refine HandSPX.lands_againZ fl5 fun h4 fl4 up4 => ?_
      have J4 : Inv X pins σ' H' { s' with heap := h4 } := J.landed nb fl4.1 (up5.trans up4) os ag
      obtain ⟨oe4, vs4, he4, hz4, hd4⟩ := fl4.there
      have S4 := J4.suite he4 hd4 na nL nF
      refine store_ok (X := X.suite a ((a, oe4) :: (X.pn ++ pins))) (v := .ref a) S4 hN hi (.inl hln) rfl (fun s5 S5 => ?_) (.inr hln)
      refine wpAny_mono ((hsu a oe4 cls d (X.pn ++ pins) hz4 ⟨_, hd4⟩).run [] s5 _ H' _ S5 (hyes rfl a na)) (fun f s6 hsp => ?_) fun _ _ z => False.elim z
      cases f with
      | next =>
        obtain ⟨σ6, H6, S6, q6⟩ := hsp
        have U6 : Inv X ((a, oe4) :: pins) σ6 H6 s6 := ⟨ok, S6.os, S6.bare, S6.base, S6.loc, S6.cell, S6.free, S6.freeC, fun p hp => S6.pin p (by
          rw [List.append_nil]
          rcases List.mem_append.mp hp with q | q
          · exact List.mem_cons_of_mem _ (List.mem_append_left _ q)
          · rcases List.mem_cons.mp q with q | q
            · rw [q]
              exact List.mem_cons_self
            · exact List.mem_cons_of_mem _ (List.mem_append_right _ q)), S6.hok, S6.len⟩
        refine gone_ok U6 hN hi hln fun s7 J7 => ?_
        have na7 := (J7.pin (a, oe4) (List.mem_append_right _ List.mem_cons_self)).2.1
        exact ⟨_, _, inv_hold J7 hz4 hd4 n0 nc np, q6 na7⟩
      | brk =>
        obtain ⟨σ6, H6, S6, q6⟩ := hsp
        exact q6.elim
      | cont =>
        obtain ⟨σ6, H6, S6, q6⟩ := hsp
        exact q6.elim
      | ret u =>
        obtain ⟨v6, σ6, H6, S6, r6, q6⟩ := hsp
        exact q6.elim
    | false =>
      show wpAny _ X.A (handleBy (.ref a) X.env []) _ _ _
      refine wpAny_handleBy_nil ?_
      obtain ⟨k1, k2, k3, oe, vs, T, oT, tts, he, hz, hd, h1, hr⟩ := id fl5
      unfold PySem.passOn
      refine wpAny_bind (wpAny_field he hd h1 ?_)
      rw [if_neg (show ¬ ((Value.ref T == Value.none) = true) from by simp)]
      have fin : wpAny (model X.prog X.w) X.A (setFlight (.ref a) X.env.frame) (fun _ s4 => wpAny (model X.prog X.w) X.A (throw (.ref a) : Sem Flow) (SP X pins D) X.xe s4) X.xe { s' with heap := h5 } := by
        rw [hf]
        refine HandSPX.setFlight_upZ fl5 fun h4 hh4 up4 => wpAny_throw (tk _ _ ?_)
        exact ⟨a, B, sI, pins, σ', H', cls, d, rfl, J, nb, up5.trans up4, .inr (.inr (by rw [hs]; exact hh4)), na, os, ag, hno rfl⟩
      first
        | exact wpAny_bind (wpAny_pure (wpAny_bind fin))
        | exact wpAny_bind fin
end
end Pk
/-! Defs that are called while nothing is being shown (no repr runs around them): for repr of lists. -/
namespace Pk
open PySem PySem.Spec PyProof.Rows L2
/-- nothing is being shown around -/
def Calm (A : Around) : Prop := A.guards = some []
/-- a def's promise, where nothing is being shown around its call -/
structure FnG (P : Program) (w : World) (K : PySem.W.Frag) (mg : Str → Option Value) (base : Heap) (CX : CXT) (k : Nat) (f : Addr) (fd : FuncData) (ps : List Str) (sp : Sp) : Prop where
  size : ∀ vs H Q E, sp vs H Q E → vs.length = ps.length
  go : ∀ (A : Around), Calm A → Room k A → ∀ (outer : List Env) (s : Shared) (H : Hp) (args : Args) (us : List Value) (vs : List V) (Q : VK) (E : XK), Env0 P w K mg base A outer s H →
    BindsTo s fd args (ps.zip us) → Vals vs us → sp vs H Q E → codeAny (model P w) A (.call (.ref f) args) (CR CX outer P w H s Q E) s
section
variable {P : Program} {w : World} {K : PySem.W.Frag} {mg : Str → Option Value} {base : Heap} {CX : CXT} {k : Nat} {f : Addr} {fd : FuncData} {ps : List Str} {sp : Sp}
theorem FnG.of (F : FnOk P w K mg base CX k f fd ps sp) : FnG P w K mg base CX k f fd ps sp := ⟨F.len, fun A _ hr outer s H args us vs Q E e0 hb r h => F.run A outer s H args us vs Q E hr e0 hb r h⟩
/-- a def by its body -/
theorem fnG_of {name qual : Str} {params : Arguments} {body : List Stmt} {scope : Scope} {dV kV doc pm cdv ct oc : Value} {an od : Option Addr} {osl : Array (Option Value)} {N : List Str}
    (lk : K.lookup f = some ⟨oc, od, .func (PySem.W.fnOf name qual params body scope dV kV doc pm an cdv ct), osl⟩) (hcd : PySem.W.codeIn K cdv qual = true) (S : FnScope N ps scope) (size : ∀ vs H Q E, sp vs H Q E → vs.length = ps.length)
    (hbody : ∀ (A : Around), Calm A → ∀ (outer : List Env) (s : Shared) (H : Hp) (vs : List V) (Q : VK) (E : XK), Room k (A.deeper (envOfC qual scope s.heap.objs.size f cdv)) → sp vs H Q E →
      ∃ t, PSs (cxOf CX P w K mg base N qual scope f cdv A outer s H E) body t ∧ t { nx := fun _ H' => Q .non H', rt := Q } (start N vs) H) :
    FnG P w K mg base CX (k + 1) f (PySem.W.fnOf name qual params body scope dV kV doc pm an cdv ct) ps sp := by
  refine ⟨size, ?_⟩
  intro A calm hr outer s H args us vs Q E e0 hb r hsp
  have keep := fun b o e => (e0.bs b o e).1
  have KX := e0.mod.kin.keeps keep
  obtain ⟨t, ht, hq⟩ := hbody A calm outer s H vs Q E (hr.deeper _) hsp
  refine codeAny_call_function hr.depth (KX _ _ lk) rfl S.co S.gen rfl (PySem.W.codeRec_of KX hcd) (hb _ _ _ _ (wpAny_newFunctionEnv_cells S.kind ?kinds ?inside))
  case kinds =>
    rintro ⟨n, v⟩ hy
    rcases S.par n (List.of_mem_zip hy).1 with q | q
    · exact .inl q
    · exact .inr ⟨q, PySem.W.cellsFrom_some _ _ _ (.inl q)⟩
  case inside =>
    rintro env rfl s1 x
    refine ⟨(e0.mod.nolimit.keeps keep).keeps x.toInCall.keep, codeAny_func ?_⟩
    have I := inv_start (CX := CX) (E := E) S hr.hd e0 (size _ _ _ _ hsp) r x
    refine wpAny_mono (ht.run [] s1 (start N vs) H _ I hq) ?_ fun e s' hs => hs
    intro fl s' hs
    cases fl with
    | ret u =>
      obtain ⟨v, σ', H', J, rv, q⟩ := hs
      exact ⟨v, H', J.os, J.bare, J.base, J.hok, rv, q⟩
    | next =>
      obtain ⟨σ', H', J, q⟩ := hs
      exact ⟨.non, H', J.os, J.bare, J.base, J.hok, rfl, q⟩
    | brk =>
      obtain ⟨_, _, _, q⟩ := hs
      exact q.elim
    | cont =>
      obtain ⟨_, _, _, q⟩ := hs
      exact q.elim
/-- as Fun.ok -/
theorem okG {x qual : Str} {st : Stmt} {N : List Str} (F : Fun K x qual st f fd) (S : FnScope N ps (defScope st)) (size : ∀ vs H Q E, sp vs H Q E → vs.length = ps.length)
    (hbody : ∀ (cdv : Value) (A : Around), Calm A → ∀ (outer : List Env) (s : Shared) (H : Hp) (vs : List V) (Q : VK) (E : XK), Room k (A.deeper (envOfC qual (defScope st) s.heap.objs.size f cdv)) → sp vs H Q E →
      ∃ t, PSs (cxOf CX0 P w K mg base N qual (defScope st) f cdv A outer s H E).nox (defBody st) t ∧ t { nx := fun _ H' => Q .non H', rt := Q } (start N vs) H) : FnG P w K mg base CX0 (k + 1) f fd ps sp := by
  obtain ⟨oc, od, kV, doc, pm, an, cdv, ct, osl, rfl, lk, hcd⟩ := F.ex
  refine fnG_of lk hcd S size ?_
  intro A calm outer s H vs Q E hr hsp
  obtain ⟨t, h, q⟩ := hbody cdv A calm outer s H vs Q E hr hsp
  exact ⟨t, h.nox, q⟩
end
/-! ### calls of such defs -/
section
variable {X : Cx} {CX : CXT} {k : Nat} {f : Addr} {fd : FuncData} {ps ks : List Str} {sp : Sp} {E : XK} {x : Str} {p pos : Pos} {e : Expr} {es : List Expr} {t tk : TA} {ds : List Value} {dvs : List V}
theorem runG {pins : List (Addr × Obj)} {σ : L2.St} {H : Hp} {s : Shared} {Q : VK} {us : List Value} {vs : List V} (F : FnG X.prog X.w X.K X.mg X.base CX k f fd ps sp) (calm : Calm X.A) (hr : Room k X.A) (hb : Binds X.K fd ps ds) (hd : Vals dvs ds) (hx : Passes CX X E)
    (I : L2.Inv X pins σ H s) (r : Vals vs us) (h : sp (vs ++ dvs) H Q E) : wpAny (model X.prog X.w) X.A (call (.ref f) us) (EP X pins σ Q) X.xe s := by
  have r2 := r.append hd
  have hl : (us ++ ds).length = ps.length := r2.length.symm.trans (F.size _ _ _ _ h)
  refine wpAny_call (codeAny_mono (F.go X.A calm hr X.stack s H ⟨us, []⟩ (us ++ ds) (vs ++ dvs) Q E I.env0 (hb s us I.kIn hl) r2 h) ?_)
  intro r s' hq
  match r, hq with
  | .error e, hq => exact hx pins σ H s e s' I hq
  | .ok (.ret u), hq => exact I.after hq
  | .ok .next, hq => exact hq.elim
  | .ok .brk, hq => exact hq.elim
  | .ok .cont, hq => exact hq.elim
theorem pe_callG (F : FnG X.prog X.w X.K X.mg X.base CX k f fd ps sp) (calm : Calm X.A) (hr : Room k X.A) (hg : Gl X x) (hm : X.mg x = some (.ref f)) (hk : PySem.W.keepIn X.K (.ref f) = true) (hb : Binds X.K fd ps ds) (hd : Vals dvs ds) (hx : Passes CX X E)
    (ha : PA X (e :: es) t) (hdb : (x == ("__debug__" : Str)) = false := by decide) (he : starEach (e :: es) X.env = (false, eval e X.env) :: starEach es X.env := by rfl) (hpl : (backTo pos (starEach es X.env)).any (·.1) = false := by rfl) :
    PE X (.Call (.Name x p) (e :: es) [] pos) (tCall sp dvs E t) := by
  constructor
  intro pins s σ H Q I h
  refine wpAny_Call_Name_kw (ld_glob I hg hm (PySem.W.callWith_K (h₀ := X.base) I.ok.mod.kin hk (thn (ha.run pos pins s σ H _ I h) ?_) he hpl) hdb)
  rintro us s1 ⟨vs, H1, I1, r, q⟩
  exact ⟨I1.kIn, runG F calm hr hb hd hx I1 r q⟩
theorem pe_call0G (F : FnG X.prog X.w X.K X.mg X.base CX k f fd ps sp) (calm : Calm X.A) (hr : Room k X.A) (hg : Gl X x) (hm : X.mg x = some (.ref f)) (hk : PySem.W.keepIn X.K (.ref f) = true) (hb : Binds X.K fd ps ds) (hd : Vals dvs ds) (hx : Passes CX X E)
    (hdb : (x == ("__debug__" : Str)) = false := by decide) : PE X (.Call (.Name x p) [] [] pos) (tCall sp dvs E tNil) := by
  constructor
  intro pins s σ H Q I h
  refine wpAny_Call_Name_kw (ld_glob I hg hm ?_ hdb)
  exact PySem.W.callWith_K0 I.kIn hk (runG (us := []) (vs := []) F calm hr hb hd hx I .nil h)
end
/-! ### repr -/
section
variable {X : Cx}
/-- data as it is shown: of texts, numbers, truths, None, lists and tuples; or an empty dict -/
inductive Dq (K : PySem.W.Frag) (H : Hp) : V → PyData → Prop
  | of {v : V} {d : PyData} (h : Dp K H v d) (n : d.hasDict = false) : Dq K H v d
  | emp {a : Addr} (h : H a = some (.dK [])) : Dq K H (.ref a) (.dict [])
/-- repr(x) -/
def rShow (K : PySem.W.Frag) : List V → Hp → VK → Prop := fun xs H Q => ∃ x d, xs = [x] ∧ Dq K H x d ∧ d.showable = true ∧ d.depth ≤ 64 ∧ d.shown.length ≤ sizeLine ∧ Q (.str d.shown) H
theorem call_show (calm : Calm X.A) (hu : X.A.units + 70 < cLine) : CallR X (.builtin "repr") (rShow X.K) := by
  rintro pins s σ H xs us Q I r ⟨x, d, rfl, hd, hs, hdep, hsz, q⟩
  obtain ⟨u, rfl, rx⟩ := vals1 r
  have leaf : ∀ {t k : Nat}, EP X pins σ Q (.str d.shown t) { s with toks := k } := fun {t k} => ⟨.str d.shown, H, I.tok _, ⟨_, rfl⟩, q⟩
  have big : ∀ {a : Addr} {as : List Addr}, u = .ref a → Reads s.heap (.ref a) d as → (d.hasDict = true → sysModules ∉ as) → wpAny (model X.prog X.w) X.A (call (.builtin "repr") [u]) (EP X pins σ Q) X.xe s := by
    intro a as e rd nd
    subst e
    exact repr_of_reads' rd hs nd calm (by omega) (fun _ _ z => z) (fun h' t tk keep => ⟨.str d.shown, H, I.kept keep, ⟨_, rfl⟩, q⟩) hsz
  cases hd with
  | of h n =>
    obtain ⟨as, rd⟩ := Dp.reads I d x u h rx
    cases h with
    | non =>
      cases rx
      exact P.repr_of_none leaf
    | bl b =>
      cases rx
      exact P.repr_of_bool leaf
    | int i =>
      obtain ⟨t, rfl⟩ := rx
      exact P.repr_of_int (of_decide_eq_true hs) leaf
    | str y =>
      obtain ⟨t, rfl⟩ := rx
      exact P.repr_of_str leaf hsz
    | lst h1 h2 =>
      cases rx
      exact big rfl rd fun z => by rw [n] at z; cases z
    | tup h1 h2 =>
      cases rx
      exact big rfl rd fun z => by rw [n] at z; cases z
  | @emp a h =>
    cases rx
    obtain ⟨_, ns, vs, kv, o, es, ep, h1, h2, h3, h4⟩ := I.hok a _ h
    cases kv
    have e0 : es.toList = [] := by
      have z := h4.2.1
      cases hes : es.toList with
      | nil => rfl
      | cons e r =>
        rw [hes] at z
        cases z
    have rd : Reads s.heap (.ref a) (.dict []) (a :: [] ++ []) := .dict h1 h2.1 h3 (by rw [e0]; exact .nil) (by rw [e0]; exact .nil)
    refine big rfl rd fun _ hm => ?_
    rw [List.append_nil, List.mem_singleton] at hm
    rw [hm, beq_self_eq_true] at ns
    cases ns
end
/-! ### the end: the law is called while nothing is being shown -/
section
variable {P : Program} {w : World} {K : PySem.W.Frag} {mg mb : Str → Option Value} {k : Nat} {fa a : Addr} {fd : FuncData} {x : Str} {sp : Sp} {s : Shared} {vs : List Value} {ns : List Int}
/-- at the law's call at most the script is tracked -/
theorem lawG_at (H : Hp) (only : Only H) (just : ∀ b, H b ≠ none → b = a) (apart : H a ≠ none → K.lookup a = none) (hok : HOk P w H s.heap) (kin : K.In s.heap) (gl : s.heap.Ns mainGlobals mg) (bl : s.heap.Ns builtinsNs mb) (bb : ∀ x : Str, x ≠ "__name__" → mb x = bootBuiltins x)
    (lim : s.heap.NoLimit) (gens : s.gens = #[]) (obj : s.heap.get? a = some { cls := .type "list", data := .seq vs.toArray }) (room : Room k callerA) (F : ∀ base : Heap, K.In base → base.Ns mainGlobals mg → FnG P w K mg base CX0 k fa fd [x] sp)
    (bind : ∀ (s : Shared) (u : Value), BindsTo s fd ⟨[u], []⟩ [(x, u)]) (hsp : sp [.ref a] H (fun v _ => v = .bl true) fun _ _ _ => False) :
    codeAny (model P w) callerA (.call (.ref fa) ⟨[.ref a], []⟩) (fun r s' => r = .ok (.ret (.bool true)) ∧ OldK s.heap s'.heap ∧ s'.os = s.os ∧ AllBare s'.gens) s := by
  have at_a : ∀ {b : Addr} {u : HO}, H b = some u → b = a := fun {b u} q => just b (by rw [q]; exact fun z => nomatch z)
  have untracked : ∀ {b : Addr} {o : Obj} {es : Array DictEntry} {n : Nat}, s.heap.get? b = some o → o.data = .dict es n → H b = none := by
    intro b o es n e d
    cases q : H b with
    | none => rfl
    | some u =>
      rw [at_a q, obj] at e
      cases e
      cases d
  have names : ∀ {b : Addr} {m : Str → Option Value}, s.heap.Ns b m → (hidT s.heap H).Ns b m := by
    rintro b m ⟨o, es, n, e, d, r⟩
    exact ⟨o, es, n, hidT_get e (untracked e d), d, r⟩
  have kin' : K.In (hidT s.heap H) := by
    intro b o e
    refine hidT_get (kin b o e) ?_
    cases q : H b with
    | none => rfl
    | some u =>
      have z := apart (by rw [← at_a q, q]; exact fun z => nomatch z)
      rw [at_a q, z] at e
      cases e
  obtain ⟨mc, lm, lv⟩ := lim
  have md : Mod K mg (hidT s.heap H) := ⟨kin', names gl, ⟨mb, names bl, bb⟩, ⟨mc, names lm, lv⟩⟩
  have env : Env0 P w K mg (hidT s.heap H) callerA [] s H := ⟨rfl, md, fun b o e => of_hidT e, Nat.le_of_eq (hidT_size _ _), trivial, (fun b hb => by cases hb), hok, AllBare.of_eq gens⟩
  refine codeAny_mono ((F _ kin' (names gl)).go callerA rfl room [] s H ⟨[.ref a], []⟩ [.ref a] [.ref a] _ _ env (bind s (.ref a)) (.cons rfl .nil) hsp) ?_
  intro r s' h
  match r, h with
  | .error e, h => exact h.elim
  | .ok .next, h => exact h.elim
  | .ok .brk, h => exact h.elim
  | .ok .cont, h => exact h.elim
  | .ok (.ret u), ⟨v, H', os, bare, un, hok', rv, q⟩ =>
    have q' : v = .bl true := q
    subst q'
    cases (show u = Value.bool true from rv)
    refine ⟨rfl, OldK.of_keep fun b o e => ?_, os, bare⟩
    rcases only b with z | ⟨ob, xs, z⟩
    · exact un.keep b o e z (fun m => by cases m) (fun m => by cases m)
    · have e1 := (hok b _ z).1
      have e2 := (hok' b _ (un.frzs b ob _ z)).1
      rw [e] at e1
      cases e1
      exact e2
theorem lawG_call (kin : K.In s.heap) (gl : s.heap.Ns mainGlobals mg) (bl : s.heap.Ns builtinsNs mb) (bb : ∀ x : Str, x ≠ "__name__" → mb x = bootBuiltins x) (lim : s.heap.NoLimit) (gens : s.gens = #[]) (obj : s.heap.get? a = some { cls := .type "list", data := .seq vs.toArray })
    (hin : IntsAre vs ns) (short : ns.length ≤ sizeLine) (room : Room k callerA) (F : ∀ base : Heap, K.In base → base.Ns mainGlobals mg → FnG P w K mg base CX0 k fa fd [x] sp) (bind : ∀ (s : Shared) (u : Value), BindsTo s fd ⟨[u], []⟩ [(x, u)])
    (hsp : ∀ H : Hp, SqL K H a (ns.map V.int) → sp [.ref a] H (fun v _ => v = .bl true) fun _ _ _ => False) :
    codeAny (model P w) callerA (.call (.ref fa) ⟨[.ref a], []⟩) (fun r s' => r = .ok (.ret (.bool true)) ∧ OldK s.heap s'.heap ∧ s'.os = s.os ∧ AllBare s'.gens) s := by
  have rv := vals_ints hin
  have len := hin.length
  cases hk : K.lookup a with
  | some o =>
    have e := kin a o hk
    rw [obj] at e
    cases e
    refine lawG_at (fun _ => none) (fun _ => .inl rfl) (fun b z => absurd rfl z) (fun z => absurd rfl z) (fun b u z => by cases z) kin gl bl bb lim gens obj room F bind (hsp _ (.inr ?_))
    exact ⟨_, vs.toArray, _, hk, rfl, rfl, rfl, by rw [List.size_toArray, len]; exact short, by simpa using rv⟩
  | none =>
    let ob : Obj := { cls := .type "list", data := .seq vs.toArray }
    have at_ : ∀ {b : Addr} {u : HO}, upd (fun _ => none) a (.frz ob (.lst (ns.map V.int))) b = some u → b = a ∧ u = .frz ob (.lst (ns.map V.int)) := by
      intro b u e
      by_cases hb : b = a
      · subst hb
        rw [upd_same] at e
        cases e
        exact ⟨rfl, rfl⟩
      · rw [upd_ne hb] at e
        cases e
    refine lawG_at (upd (fun _ => none) a (.frz ob (.lst (ns.map V.int)))) (fun b => ?_) (fun b z => ?_) (fun _ => hk) (fun b u e => ?_) kin gl bl bb lim gens obj room F bind (hsp _ (.inl (.inr ⟨ob, upd_same⟩)))
    · by_cases hb : b = a
      · rw [hb]
        exact .inr ⟨ob, ns.map V.int, upd_same⟩
      · exact .inl (upd_ne hb)
    · cases q : upd (fun _ => none) a (.frz ob (.lst (ns.map V.int))) b with
      | none => exact absurd q z
      | some u => exact (at_ q).1
    · obtain ⟨rfl, rfl⟩ := at_ e
      exact ⟨obj, by rw [List.length_map]; exact short, vs, _, rv, obj⟩
end
theorem walkG {l : PySem.W.OpenLaw} {n k : Nat} {q : Program} {loose : List Str} {XP : (Str → Option Value) → Heap → Prop} {YP : World → Heap → Prop} {d : DefRec} {K : Params → PySem.W.Frag} {sp : PySem.W.Frag → Sp} {x : Str} (hn : l.most = some n) (hn2 : n ≤ sizeLine) (hdf : d.params.defaults = []) (hr : Room k callerA)
    (hY : ∀ (w : World) (h : Heap), YP w h → (K w.params).In h)
    (F : ∀ (w : World) (mg : Str → Option Value) (fa : Addr) (h : Heap), (K w.params).In h → h.Ns mainGlobals mg → mg d.name = some (.ref fa) →
      ∃ fd : FuncData, (∀ (s : Shared) (u : Value), BindsTo s fd ⟨[u], []⟩ [(x, u)]) ∧ ∀ base : Heap, (K w.params).In base → base.Ns mainGlobals mg → FnG l.prog w (K w.params) mg base CX0 k fa fd [x] (sp (K w.params)))
    (hsp : ∀ (K : PySem.W.Frag) (H : Hp) (a : Addr) (ns : List Int), ns.length ≤ n → SqL K H a (ns.map V.int) → sp K [.ref a] H (fun v _ => v = .bl true) fun _ _ _ => False) :
    PySem.W.WalkO q loose XP YP l.row.toRowW d [] (fun f vs => PySem.call f vs) := by
  refine Att.attach_call hn hdf ?_
  intro w s₀ s₁ mg mb fa o pm cd doc a vs ns G Y ho hd hcd hmg hobj hints hlen hg
  obtain ⟨fd, hb, hF⟩ := F w mg fa _ (hY w _ Y) G.T.g hmg
  exact lawG_call (hY w _ Y) G.T.g G.T.b G.T.builtins G.T.nolimit hg hobj hints (Nat.le_trans hlen hn2) hr hF hb fun H hS => hsp _ H a ns hlen hS
end Pk
/-! Own errors that keep what they are made of in one field: made, raised, caught, kept, read. -/
namespace Pk
open PySem PySem.Spec PySem.W PySem.Calls PyProof.Rows PySem.HandSPX
open Builtin Builtin.ObjectAttr
/-- what a class's line of ancestors must bear, so that its errors are made and their fields stored -/
structure Line (bm bmB : List Value) : Prop where
  has : ∀ X : String, bm.contains (.type X) = bmB.contains (.type X)
  pass : ∀ self : Value, refuseLoop self "__setattr__" bm = pure ()
  obj : bmB.contains (.type "object") = true
theorem Line.own {bm bmB : List Value} {c : Addr} (l : Line bm bmB) : Line (.ref c :: bm) bmB where
  has := fun X => by
    rw [List.contains_cons, l.has X]
    rfl
  pass := fun self => by
    rw [refuseLoop_ref]
    exact l.pass self
  obj := l.obj
section
variable {prog : Program} {w : World} {A : Around} {E : Value → Shared → Prop} {R : Result → Shared → Prop} {hp : Heap} {g : Array GenState} {d : Drawn} {t : Nat} {os : OsState}
/-- self.name = v on an error that has no dict yet, whatever its built-in base -/
theorem store_err {K : Frag} {name : Str} {tk : Tok} {v : Value} {x C : Addr} {fv : Array Value} {cd : ClassData} {bmB : List Value} (X : K.In hp) (hx : hp.get? x = some { cls := .ref C, data := .fields fv }) (hcd : clsIn K C = some cd) (ln : Line cd.mro bmB) (ne : cd.mro.isEmpty = false)
    (hh : cd.hasDict = true) (ha : findIn K (.ref C) name = some none)
    (hq : ∀ h' tk' dx, (∀ b o, b ≠ x → hp.get? b = some o → h'.get? b = some o) → hp.objs.size ≤ dx → dx ≠ x → h'.get? x = some { cls := .ref C, dict := some dx, data := .fields fv } → h'.Ns1 dx (fun y => if y = name then some v else none) → R (.ok (.ret .none)) ⟨h', g, d, tk', os⟩) :
    codeAny (model prog w) A (.call (.builtin "object.__setattr__") ⟨[.ref x, .str name tk, v], []⟩) R ⟨hp, g, d, t, os⟩ := by
  have I : InstAt hp x { cls := .ref C, data := .fields fv } C none := ⟨hx, rfl, rfl, trivial⟩
  have hob : cd.mro.contains (.type "object") = true := (ln.has "object").trans ln.obj
  have hxs : x ≠ hp.objs.size := Nat.ne_of_lt (Heap.lt_size hx)
  have mro_ : mroIn K C (.type "object") = some true := by
    unfold mroIn
    rw [hcd, Option.bind_some, if_neg (by rw [ne]; exact Bool.false_ne_true), hob]
  have isObj : Looks (model prog w) hp (isInstance (.ref x) (.type "object")) true := I.type.andThen (looks_mroIn X mro_)
  refine codeAny_call_builtin F.store_object.slot.plain F.store_object.entry (@check_slot (model prog w) _ _ ⟨hp, g, d, t, os⟩ "object.__setattr__" "object" "__setattr__" (.ref x) [.str name tk, v] [] _ F.store_object.kind F.store_object.split isObj (F.store_object.args (.ref x) (.str name tk) v) ?_)
  have Lm : Looks (model prog w) hp (mroOf (.ref C)) cd.mro := (looks_clsIn X hcd).andThen .now
  have Lt : Looks (model prog w) hp (storeTaker? none) none := .now
  have Lc : Looks (model prog w) hp (classData C) cd := looks_clsIn X hcd
  rw [osa_eq, refuse_eq]
  refine wpAny_bind (wpAny_bind (I.type.at (wpAny_bind (Lm.at ?_))))
  rw [ln.pass]
  refine wpAny_pure (wpAny_bind (I.type.at (wpAny_bind ((looks_findIn X ha).at (wpAny_bind (Lt.at ?_))))))
  show wpAny _ _ (storeInOwnDict (.ref x) (.ref C) (.str name tk) name v false) _ _ _
  obtain ⟨nm, bs, mro, ns, qn, hd, sn, sb, ab, col, del⟩ := cd
  dsimp only at hh
  subst hh
  unfold storeInOwnDict ownDictForStores
  repeat (first | with_reducible refine store_in_new ?_ ?_ | with_reducible refine wpAny_loadPart_at hx ?_ | with_reducible refine Lc.at ?_ | wp_step)
  · exact ⟨_, #[], _, (Heap.get?_update_ne _ _ _ _ hxs.symm).trans (Heap.get?_push_at rfl rfl), rfl, fun e he => absurd he (by simp), fun _ => rfl⟩
  · intro h' tk' hn' hs
    refine hq h' tk' hp.objs.size ?_ (Nat.le_refl _) hxs.symm ?_ hn'
    · intro b o hb ho
      exact (hs.2 b (Nat.ne_of_lt (Heap.lt_size ho))).trans ((Heap.get?_update_ne _ _ _ _ hb).trans (Heap.get?_push_of_some _ ho))
    · exact (hs.2 x hxs).trans (Heap.get?_update_self _ (Heap.get?_push_of_some _ hx) rfl)
end
theorem one_size (v : Value) : [v].length ≤ sizeLine := by
  rw [sizeLine_eq]
  exact (by decide : 1 ≤ 16777216)
theorem ldC {M : Model} {s : Shared} {name : Str} {scope : Scope} {L a : Addr} {cd : Value} {m : Str → Option Value} {x : Str} {pos : Pos} {v : Value} {Q : Value → Shared → Prop} {A : Around} {E : Value → Shared → Prop} (hn : s.heap.Ns L m) (hv : m x = some v) (h : Q v s)
    (hk : scope.kind = .function := by rfl) (hl : (envOfC name scope L a cd).kindOf x = some .local := by rfl) (hd : (x == ("__debug__" : Str)) = false := by decide) :
    wpAny M A (eval (.Name x pos) (envOfC name scope L a cd)) Q E s := wpAny_Name (wpAny_loadName_local hk hl hn hv h) hd
end Pk
namespace Pk
open PySem PySem.Spec PyProof.Rows L2
/-! ### isinstance of an error that is kept, with a dict of its own or without -/
/-- where the dict of a kept error is tracked, if it has one -/
def DictOk (H : Hp) (d : Option Addr) : Prop := d = none ∨ ∃ (dd : Addr) (fs : List (Str × V)), d = some dd ∧ H dd = some (.xd fs)
def rIsK (K : PySem.W.Frag) : List V → Hp → VK → Prop := fun xs H Q => ∃ (a D : Addr) (d : Option Addr) (c : V) (cv : Value) (b : Bool), xs = [.ref a, c] ∧ H a = some (ExH (.ref D) d a) ∧ DictOk H d ∧ ExcC K D ∧ ClsV c cv ∧ PySem.W.kitOne K (.ref D) cv = some b ∧ Q (.bl b) H
theorem held_at {X : Cx} {pins : List (Addr × Obj)} {σ : L2.St} {H : Hp} {s : Shared} {a D : Addr} {d : Option Addr} (I : L2.Inv X pins σ H s) (hH : H a = some (ExH (.ref D) d a)) (hd : DictOk H d) : ∃ oe od, PySem.W.InstAt s.heap a oe D od ∧ (∀ dd fs, d = some dd → H dd = some (.xd fs) → ∃ o, od = some o ∧ s.heap.get? dd = some o) := by
  obtain ⟨⟨oe, vs, hget, hz, hv⟩, _, _⟩ := I.hok a _ hH
  obtain ⟨oc, odt, oda, osl⟩ := oe
  obtain ⟨h1, h2⟩ := hz
  dsimp only at h1 h2 hv
  subst h1 h2 hv
  rcases hd with rfl | ⟨dd, fs, rfl, hdd⟩
  · exact ⟨_, none, ⟨hget, rfl, rfl, trivial⟩, fun _ _ z => nomatch z⟩
  · obtain ⟨mA, hns, hr⟩ := I.hok dd _ hdd
    obtain ⟨o, ho, _⟩ := lookIn_ns hns
    refine ⟨_, some o, ⟨hget, rfl, rfl, ho⟩, fun dd' fs' e _ => ?_⟩
    cases e
    exact ⟨o, rfl, ho⟩
theorem call_isK {X : Cx} : CallR X (.builtin "isinstance") (rIsK X.K) := by
  rintro pins s σ H xs us Q I r ⟨a, D, d, c, cv, b, rfl, hH, hd, C, hc, e, q⟩
  obtain ⟨u1, u2, rfl, r1, r2⟩ := vals2 r
  cases (show u1 = Value.ref a from r1)
  have ec := hc.eq r2
  subst ec
  obtain ⟨oe, od, J, _⟩ := held_at I hH hd
  have hcl : (PySem.W.clsIn X.K D).isSome = true := by
    have z := C.hd
    unfold PySem.W.hasDictIn at z
    cases hq : PySem.W.clsIn X.K D with
    | none =>
      rw [hq] at z
      cases z
    | some c => rfl
  exact PySem.W.kia_one (PySem.W.kitx_exc hcl C.hg C.hk C.hs C.ha C.hn C.ht C.hm) I.kIn J e (fun z => nomatch z) fun tk => ⟨.bl b, H, I.tok tk, rfl, q⟩
/-! ### errors of the field part -/
namespace Of_part
open PySem.W PySem.Calls PySem.HandSPX
def iA (p1 p2 : Pos) : Arguments := { posonlyargs := [], args := [{ arg := "self", annotation := none, pos := p1 }, { arg := "part", annotation := none, pos := p2 }], vararg := none, kwonlyargs := [], kw_defaults := [], kwarg := none, defaults := [] }
def iB (q1 q2 q3 q4 : Pos) : List Stmt := [.Assign [.Attribute (.Name "self" q1) "part" q2] (.Name "part" q3) q4]
def iS : Scope := { kind := .function, names := [(PySem.Str.ofString "self", .local), (PySem.Str.ofString "part", .local)], isGenerator := false, isCoroutine := false, more := [] }
/-- the class called nm, at C, and its __init__, at fI, as the top has left them -/
structure Tx (K : Frag) (mg : Str → Option Value) (nm ql : Str) (C fI : Addr) (B newId initId : String) (bmB : List Value) : Prop where
  base : ExcBaseFacts B newId initId bmB
  gC : mg nm = some (.ref C)
  cls : ∃ n1 q N bs bm sn sub ab col dd k0 k1 k2 k3 k5, K.lookup C = some (excClassObj n1 q C N bs bm true sn sub ab col dd k0 k1 k2 k3 k5 newId) ∧ Line bm bmB
  sa : findIn K (.ref C) "__setattr__" = some (some (.builtin "object.__setattr__"))
  ex : ExcC K C
  noN : findIn K (.ref C) "part" = some none
  iC : findIn K (.ref C) "__init__" = some (some (.ref fI))
  tC : typeIn K (.ref fI) = some (.type "function")
  kC : keepIn K (.ref C) = true
  tyC : typeIn K (.ref C) = some (.type "type")
  fn : ∃ (oc : Value) (od : Option Addr) (doc pm : Value) (an : Option Addr) (cdv ct : Value) (osl : Array (Option Value)) (p1 p2 q1 q2 q3 q4 : Pos),
    K.lookup fI = some ⟨oc, od, .func (fnOf "__init__" ql (iA p1 p2) (iB q1 q2 q3 q4) iS .none .none doc pm an cdv ct), osl⟩ ∧ codeIn K cdv ql = true
/-- an error made of v, at e, its own dict at d -/
structure Made (h h' : Heap) (e C d : Addr) (v : Value) : Prop where
  keep : ∀ b o, h.get? b = some o → h'.get? b = some o
  new : h.objs.size ≤ e
  obj : ∃ oe vs, h'.get? e = some oe ∧ oe.cls = .ref C ∧ oe.dict = some d ∧ oe.data = .fields vs ∧ vs[1]? = some .none
  dbig : h.objs.size ≤ d
  dne : d ≠ e
  ns : h'.Ns1 d (fun y => if y = "part" then some v else none)
section
variable {prog : Program} {w : World} {A : Around} {E : Value → Shared → Prop} {R : Result → Shared → Prop} {s : Shared} {K : Frag} {mg : Str → Option Value} {nm ql : Str} {C fI : Addr} {B newId initId : String} {bmB : List Value}
theorem made (T : Tx K mg nm ql C fI B newId initId bmB) {v : Value} (X : K.In s.heap) (hlim : s.heap.NoLimit) (hroom : A.depth + 1 < recursionLimit) (hq : ∀ h' tk e d, Made s.heap h' e C d v → R (.ok (.ret (.ref e))) { s with heap := h', toks := tk }) :
    codeAny (model prog w) A (.call (.ref C) ⟨[v], []⟩) R s := by
  obtain ⟨n1, q, N, bs, bm, sn, sub, ab, col, dd, k0, k1, k2, k3, k5, hC, ln⟩ := T.cls
  obtain ⟨oc, od, doc, pm, an, cdv, ct, osl, p1, p2, q1, q2, q3, q4, ho, hcd⟩ := T.fn
  have hcl : clsIn K C = some { name := n1, bases := bs, mro := .ref C :: bm, ns := N, qualname := q, hasDict := true, slotNames := sn, subclasses := sub, abstract := ab, collection := col, hasDel := false } := by
    unfold clsIn
    rw [hC]
  obtain ⟨hp, g, dr, tk, os⟩ := s
  have k : ∀ b o, hp.get? b = some o → ((hp.push (kdv_tup [v])).push (excO C hp.objs.size)).get? b = some o := fun b o e => Heap.get?_push_of_some _ (Heap.get?_push_of_some _ e)
  have hx : ((hp.push (kdv_tup [v])).push (excO C hp.objs.size)).get? (hp.objs.size + 1) = some (excO C hp.objs.size) := by heap_get
  refine call_own T.base ln.has (X _ _ hC) (looks_findIn X T.iC) (fun self => bind_fn X self T.tC) (one_size v) ?_
  have X1 := X.keeps k
  have lim1 : ((hp.push (kdv_tup [v])).push (excO C hp.objs.size)).NoLimit := hlim.keeps k
  have size1 : ((hp.push (kdv_tup [v])).push (excO C hp.objs.size)).objs.size = hp.objs.size + 1 + 1 := by rw [Heap.size_push, Heap.size_push]
  generalize (hp.push (kdv_tup [v])).push (excO C hp.objs.size) = h1 at k hx X1 lim1 size1 ⊢
  refine Att.call_fn (binds := [("self", .ref (hp.objs.size + 1)), ("part", v)]) X1 lim1 ho hcd hroom (BindsTo.of_eq (by first | rfl | with_unfolding_all rfl)) (by first | rfl | decide | with_unfolding_all rfl) (fun s₁ IC => ?_) rfl rfl rfl
  obtain ⟨h₁, tk₁, rfl⟩ := IC.toInCall.same
  have k1' : ∀ b o, h1.get? b = some o → h₁.get? b = some o := IC.toInCall.keep
  have hn := IC.toInCall.ns
  show wpAny _ _ (execs _ _) _ _ _
  refine wpAny_execs_cons (plainObj_wpAny_Assign_Attribute ?_)
  refine ldC (v := v) hn (by first | rfl | with_unfolding_all rfl | kernel_rfl) (ldC (v := .ref (hp.objs.size + 1)) hn (by first | rfl | with_unfolding_all rfl | kernel_rfl) ?_)
  refine set_plain (X1.keeps k1') (ox := excO C hp.objs.size) (od := none) ⟨k1' _ _ hx, rfl, rfl, trivial⟩ T.sa ?_
  refine store_err (X1.keeps k1') (k1' _ _ hx) hcl (bmB := bmB) ln.own rfl rfl T.noN (fun h₃ tk₃ dx k₃ dn dne hx₃ hn₃ => ?_)
  show wpAny _ _ (execs _ _) _ _ _
  have z : h1.objs.size < h₁.objs.size := hn.lt
  have lt_ : ∀ {b : Addr} {o : Obj}, hp.get? b = some o → b ≠ hp.objs.size + 1 := fun {b o} e => Nat.ne_of_lt (Nat.lt_succ_of_lt (Heap.lt_size e))
  refine wpAny_execs_nil ⟨rfl, hq h₃ tk₃ (hp.objs.size + 1) dx ⟨fun b o e => k₃ b o (lt_ e) (k1' b o (k b o e)), Nat.le_succ _, ⟨_, _, hx₃, rfl, rfl, rfl, rfl⟩, ?_, dne, hn₃⟩⟩
  have dn' : h₁.objs.size ≤ dx := dn
  show hp.objs.size ≤ dx
  omega
end
end Of_part
section
variable {X : Cx} {nm ql : Str} {C fI : Addr} {B newId initId : String} {bmB : List Value}
theorem relO_part {v : V} {v' : Value} (r : RelV v v') (f : Str) : RelO (List.lookup f [(("part" : Str), v)]) (if f = "part" then some v' else none) := by
  by_cases hw : f = "part"
  · subst hw
    rw [if_pos rfl]
    have q : List.lookup ("part" : Str) [(("part" : Str), v)] = some v := by simp [List.lookup]
    rw [q]
    exact r
  · rw [if_neg hw]
    have qw : (f == ("part" : Str)) = false := by simpa using hw
    have q2 : List.lookup f [(("part" : Str), v)] = none := by simp [List.lookup, qw]
    rw [q2]
    trivial
/-- nm(e) -/
def tMk_part (C : Addr) (ta : TA) : L2.St → Hp → XK → Prop := fun σ H Q => ta σ H fun vs H1 => ∃ v, vs = [v] ∧ ∀ d, H1 d = none → Q (.ref C) (some d) (upd H1 d (.xd [(("part" : Str), v)]))
theorem pmk_part {a : Expr} {ta : TA} {p pos : Pos} {k : Nat} (T : Of_part.Tx X.K X.mg nm ql C fI B newId initId bmB) (hr : Room k X.A) (ha : PA X [a] ta) (hg : Gl X nm := by rfl) (hdb : (nm == ("__debug__" : Str)) = false := by decide)
    (he : starEach (a :: []) X.env = (false, eval a X.env) :: starEach [] X.env := by rfl) (hpl : (backTo pos (starEach [] X.env)).any (·.1) = false := by rfl) :
    PMk X (.Call (.Name nm p) [a] [] pos) (tMk_part C ta) := by
  intro pins s σ H Q I h
  refine wpAny_Call_Name_kw (ld_glob I hg T.gC ?_ hdb)
  refine PySem.W.callWith_K (h₀ := X.base) I.ok.mod.kin T.kC (thn (ha.run pos pins s σ H _ I h) fun us s1 hh => ?_) he hpl
  obtain ⟨vs, H1, I1, r1, v, ev, q1⟩ := hh
  subst ev
  refine ⟨I1.kIn, ?_⟩
  cases r1 with
  | cons rv rn =>
    rename_i v' us'
    cases rn
    show wpAny _ _ (call (.ref C) [v']) _ _ _
    have hlim := I1.nolimit
    obtain ⟨hp, g, dr, tk, os⟩ := s1
    refine wpAny_call (Of_part.made T I1.kIn hlim (by have := hr.dp; omega) fun h' tk' e d M => ?_)
    show MkP X pins σ Q (.ref e) ⟨h', g, dr, tk', os⟩
    obtain ⟨oe, fv, hoe, hc, hd, hdat, h1⟩ := M.obj
    have hns := M.ns
    obtain ⟨G', g1, g2⟩ := restrict h' fun b => decide (b ≠ e)
    have gk : ∀ b, b ≠ e → G'.get? b = h'.get? b := fun b hb => g1 b (decide_eq_true hb)
    have ge : G'.get? e = none := g2 e (by simp)
    have old : ∀ b o, hp.get? b = some o → G'.get? b = some o := fun b o q => (gk b (Nat.ne_of_lt (Nat.lt_of_lt_of_le (Heap.lt_size q) M.new))).trans (M.keep b o q)
    have ob : ObjOk X.prog X.w (upd H1 d (.xd [(("part" : Str), v)])) G' d (.xd [(("part" : Str), v)]) :=
      ⟨_, hns.at (fun o q => (gk d M.dne).trans q), fun f => relO_part rv f⟩
    have J : L2.Inv X pins σ (upd H1 d (.xd [(("part" : Str), v)])) ⟨G', g, dr, tk', os⟩ := I1.laid (t' := tk') old M.dbig ob
    refine ⟨e, oe, fv, ⟨G', g, dr, tk', os⟩, _, .ref C, some d, rfl, J, fun b o q => ?_, ge, hoe, ⟨hc, hd⟩, hdat, h1, ?_, rfl, I1.bare, raises_own T.ex.hs T.tyC, q1 d (I1.hok.fresh M.dbig)⟩
    · by_cases hb : b = e
      · have q' : G'.get? b = some o := q
        rw [hb, ge] at q'
        cases q'
      · exact (gk b hb).symm.trans q
    · rw [upd_ne (Ne.symm M.dne)]
      exact I1.hok.fresh M.new
/-- raise nm(e) -/
def tRaise_part (C : Addr) (W : WX) (ta : TA) : TS := fun _ σ H => tMk_part C ta σ H fun cls d H' => W cls d σ H'
theorem ps_raise_part {a : Expr} {ta : TA} {W : WX} {p pos pos2 : Pos} {k : Nat} (hc : X.calm = true) (T : Of_part.Tx X.K X.mg nm ql C fI B newId initId bmB) (hr : Room k X.A) (tk : Takes X W) (ha : PA X [a] ta) (hg : Gl X nm := by rfl) (hdb : (nm == ("__debug__" : Str)) = false := by decide)
    (he : starEach (a :: []) X.env = (false, eval a X.env) :: starEach [] X.env := by rfl) (hpl : (backTo pos (starEach [] X.env)).any (·.1) = false := by rfl) :
    PS X (.Raise (some (.Call (.Name nm p) [a] [] pos)) none pos2) (tRaise_part C W ta) := ps_raise hc tk (pmk_part T hr ha hg hdb he hpl)
/-- e.part, e a kept error -/
def tGet_part (K : PySem.W.Frag) (te : TE) : TE := fun σ H Q => te σ H fun x H1 => ∃ (a C dd : Addr) (v : V), x = .ref a ∧ H1 a = some (ExH (.ref C) (some dd) a) ∧ ExcC K C ∧ PySem.W.findIn K (.ref C) "part" = some none ∧ H1 dd = some (.xd [(("part" : Str), v)]) ∧ Q v H1
theorem pe_get_part {e : Expr} {te : TE} {pos : Pos} (he : PE X e te) (hb : attributeBase e "part" X.env (eval e X.env) = eval e X.env := by rfl) : PE X (.Attribute e "part" pos) (tGet_part X.K te) := by
  constructor
  intro pins s σ H Q I h
  refine attr_of hb (thn (he.run pins s σ H _ I h) ?_)
  rintro u s1 ⟨x, H1, I1, rx, a, C, dd, v, rfl, ha, EC, noN, hdd, q⟩
  cases (show u = Value.ref a from rx)
  obtain ⟨oe, od, J, hod⟩ := held_at I1 ha (.inr ⟨dd, _, rfl, hdd⟩)
  obtain ⟨mA, hns, hr⟩ := I1.hok dd _ hdd
  obtain ⟨o, ho, hl⟩ := lookIn_ns hns
  obtain ⟨o', eo, ho'⟩ := hod dd _ rfl hdd
  rw [ho] at ho'
  cases ho'
  subst eo
  have l : List.lookup ("part" : Str) [(("part" : Str), v)] = some v := by simp [List.lookup]
  obtain ⟨u, hu, ru⟩ := RelO.some_of (v := v) (o := mA "part") (by rw [← l]; exact hr "part")
  exact HandSPX.exc_get I1.kIn J EC.hg EC.hk EC.hs (PySem.W.findObj_own EC.hd noN rfl (by rw [hl, hu])) (handed_of ru) ⟨v, H1, I1.tok _, ru, q⟩
end
/-! ### errors of the field wanted -/
namespace Of_wanted
open PySem.W PySem.Calls PySem.HandSPX
def iA (p1 p2 : Pos) : Arguments := { posonlyargs := [], args := [{ arg := "self", annotation := none, pos := p1 }, { arg := "wanted", annotation := none, pos := p2 }], vararg := none, kwonlyargs := [], kw_defaults := [], kwarg := none, defaults := [] }
def iB (q1 q2 q3 q4 : Pos) : List Stmt := [.Assign [.Attribute (.Name "self" q1) "wanted" q2] (.Name "wanted" q3) q4]
def iS : Scope := { kind := .function, names := [(PySem.Str.ofString "self", .local), (PySem.Str.ofString "wanted", .local)], isGenerator := false, isCoroutine := false, more := [] }
/-- the class called nm, at C, and its __init__, at fI, as the top has left them -/
structure Tx (K : Frag) (mg : Str → Option Value) (nm ql : Str) (C fI : Addr) (B newId initId : String) (bmB : List Value) : Prop where
  base : ExcBaseFacts B newId initId bmB
  gC : mg nm = some (.ref C)
  cls : ∃ n1 q N bs bm sn sub ab col dd k0 k1 k2 k3 k5, K.lookup C = some (excClassObj n1 q C N bs bm true sn sub ab col dd k0 k1 k2 k3 k5 newId) ∧ Line bm bmB
  sa : findIn K (.ref C) "__setattr__" = some (some (.builtin "object.__setattr__"))
  ex : ExcC K C
  noN : findIn K (.ref C) "wanted" = some none
  iC : findIn K (.ref C) "__init__" = some (some (.ref fI))
  tC : typeIn K (.ref fI) = some (.type "function")
  kC : keepIn K (.ref C) = true
  tyC : typeIn K (.ref C) = some (.type "type")
  fn : ∃ (oc : Value) (od : Option Addr) (doc pm : Value) (an : Option Addr) (cdv ct : Value) (osl : Array (Option Value)) (p1 p2 q1 q2 q3 q4 : Pos),
    K.lookup fI = some ⟨oc, od, .func (fnOf "__init__" ql (iA p1 p2) (iB q1 q2 q3 q4) iS .none .none doc pm an cdv ct), osl⟩ ∧ codeIn K cdv ql = true
/-- an error made of v, at e, its own dict at d -/
structure Made (h h' : Heap) (e C d : Addr) (v : Value) : Prop where
  keep : ∀ b o, h.get? b = some o → h'.get? b = some o
  new : h.objs.size ≤ e
  obj : ∃ oe vs, h'.get? e = some oe ∧ oe.cls = .ref C ∧ oe.dict = some d ∧ oe.data = .fields vs ∧ vs[1]? = some .none
  dbig : h.objs.size ≤ d
  dne : d ≠ e
  ns : h'.Ns1 d (fun y => if y = "wanted" then some v else none)
section
variable {prog : Program} {w : World} {A : Around} {E : Value → Shared → Prop} {R : Result → Shared → Prop} {s : Shared} {K : Frag} {mg : Str → Option Value} {nm ql : Str} {C fI : Addr} {B newId initId : String} {bmB : List Value}
theorem made (T : Tx K mg nm ql C fI B newId initId bmB) {v : Value} (X : K.In s.heap) (hlim : s.heap.NoLimit) (hroom : A.depth + 1 < recursionLimit) (hq : ∀ h' tk e d, Made s.heap h' e C d v → R (.ok (.ret (.ref e))) { s with heap := h', toks := tk }) :
    codeAny (model prog w) A (.call (.ref C) ⟨[v], []⟩) R s := by
  obtain ⟨n1, q, N, bs, bm, sn, sub, ab, col, dd, k0, k1, k2, k3, k5, hC, ln⟩ := T.cls
  obtain ⟨oc, od, doc, pm, an, cdv, ct, osl, p1, p2, q1, q2, q3, q4, ho, hcd⟩ := T.fn
  have hcl : clsIn K C = some { name := n1, bases := bs, mro := .ref C :: bm, ns := N, qualname := q, hasDict := true, slotNames := sn, subclasses := sub, abstract := ab, collection := col, hasDel := false } := by
    unfold clsIn
    rw [hC]
  obtain ⟨hp, g, dr, tk, os⟩ := s
  have k : ∀ b o, hp.get? b = some o → ((hp.push (kdv_tup [v])).push (excO C hp.objs.size)).get? b = some o := fun b o e => Heap.get?_push_of_some _ (Heap.get?_push_of_some _ e)
  have hx : ((hp.push (kdv_tup [v])).push (excO C hp.objs.size)).get? (hp.objs.size + 1) = some (excO C hp.objs.size) := by heap_get
  refine call_own T.base ln.has (X _ _ hC) (looks_findIn X T.iC) (fun self => bind_fn X self T.tC) (one_size v) ?_
  have X1 := X.keeps k
  have lim1 : ((hp.push (kdv_tup [v])).push (excO C hp.objs.size)).NoLimit := hlim.keeps k
  have size1 : ((hp.push (kdv_tup [v])).push (excO C hp.objs.size)).objs.size = hp.objs.size + 1 + 1 := by rw [Heap.size_push, Heap.size_push]
  generalize (hp.push (kdv_tup [v])).push (excO C hp.objs.size) = h1 at k hx X1 lim1 size1 ⊢
  refine Att.call_fn (binds := [("self", .ref (hp.objs.size + 1)), ("wanted", v)]) X1 lim1 ho hcd hroom (BindsTo.of_eq (by first | rfl | with_unfolding_all rfl)) (by first | rfl | decide | with_unfolding_all rfl) (fun s₁ IC => ?_) rfl rfl rfl
  obtain ⟨h₁, tk₁, rfl⟩ := IC.toInCall.same
  have k1' : ∀ b o, h1.get? b = some o → h₁.get? b = some o := IC.toInCall.keep
  have hn := IC.toInCall.ns
  show wpAny _ _ (execs _ _) _ _ _
  refine wpAny_execs_cons (plainObj_wpAny_Assign_Attribute ?_)
  refine ldC (v := v) hn (by first | rfl | with_unfolding_all rfl | kernel_rfl) (ldC (v := .ref (hp.objs.size + 1)) hn (by first | rfl | with_unfolding_all rfl | kernel_rfl) ?_)
  refine set_plain (X1.keeps k1') (ox := excO C hp.objs.size) (od := none) ⟨k1' _ _ hx, rfl, rfl, trivial⟩ T.sa ?_
  refine store_err (X1.keeps k1') (k1' _ _ hx) hcl (bmB := bmB) ln.own rfl rfl T.noN (fun h₃ tk₃ dx k₃ dn dne hx₃ hn₃ => ?_)
  show wpAny _ _ (execs _ _) _ _ _
  have z : h1.objs.size < h₁.objs.size := hn.lt
  have lt_ : ∀ {b : Addr} {o : Obj}, hp.get? b = some o → b ≠ hp.objs.size + 1 := fun {b o} e => Nat.ne_of_lt (Nat.lt_succ_of_lt (Heap.lt_size e))
  refine wpAny_execs_nil ⟨rfl, hq h₃ tk₃ (hp.objs.size + 1) dx ⟨fun b o e => k₃ b o (lt_ e) (k1' b o (k b o e)), Nat.le_succ _, ⟨_, _, hx₃, rfl, rfl, rfl, rfl⟩, ?_, dne, hn₃⟩⟩
  have dn' : h₁.objs.size ≤ dx := dn
  show hp.objs.size ≤ dx
  omega
end
end Of_wanted
section
variable {X : Cx} {nm ql : Str} {C fI : Addr} {B newId initId : String} {bmB : List Value}
theorem relO_wanted {v : V} {v' : Value} (r : RelV v v') (f : Str) : RelO (List.lookup f [(("wanted" : Str), v)]) (if f = "wanted" then some v' else none) := by
  by_cases hw : f = "wanted"
  · subst hw
    rw [if_pos rfl]
    have q : List.lookup ("wanted" : Str) [(("wanted" : Str), v)] = some v := by simp [List.lookup]
    rw [q]
    exact r
  · rw [if_neg hw]
    have qw : (f == ("wanted" : Str)) = false := by simpa using hw
    have q2 : List.lookup f [(("wanted" : Str), v)] = none := by simp [List.lookup, qw]
    rw [q2]
    trivial
/-- nm(e) -/
def tMk_wanted (C : Addr) (ta : TA) : L2.St → Hp → XK → Prop := fun σ H Q => ta σ H fun vs H1 => ∃ v, vs = [v] ∧ ∀ d, H1 d = none → Q (.ref C) (some d) (upd H1 d (.xd [(("wanted" : Str), v)]))
theorem pmk_wanted {a : Expr} {ta : TA} {p pos : Pos} {k : Nat} (T : Of_wanted.Tx X.K X.mg nm ql C fI B newId initId bmB) (hr : Room k X.A) (ha : PA X [a] ta) (hg : Gl X nm := by rfl) (hdb : (nm == ("__debug__" : Str)) = false := by decide)
    (he : starEach (a :: []) X.env = (false, eval a X.env) :: starEach [] X.env := by rfl) (hpl : (backTo pos (starEach [] X.env)).any (·.1) = false := by rfl) :
    PMk X (.Call (.Name nm p) [a] [] pos) (tMk_wanted C ta) := by
  intro pins s σ H Q I h
  refine wpAny_Call_Name_kw (ld_glob I hg T.gC ?_ hdb)
  refine PySem.W.callWith_K (h₀ := X.base) I.ok.mod.kin T.kC (thn (ha.run pos pins s σ H _ I h) fun us s1 hh => ?_) he hpl
  obtain ⟨vs, H1, I1, r1, v, ev, q1⟩ := hh
  subst ev
  refine ⟨I1.kIn, ?_⟩
  cases r1 with
  | cons rv rn =>
    rename_i v' us'
    cases rn
    show wpAny _ _ (call (.ref C) [v']) _ _ _
    have hlim := I1.nolimit
    obtain ⟨hp, g, dr, tk, os⟩ := s1
    refine wpAny_call (Of_wanted.made T I1.kIn hlim (by have := hr.dp; omega) fun h' tk' e d M => ?_)
    show MkP X pins σ Q (.ref e) ⟨h', g, dr, tk', os⟩
    obtain ⟨oe, fv, hoe, hc, hd, hdat, h1⟩ := M.obj
    have hns := M.ns
    obtain ⟨G', g1, g2⟩ := restrict h' fun b => decide (b ≠ e)
    have gk : ∀ b, b ≠ e → G'.get? b = h'.get? b := fun b hb => g1 b (decide_eq_true hb)
    have ge : G'.get? e = none := g2 e (by simp)
    have old : ∀ b o, hp.get? b = some o → G'.get? b = some o := fun b o q => (gk b (Nat.ne_of_lt (Nat.lt_of_lt_of_le (Heap.lt_size q) M.new))).trans (M.keep b o q)
    have ob : ObjOk X.prog X.w (upd H1 d (.xd [(("wanted" : Str), v)])) G' d (.xd [(("wanted" : Str), v)]) :=
      ⟨_, hns.at (fun o q => (gk d M.dne).trans q), fun f => relO_wanted rv f⟩
    have J : L2.Inv X pins σ (upd H1 d (.xd [(("wanted" : Str), v)])) ⟨G', g, dr, tk', os⟩ := I1.laid (t' := tk') old M.dbig ob
    refine ⟨e, oe, fv, ⟨G', g, dr, tk', os⟩, _, .ref C, some d, rfl, J, fun b o q => ?_, ge, hoe, ⟨hc, hd⟩, hdat, h1, ?_, rfl, I1.bare, raises_own T.ex.hs T.tyC, q1 d (I1.hok.fresh M.dbig)⟩
    · by_cases hb : b = e
      · have q' : G'.get? b = some o := q
        rw [hb, ge] at q'
        cases q'
      · exact (gk b hb).symm.trans q
    · rw [upd_ne (Ne.symm M.dne)]
      exact I1.hok.fresh M.new
/-- raise nm(e) -/
def tRaise_wanted (C : Addr) (W : WX) (ta : TA) : TS := fun _ σ H => tMk_wanted C ta σ H fun cls d H' => W cls d σ H'
theorem ps_raise_wanted {a : Expr} {ta : TA} {W : WX} {p pos pos2 : Pos} {k : Nat} (hc : X.calm = true) (T : Of_wanted.Tx X.K X.mg nm ql C fI B newId initId bmB) (hr : Room k X.A) (tk : Takes X W) (ha : PA X [a] ta) (hg : Gl X nm := by rfl) (hdb : (nm == ("__debug__" : Str)) = false := by decide)
    (he : starEach (a :: []) X.env = (false, eval a X.env) :: starEach [] X.env := by rfl) (hpl : (backTo pos (starEach [] X.env)).any (·.1) = false := by rfl) :
    PS X (.Raise (some (.Call (.Name nm p) [a] [] pos)) none pos2) (tRaise_wanted C W ta) := ps_raise hc tk (pmk_wanted T hr ha hg hdb he hpl)
/-- e.wanted, e a kept error -/
def tGet_wanted (K : PySem.W.Frag) (te : TE) : TE := fun σ H Q => te σ H fun x H1 => ∃ (a C dd : Addr) (v : V), x = .ref a ∧ H1 a = some (ExH (.ref C) (some dd) a) ∧ ExcC K C ∧ PySem.W.findIn K (.ref C) "wanted" = some none ∧ H1 dd = some (.xd [(("wanted" : Str), v)]) ∧ Q v H1
theorem pe_get_wanted {e : Expr} {te : TE} {pos : Pos} (he : PE X e te) (hb : attributeBase e "wanted" X.env (eval e X.env) = eval e X.env := by rfl) : PE X (.Attribute e "wanted" pos) (tGet_wanted X.K te) := by
  constructor
  intro pins s σ H Q I h
  refine attr_of hb (thn (he.run pins s σ H _ I h) ?_)
  rintro u s1 ⟨x, H1, I1, rx, a, C, dd, v, rfl, ha, EC, noN, hdd, q⟩
  cases (show u = Value.ref a from rx)
  obtain ⟨oe, od, J, hod⟩ := held_at I1 ha (.inr ⟨dd, _, rfl, hdd⟩)
  obtain ⟨mA, hns, hr⟩ := I1.hok dd _ hdd
  obtain ⟨o, ho, hl⟩ := lookIn_ns hns
  obtain ⟨o', eo, ho'⟩ := hod dd _ rfl hdd
  rw [ho] at ho'
  cases ho'
  subst eo
  have l : List.lookup ("wanted" : Str) [(("wanted" : Str), v)] = some v := by simp [List.lookup]
  obtain ⟨u, hu, ru⟩ := RelO.some_of (v := v) (o := mA "wanted") (by rw [← l]; exact hr "wanted")
  exact HandSPX.exc_get I1.kIn J EC.hg EC.hk EC.hs (PySem.W.findObj_own EC.hd noN rfl (by rw [hl, hu])) (handed_of ru) ⟨v, H1, I1.tok _, ru, q⟩
end
/-! ### errors of the field at -/
namespace Of_at
open PySem.W PySem.Calls PySem.HandSPX
def iA (p1 p2 : Pos) : Arguments := { posonlyargs := [], args := [{ arg := "self", annotation := none, pos := p1 }, { arg := "at", annotation := none, pos := p2 }], vararg := none, kwonlyargs := [], kw_defaults := [], kwarg := none, defaults := [] }
def iB (q1 q2 q3 q4 : Pos) : List Stmt := [.Assign [.Attribute (.Name "self" q1) "at" q2] (.Name "at" q3) q4]
def iS : Scope := { kind := .function, names := [(PySem.Str.ofString "self", .local), (PySem.Str.ofString "at", .local)], isGenerator := false, isCoroutine := false, more := [] }
/-- the class called nm, at C, and its __init__, at fI, as the top has left them -/
structure Tx (K : Frag) (mg : Str → Option Value) (nm ql : Str) (C fI : Addr) (B newId initId : String) (bmB : List Value) : Prop where
  base : ExcBaseFacts B newId initId bmB
  gC : mg nm = some (.ref C)
  cls : ∃ n1 q N bs bm sn sub ab col dd k0 k1 k2 k3 k5, K.lookup C = some (excClassObj n1 q C N bs bm true sn sub ab col dd k0 k1 k2 k3 k5 newId) ∧ Line bm bmB
  sa : findIn K (.ref C) "__setattr__" = some (some (.builtin "object.__setattr__"))
  ex : ExcC K C
  noN : findIn K (.ref C) "at" = some none
  iC : findIn K (.ref C) "__init__" = some (some (.ref fI))
  tC : typeIn K (.ref fI) = some (.type "function")
  kC : keepIn K (.ref C) = true
  tyC : typeIn K (.ref C) = some (.type "type")
  fn : ∃ (oc : Value) (od : Option Addr) (doc pm : Value) (an : Option Addr) (cdv ct : Value) (osl : Array (Option Value)) (p1 p2 q1 q2 q3 q4 : Pos),
    K.lookup fI = some ⟨oc, od, .func (fnOf "__init__" ql (iA p1 p2) (iB q1 q2 q3 q4) iS .none .none doc pm an cdv ct), osl⟩ ∧ codeIn K cdv ql = true
/-- an error made of v, at e, its own dict at d -/
structure Made (h h' : Heap) (e C d : Addr) (v : Value) : Prop where
  keep : ∀ b o, h.get? b = some o → h'.get? b = some o
  new : h.objs.size ≤ e
  obj : ∃ oe vs, h'.get? e = some oe ∧ oe.cls = .ref C ∧ oe.dict = some d ∧ oe.data = .fields vs ∧ vs[1]? = some .none
  dbig : h.objs.size ≤ d
  dne : d ≠ e
  ns : h'.Ns1 d (fun y => if y = "at" then some v else none)
section
variable {prog : Program} {w : World} {A : Around} {E : Value → Shared → Prop} {R : Result → Shared → Prop} {s : Shared} {K : Frag} {mg : Str → Option Value} {nm ql : Str} {C fI : Addr} {B newId initId : String} {bmB : List Value}
theorem made (T : Tx K mg nm ql C fI B newId initId bmB) {v : Value} (X : K.In s.heap) (hlim : s.heap.NoLimit) (hroom : A.depth + 1 < recursionLimit) (hq : ∀ h' tk e d, Made s.heap h' e C d v → R (.ok (.ret (.ref e))) { s with heap := h', toks := tk }) :
    codeAny (model prog w) A (.call (.ref C) ⟨[v], []⟩) R s := by
  obtain ⟨n1, q, N, bs, bm, sn, sub, ab, col, dd, k0, k1, k2, k3, k5, hC, ln⟩ := T.cls
  obtain ⟨oc, od, doc, pm, an, cdv, ct, osl, p1, p2, q1, q2, q3, q4, ho, hcd⟩ := T.fn
  have hcl : clsIn K C = some { name := n1, bases := bs, mro := .ref C :: bm, ns := N, qualname := q, hasDict := true, slotNames := sn, subclasses := sub, abstract := ab, collection := col, hasDel := false } := by
    unfold clsIn
    rw [hC]
  obtain ⟨hp, g, dr, tk, os⟩ := s
  have k : ∀ b o, hp.get? b = some o → ((hp.push (kdv_tup [v])).push (excO C hp.objs.size)).get? b = some o := fun b o e => Heap.get?_push_of_some _ (Heap.get?_push_of_some _ e)
  have hx : ((hp.push (kdv_tup [v])).push (excO C hp.objs.size)).get? (hp.objs.size + 1) = some (excO C hp.objs.size) := by heap_get
  refine call_own T.base ln.has (X _ _ hC) (looks_findIn X T.iC) (fun self => bind_fn X self T.tC) (one_size v) ?_
  have X1 := X.keeps k
  have lim1 : ((hp.push (kdv_tup [v])).push (excO C hp.objs.size)).NoLimit := hlim.keeps k
  have size1 : ((hp.push (kdv_tup [v])).push (excO C hp.objs.size)).objs.size = hp.objs.size + 1 + 1 := by rw [Heap.size_push, Heap.size_push]
  generalize (hp.push (kdv_tup [v])).push (excO C hp.objs.size) = h1 at k hx X1 lim1 size1 ⊢
  refine Att.call_fn (binds := [("self", .ref (hp.objs.size + 1)), ("at", v)]) X1 lim1 ho hcd hroom (BindsTo.of_eq (by first | rfl | with_unfolding_all rfl)) (by first | rfl | decide | with_unfolding_all rfl) (fun s₁ IC => ?_) rfl rfl rfl
  obtain ⟨h₁, tk₁, rfl⟩ := IC.toInCall.same
  have k1' : ∀ b o, h1.get? b = some o → h₁.get? b = some o := IC.toInCall.keep
  have hn := IC.toInCall.ns
  show wpAny _ _ (execs _ _) _ _ _
  refine wpAny_execs_cons (plainObj_wpAny_Assign_Attribute ?_)
  refine ldC (v := v) hn (by first | rfl | with_unfolding_all rfl | kernel_rfl) (ldC (v := .ref (hp.objs.size + 1)) hn (by first | rfl | with_unfolding_all rfl | kernel_rfl) ?_)
  refine set_plain (X1.keeps k1') (ox := excO C hp.objs.size) (od := none) ⟨k1' _ _ hx, rfl, rfl, trivial⟩ T.sa ?_
  refine store_err (X1.keeps k1') (k1' _ _ hx) hcl (bmB := bmB) ln.own rfl rfl T.noN (fun h₃ tk₃ dx k₃ dn dne hx₃ hn₃ => ?_)
  show wpAny _ _ (execs _ _) _ _ _
  have z : h1.objs.size < h₁.objs.size := hn.lt
  have lt_ : ∀ {b : Addr} {o : Obj}, hp.get? b = some o → b ≠ hp.objs.size + 1 := fun {b o} e => Nat.ne_of_lt (Nat.lt_succ_of_lt (Heap.lt_size e))
  refine wpAny_execs_nil ⟨rfl, hq h₃ tk₃ (hp.objs.size + 1) dx ⟨fun b o e => k₃ b o (lt_ e) (k1' b o (k b o e)), Nat.le_succ _, ⟨_, _, hx₃, rfl, rfl, rfl, rfl⟩, ?_, dne, hn₃⟩⟩
  have dn' : h₁.objs.size ≤ dx := dn
  show hp.objs.size ≤ dx
  omega
end
end Of_at
section
variable {X : Cx} {nm ql : Str} {C fI : Addr} {B newId initId : String} {bmB : List Value}
theorem relO_at {v : V} {v' : Value} (r : RelV v v') (f : Str) : RelO (List.lookup f [(("at" : Str), v)]) (if f = "at" then some v' else none) := by
  by_cases hw : f = "at"
  · subst hw
    rw [if_pos rfl]
    have q : List.lookup ("at" : Str) [(("at" : Str), v)] = some v := by simp [List.lookup]
    rw [q]
    exact r
  · rw [if_neg hw]
    have qw : (f == ("at" : Str)) = false := by simpa using hw
    have q2 : List.lookup f [(("at" : Str), v)] = none := by simp [List.lookup, qw]
    rw [q2]
    trivial
/-- nm(e) -/
def tMk_at (C : Addr) (ta : TA) : L2.St → Hp → XK → Prop := fun σ H Q => ta σ H fun vs H1 => ∃ v, vs = [v] ∧ ∀ d, H1 d = none → Q (.ref C) (some d) (upd H1 d (.xd [(("at" : Str), v)]))
theorem pmk_at {a : Expr} {ta : TA} {p pos : Pos} {k : Nat} (T : Of_at.Tx X.K X.mg nm ql C fI B newId initId bmB) (hr : Room k X.A) (ha : PA X [a] ta) (hg : Gl X nm := by rfl) (hdb : (nm == ("__debug__" : Str)) = false := by decide)
    (he : starEach (a :: []) X.env = (false, eval a X.env) :: starEach [] X.env := by rfl) (hpl : (backTo pos (starEach [] X.env)).any (·.1) = false := by rfl) :
    PMk X (.Call (.Name nm p) [a] [] pos) (tMk_at C ta) := by
  intro pins s σ H Q I h
  refine wpAny_Call_Name_kw (ld_glob I hg T.gC ?_ hdb)
  refine PySem.W.callWith_K (h₀ := X.base) I.ok.mod.kin T.kC (thn (ha.run pos pins s σ H _ I h) fun us s1 hh => ?_) he hpl
  obtain ⟨vs, H1, I1, r1, v, ev, q1⟩ := hh
  subst ev
  refine ⟨I1.kIn, ?_⟩
  cases r1 with
  | cons rv rn =>
    rename_i v' us'
    cases rn
    show wpAny _ _ (call (.ref C) [v']) _ _ _
    have hlim := I1.nolimit
    obtain ⟨hp, g, dr, tk, os⟩ := s1
    refine wpAny_call (Of_at.made T I1.kIn hlim (by have := hr.dp; omega) fun h' tk' e d M => ?_)
    show MkP X pins σ Q (.ref e) ⟨h', g, dr, tk', os⟩
    obtain ⟨oe, fv, hoe, hc, hd, hdat, h1⟩ := M.obj
    have hns := M.ns
    obtain ⟨G', g1, g2⟩ := restrict h' fun b => decide (b ≠ e)
    have gk : ∀ b, b ≠ e → G'.get? b = h'.get? b := fun b hb => g1 b (decide_eq_true hb)
    have ge : G'.get? e = none := g2 e (by simp)
    have old : ∀ b o, hp.get? b = some o → G'.get? b = some o := fun b o q => (gk b (Nat.ne_of_lt (Nat.lt_of_lt_of_le (Heap.lt_size q) M.new))).trans (M.keep b o q)
    have ob : ObjOk X.prog X.w (upd H1 d (.xd [(("at" : Str), v)])) G' d (.xd [(("at" : Str), v)]) :=
      ⟨_, hns.at (fun o q => (gk d M.dne).trans q), fun f => relO_at rv f⟩
    have J : L2.Inv X pins σ (upd H1 d (.xd [(("at" : Str), v)])) ⟨G', g, dr, tk', os⟩ := I1.laid (t' := tk') old M.dbig ob
    refine ⟨e, oe, fv, ⟨G', g, dr, tk', os⟩, _, .ref C, some d, rfl, J, fun b o q => ?_, ge, hoe, ⟨hc, hd⟩, hdat, h1, ?_, rfl, I1.bare, raises_own T.ex.hs T.tyC, q1 d (I1.hok.fresh M.dbig)⟩
    · by_cases hb : b = e
      · have q' : G'.get? b = some o := q
        rw [hb, ge] at q'
        cases q'
      · exact (gk b hb).symm.trans q
    · rw [upd_ne (Ne.symm M.dne)]
      exact I1.hok.fresh M.new
/-- raise nm(e) -/
def tRaise_at (C : Addr) (W : WX) (ta : TA) : TS := fun _ σ H => tMk_at C ta σ H fun cls d H' => W cls d σ H'
theorem ps_raise_at {a : Expr} {ta : TA} {W : WX} {p pos pos2 : Pos} {k : Nat} (hc : X.calm = true) (T : Of_at.Tx X.K X.mg nm ql C fI B newId initId bmB) (hr : Room k X.A) (tk : Takes X W) (ha : PA X [a] ta) (hg : Gl X nm := by rfl) (hdb : (nm == ("__debug__" : Str)) = false := by decide)
    (he : starEach (a :: []) X.env = (false, eval a X.env) :: starEach [] X.env := by rfl) (hpl : (backTo pos (starEach [] X.env)).any (·.1) = false := by rfl) :
    PS X (.Raise (some (.Call (.Name nm p) [a] [] pos)) none pos2) (tRaise_at C W ta) := ps_raise hc tk (pmk_at T hr ha hg hdb he hpl)
/-- e.at, e a kept error -/
def tGet_at (K : PySem.W.Frag) (te : TE) : TE := fun σ H Q => te σ H fun x H1 => ∃ (a C dd : Addr) (v : V), x = .ref a ∧ H1 a = some (ExH (.ref C) (some dd) a) ∧ ExcC K C ∧ PySem.W.findIn K (.ref C) "at" = some none ∧ H1 dd = some (.xd [(("at" : Str), v)]) ∧ Q v H1
theorem pe_get_at {e : Expr} {te : TE} {pos : Pos} (he : PE X e te) (hb : attributeBase e "at" X.env (eval e X.env) = eval e X.env := by rfl) : PE X (.Attribute e "at" pos) (tGet_at X.K te) := by
  constructor
  intro pins s σ H Q I h
  refine attr_of hb (thn (he.run pins s σ H _ I h) ?_)
  rintro u s1 ⟨x, H1, I1, rx, a, C, dd, v, rfl, ha, EC, noN, hdd, q⟩
  cases (show u = Value.ref a from rx)
  obtain ⟨oe, od, J, hod⟩ := held_at I1 ha (.inr ⟨dd, _, rfl, hdd⟩)
  obtain ⟨mA, hns, hr⟩ := I1.hok dd _ hdd
  obtain ⟨o, ho, hl⟩ := lookIn_ns hns
  obtain ⟨o', eo, ho'⟩ := hod dd _ rfl hdd
  rw [ho] at ho'
  cases ho'
  subst eo
  have l : List.lookup ("at" : Str) [(("at" : Str), v)] = some v := by simp [List.lookup]
  obtain ⟨u, hu, ru⟩ := RelO.some_of (v := v) (o := mA "at") (by rw [← l]; exact hr "at")
  exact HandSPX.exc_get I1.kIn J EC.hg EC.hk EC.hs (PySem.W.findObj_own EC.hd noN rfl (by rw [hl, hu])) (handed_of ru) ⟨v, H1, I1.tok _, ru, q⟩
end
/-! ### errors of the field name -/
namespace Of_name
open PySem.W PySem.Calls PySem.HandSPX
def iA (p1 p2 : Pos) : Arguments := { posonlyargs := [], args := [{ arg := "self", annotation := none, pos := p1 }, { arg := "name", annotation := none, pos := p2 }], vararg := none, kwonlyargs := [], kw_defaults := [], kwarg := none, defaults := [] }
def iB (q1 q2 q3 q4 : Pos) : List Stmt := [.Assign [.Attribute (.Name "self" q1) "name" q2] (.Name "name" q3) q4]
def iS : Scope := { kind := .function, names := [(PySem.Str.ofString "self", .local), (PySem.Str.ofString "name", .local)], isGenerator := false, isCoroutine := false, more := [] }
/-- the class called nm, at C, and its __init__, at fI, as the top has left them -/
structure Tx (K : Frag) (mg : Str → Option Value) (nm ql : Str) (C fI : Addr) (B newId initId : String) (bmB : List Value) : Prop where
  base : ExcBaseFacts B newId initId bmB
  gC : mg nm = some (.ref C)
  cls : ∃ n1 q N bs bm sn sub ab col dd k0 k1 k2 k3 k5, K.lookup C = some (excClassObj n1 q C N bs bm true sn sub ab col dd k0 k1 k2 k3 k5 newId) ∧ Line bm bmB
  sa : findIn K (.ref C) "__setattr__" = some (some (.builtin "object.__setattr__"))
  ex : ExcC K C
  noN : findIn K (.ref C) "name" = some none
  iC : findIn K (.ref C) "__init__" = some (some (.ref fI))
  tC : typeIn K (.ref fI) = some (.type "function")
  kC : keepIn K (.ref C) = true
  tyC : typeIn K (.ref C) = some (.type "type")
  fn : ∃ (oc : Value) (od : Option Addr) (doc pm : Value) (an : Option Addr) (cdv ct : Value) (osl : Array (Option Value)) (p1 p2 q1 q2 q3 q4 : Pos),
    K.lookup fI = some ⟨oc, od, .func (fnOf "__init__" ql (iA p1 p2) (iB q1 q2 q3 q4) iS .none .none doc pm an cdv ct), osl⟩ ∧ codeIn K cdv ql = true
/-- an error made of v, at e, its own dict at d -/
structure Made (h h' : Heap) (e C d : Addr) (v : Value) : Prop where
  keep : ∀ b o, h.get? b = some o → h'.get? b = some o
  new : h.objs.size ≤ e
  obj : ∃ oe vs, h'.get? e = some oe ∧ oe.cls = .ref C ∧ oe.dict = some d ∧ oe.data = .fields vs ∧ vs[1]? = some .none
  dbig : h.objs.size ≤ d
  dne : d ≠ e
  ns : h'.Ns1 d (fun y => if y = "name" then some v else none)
section
variable {prog : Program} {w : World} {A : Around} {E : Value → Shared → Prop} {R : Result → Shared → Prop} {s : Shared} {K : Frag} {mg : Str → Option Value} {nm ql : Str} {C fI : Addr} {B newId initId : String} {bmB : List Value}
theorem made (T : Tx K mg nm ql C fI B newId initId bmB) {v : Value} (X : K.In s.heap) (hlim : s.heap.NoLimit) (hroom : A.depth + 1 < recursionLimit) (hq : ∀ h' tk e d, Made s.heap h' e C d v → R (.ok (.ret (.ref e))) { s with heap := h', toks := tk }) :
    codeAny (model prog w) A (.call (.ref C) ⟨[v], []⟩) R s := by
  obtain ⟨n1, q, N, bs, bm, sn, sub, ab, col, dd, k0, k1, k2, k3, k5, hC, ln⟩ := T.cls
  obtain ⟨oc, od, doc, pm, an, cdv, ct, osl, p1, p2, q1, q2, q3, q4, ho, hcd⟩ := T.fn
  have hcl : clsIn K C = some { name := n1, bases := bs, mro := .ref C :: bm, ns := N, qualname := q, hasDict := true, slotNames := sn, subclasses := sub, abstract := ab, collection := col, hasDel := false } := by
    unfold clsIn
    rw [hC]
  obtain ⟨hp, g, dr, tk, os⟩ := s
  have k : ∀ b o, hp.get? b = some o → ((hp.push (kdv_tup [v])).push (excO C hp.objs.size)).get? b = some o := fun b o e => Heap.get?_push_of_some _ (Heap.get?_push_of_some _ e)
  have hx : ((hp.push (kdv_tup [v])).push (excO C hp.objs.size)).get? (hp.objs.size + 1) = some (excO C hp.objs.size) := by heap_get
  refine call_own T.base ln.has (X _ _ hC) (looks_findIn X T.iC) (fun self => bind_fn X self T.tC) (one_size v) ?_
  have X1 := X.keeps k
  have lim1 : ((hp.push (kdv_tup [v])).push (excO C hp.objs.size)).NoLimit := hlim.keeps k
  have size1 : ((hp.push (kdv_tup [v])).push (excO C hp.objs.size)).objs.size = hp.objs.size + 1 + 1 := by rw [Heap.size_push, Heap.size_push]
  generalize (hp.push (kdv_tup [v])).push (excO C hp.objs.size) = h1 at k hx X1 lim1 size1 ⊢
  refine Att.call_fn (binds := [("self", .ref (hp.objs.size + 1)), ("name", v)]) X1 lim1 ho hcd hroom (BindsTo.of_eq (by first | rfl | with_unfolding_all rfl)) (by first | rfl | decide | with_unfolding_all rfl) (fun s₁ IC => ?_) rfl rfl rfl
  obtain ⟨h₁, tk₁, rfl⟩ := IC.toInCall.same
  have k1' : ∀ b o, h1.get? b = some o → h₁.get? b = some o := IC.toInCall.keep
  have hn := IC.toInCall.ns
  show wpAny _ _ (execs _ _) _ _ _
  refine wpAny_execs_cons (plainObj_wpAny_Assign_Attribute ?_)
  refine ldC (v := v) hn (by first | rfl | with_unfolding_all rfl | kernel_rfl) (ldC (v := .ref (hp.objs.size + 1)) hn (by first | rfl | with_unfolding_all rfl | kernel_rfl) ?_)
  refine set_plain (X1.keeps k1') (ox := excO C hp.objs.size) (od := none) ⟨k1' _ _ hx, rfl, rfl, trivial⟩ T.sa ?_
  refine store_err (X1.keeps k1') (k1' _ _ hx) hcl (bmB := bmB) ln.own rfl rfl T.noN (fun h₃ tk₃ dx k₃ dn dne hx₃ hn₃ => ?_)
  show wpAny _ _ (execs _ _) _ _ _
  have z : h1.objs.size < h₁.objs.size := hn.lt
  have lt_ : ∀ {b : Addr} {o : Obj}, hp.get? b = some o → b ≠ hp.objs.size + 1 := fun {b o} e => Nat.ne_of_lt (Nat.lt_succ_of_lt (Heap.lt_size e))
  refine wpAny_execs_nil ⟨rfl, hq h₃ tk₃ (hp.objs.size + 1) dx ⟨fun b o e => k₃ b o (lt_ e) (k1' b o (k b o e)), Nat.le_succ _, ⟨_, _, hx₃, rfl, rfl, rfl, rfl⟩, ?_, dne, hn₃⟩⟩
  have dn' : h₁.objs.size ≤ dx := dn
  show hp.objs.size ≤ dx
  omega
end
end Of_name
section
variable {X : Cx} {nm ql : Str} {C fI : Addr} {B newId initId : String} {bmB : List Value}
theorem relO_name {v : V} {v' : Value} (r : RelV v v') (f : Str) : RelO (List.lookup f [(("name" : Str), v)]) (if f = "name" then some v' else none) := by
  by_cases hw : f = "name"
  · subst hw
    rw [if_pos rfl]
    have q : List.lookup ("name" : Str) [(("name" : Str), v)] = some v := by simp [List.lookup]
    rw [q]
    exact r
  · rw [if_neg hw]
    have qw : (f == ("name" : Str)) = false := by simpa using hw
    have q2 : List.lookup f [(("name" : Str), v)] = none := by simp [List.lookup, qw]
    rw [q2]
    trivial
/-- nm(e) -/
def tMk_name (C : Addr) (ta : TA) : L2.St → Hp → XK → Prop := fun σ H Q => ta σ H fun vs H1 => ∃ v, vs = [v] ∧ ∀ d, H1 d = none → Q (.ref C) (some d) (upd H1 d (.xd [(("name" : Str), v)]))
theorem pmk_name {a : Expr} {ta : TA} {p pos : Pos} {k : Nat} (T : Of_name.Tx X.K X.mg nm ql C fI B newId initId bmB) (hr : Room k X.A) (ha : PA X [a] ta) (hg : Gl X nm := by rfl) (hdb : (nm == ("__debug__" : Str)) = false := by decide)
    (he : starEach (a :: []) X.env = (false, eval a X.env) :: starEach [] X.env := by rfl) (hpl : (backTo pos (starEach [] X.env)).any (·.1) = false := by rfl) :
    PMk X (.Call (.Name nm p) [a] [] pos) (tMk_name C ta) := by
  intro pins s σ H Q I h
  refine wpAny_Call_Name_kw (ld_glob I hg T.gC ?_ hdb)
  refine PySem.W.callWith_K (h₀ := X.base) I.ok.mod.kin T.kC (thn (ha.run pos pins s σ H _ I h) fun us s1 hh => ?_) he hpl
  obtain ⟨vs, H1, I1, r1, v, ev, q1⟩ := hh
  subst ev
  refine ⟨I1.kIn, ?_⟩
  cases r1 with
  | cons rv rn =>
    rename_i v' us'
    cases rn
    show wpAny _ _ (call (.ref C) [v']) _ _ _
    have hlim := I1.nolimit
    obtain ⟨hp, g, dr, tk, os⟩ := s1
    refine wpAny_call (Of_name.made T I1.kIn hlim (by have := hr.dp; omega) fun h' tk' e d M => ?_)
    show MkP X pins σ Q (.ref e) ⟨h', g, dr, tk', os⟩
    obtain ⟨oe, fv, hoe, hc, hd, hdat, h1⟩ := M.obj
    have hns := M.ns
    obtain ⟨G', g1, g2⟩ := restrict h' fun b => decide (b ≠ e)
    have gk : ∀ b, b ≠ e → G'.get? b = h'.get? b := fun b hb => g1 b (decide_eq_true hb)
    have ge : G'.get? e = none := g2 e (by simp)
    have old : ∀ b o, hp.get? b = some o → G'.get? b = some o := fun b o q => (gk b (Nat.ne_of_lt (Nat.lt_of_lt_of_le (Heap.lt_size q) M.new))).trans (M.keep b o q)
    have ob : ObjOk X.prog X.w (upd H1 d (.xd [(("name" : Str), v)])) G' d (.xd [(("name" : Str), v)]) :=
      ⟨_, hns.at (fun o q => (gk d M.dne).trans q), fun f => relO_name rv f⟩
    have J : L2.Inv X pins σ (upd H1 d (.xd [(("name" : Str), v)])) ⟨G', g, dr, tk', os⟩ := I1.laid (t' := tk') old M.dbig ob
    refine ⟨e, oe, fv, ⟨G', g, dr, tk', os⟩, _, .ref C, some d, rfl, J, fun b o q => ?_, ge, hoe, ⟨hc, hd⟩, hdat, h1, ?_, rfl, I1.bare, raises_own T.ex.hs T.tyC, q1 d (I1.hok.fresh M.dbig)⟩
    · by_cases hb : b = e
      · have q' : G'.get? b = some o := q
        rw [hb, ge] at q'
        cases q'
      · exact (gk b hb).symm.trans q
    · rw [upd_ne (Ne.symm M.dne)]
      exact I1.hok.fresh M.new
/-- raise nm(e) -/
def tRaise_name (C : Addr) (W : WX) (ta : TA) : TS := fun _ σ H => tMk_name C ta σ H fun cls d H' => W cls d σ H'
theorem ps_raise_name {a : Expr} {ta : TA} {W : WX} {p pos pos2 : Pos} {k : Nat} (hc : X.calm = true) (T : Of_name.Tx X.K X.mg nm ql C fI B newId initId bmB) (hr : Room k X.A) (tk : Takes X W) (ha : PA X [a] ta) (hg : Gl X nm := by rfl) (hdb : (nm == ("__debug__" : Str)) = false := by decide)
    (he : starEach (a :: []) X.env = (false, eval a X.env) :: starEach [] X.env := by rfl) (hpl : (backTo pos (starEach [] X.env)).any (·.1) = false := by rfl) :
    PS X (.Raise (some (.Call (.Name nm p) [a] [] pos)) none pos2) (tRaise_name C W ta) := ps_raise hc tk (pmk_name T hr ha hg hdb he hpl)
/-- e.name, e a kept error -/
def tGet_name (K : PySem.W.Frag) (te : TE) : TE := fun σ H Q => te σ H fun x H1 => ∃ (a C dd : Addr) (v : V), x = .ref a ∧ H1 a = some (ExH (.ref C) (some dd) a) ∧ ExcC K C ∧ PySem.W.findIn K (.ref C) "name" = some none ∧ H1 dd = some (.xd [(("name" : Str), v)]) ∧ Q v H1
theorem pe_get_name {e : Expr} {te : TE} {pos : Pos} (he : PE X e te) (hb : attributeBase e "name" X.env (eval e X.env) = eval e X.env := by rfl) : PE X (.Attribute e "name" pos) (tGet_name X.K te) := by
  constructor
  intro pins s σ H Q I h
  refine attr_of hb (thn (he.run pins s σ H _ I h) ?_)
  rintro u s1 ⟨x, H1, I1, rx, a, C, dd, v, rfl, ha, EC, noN, hdd, q⟩
  cases (show u = Value.ref a from rx)
  obtain ⟨oe, od, J, hod⟩ := held_at I1 ha (.inr ⟨dd, _, rfl, hdd⟩)
  obtain ⟨mA, hns, hr⟩ := I1.hok dd _ hdd
  obtain ⟨o, ho, hl⟩ := lookIn_ns hns
  obtain ⟨o', eo, ho'⟩ := hod dd _ rfl hdd
  rw [ho] at ho'
  cases ho'
  subst eo
  have l : List.lookup ("name" : Str) [(("name" : Str), v)] = some v := by simp [List.lookup]
  obtain ⟨u, hu, ru⟩ := RelO.some_of (v := v) (o := mA "name") (by rw [← l]; exact hr "name")
  exact HandSPX.exc_get I1.kIn J EC.hg EC.hk EC.hs (PySem.W.findObj_own EC.hd noN rfl (by rw [hl, hu])) (handed_of ru) ⟨v, H1, I1.tok _, ru, q⟩
end
/-! ### errors of the field most -/
namespace Of_most
open PySem.W PySem.Calls PySem.HandSPX
def iA (p1 p2 : Pos) : Arguments := { posonlyargs := [], args := [{ arg := "self", annotation := none, pos := p1 }, { arg := "most", annotation := none, pos := p2 }], vararg := none, kwonlyargs := [], kw_defaults := [], kwarg := none, defaults := [] }
def iB (q1 q2 q3 q4 : Pos) : List Stmt := [.Assign [.Attribute (.Name "self" q1) "most" q2] (.Name "most" q3) q4]
def iS : Scope := { kind := .function, names := [(PySem.Str.ofString "self", .local), (PySem.Str.ofString "most", .local)], isGenerator := false, isCoroutine := false, more := [] }
/-- the class called nm, at C, and its __init__, at fI, as the top has left them -/
structure Tx (K : Frag) (mg : Str → Option Value) (nm ql : Str) (C fI : Addr) (B newId initId : String) (bmB : List Value) : Prop where
  base : ExcBaseFacts B newId initId bmB
  gC : mg nm = some (.ref C)
  cls : ∃ n1 q N bs bm sn sub ab col dd k0 k1 k2 k3 k5, K.lookup C = some (excClassObj n1 q C N bs bm true sn sub ab col dd k0 k1 k2 k3 k5 newId) ∧ Line bm bmB
  sa : findIn K (.ref C) "__setattr__" = some (some (.builtin "object.__setattr__"))
  ex : ExcC K C
  noN : findIn K (.ref C) "most" = some none
  iC : findIn K (.ref C) "__init__" = some (some (.ref fI))
  tC : typeIn K (.ref fI) = some (.type "function")
  kC : keepIn K (.ref C) = true
  tyC : typeIn K (.ref C) = some (.type "type")
  fn : ∃ (oc : Value) (od : Option Addr) (doc pm : Value) (an : Option Addr) (cdv ct : Value) (osl : Array (Option Value)) (p1 p2 q1 q2 q3 q4 : Pos),
    K.lookup fI = some ⟨oc, od, .func (fnOf "__init__" ql (iA p1 p2) (iB q1 q2 q3 q4) iS .none .none doc pm an cdv ct), osl⟩ ∧ codeIn K cdv ql = true
/-- an error made of v, at e, its own dict at d -/
structure Made (h h' : Heap) (e C d : Addr) (v : Value) : Prop where
  keep : ∀ b o, h.get? b = some o → h'.get? b = some o
  new : h.objs.size ≤ e
  obj : ∃ oe vs, h'.get? e = some oe ∧ oe.cls = .ref C ∧ oe.dict = some d ∧ oe.data = .fields vs ∧ vs[1]? = some .none
  dbig : h.objs.size ≤ d
  dne : d ≠ e
  ns : h'.Ns1 d (fun y => if y = "most" then some v else none)
section
variable {prog : Program} {w : World} {A : Around} {E : Value → Shared → Prop} {R : Result → Shared → Prop} {s : Shared} {K : Frag} {mg : Str → Option Value} {nm ql : Str} {C fI : Addr} {B newId initId : String} {bmB : List Value}
theorem made (T : Tx K mg nm ql C fI B newId initId bmB) {v : Value} (X : K.In s.heap) (hlim : s.heap.NoLimit) (hroom : A.depth + 1 < recursionLimit) (hq : ∀ h' tk e d, Made s.heap h' e C d v → R (.ok (.ret (.ref e))) { s with heap := h', toks := tk }) :
    codeAny (model prog w) A (.call (.ref C) ⟨[v], []⟩) R s := by
  obtain ⟨n1, q, N, bs, bm, sn, sub, ab, col, dd, k0, k1, k2, k3, k5, hC, ln⟩ := T.cls
  obtain ⟨oc, od, doc, pm, an, cdv, ct, osl, p1, p2, q1, q2, q3, q4, ho, hcd⟩ := T.fn
  have hcl : clsIn K C = some { name := n1, bases := bs, mro := .ref C :: bm, ns := N, qualname := q, hasDict := true, slotNames := sn, subclasses := sub, abstract := ab, collection := col, hasDel := false } := by
    unfold clsIn
    rw [hC]
  obtain ⟨hp, g, dr, tk, os⟩ := s
  have k : ∀ b o, hp.get? b = some o → ((hp.push (kdv_tup [v])).push (excO C hp.objs.size)).get? b = some o := fun b o e => Heap.get?_push_of_some _ (Heap.get?_push_of_some _ e)
  have hx : ((hp.push (kdv_tup [v])).push (excO C hp.objs.size)).get? (hp.objs.size + 1) = some (excO C hp.objs.size) := by heap_get
  refine call_own T.base ln.has (X _ _ hC) (looks_findIn X T.iC) (fun self => bind_fn X self T.tC) (one_size v) ?_
  have X1 := X.keeps k
  have lim1 : ((hp.push (kdv_tup [v])).push (excO C hp.objs.size)).NoLimit := hlim.keeps k
  have size1 : ((hp.push (kdv_tup [v])).push (excO C hp.objs.size)).objs.size = hp.objs.size + 1 + 1 := by rw [Heap.size_push, Heap.size_push]
  generalize (hp.push (kdv_tup [v])).push (excO C hp.objs.size) = h1 at k hx X1 lim1 size1 ⊢
  refine Att.call_fn (binds := [("self", .ref (hp.objs.size + 1)), ("most", v)]) X1 lim1 ho hcd hroom (BindsTo.of_eq (by first | rfl | with_unfolding_all rfl)) (by first | rfl | decide | with_unfolding_all rfl) (fun s₁ IC => ?_) rfl rfl rfl
  obtain ⟨h₁, tk₁, rfl⟩ := IC.toInCall.same
  have k1' : ∀ b o, h1.get? b = some o → h₁.get? b = some o := IC.toInCall.keep
  have hn := IC.toInCall.ns
  show wpAny _ _ (execs _ _) _ _ _
  refine wpAny_execs_cons (plainObj_wpAny_Assign_Attribute ?_)
  refine ldC (v := v) hn (by first | rfl | with_unfolding_all rfl | kernel_rfl) (ldC (v := .ref (hp.objs.size + 1)) hn (by first | rfl | with_unfolding_all rfl | kernel_rfl) ?_)
  refine set_plain (X1.keeps k1') (ox := excO C hp.objs.size) (od := none) ⟨k1' _ _ hx, rfl, rfl, trivial⟩ T.sa ?_
  refine store_err (X1.keeps k1') (k1' _ _ hx) hcl (bmB := bmB) ln.own rfl rfl T.noN (fun h₃ tk₃ dx k₃ dn dne hx₃ hn₃ => ?_)
  show wpAny _ _ (execs _ _) _ _ _
  have z : h1.objs.size < h₁.objs.size := hn.lt
  have lt_ : ∀ {b : Addr} {o : Obj}, hp.get? b = some o → b ≠ hp.objs.size + 1 := fun {b o} e => Nat.ne_of_lt (Nat.lt_succ_of_lt (Heap.lt_size e))
  refine wpAny_execs_nil ⟨rfl, hq h₃ tk₃ (hp.objs.size + 1) dx ⟨fun b o e => k₃ b o (lt_ e) (k1' b o (k b o e)), Nat.le_succ _, ⟨_, _, hx₃, rfl, rfl, rfl, rfl⟩, ?_, dne, hn₃⟩⟩
  have dn' : h₁.objs.size ≤ dx := dn
  show hp.objs.size ≤ dx
  omega
end
end Of_most
section
variable {X : Cx} {nm ql : Str} {C fI : Addr} {B newId initId : String} {bmB : List Value}
theorem relO_most {v : V} {v' : Value} (r : RelV v v') (f : Str) : RelO (List.lookup f [(("most" : Str), v)]) (if f = "most" then some v' else none) := by
  by_cases hw : f = "most"
  · subst hw
    rw [if_pos rfl]
    have q : List.lookup ("most" : Str) [(("most" : Str), v)] = some v := by simp [List.lookup]
    rw [q]
    exact r
  · rw [if_neg hw]
    have qw : (f == ("most" : Str)) = false := by simpa using hw
    have q2 : List.lookup f [(("most" : Str), v)] = none := by simp [List.lookup, qw]
    rw [q2]
    trivial
/-- nm(e) -/
def tMk_most (C : Addr) (ta : TA) : L2.St → Hp → XK → Prop := fun σ H Q => ta σ H fun vs H1 => ∃ v, vs = [v] ∧ ∀ d, H1 d = none → Q (.ref C) (some d) (upd H1 d (.xd [(("most" : Str), v)]))
theorem pmk_most {a : Expr} {ta : TA} {p pos : Pos} {k : Nat} (T : Of_most.Tx X.K X.mg nm ql C fI B newId initId bmB) (hr : Room k X.A) (ha : PA X [a] ta) (hg : Gl X nm := by rfl) (hdb : (nm == ("__debug__" : Str)) = false := by decide)
    (he : starEach (a :: []) X.env = (false, eval a X.env) :: starEach [] X.env := by rfl) (hpl : (backTo pos (starEach [] X.env)).any (·.1) = false := by rfl) :
    PMk X (.Call (.Name nm p) [a] [] pos) (tMk_most C ta) := by
  intro pins s σ H Q I h
  refine wpAny_Call_Name_kw (ld_glob I hg T.gC ?_ hdb)
  refine PySem.W.callWith_K (h₀ := X.base) I.ok.mod.kin T.kC (thn (ha.run pos pins s σ H _ I h) fun us s1 hh => ?_) he hpl
  obtain ⟨vs, H1, I1, r1, v, ev, q1⟩ := hh
  subst ev
  refine ⟨I1.kIn, ?_⟩
  cases r1 with
  | cons rv rn =>
    rename_i v' us'
    cases rn
    show wpAny _ _ (call (.ref C) [v']) _ _ _
    have hlim := I1.nolimit
    obtain ⟨hp, g, dr, tk, os⟩ := s1
    refine wpAny_call (Of_most.made T I1.kIn hlim (by have := hr.dp; omega) fun h' tk' e d M => ?_)
    show MkP X pins σ Q (.ref e) ⟨h', g, dr, tk', os⟩
    obtain ⟨oe, fv, hoe, hc, hd, hdat, h1⟩ := M.obj
    have hns := M.ns
    obtain ⟨G', g1, g2⟩ := restrict h' fun b => decide (b ≠ e)
    have gk : ∀ b, b ≠ e → G'.get? b = h'.get? b := fun b hb => g1 b (decide_eq_true hb)
    have ge : G'.get? e = none := g2 e (by simp)
    have old : ∀ b o, hp.get? b = some o → G'.get? b = some o := fun b o q => (gk b (Nat.ne_of_lt (Nat.lt_of_lt_of_le (Heap.lt_size q) M.new))).trans (M.keep b o q)
    have ob : ObjOk X.prog X.w (upd H1 d (.xd [(("most" : Str), v)])) G' d (.xd [(("most" : Str), v)]) :=
      ⟨_, hns.at (fun o q => (gk d M.dne).trans q), fun f => relO_most rv f⟩
    have J : L2.Inv X pins σ (upd H1 d (.xd [(("most" : Str), v)])) ⟨G', g, dr, tk', os⟩ := I1.laid (t' := tk') old M.dbig ob
    refine ⟨e, oe, fv, ⟨G', g, dr, tk', os⟩, _, .ref C, some d, rfl, J, fun b o q => ?_, ge, hoe, ⟨hc, hd⟩, hdat, h1, ?_, rfl, I1.bare, raises_own T.ex.hs T.tyC, q1 d (I1.hok.fresh M.dbig)⟩
    · by_cases hb : b = e
      · have q' : G'.get? b = some o := q
        rw [hb, ge] at q'
        cases q'
      · exact (gk b hb).symm.trans q
    · rw [upd_ne (Ne.symm M.dne)]
      exact I1.hok.fresh M.new
/-- raise nm(e) -/
def tRaise_most (C : Addr) (W : WX) (ta : TA) : TS := fun _ σ H => tMk_most C ta σ H fun cls d H' => W cls d σ H'
theorem ps_raise_most {a : Expr} {ta : TA} {W : WX} {p pos pos2 : Pos} {k : Nat} (hc : X.calm = true) (T : Of_most.Tx X.K X.mg nm ql C fI B newId initId bmB) (hr : Room k X.A) (tk : Takes X W) (ha : PA X [a] ta) (hg : Gl X nm := by rfl) (hdb : (nm == ("__debug__" : Str)) = false := by decide)
    (he : starEach (a :: []) X.env = (false, eval a X.env) :: starEach [] X.env := by rfl) (hpl : (backTo pos (starEach [] X.env)).any (·.1) = false := by rfl) :
    PS X (.Raise (some (.Call (.Name nm p) [a] [] pos)) none pos2) (tRaise_most C W ta) := ps_raise hc tk (pmk_most T hr ha hg hdb he hpl)
/-- e.most, e a kept error -/
def tGet_most (K : PySem.W.Frag) (te : TE) : TE := fun σ H Q => te σ H fun x H1 => ∃ (a C dd : Addr) (v : V), x = .ref a ∧ H1 a = some (ExH (.ref C) (some dd) a) ∧ ExcC K C ∧ PySem.W.findIn K (.ref C) "most" = some none ∧ H1 dd = some (.xd [(("most" : Str), v)]) ∧ Q v H1
theorem pe_get_most {e : Expr} {te : TE} {pos : Pos} (he : PE X e te) (hb : attributeBase e "most" X.env (eval e X.env) = eval e X.env := by rfl) : PE X (.Attribute e "most" pos) (tGet_most X.K te) := by
  constructor
  intro pins s σ H Q I h
  refine attr_of hb (thn (he.run pins s σ H _ I h) ?_)
  rintro u s1 ⟨x, H1, I1, rx, a, C, dd, v, rfl, ha, EC, noN, hdd, q⟩
  cases (show u = Value.ref a from rx)
  obtain ⟨oe, od, J, hod⟩ := held_at I1 ha (.inr ⟨dd, _, rfl, hdd⟩)
  obtain ⟨mA, hns, hr⟩ := I1.hok dd _ hdd
  obtain ⟨o, ho, hl⟩ := lookIn_ns hns
  obtain ⟨o', eo, ho'⟩ := hod dd _ rfl hdd
  rw [ho] at ho'
  cases ho'
  subst eo
  have l : List.lookup ("most" : Str) [(("most" : Str), v)] = some v := by simp [List.lookup]
  obtain ⟨u, hu, ru⟩ := RelO.some_of (v := v) (o := mA "most") (by rw [← l]; exact hr "most")
  exact HandSPX.exc_get I1.kIn J EC.hg EC.hk EC.hs (PySem.W.findObj_own EC.hd noN rfl (by rw [hl, hu])) (handed_of ru) ⟨v, H1, I1.tok _, ru, q⟩
end
end Pk
namespace Pk
open PySem L2
theorem same_upd {H : Hp} {p : Addr} {o : HO} (h : H p = none) : Same H (upd H p o) := fun b x e => by
  rw [upd_ne (ne_of_none e h)]
  exact e
end Pk
namespace Pk
open PySem L2
def top (i : Nat) : Stmt := PySem.Challenge.pw_paperkin_k05_by_their_own_words.main.body.getD i (.Pass ⟨0, 0, 0, 0⟩)
abbrev sIsNumber : Stmt := top 7
abbrev sIsWhole : Stmt := top 8
abbrev sIsName : Stmt := top 9
abbrev sIsNameE : Stmt := top 10
abbrev sIsText : Stmt := top 11
abbrev sAreAnswers : Stmt := top 15
abbrev sMixed : Stmt := top 18
abbrev sStream : Stmt := top 19
abbrev sTake : Stmt := top 20
abbrev sNameBy : Stmt := top 21
abbrev sTextBy : Stmt := top 22
abbrev sAnswersBy : Stmt := top 23
abbrev sPartsBy : Stmt := top 24
abbrev sOf : Stmt := top 25
abbrev sNearBy : Stmt := top 26
abbrev sShownR : Stmt := top 27
abbrev sAlikeR : Stmt := top 28
abbrev sLaw : Stmt := top 29
def inCls (st : Stmt) (i : Nat) : Stmt := match st with
  | .ClassDef (body := b) .. => b.getD i (.Pass ⟨0, 0, 0, 0⟩)
  | _ => st
abbrev sQInit : Stmt := inCls (top 16) 0
abbrev sQEq : Stmt := inCls (top 16) 1
abbrev sQLen : Stmt := inCls (top 16) 2
abbrev sQStr : Stmt := inCls (top 16) 3
abbrev sQRepr : Stmt := inCls (top 16) 4
/-! ### promises of the law's helpers -/
/-- some number that isn't negative -/
def spMixed : Sp := fun vs H Q _ => ∃ (n k : Int), vs = [.int n, .int k] ∧ 0 ≤ k ∧ k ≤ 100000 ∧ ∀ v : Int, 0 ≤ v → Q (.int v) H
/-- a stream's list, t numbers taken -/
def StrmAt (H : Hp) (s : Addr) (t : Int) : Prop := ∃ (b : Bool) (c m : Int), H s = some (.lst [.bl b, .int c, .int t, .int m])
def spStream : Sp := fun vs H Q _ => ∃ (c k : Int), vs = [.int c, .int k] ∧ 0 ≤ k ∧ k ≤ 100000 ∧ ∀ (p : Addr) (o : HO), H p = none → StrmAt (upd H p o) p 0 → Q (.ref p) (upd H p o)
/-- a number below many; only the stream's own list is otherwise -/
def But (s : Addr) (H H' : Hp) : Prop := ∀ q o, q ≠ s → H q = some o → H' q = some o
theorem But.refl {s : Addr} {H : Hp} : But s H H := fun _ _ _ h => h
theorem But.trans {s : Addr} {H H1 H2 : Hp} (a : But s H H1) (b : But s H1 H2) : But s H H2 := fun q o n h => b q o n (a q o n h)
theorem But.new {s p : Addr} {H : Hp} {o : HO} (h : H p = none) : But s H (upd H p o) := fun q u _ e => by
  rw [upd_ne (ne_of_none e h)]
  exact e
theorem But.at {s : Addr} {H : Hp} {o : HO} : But s H (upd H s o) := fun q u n e => by
  rw [upd_ne n]
  exact e
theorem But.same {s : Addr} {H H' : Hp} (a : Same H H') : But s H H' := fun q o _ e => a q o e
def spTake : Sp := fun vs H Q _ => ∃ (s : Addr) (t many : Int), vs = [.ref s, .int many] ∧ StrmAt H s t ∧ 0 ≤ t ∧ t < 100000 ∧ 0 < many ∧ many < 1000000 ∧
  ∀ (v : Int) (H' : Hp), 0 ≤ v → v < many → But s H H' → StrmAt H' s (t + 1) → Q (.int v) H'
section
variable {P : Program} {w : World} {K : PySem.W.Frag} {mg : Str → Option Value} {base : Heap}
theorem scMixed : FnScope ["_law_number", "_law_k"] ["_law_number", "_law_k"] (defScope sMixed) := ⟨rfl, rfl, rfl, by decide +kernel, rfl, by decide +kernel, by decide +kernel⟩
theorem ok_mixed {f : Addr} {fd : FuncData} (F : Fun K "_law_mixed" "_law_mixed" sMixed f fd) : FnOk P w K mg base CX0 1 f fd ["_law_number", "_law_k"] spMixed := by
  refine F.ok scMixed (fun vs H Q E h => ?_) (fun cdv A outer s H vs Q E hr h => ?_)
  · obtain ⟨n, k, rfl, _⟩ := h
    rfl
  · obtain ⟨n, k, rfl, k0, k1, q⟩ := h
    refine ⟨_, pss_cons (ps_set (i := 0) scMixed.nd rfl (.inl rfl) (pe_op op_mod (pe_op op_pow (pe_op op_add (pe_op op_add (pe_op op_add (pe_op op_mod (pv 0) pe_int) (pe_op op_mul (pe_op op_mul pe_int (pv 1)) (pv 1))) (pe_op op_mul pe_int (pv 1))) pe_int) pe_int) pe_int))
      (pss_one (ps_ret (pe_op op_fdiv (pe_op op_mod (pe_op op_mul (pv 0) (pe_op op_add pe_int (pe_op op_mul pe_int (pv 1)))) pe_int) pe_int))), ?_⟩
    have b1 : n % 2147483647 < 2147483647 := Int.emod_lt_of_pos _ (by decide)
    have b0 : 0 ≤ n % 2147483647 := Int.emod_nonneg _ (by decide)
    have kk : 7919 * k * k ≤ 7919 * 100000 * 100000 := Int.mul_le_mul (by omega) k1 k0 (by decide)
    have kk0 : 0 ≤ 7919 * k * k := Int.mul_nonneg (by omega) k0
    refine ⟨_, rfl, _, _, rfl, rfl, (by show (0 : Int) < 2147483647; decide), _, rfl, _, _, rfl, rfl, .inl ⟨by decide, by decide⟩, _, rfl, _, _, rfl, rfl, .inl ⟨by omega, by omega⟩, _, _, rfl, rfl, _, rfl, _, _, rfl, rfl, .inl ⟨by decide, by decide⟩, _, _, rfl, rfl, _, _, rfl, rfl, _, _, rfl, rfl, ⟨by decide, by decide, by omega⟩, _, _, rfl, rfl, (by show (0 : Int) < 2147483629; decide), ?_⟩
    refine ⟨_, rfl, _, rfl, _, _, rfl, rfl, .inl ⟨by decide, by decide⟩, _, _, rfl, rfl, _, _, rfl, rfl, .inr ⟨by omega, by omega⟩, _, _, rfl, rfl, (by show (0 : Int) < 2147483587; decide), _, _, rfl, rfl, ⟨by decide, by decide⟩, ?_⟩
    exact q _ (Int.ediv_nonneg (Int.emod_nonneg _ (by decide)) (by decide))
theorem scStream : FnScope ["_law_cell", "_law_k"] ["_law_cell", "_law_k"] (defScope sStream) := ⟨rfl, rfl, rfl, by decide +kernel, rfl, by decide +kernel, by decide +kernel⟩
theorem ok_stream {f fM : Addr} {fd fdM : FuncData} (F : Fun K "_law_stream" "_law_stream" sStream f fd) (FM : Fun K "_law_mixed" "_law_mixed" sMixed fM fdM) (bM : Binds K fdM ["_law_number", "_law_k"] []) (gM : mg "_law_mixed" = some (.ref fM)) :
    FnOk P w K mg base CX0 2 f fd ["_law_cell", "_law_k"] spStream := by
  have GM : FnOk P w K mg base CX0 1 fM fdM ["_law_number", "_law_k"] spMixed := ok_mixed FM
  refine F.ok scStream (fun vs H Q E h => ?_) (fun cdv A outer s H vs Q E hr h => ?_)
  · obtain ⟨n, k, rfl, _⟩ := h
    rfl
  · obtain ⟨c, k, rfl, k0, k1, q⟩ := h
    refine ⟨_, pss_one (ps_ret (pe_lst (pa_cons (pe_cmpR op_ge (pv 0) (pe_op op_pow pe_int pe_int) (nomark _)) (pa_cons (pv 0) (pa_cons pe_int (pa_cons (pe_call GM hr (by rfl) gM FM.kp bM .nil pass0 (pa_cons (pv 0) (pa_cons (pv 1) pa_nil))) pa_nil)))))), ?_⟩
    refine ⟨_, rfl, _, _, rfl, rfl, ⟨by decide, by decide, by decide⟩, _, _, rfl, rfl, _, rfl, _, rfl, _, rfl, c, k, rfl, k0, k1, fun v v0 => ?_⟩
    exact ⟨by show 4 ≤ sizeLine; decide, fun p hp => q p _ hp ⟨_, _, _, upd_same⟩⟩
theorem scTake : FnScope ["_law_stream_here", "_law_many", "_law_number"] ["_law_stream_here", "_law_many"] (defScope sTake) := ⟨rfl, rfl, rfl, by decide +kernel, rfl, by decide +kernel, by decide +kernel⟩
theorem upd_upd {H : Hp} {a : Addr} {o o' : HO} : upd (upd H a o) a o' = upd H a o' := by
  funext b
  unfold upd
  by_cases h : b = a
  · rw [if_pos h, if_pos h]
  · rw [if_neg h, if_neg h, if_neg h]
theorem ok_take {f fM : Addr} {fd fdM : FuncData} (F : Fun K "_law_take" "_law_take" sTake f fd) (FM : Fun K "_law_mixed" "_law_mixed" sMixed fM fdM) (bM : Binds K fdM ["_law_number", "_law_k"] []) (gM : mg "_law_mixed" = some (.ref fM)) :
    FnOk P w K mg base CX0 2 f fd ["_law_stream_here", "_law_many"] spTake := by
  have GM : FnOk P w K mg base CX0 1 fM fdM ["_law_number", "_law_k"] spMixed := ok_mixed FM
  refine F.ok scTake (fun vs H Q E h => ?_) (fun cdv A outer s H vs Q E hr h => ?_)
  · obtain ⟨n, k, m, rfl, _⟩ := h
    rfl
  · obtain ⟨a, t, many, rfl, ⟨b, c, m, ha⟩, t0, t1, m0, m1, q⟩ := h
    refine ⟨_, pss_cons (ps_asg (pe_op op_add (pe_ix ix_list (pv 0) pe_int (fun _ _ => rfl)) pe_int) (pg_sub (pv 0) pe_int set_list))
      (pss_cons (ps_if (PW.pt (pw_or (pt_not (pt_val (pe_ix ix_list (pv 0) pe_int (fun _ _ => rfl)))) (pw_or (pt_cmpR op_in_seq (pe_ix ix_list (pv 0) pe_int (fun _ _ => rfl)) (pe_tup (pa_cons pe_int (pa_cons (pe_un un_neg pe_int) pa_nil))) (by rfl))
          (pw_or1 (pt_cmpR op_gt (pe_ix ix_list (pv 0) pe_int (fun _ _ => rfl)) pe_int (nomark _))))))
        (pss_one (ps_ret (pe_op op_mod (pe_op op_fdiv (pe_call GM hr (by rfl) gM FM.kp bM .nil pass0 (pa_cons (pe_op op_add (pe_ix ix_list (pv 0) pe_int (fun _ _ => rfl)) (pe_op op_mul pe_int (pe_ix ix_list (pv 0) pe_int (fun _ _ => rfl)))) (pa_cons (pe_ix ix_list (pv 0) pe_int (fun _ _ => rfl)) pa_nil))) pe_int) (pv 1)))) pss_nil)
      (pss_cons (ps_set (i := 2) scTake.nd rfl (.inl rfl) (pe_op op_mod (pe_ix ix_list (pv 0) pe_int (fun _ _ => rfl)) (pv 1)))
      (pss_cons (ps_asg (pe_op op_fdiv (pe_ix ix_list (pv 0) pe_int (fun _ _ => rfl)) (pv 1)) (pg_sub (pv 0) pe_int set_list))
      (pss_one (ps_ret (pv 2)))))), ?_⟩
    refine ⟨_, rfl, a, _, _, _, rfl, rfl, SqL.of ha, atI_nat (j := 2) rfl, _, _, rfl, rfl, _, rfl, a, _, _, 2, rfl, rfl, ha, rfl, ?_⟩
    have h1 : upd H a (.lst [.bl b, .int c, .int (t + 1), .int m]) a = some (.lst [.bl b, .int c, .int (t + 1), .int m]) := upd_same
    have u1 : But a H (upd H a (.lst [.bl b, .int c, .int (t + 1), .int m])) := But.at
    show tSeq _ _ _ _ (upd H a (.lst [.bl b, .int c, .int (t + 1), .int m]))
    generalize upd H a (.lst [.bl b, .int c, .int (t + 1), .int m]) = H1 at h1 u1
    -- not stream[0]
    refine ⟨_, rfl, a, _, _, _, rfl, rfl, SqL.of h1, atI_nat (j := 0) rfl, _, rfl, ?_⟩
    cases b with
    | false =>
      refine iteT ?_
      have h2 := h1
      have u2 := u1
      refine ⟨_, rfl, a, _, _, _, rfl, rfl, SqL.of h2, atI_nat (j := 3) rfl, _, rfl, a, _, _, _, rfl, rfl, SqL.of h2, atI_nat (j := 2) rfl, _, _, rfl, rfl, .inl ⟨by decide, by decide⟩, _, _, rfl, rfl, _, rfl, a, _, _, _, rfl, rfl, SqL.of h2, atI_nat (j := 2) rfl, _, _, rfl, by omega, by omega, fun v v0 => ?_⟩
      exact ⟨_, _, rfl, rfl, ⟨by decide, by decide⟩, _, rfl, _, _, rfl, rfl, m0, q _ _ (Int.emod_nonneg _ (by omega)) (Int.emod_lt_of_pos _ m0) u2 ⟨_, _, _, h2⟩⟩
    | true =>
      refine iteF ?_
      -- stream[1] in (0, -1)
      refine ⟨_, rfl, a, _, _, _, rfl, rfl, SqL.of h1, atI_nat (j := 1) rfl, _, rfl, by show 2 ≤ sizeLine; decide, fun p hp => ?_⟩
      have h2 : upd H1 p (.tup [.int 0, .int (-1)]) a = some (.lst [.bl true, .int c, .int (t + 1), .int m]) := by
        rw [upd_ne (ne_of_none h1 hp)]
        exact h1
      have u2 : But a H (upd H1 p (.tup [.int 0, .int (-1)])) := u1.trans (But.new hp)
      refine ⟨p, _, rfl, .inr (SqT.of upd_same), rfl, rfl, _, rfl, ?_⟩
      generalize upd H1 p (.tup [.int 0, .int (-1)]) = H2 at h2 u2
      refine ite2 (fun _ => ?_) (fun _ => ?_)
      · refine ⟨_, rfl, a, _, _, _, rfl, rfl, SqL.of h2, atI_nat (j := 3) rfl, _, rfl, a, _, _, _, rfl, rfl, SqL.of h2, atI_nat (j := 2) rfl, _, _, rfl, rfl, .inl ⟨by decide, by decide⟩, _, _, rfl, rfl, _, rfl, a, _, _, _, rfl, rfl, SqL.of h2, atI_nat (j := 2) rfl, _, _, rfl, by omega, by omega, fun v v0 => ?_⟩
        exact ⟨_, _, rfl, rfl, ⟨by decide, by decide⟩, _, rfl, _, _, rfl, rfl, m0, q _ _ (Int.emod_nonneg _ (by omega)) (Int.emod_lt_of_pos _ m0) u2 ⟨_, _, _, h2⟩⟩
      · -- stream[2] > 60
        refine ⟨_, rfl, a, _, _, _, rfl, rfl, SqL.of h2, atI_nat (j := 2) rfl, _, _, rfl, rfl, _, rfl, ?_⟩
        refine ite2 (fun _ => ?_) (fun _ => ?_)
        · refine ⟨_, rfl, a, _, _, _, rfl, rfl, SqL.of h2, atI_nat (j := 3) rfl, _, rfl, a, _, _, _, rfl, rfl, SqL.of h2, atI_nat (j := 2) rfl, _, _, rfl, rfl, .inl ⟨by decide, by decide⟩, _, _, rfl, rfl, _, rfl, a, _, _, _, rfl, rfl, SqL.of h2, atI_nat (j := 2) rfl, _, _, rfl, by omega, by omega, fun v v0 => ?_⟩
          exact ⟨_, _, rfl, rfl, ⟨by decide, by decide⟩, _, rfl, _, _, rfl, rfl, m0, q _ _ (Int.emod_nonneg _ (by omega)) (Int.emod_lt_of_pos _ m0) u2 ⟨_, _, _, h2⟩⟩
        · refine ⟨_, rfl, a, _, _, _, rfl, rfl, SqL.of h2, atI_nat (j := 1) rfl, _, rfl, _, _, rfl, rfl, m0, ?_⟩
          refine ⟨_, rfl, a, _, _, _, rfl, rfl, SqL.of h2, atI_nat (j := 1) rfl, _, rfl, _, _, rfl, rfl, ⟨m0, by omega⟩, _, rfl, a, _, _, 1, rfl, rfl, h2, rfl, ?_⟩
          exact ⟨_, rfl, q _ _ (Int.emod_nonneg _ (by omega)) (Int.emod_lt_of_pos _ m0) (u2.trans But.at) ⟨_, _, _, upd_same⟩⟩
end
end Pk
namespace Pk
open PySem L2
theorem len_is (z : Str) : z.length = z.cps.toList.length := TL.len_tl z
theorem blank_tl : TL.tl (" " : Str) = [32] := by decide +kernel
theorem empty_tl : TL.tl ("" : Str) = [] := by decide +kernel
/-! ### a text so many times -/
theorem mul_ok {z : Str} {n : Int} (hz : z.length ≤ 100000) (n0 : 0 ≤ n) (n1 : n ≤ 100) : MulOk z n := by
  refine ⟨?_, fun h1 _ h3 => ?_, fun h1 _ => ?_⟩
  · rw [Bool.or_eq_false_iff]
    exact ⟨decide_eq_false (by omega), decide_eq_false (by omega)⟩
  · have : (100000 : Int) ≤ (2 ^ 63 - 1 : Int) / n := Int.le_ediv_of_mul_le (by omega) (by omega)
    omega
  · have h : z.length * n.toNat ≤ 100000 * 100 := Nat.mul_le_mul hz (by omega)
    show decide (z.length * n.toNat > sizeLine) = false
    refine decide_eq_false ?_
    rw [sizeLine_eq]
    omega
theorem fold_app : ∀ (n : Nat) (x : Array Nat) (a : Array Nat), ((List.replicate n x).foldl (· ++ ·) a).toList = a.toList ++ (List.replicate n x.toList).flatten
  | 0, x, a => by simp
  | n + 1, x, a => by
    rw [List.replicate_succ, List.foldl_cons, fold_app n x (a ++ x), Array.toList_append, List.replicate_succ, List.flatten_cons, List.append_assoc]
theorem mul_tl (z : Str) {n : Int} (n0 : 0 ≤ n) : TL.tl (Txt.mul z n) = (List.replicate n.toNat (TL.tl z)).flatten := by
  unfold Txt.mul
  by_cases h1 : n < 1
  · have e : n = 0 := by omega
    subst e
    rw [if_pos h1]
    rfl
  · rw [if_neg h1]
    by_cases h2 : n = 1
    · subst h2
      show z.cps.toList = _
      simp
    · by_cases h3 : z.length = 0
      · rw [if_pos (by simp [h3])]
        have e : TL.tl z = [] := List.length_eq_zero_iff.mp (by rw [← TL.len_tl]; exact h3)
        rw [e]
        simp
      · rw [if_neg (by simp [h2, h3])]
        show ((List.replicate n.toNat z.cps).foldl (· ++ ·) #[]).toList = _
        rw [fold_app]
        rfl
theorem mul_len (z : Str) {n : Int} (n0 : 0 ≤ n) : (Txt.mul z n).length = n.toNat * z.length := by
  rw [TL.len_tl, mul_tl z n0, TL.len_tl]
  simp
/-- all signs are code points -/
def SOk (z : Str) : Prop := ∀ c ∈ z.cps.toList, c < 0x110000
theorem sok_iff (z : Str) : PyData.strOk z = true ↔ SOk z := by
  unfold PyData.strOk SOk
  rw [← Array.all_toList, List.all_eq_true]
  exact ⟨fun h c hc => of_decide_eq_true (h c hc), fun h c hc => decide_eq_true (h c hc)⟩
theorem sok_app {x y : Str} (hx : SOk x) (hy : SOk y) : SOk (x ++ y) := fun c hc => by
  rw [show (x ++ y).cps.toList = x.cps.toList ++ y.cps.toList from TL.tl_append x y] at hc
  rcases List.mem_append.mp hc with h | h
  · exact hx c h
  · exact hy c h
theorem sok_mul {x : Str} (hx : SOk x) {n : Int} (n0 : 0 ≤ n) : SOk (Txt.mul x n) := fun c hc => by
  rw [show (Txt.mul x n).cps.toList = _ from mul_tl x n0] at hc
  obtain ⟨l, hl, h⟩ := List.mem_flatten.mp hc
  rw [(List.mem_replicate.mp hl).2] at h
  exact hx c h
theorem joinL_mem {c : Nat} : ∀ l : List (List Nat), c ∈ TL.joinL [] l → ∃ p ∈ l, c ∈ p
  | [], h => by cases h
  | [p], h => ⟨p, List.mem_cons_self, h⟩
  | p :: q :: r, h => by
    have h' : c ∈ p ++ ([] ++ TL.joinL [] (q :: r)) := h
    rcases List.mem_append.mp h' with h | h
    · exact ⟨p, List.mem_cons_self, h⟩
    · obtain ⟨x, hx, hc⟩ := joinL_mem (q :: r) h
      exact ⟨x, List.mem_cons_of_mem _ hx, hc⟩
theorem sok_join {ys : List Str} (h : ∀ y ∈ ys, SOk y) : SOk (Txt.join "" ys) := fun c hc => by
  rw [show (Txt.join "" ys).cps.toList = TL.joinL (TL.tl "") (ys.map TL.tl) from by rw [TL.join_eq]; exact TL.tl_join "" ys, empty_tl] at hc
  obtain ⟨p, hp, hm⟩ := joinL_mem _ hc
  obtain ⟨y, hy, rfl⟩ := List.mem_map.mp hp
  exact h y hy c hm
theorem sok_blank : SOk " " := fun c hc => by
  rw [show (" " : Str).cps.toList = [32] from blank_tl, List.mem_singleton] at hc
  rw [hc]
  decide
theorem at_some {α : Type} {l : List α} {i : Int} (h0 : 0 ≤ i) (h1 : i < l.length) : ∃ c, atI l i = some c ∧ c ∈ l := by
  obtain ⟨j, rfl⟩ := Int.eq_ofNat_of_zero_le h0
  have hj : j < l.length := by omega
  exact ⟨l[j], atI_nat (List.getElem?_eq_getElem hj), List.getElem_mem hj⟩
theorem joinL_len : ∀ l : List (List Nat), (TL.joinL [] l).length = (l.map List.length).sum
  | [] => rfl
  | [p] => by simp [TL.joinL]
  | p :: q :: r => by
    have ih := joinL_len (q :: r)
    show (p ++ ([] ++ TL.joinL [] (q :: r))).length = _
    rw [List.nil_append, List.length_append, ih]
    simp
theorem join0_len (ys : List Str) : (Txt.join "" ys).length = (ys.map (·.length)).sum := by
  rw [TL.len_tl, TL.join_eq, TL.tl_join, empty_tl, joinL_len, List.map_map]
  exact congrArg List.sum (List.map_congr_left fun p _ => (TL.len_tl p).symm)
theorem app_len (x y : Str) : (x ++ y).length = x.length + y.length := by
  rw [TL.len_tl, TL.tl_append, List.length_append, ← TL.len_tl, ← TL.len_tl]
def S (l : List Nat) : Str := ⟨l.toArray⟩
theorem S_tl (l : List Nat) : TL.tl (S l) = l := rfl
theorem S_len (l : List Nat) : (S l).length = l.length := TL.len_tl _
end Pk
namespace Pk
open PySem L2
/-! ### things that are handed in -/
/-- signs that the texts have: from the blank to ~ but the percent sign, and line ends -/
def Sgn (z : Str) : Prop := ∀ c ∈ z.cps.toList, (32 ≤ c ∧ c ≤ 126 ∧ c ≠ 37) ∨ c = 10
theorem Sgn.ok {z : Str} (h : Sgn z) : SOk z := fun c hc => by
  rcases h c hc with q | q
  · omega
  · rw [q]
    decide
inductive Itm (H : Hp) : V → Prop
  | non : Itm H .non
  | bl (b : Bool) : Itm H (.bl b)
  | int (i : Int) (h : i.natAbs.log2 < 300) : Itm H (.int i)
  | str (z : Str) (hl : z.length ≤ 100) (ho : Sgn z) : Itm H (.str z)
  | lst {a : Addr} {v : V} (h : H a = some (.lst [v])) (hv : v = .int 1 ∨ ∃ z, v = .str z ∧ z.length ≤ 100 ∧ Sgn z) : Itm H (.ref a)
  | tup {a : Addr} (h : H a = some (.tup [.int 1])) : Itm H (.ref a)
  | dct {a : Addr} (h : H a = some (.dK [])) : Itm H (.ref a)
theorem Itm.same {H H' : Hp} {x : V} (h : Itm H x) (s : Same H H') : Itm H' x := by
  cases h with
  | non => exact .non
  | bl b => exact .bl b
  | int i h => exact .int i h
  | str z hl ho => exact .str z hl ho
  | lst h hv => exact .lst (s _ _ h) hv
  | tup h => exact .tup (s _ _ h)
  | dct h => exact .dct (s _ _ h)
def vInt : V → Bool
  | .int _ => true
  | _ => false
def vBool : V → Bool
  | .bl _ => true
  | _ => false
def vStr : V → Bool
  | .str _ => true
  | _ => false
theorem Itm.ty {K : PySem.W.Frag} {H : Hp} {x : V} (h : Itm H x) : ∃ t : String, TyX K H x (.type t) ∧ kitB t "int" = some (vInt x || vBool x) ∧ kitB t "bool" = some (vBool x) ∧ kitB t "str" = some (vStr x) := by
  cases h with
  | non => exact ⟨_, .base .non, by decide +kernel, by decide +kernel, by decide +kernel⟩
  | bl b => exact ⟨_, .base (.bl b), (by decide +kernel : kitB "bool" "int" = some true), (by decide +kernel : kitB "bool" "bool" = some true), (by decide +kernel : kitB "bool" "str" = some false)⟩
  | int i h => exact ⟨_, .base (.int i), (by decide +kernel : kitB "int" "int" = some true), (by decide +kernel : kitB "int" "bool" = some false), (by decide +kernel : kitB "int" "str" = some false)⟩
  | str z hl ho => exact ⟨_, .base (.str z), (by decide +kernel : kitB "str" "int" = some false), (by decide +kernel : kitB "str" "bool" = some false), (by decide +kernel : kitB "str" "str" = some true)⟩
  | lst h hv => exact ⟨_, .base (.lst h), (by decide +kernel : kitB "list" "int" = some false), (by decide +kernel : kitB "list" "bool" = some false), (by decide +kernel : kitB "list" "str" = some false)⟩
  | tup h => exact ⟨_, .base (.tup h), (by decide +kernel : kitB "tuple" "int" = some false), (by decide +kernel : kitB "tuple" "bool" = some false), (by decide +kernel : kitB "tuple" "str" = some false)⟩
  | dct h => exact ⟨_, .base (.dK h), (by decide +kernel : kitB "dict" "int" = some false), (by decide +kernel : kitB "dict" "bool" = some false), (by decide +kernel : kitB "dict" "str" = some false)⟩
/-- whether it is a whole number from lo to hi -/
def whole (x : V) (lo hi : Int) : Bool := match x with
  | .int i => decide (lo ≤ i) && decide (i ≤ hi)
  | _ => false
def letters : Str := "abcdefghijklmnopqrstuvwxyz"
def nameT (z : Str) : Bool := decide (1 ≤ z.length) && decide (z.length ≤ 8) && z.cps.toList.all fun c => decide (c ∈ letters.cps.toList)
def nameV : V → Bool
  | .str z => nameT z
  | _ => false
def signOk (c : Nat) : Bool := decide (32 ≤ c) && decide (c ≤ 126) && !decide (c = 37)
def textT (z : Str) : Bool := decide (1 ≤ z.length) && decide (z.length ≤ 30) && !decide (z.cps.toList[0]? = some 32) && !decide (z.cps.toList.getLast? = some 32) && z.cps.toList.all signOk
def textV : V → Bool
  | .str z => textT z
  | _ => false
end Pk
/-! ### how many texts of a tuple are unlike: len(set(texts)) -/
namespace Pk
open PySem PyProof.Rows
/-- which of the first i there are, and how many unlike ones -/
def seen (zs : List Str) (i : Nat) (k : Str) : Bool := (zs.take i).any (· == k)
def unlike (zs : List Str) : Nat → Nat
  | 0 => 0
  | i + 1 => if seen zs i (zs.getD i Str.empty) = true then unlike zs i else unlike zs i + 1
theorem unlike_le (zs : List Str) : ∀ i, unlike zs i ≤ i
  | 0 => Nat.le_refl _
  | i + 1 => by
    have := unlike_le zs i
    unfold unlike
    split <;> omega
theorem seen_next {zs : List Str} {i : Nat} (h : i < zs.length) (k : Str) : (seen zs i k || decide (k = zs.getD i Str.empty)) = seen zs (i + 1) k := by
  unfold seen
  have e1 : zs.getD i Str.empty = zs[i] := by rw [List.getD_eq_getElem?_getD, List.getElem?_eq_getElem h]; rfl
  rw [List.take_add_one, List.getElem?_eq_getElem h, List.any_append, e1]
  show _ = (_ || ((zs[i] == k) || false))
  rw [Bool.or_false]
  congr 1
  by_cases e : k = zs[i]
  · rw [decide_eq_true e, e]
    exact (beq_self_eq_true _).symm
  · rw [decide_eq_false e]
    exact (beq_eq_false_iff_ne.mpr (fun q => e q.symm)).symm
section
variable {prog : Program} {w : World} {A : Around} {R : Result → Shared → Prop} {it : Addr} {fp wr : List Addr} {G : Array GenState → Array GenState → Prop} {n : Nat} {Pv : Nat → Value → Prop} {St : Nat → Shared → Prop}
theorem fill_texts (W : WalksS prog w A.in1 it fp wr G n Pv St) (b : Addr) (hb : b ∉ fp) (zs : List Str) (hz : zs.length = n) (room : n + 1 < scanBound)
    (hv : ∀ i v, Pv i v → ∃ t, v = .str (zs.getD i Str.empty) t) :
    ∀ (m i : Nat) (s : Shared), n - i = m → i ≤ n → St i s → s.heap.SetOf (PySem.strKind prog w) b (seen zs i) (unlike zs i) →
      (∀ s', Moved (b :: wr) G s s' → s'.heap.SetOf (PySem.strKind prog w) b (seen zs n) (unlike zs n) → R (.ok (.ret .none)) s') →
      codeAny (model prog w) A (.builtin "set.update.loop" ⟨[.ref b, .ref it], []⟩) R s := by
  have nw : b ∉ wr := fun h => hb (W.sub _ h)
  have up : ∀ c ∈ wr, c ∈ b :: wr := fun c hc => List.mem_cons_of_mem _ hc
  have keepS : ∀ {s s' : Shared} {i : Nat}, Moved wr G s s' → s.heap.SetOf (PySem.strKind prog w) b (seen zs i) (unlike zs i) → s'.heap.SetOf (PySem.strKind prog w) b (seen zs i) (unlike zs i) := fun mv hS => by
    obtain ⟨o, es, ep, t, ho, rest⟩ := hS
    exact ⟨o, es, ep, t, mv.heap b _ nw ho, rest⟩
  intro m
  induction m with
  | zero =>
    intro i s e1 e2 e3 e4 e5
    have e6 : i = n := by omega
    subst e6
    refine codeAny_builtin F.entry_set_update_loop ?_
    rw [Around.under_plainId F.plain_set_update_loop _]
    show wpAny _ A.in1 (pyNext (.ref it) >>= _) _ _ s
    refine wpAny_bind (W.done s _ _ e3 fun s' mv => ?_)
    show wpAny _ A.in1 (ret Value.none) _ _ s'
    exact wpAny_pure (e5 s' (mv.mono up) (keepS mv e4))
  | succ m ih =>
    intro i s e1 e2 e3 e4 e5
    have lt : i < n := by omega
    have li := unlike_le zs i
    refine codeAny_builtin F.entry_set_update_loop ?_
    rw [Around.under_plainId F.plain_set_update_loop _]
    show wpAny _ A.in1 (pyNext (.ref it) >>= _) _ _ s
    refine wpAny_bind (W.item i s _ _ lt e3 fun v s' pv st' mv => ?_)
    obtain ⟨t, rfl⟩ := hv i v pv
    have e7 : s'.heap.SetOf (PySem.strKind prog w) b (seen zs i) (unlike zs i) := keepS mv e4
    show wpAny _ A.in1 (holding [Value.str (zs.getD i Str.empty) t] (setAdd b (.str (zs.getD i Str.empty) t)) >>= _) _ _ s'
    refine wpAny_bind (wpAny_holding ?_)
    unfold setAdd
    refine wpAny_holding (wpAny_bind ((PySem.strKind prog w).pyHash (k := zs.getD i Str.empty) (strKind_is _ _ _ _) ?_))
    refine wpAny_setAddHashed_of (knd := PySem.strKind prog w) (s := { s' with toks := s'.toks + 1 }) (strKind_is _ _ _ _) rfl e7 (by omega) fun h' hsb hS2 => ?_
    have hSi : h'.SetOf (PySem.strKind prog w) b (seen zs (i + 1)) (unlike zs (i + 1)) :=
      SetOf_congr hS2 (fun k => seen_next (by omega) k) rfl
    refine wpAny_pure ⟨plainId_quiet F.plain_set_update_loop _, ih (i + 1) _ (by omega) lt (W.frame _ s' _ _ st' (Nat.le_succ _) fun c hc o e => ?_) hSi fun s'' mv2 hS3 => ?_⟩
    · rw [hsb.2 c (fun h : c = b => hb (h ▸ hc))]
      exact e
    · refine e5 s'' (Moved.trans W.gtrans ((mv.mono up).then_heap (Nat.le_succ _) fun c o hc e => ?_) mv2) hS3
      rw [hsb.2 c (fun h : c = b => hc (by rw [h]; exact List.mem_cons_self))]
      exact e
end

section
variable {prog : Program} {w : World} {A : Around} {E : Value → Shared → Prop} {s : Shared}
abbrev bare (d : Bool) : Obj := { cls := .type "set", dict := none, data := .set #[] 0 (.fresh 0 0 d) }
/-- set(texts), of a tuple of texts -/
theorem set_of_texts {l : Addr} {its : Array Value} {zs : List Str} {Q : Value → Shared → Prop} (hh : A.handled = none) (hl : s.heap.IsTuple l its) (hi : StrsAre its.toList zs) (room : zs.length + 1 < scanBound)
    (h : ∀ (h' : Heap) (tk : Nat), h'.SetOf (PySem.strKind prog w) s.heap.objs.size (seen zs zs.length) (unlike zs zs.length) →
      (∀ c o, c < s.heap.objs.size → s.heap.get? c = some o → h'.get? c = some o) → Q (.ref s.heap.objs.size) { s with heap := h', toks := tk }) :
    wpAny (model prog w) A (call (.type "set") [.ref l]) Q E s := by
  have hsz : zs.length = its.size := by rw [← StrsAre.len_eq hi, Array.length_toList]
  obtain ⟨c0, tl0, m0⟩ := PySem.F.called_set.mro
  have m1 := PySem.F.called_set.made
  have m2 := PySem.F.called_set.sub
  refine wpAny_call (codeAny_of_tree ?_)
  show wpAny _ _ (callAny (.type "set") _) _ _ _
  refine wpAny_pure ⟨Code.quiet_builtin _ (by decide +kernel), codeAny_builtin PySem.F.entry_type_call ?_⟩
  rw [Around.under_plain (weight_type_call_type "set" [.ref l] []) rfl]
  have m3 := PySem.F.called_set.notType
  have m4 := PySem.F.called_set.canCreate
  have m5 := PySem.F.typeCall_set_1 (.ref l)
  repeat (any_goals (first | assumption | wp_step))
  refine codeAny_mono (code_set_new_1 (.ref l) (E := E) (Q₁ := fun x s₁ => ∃ d : Bool, x = .ref s.heap.objs.size ∧ s₁ = { s with heap := s.heap.push (bare d) }) fun d => ⟨d, rfl, rfl⟩) fun r s₁ hr => ?_
  cases r with
  | error e => exact hr
  | ok fl =>
    cases fl with
    | ret x =>
      obtain ⟨d, rfl, rfl⟩ := hr
      have n1 : (s.heap.push (bare d)).get? s.heap.objs.size = some (bare d) := Heap.get?_push_size _ rfl
      have n2 : Shared.TypeIs { s with heap := s.heap.push (bare d) } (.ref s.heap.objs.size) "set" := ⟨_, n1, rfl⟩
      have n3 := PySem.F.called_set.init.lookup
      have n4 := PySem.F.called_set.init.bind (.ref s.heap.objs.size)
      repeat (any_goals (first | assumption | wp_step))
      refine codeAny_mono (codeAny_call_builtin (R := wants (fun r s₂ => r = .none ∧ ∃ h' tk, s₂ = { s with heap := h', toks := tk } ∧
          h'.SetOf (PySem.strKind prog w) s.heap.objs.size (seen zs zs.length) (unlike zs zs.length) ∧
          (∀ c o, c < s.heap.objs.size → s.heap.get? c = some o → h'.get? c = some o)) E) PySem.F.called_set.init.plain PySem.F.entry_set_init (check_set_init_1 n2 ?_)) fun r₂ s₂ hr₂ => ?_
      · obtain ⟨⟨oc, od, odt, osl⟩, hol, hcl, nl, hdl⟩ := hl
        simp only at hcl hdl
        subst hcl; subst hdl
        have k1 : (s.heap.push (bare d)).get? l = some { cls := .type "tuple", dict := od, data := .seq its nl, slots := osl } := Heap.get?_push_of_some _ hol
        have k2 := PySem.F.sub_tuple_set
        have k3 := PySem.F.sub_tuple_frozenset
        have k4 : (Value.type "tuple" == Value.type "dict") = false := by decide
        have k5 : (s.heap.push (bare d)).IsTuple l its := ⟨_, k1, rfl, nl, rfl⟩
        have k6 : l < s.heap.objs.size := Heap.lt_size hol
        unfold Builtin.«set.__init__» noKeywords Builtin.Frozenset.updateFrom
        generalize hPI : pyIter = PI
        wp_walk
        subst hPI
        refine wpAny_pyIter_tuple k5 ?_
        refine wpAny_bind (wpAny_runValue ?_)
        have k7 : l ≠ (s.heap.push (bare d)).objs.size := by
          rw [Heap.size_push]
          exact Nat.ne_of_lt (Nat.lt_succ_of_lt k6)
        have k8 : s.heap.objs.size ∉ [(s.heap.push (bare d)).objs.size, l] := by
          rw [Heap.size_push]
          intro q
          rcases List.mem_cons.mp q with q | q
          · exact absurd q (Nat.ne_of_lt (Nat.lt_succ_self _))
          · exact absurd (List.mem_singleton.mp q) (Nat.ne_of_gt k6)
        refine fill_texts ((Walks.tuple (by simp [hh]) _ l k7 its).toS) s.heap.objs.size k8 zs hsz (by omega)
          (fun i v hv => SS.strs_at hi i v (by rw [Array.getElem?_toList]; exact hv)) (its.size - 0) 0 _ (by omega) (Nat.zero_le _)
          ⟨⟨_, Heap.get?_push_size _ rfl, rfl, rfl⟩, k5.push _⟩ ?pk_s0 ?pk_s1
        case pk_s0 =>
          exact SetOf_congr ((setObjOf_fresh (knd := PySem.strKind prog w) d).setOf (Heap.get?_push_of_some _ n1) (by unfold scanBound; omega)) (fun _ => rfl) rfl
        case pk_s1 =>
          rintro ⟨h', g', d', tk', os'⟩ mv hS'
          obtain rfl : g' = s.gens := mv.gens
          obtain rfl : d' = s.drawn := mv.drawn
          obtain rfl : os' = s.os := mv.os
          show wpAny _ _ _ _ _ _
          refine wpAny_pure ?_
          show wpAny _ _ (ret Value.none) _ _ _
          refine wpAny_pure ⟨rfl, h', tk', rfl, by rw [hsz]; exact hS', fun c o hc e => ?_⟩
          refine mv.heap c o (fun q => ?_) (Heap.get?_push_of_some _ (Heap.get?_push_of_some _ e))
          rw [Heap.size_push] at q
          rcases List.mem_cons.mp q with q | q
          · exact absurd q (Nat.ne_of_lt hc)
          · exact absurd (List.mem_singleton.mp q) (Nat.ne_of_lt (Nat.lt_succ_of_lt hc))
      · cases r₂ with
        | error e => exact hr₂
        | ok fl₂ =>
          cases fl₂ with
          | ret r =>
            obtain ⟨rfl, h', tk, rfl, hS', hk'⟩ := hr₂
            repeat (any_goals (first | assumption | wp_step))
            exact h _ _ hS' hk'
          | _ => exact hr₂.elim
    | _ => exact hr.elim
end
end Pk
namespace Pk
open PySem PySem.Spec L2
/-- len(set(texts)) -/
def tLenTexts (K : PySem.W.Frag) (ta : TE) : TE := fun σ H Q => ta σ H fun x H1 => ∃ (l : Addr) (zs : List Str), x = .ref l ∧ SqT K H1 l (zs.map V.str) ∧ zs.length ≤ 1000 ∧ Q (.int (unlike zs zs.length : Nat)) H1
theorem pe_lenTexts {X : Cx} {a : Expr} {ta : TE} {p p2 q pos : Pos} (hg : Gl X "len") (hm : X.mg "len" = none) (hg2 : Gl X "set") (hm2 : X.mg "set" = none) (ha : PE X a ta) (hc : X.calm = true := by rfl)
    (na : starEach [a] X.env = (false, eval a X.env) :: starEach [] X.env := by rfl) : PE X (.Call (.Name "len" p) [.Call (.Name "set" p2) [a] [] q] [] pos) (tLenTexts X.K ta) := by
  constructor
  intro pins s σ H Q I h
  refine PyProof.Rows.Call_ (ld_blt I hg hm boot_len (PyProof.Rows.callWith_builtin1 (PyProof.Rows.args_cons ?_ rfl) rfl rfl))
  refine PyProof.Rows.Call_ (ld_blt I hg2 hm2 PyProof.Rows.boot_set ?_)
  refine PyProof.Rows.callWith_type1 (PyProof.Rows.args_cons (thn (ha.run pins s σ H _ I h) ?_) na) na rfl
  rintro v s1 ⟨x, H1, I1, r1, l, zs, rfl, hq, hl, q1⟩
  cases r1
  obtain ⟨its, r, pl, hz⟩ := I1.tuple hq
  refine PyProof.Rows.args_nil (set_of_texts (I1.ok.hd hc) pl (by simpa using strsAre_of r) (by unfold scanBound; omega) fun h' tk hS hk => PyProof.Rows.args_nil ?_)
  obtain ⟨o, es, ep, t, ho, hex, hd, _, _, _, hf, hn⟩ := hS
  have hu := unlike_le zs zs.length
  refine call_len_set ho hex hd hf (by rw [hn]; omega) ⟨.int (unlike zs zs.length : Nat), H1, (I1.kept fun c o e => hk c o (Heap.lt_size e) e).tok _, ⟨_, by rw [hn]⟩, q1⟩
end Pk
namespace Pk
open PySem L2
/-! ### things of any of the plain kinds -/
inductive Thg (H : Hp) : V → Prop
  | non : Thg H .non
  | bl (b : Bool) : Thg H (.bl b)
  | int (i : Int) : Thg H (.int i)
  | str (z : Str) (hl : z.length ≤ 1000) (ho : Sgn z) : Thg H (.str z)
  | lst {a : Addr} {vs : List V} (h : H a = some (.lst vs)) : Thg H (.ref a)
  | tup {a : Addr} {vs : List V} (h : H a = some (.tup vs)) : Thg H (.ref a)
  | dct {a : Addr} {kvs : List (Key × V)} (h : H a = some (.dK kvs)) : Thg H (.ref a)
theorem Thg.same {H H' : Hp} {x : V} (h : Thg H x) (s : Same H H') : Thg H' x := by
  cases h with
  | non => exact .non
  | bl b => exact .bl b
  | int i => exact .int i
  | str z hl ho => exact .str z hl ho
  | lst h => exact .lst (s _ _ h)
  | tup h => exact .tup (s _ _ h)
  | dct h => exact .dct (s _ _ h)
/-- the things of a tuple -/
def tupO : Option HO → Option (List V)
  | some (.tup vs) => some vs
  | _ => none
def tupV (H : Hp) : V → Option (List V)
  | .ref a => tupO (H a)
  | _ => none
theorem tupV_ref (H : Hp) (a : Addr) : tupV H (.ref a) = tupO (H a) := rfl
theorem tupV_at {H : Hp} {a : Addr} {vs : List V} (h : H a = some (.tup vs)) : tupV H (.ref a) = some vs := by
  rw [tupV_ref, h]
  rfl
theorem tupV_of {H : Hp} {x : V} {vs : List V} (h : tupV H x = some vs) : ∃ a, x = .ref a ∧ H a = some (.tup vs) := by
  cases x with
  | ref a =>
    rw [tupV_ref] at h
    refine ⟨a, rfl, ?_⟩
    generalize H a = o at h
    cases o with
    | none => cases h
    | some o =>
      cases o with
      | tup ws =>
        cases h
        rfl
      | _ => cases h
  | _ => cases h
theorem Thg.tupS {H H' : Hp} {x : V} (h : Thg H x) (s : Same H H') : tupV H' x = tupV H x := by
  cases h with
  | non => rfl
  | bl b => rfl
  | int i => rfl
  | str z hl ho => rfl
  | lst h =>
    have e := s _ _ h
    rw [tupV_ref, tupV_ref, h, e]
  | tup h => rw [tupV_at h, tupV_at (s _ _ h)]
  | dct h =>
    have e := s _ _ h
    rw [tupV_ref, tupV_ref, h, e]
theorem Thg.ty {K : PySem.W.Frag} {H : Hp} {x : V} (h : Thg H x) : ∃ t : String, TyX K H x (.type t) ∧ kitB t "int" = some (vInt x || vBool x) ∧ kitB t "bool" = some (vBool x) ∧ kitB t "str" = some (vStr x) ∧ kitB t "tuple" = some (tupV H x).isSome := by
  cases h with
  | non => exact ⟨_, .base .non, by decide +kernel, by decide +kernel, by decide +kernel, (by decide +kernel : kitB "NoneType" "tuple" = some false)⟩
  | bl b => exact ⟨_, .base (.bl b), (by decide +kernel : kitB "bool" "int" = some true), (by decide +kernel : kitB "bool" "bool" = some true), (by decide +kernel : kitB "bool" "str" = some false), (by decide +kernel : kitB "bool" "tuple" = some false)⟩
  | int i => exact ⟨_, .base (.int i), (by decide +kernel : kitB "int" "int" = some true), (by decide +kernel : kitB "int" "bool" = some false), (by decide +kernel : kitB "int" "str" = some false), (by decide +kernel : kitB "int" "tuple" = some false)⟩
  | str z hl ho => exact ⟨_, .base (.str z), (by decide +kernel : kitB "str" "int" = some false), (by decide +kernel : kitB "str" "bool" = some false), (by decide +kernel : kitB "str" "str" = some true), (by decide +kernel : kitB "str" "tuple" = some false)⟩
  | lst h =>
    refine ⟨_, .base (.lst h), (by decide +kernel : kitB "list" "int" = some false), (by decide +kernel : kitB "list" "bool" = some false), (by decide +kernel : kitB "list" "str" = some false), ?_⟩
    rw [tupV_ref, h]
    exact (by decide +kernel : kitB "list" "tuple" = some false)
  | tup h =>
    refine ⟨_, .base (.tup h), (by decide +kernel : kitB "tuple" "int" = some false), (by decide +kernel : kitB "tuple" "bool" = some false), (by decide +kernel : kitB "tuple" "str" = some false), ?_⟩
    rw [tupV_at h]
    exact (by decide +kernel : kitB "tuple" "tuple" = some true)
  | dct h =>
    refine ⟨_, .base (.dK h), (by decide +kernel : kitB "dict" "int" = some false), (by decide +kernel : kitB "dict" "bool" = some false), (by decide +kernel : kitB "dict" "str" = some false), ?_⟩
    rw [tupV_ref, h]
    exact (by decide +kernel : kitB "dict" "tuple" = some false)
def nameE (x : V) : Bool := nameV x || decide (x = .str "")
def strV : V → Str
  | .str z => z
  | _ => ""
/-- whether these things are two to six unlike texts -/
def answersL (vs : List V) : Bool := decide (2 ≤ vs.length) && decide (vs.length ≤ 6) && vs.all textV && decide (unlike (vs.map strV) vs.length = vs.length)
def answersV (H : Hp) (x : V) : Bool := match tupV H x with
  | some vs => answersL vs
  | none => false
theorem strs_of : ∀ {vs : List V}, vs.all textV = true → vs = (vs.map strV).map V.str
  | [], _ => rfl
  | v :: vs, h => by
    rw [List.all_cons, Bool.and_eq_true] at h
    obtain ⟨h1, h2⟩ := h
    rw [List.map_cons, List.map_cons, ← strs_of h2]
    congr 1
    cases v with
    | str z => rfl
    | _ => cases h1
end Pk
namespace Pk
open PySem L2
/-! ### signs of names and texts, by str's own looks -/
theorem low_alpha : ∀ c < 128, (Unicode.isAlpha c && !(Unicode.isUpper c || Unicode.isTitle c)) = decide (c ∈ letters.cps.toList) := by decide +kernel
theorem low_lower : ∀ c < 128, decide (c ∈ letters.cps.toList) = Unicode.isLower c := by decide +kernel
theorem low_print : ∀ c < 128, (Unicode.isPrintable c && !decide (c = 37)) = signOk c := by decide +kernel
theorem letters_low : ∀ c ∈ letters.cps.toList, c < 128 := by decide +kernel
theorem name_signs (z : Str) (h : 1 ≤ z.length) : (Txt.isascii z && (Txt.isalpha z && Txt.islower z)) = z.cps.toList.all fun c => decide (c ∈ letters.cps.toList) := by
  unfold Txt.isascii Txt.isalpha Txt.islower
  rw [← Array.all_toList, ← Array.all_toList, ← Array.any_toList, ← Array.any_toList]
  have hl : z.cps.toList.length = z.length := rfl
  rw [show decide (z.length > 0) = true from decide_eq_true h, Bool.true_and]
  generalize z.cps.toList = l at hl ⊢
  rw [← hl] at h
  rw [Bool.eq_iff_iff]
  simp only [Bool.and_eq_true, List.all_eq_true, List.any_eq_true, Bool.not_eq_true', decide_eq_true_eq]
  constructor
  · rintro ⟨h1, h2, _, h4⟩ c hc
    have e := low_alpha c (h1 c hc)
    rw [h2 c hc, Bool.true_and] at e
    have n : (Unicode.isUpper c || Unicode.isTitle c) = false := by
      cases hh : (Unicode.isUpper c || Unicode.isTitle c) with
      | false => rfl
      | true => exact absurd (List.any_eq_true.mpr ⟨c, hc, hh⟩) (by rw [h4]; exact Bool.false_ne_true)
    rw [n] at e
    exact of_decide_eq_true e.symm
  · intro hh
    have lo : ∀ c ∈ l, c < 128 := fun c hc => letters_low c (hh c hc)
    have e : ∀ c ∈ l, (Unicode.isAlpha c && !(Unicode.isUpper c || Unicode.isTitle c)) = true := fun c hc => (low_alpha c (lo c hc)).trans (decide_eq_true (hh c hc))
    refine ⟨lo, fun c hc => (Bool.and_eq_true_iff.mp (e c hc)).1, ?_, ?_⟩
    · cases l with
      | nil => exact absurd h (by decide)
      | cons c r => exact ⟨c, List.mem_cons_self, (low_lower c (lo c List.mem_cons_self)).symm.trans (decide_eq_true (hh c List.mem_cons_self))⟩
    · rw [Bool.eq_false_iff]
      intro a
      obtain ⟨c, hc, a⟩ := List.any_eq_true.mp a
      have := (Bool.and_eq_true_iff.mp (e c hc)).2
      rw [a] at this
      exact absurd this (by decide)
theorem text_signs (z : Str) : (Txt.isascii z && (Txt.isprintable z && z.cps.toList.all fun c => !decide (c = 37))) = z.cps.toList.all signOk := by
  unfold Txt.isascii Txt.isprintable
  rw [← Array.all_toList, ← Array.all_toList]
  generalize z.cps.toList = l
  rw [Bool.eq_iff_iff]
  simp only [Bool.and_eq_true, List.all_eq_true, decide_eq_true_eq]
  constructor
  · rintro ⟨h1, h2, h3⟩ c hc
    rw [← low_print c (h1 c hc), h2 c hc, h3 c hc]
    rfl
  · intro hh
    have lo : ∀ c ∈ l, c < 128 := fun c hc => by
      have := hh c hc
      unfold signOk at this
      rw [Bool.and_eq_true, Bool.and_eq_true] at this
      have := of_decide_eq_true this.1.2
      omega
    have e : ∀ c ∈ l, (Unicode.isPrintable c && !decide (c = 37)) = true := fun c hc => (low_print c (lo c hc)).trans (hh c hc)
    exact ⟨lo, fun c hc => (Bool.and_eq_true_iff.mp (e c hc)).1, fun c hc => (Bool.and_eq_true_iff.mp (e c hc)).2⟩
end Pk
namespace Pk
open PySem L2
/-! ### words.py -/
def spIsNumber : Sp := fun vs H Q _ => ∃ x, vs = [x] ∧ Thg H x ∧ Q (.bl (vInt x)) H
def spIsWhole : Sp := fun vs H Q _ => ∃ (x : V) (lo hi : Int), vs = [x, .int lo, .int hi] ∧ Thg H x ∧ Q (.bl (whole x lo hi)) H
def spIsName : Sp := fun vs H Q _ => ∃ x, vs = [x] ∧ Thg H x ∧ ∀ H', Same H H' → Q (.bl (nameV x)) H'
def spIsText : Sp := fun vs H Q _ => ∃ x, vs = [x] ∧ Thg H x ∧ ∀ H', Same H H' → Q (.bl (textV x)) H'
section
variable {P : Program} {w : World} {K : PySem.W.Frag} {mg : Str → Option Value} {base : Heap}
theorem isb {X : Cx} {i : Nat} {v : Str} {y : Str} {T : String} {p p1 p2 pos : Pos} (mi : X.mg "isinstance" = none) (my : X.mg y = none) (by_ : bootBuiltins y = some (.type T)) (hi : Gl X "isinstance" := by rfl) (hg : Gl X y := by rfl) (hN : X.N[i]? = some v := by rfl) (hv : Vis X.env.scope v := by first | exact Or.inl rfl | exact Or.inr (Or.inl rfl)) (hd : (y == ("__debug__" : Str)) = false := by decide) (hd2 : (v == ("__debug__" : Str)) = false := by decide) (hd3 : (v == ("__classdict__" : Str)) = false := by decide) (hn : y ≠ "__name__" := by decide) :
    PE X (.Call (.Name "isinstance" p) [.Name v p1, .Name y p2] [] pos) (tCB (rIsi X.K) (tCons (tVar i) (tCons (tC (.ty T)) tNil))) :=
  pe_callB call_isi hi mi (by decide +kernel) (pa_cons (pe_var hN hv hd2 hd3) (pa_cons (pe_bltn (v := .ty T) hg my by_ rfl hn hd) pa_nil))
theorem scIsNumber : FnScope ["thing"] ["thing"] (defScope sIsNumber) := ⟨rfl, rfl, rfl, by decide +kernel, rfl, by decide +kernel, by decide +kernel⟩
theorem ok_isNumber {f : Addr} {fd : FuncData} (F : Fun K "is_number" "is_number" sIsNumber f fd) (mi : mg "isinstance" = none) (mn : mg "int" = none) (mb : mg "bool" = none) : FnOk P w K mg base CX0 1 f fd ["thing"] spIsNumber := by
  refine F.ok scIsNumber (fun vs H Q E h => ?_) (fun cdv A outer s H vs Q E hr h => ?_)
  · obtain ⟨x, rfl, _⟩ := h
    rfl
  · obtain ⟨x, rfl, hx, q⟩ := h
    obtain ⟨t, ty, k1, k2, _, _⟩ := hx.ty (K := K)
    refine ⟨_, pss_one (ps_ret (pe_and (isb (i := 0) mi mn PyProof.Rows.boot_int) (pe_one (pe_not (isb (i := 0) (T := "bool") mi mb (by decide +kernel)))))), ?_⟩
    refine ⟨_, rfl, _, _, _, _, _, rfl, .ty "int", ty, kit_ty k1, _, rfl, ?_⟩
    cases hv : vInt x with
    | true =>
      rw [hv] at q
      refine iteT ⟨_, rfl, _, _, _, _, _, rfl, .ty "bool", ty, kit_ty k2, _, rfl, ?_⟩
      have : vBool x = false := by
        cases x <;> first | rfl | cases hv
      rw [this]
      exact q
    | false =>
      rw [hv] at q
      cases hb : vBool x with
      | true =>
        rw [hb] at k2
        exact iteT ⟨_, rfl, _, _, _, _, _, rfl, .ty "bool", ty, kit_ty k2, _, rfl, q⟩
      | false => exact iteF q
theorem scIsWhole : FnScope ["thing", "least", "most"] ["thing", "least", "most"] (defScope sIsWhole) := ⟨rfl, rfl, rfl, by decide +kernel, rfl, by decide +kernel, by decide +kernel⟩
abbrev FunDf (K : PySem.W.Frag) (x : Str) (st : Stmt) (dvs : List V) (f : Addr) (fd : FuncData) : Prop := FunD K x x (defArgs st) (defBody st) (defScope st) dvs [] f fd
theorem ok_isWhole {f fN : Addr} {fd fdN : FuncData} (F : FunDf K "is_whole" sIsWhole [.int 0, .int 9999] f fd) (FN : Fun K "is_number" "is_number" sIsNumber fN fdN) (bN : Binds K fdN ["thing"] []) (gN : mg "is_number" = some (.ref fN))
    (mi : mg "isinstance" = none) (mn : mg "int" = none) (mb : mg "bool" = none) : FnOk P w K mg base CX0 2 f fd ["thing", "least", "most"] spIsWhole := by
  have GN : FnOk P w K mg base CX0 1 fN fdN ["thing"] spIsNumber := ok_isNumber FN mi mn mb
  refine F.ok scIsWhole (fun vs H Q E h => ?_) (fun cdv A outer s H vs Q E hr h => ?_)
  · obtain ⟨x, lo, hi, rfl, _⟩ := h
    rfl
  · obtain ⟨x, lo, hi, rfl, hx, q⟩ := h
    refine ⟨_, pss_one (ps_ret (pe_and (pe_call GN hr (by rfl) gN FN.kp bN .nil pass0 (pa_cons (pv 0) pa_nil)) (pe_one (pe_chain op_le op_le (pv 1) (pv 0) (pv 2))))), ?_⟩
    refine ⟨_, rfl, x, rfl, hx, _, rfl, ?_⟩
    cases hx with
    | int i =>
      have q' : Q (.bl (decide (lo ≤ i) && decide (i ≤ hi))) H := q
      refine iteT ⟨_, rfl, _, rfl, _, _, rfl, rfl, _, rfl, ?_⟩
      cases hd : decide (lo ≤ i) with
      | true =>
        rw [hd, Bool.true_and] at q'
        exact iteT ⟨_, rfl, _, _, rfl, rfl, q'⟩
      | false =>
        rw [hd, Bool.false_and] at q'
        exact iteF q'
    | non => exact iteF q
    | bl b => exact iteF q
    | str z hl ho => exact iteF q
    | lst h => exact iteF q
    | tup h => exact iteF q
    | dct h => exact iteF q
theorem scIsName : FnScope ["thing"] ["thing"] (defScope sIsName) := ⟨rfl, rfl, rfl, by decide +kernel, rfl, by decide +kernel, by decide +kernel⟩
theorem ok_isName {f : Addr} {fd : FuncData} (F : Fun K "is_name" "is_name" sIsName f fd) (mi : mg "isinstance" = none) (ms : mg "str" = none) (ml : mg "len" = none) (gM : ∃ t, mg "MOST_LETTERS" = some (.int 8 t)) :
    FnOk P w K mg base CX0 1 f fd ["thing"] spIsName := by
  obtain ⟨tM, gM⟩ := gM
  refine F.ok scIsName (fun vs H Q E h => ?_) (fun cdv A outer s H vs Q E hr h => ?_)
  · obtain ⟨x, rfl, _⟩ := h
    rfl
  · obtain ⟨x, rfl, hx, q⟩ := h
    obtain ⟨t, ty, _, _, k3, _⟩ := hx.ty (K := K)
    refine ⟨_, pss_cons (ps_if (PW.pt (pw_or (pt_not (pt_val (isb (i := 0) mi ms PyProof.Rows.boot_str))) (pw_or1 (pt_not (pt_chain op_le op_le pe_int (pe_callB call_len_str (by rfl) ml PySem.boot_len (pa_cons (pv 0) pa_nil)) (pe_glob (v := .int 8) (by rfl) gM ⟨_, rfl⟩)))))) (pss_one (ps_ret pe_bl)) pss_nil)
      (pss_one (ps_ret (pe_and (pe_m0 PySem.F.slot_str_isascii PySem.F.type_str_isascii mt_isascii (pv 0)) (pe_and (pe_m0 PySem.F.slot_str_isalpha PySem.F.type_str_isalpha mt_isalpha (pv 0)) (pe_one (pe_m0 PySem.F.slot_str_islower PySem.F.type_str_islower mt_islower (pv 0))))))), ?_⟩
    refine ⟨_, rfl, _, _, _, _, _, rfl, .ty "str", ty, kit_ty k3, _, rfl, ?_⟩
    have q := q H (Same.refl H)
    cases hx with
    | non => exact iteT q
    | bl b => exact iteT q
    | int i => exact iteT q
    | lst h => exact iteT q
    | tup h => exact iteT q
    | dct h => exact iteT q
    | str z hl ho =>
      refine iteF ⟨_, rfl, z, rfl, by rw [sizeLine_eq]; omega, _, _, rfl, rfl, _, rfl, ?_⟩
      have q' : Q (.bl (decide (1 ≤ z.length) && decide (z.length ≤ 8) && z.cps.toList.all fun c => decide (c ∈ letters.cps.toList))) H := q
      cases h1 : decide (1 ≤ z.length) with
      | false =>
        rw [h1, Bool.false_and, Bool.false_and] at q'
        have e1 : decide ((1 : Int) ≤ z.length) = false := by
          have := of_decide_eq_false h1
          exact decide_eq_false (by omega)
        rw [e1]
        exact iteF ⟨_, rfl, iteT q'⟩
      | true =>
        have e1 : decide ((1 : Int) ≤ z.length) = true := by
          have := of_decide_eq_true h1
          exact decide_eq_true (by omega)
        rw [e1]
        refine iteT ⟨_, _, rfl, rfl, _, rfl, ?_⟩
        cases h2 : decide (z.length ≤ 8) with
        | false =>
          rw [h1, h2, Bool.and_false, Bool.false_and] at q'
          have e2 : decide ((z.length : Int) ≤ 8) = false := by
            have := of_decide_eq_false h2
            exact decide_eq_false (by omega)
          rw [e2]
          exact iteT q'
        | true =>
          rw [h1, h2, Bool.and_true, Bool.true_and, ← name_signs z (of_decide_eq_true h1)] at q'
          have e2 : decide ((z.length : Int) ≤ 8) = true := by
            have := of_decide_eq_true h2
            exact decide_eq_true (by omega)
          rw [e2]
          refine iteF ⟨_, rfl, ⟨z, rfl⟩, z, rfl, rfl, trivial, _, rfl, ?_⟩
          cases h3 : Txt.isascii z with
          | false =>
            rw [h3, Bool.false_and] at q'
            exact iteF q'
          | true =>
            rw [h3, Bool.true_and] at q'
            refine iteT ⟨_, rfl, ⟨z, rfl⟩, z, rfl, rfl, trivial, _, rfl, ?_⟩
            cases h4 : Txt.isalpha z with
            | false =>
              rw [h4, Bool.false_and] at q'
              exact iteF q'
            | true =>
              rw [h4, Bool.true_and] at q'
              exact iteT ⟨_, rfl, ⟨z, rfl⟩, z, rfl, rfl, trivial, q'⟩
end
section
variable {P : Program} {w : World} {K : PySem.W.Frag} {mg : Str → Option Value} {base : Heap}
theorem at_last {l : List Nat} (h : l ≠ []) : atI l (-1) = some (l.getLast h) :=
  (congrArg (fun x => atI x (-1)) (List.dropLast_concat_getLast h).symm).trans (atI_last _ _)
theorem scIsText : FnScope ["thing", "sign"] ["thing"] (defScope sIsText) := ⟨rfl, rfl, rfl, by decide +kernel, rfl, by decide +kernel, by decide +kernel⟩
theorem ok_isText {f : Addr} {fd : FuncData} (F : Fun K "is_text" "is_text" sIsText f fd) (mi : mg "isinstance" = none) (ms : mg "str" = none) (ml : mg "len" = none) (ma : mg "all" = none) (mo : mg "ord" = none)
    (gP : ∃ t, mg "PERCENT" = some (.int 37 t)) (gM : ∃ t, mg "MOST_SIGNS" = some (.int 30 t)) : FnOk P w K mg base CX0 2 f fd ["thing"] spIsText := by
  obtain ⟨tP, gP⟩ := gP
  obtain ⟨tM, gM⟩ := gM
  refine F.ok scIsText (fun vs H Q E h => ?_) (fun cdv A outer s H vs Q E hr h => ?_)
  · obtain ⟨x, rfl, _⟩ := h
    rfl
  · obtain ⟨x, rfl, hx, q⟩ := h
    obtain ⟨t, ty, _, _, k3, _⟩ := hx.ty (K := K)
    refine ⟨_, pss_cons (ps_if (PW.pt (pw_or (pt_not (pt_val (isb (i := 0) mi ms PyProof.Rows.boot_str))) (pw_or1 (pt_not (pt_chain op_le op_le pe_int (pe_callB call_len_str (by rfl) ml PySem.boot_len (pa_cons (pv 0) pa_nil)) (pe_glob (v := .int 30) (by rfl) gM ⟨_, rfl⟩)))))) (pss_one (ps_ret pe_bl)) pss_nil)
      (pss_cons (ps_if (PW.pt (pw_or (pt_cmpR op_eq (pe_ix ix_str (pv 0) pe_int (fun _ _ => rfl)) pe_str (nomark _)) (pw_or1 (pt_cmpR op_eq (pe_ix ix_str (pv 0) (pe_un un_neg pe_int) (fun _ _ => rfl)) pe_str (nomark _))))) (pss_one (ps_ret pe_bl)) pss_nil)
      (pss_one (ps_ret (pe_and (pe_m0 PySem.F.slot_str_isascii PySem.F.type_str_isascii mt_isascii (pv 0)) (pe_and (pe_m0 PySem.F.slot_str_isprintable PySem.F.type_str_isprintable mt_isprintable (pv 0)) (pe_one (pe_callB (cr_all rfl) (by rfl) ma (by decide +kernel) (pa_cons (pe_lc (own := [("sign", 1)]) (g := gName 1) rfl scIsText.nd (pi_str (pv 0)) (blkOk_by (N := ["thing", "sign"]) (sc := defScope sIsText) (by decide +kernel))
        (fun _ _ _ _ _ => pg_name (i := 1) scIsText.nd rfl (Or.inl rfl)) (fun _ _ _ _ _ => pts_nil) (fun _ _ _ _ _ => pe_cmpR op_ne (pe_callB call_ord (by rfl) mo (by decide +kernel) (pa_cons (pv 1) pa_nil)) (pe_glob (v := .int 37) (by rfl) gP ⟨_, rfl⟩) (nomark _))) pa_nil)))))))), ?_⟩
    refine ⟨_, rfl, _, _, _, _, _, rfl, .ty "str", ty, kit_ty k3, _, rfl, ?_⟩
    cases hx with
    | non => exact iteT (q H (Same.refl H))
    | bl b => exact iteT (q H (Same.refl H))
    | int i => exact iteT (q H (Same.refl H))
    | lst h => exact iteT (q H (Same.refl H))
    | tup h => exact iteT (q H (Same.refl H))
    | dct h => exact iteT (q H (Same.refl H))
    | str z hl ho =>
      refine iteF ⟨_, rfl, z, rfl, by rw [sizeLine_eq]; omega, _, _, rfl, rfl, _, rfl, ?_⟩
      have q' : ∀ H', Same H H' → Q (.bl (decide (1 ≤ z.length) && decide (z.length ≤ 30) && !decide (z.cps.toList[0]? = some 32) && !decide (z.cps.toList.getLast? = some 32) && z.cps.toList.all signOk)) H' := q
      cases h1 : decide (1 ≤ z.length) with
      | false =>
        rw [h1, Bool.false_and, Bool.false_and, Bool.false_and, Bool.false_and] at q'
        have e1 : decide ((1 : Int) ≤ z.length) = false := by
          have := of_decide_eq_false h1
          exact decide_eq_false (by omega)
        rw [e1]
        exact iteF ⟨_, rfl, iteT (q' H (Same.refl H))⟩
      | true =>
        have p1 : 1 ≤ z.length := of_decide_eq_true h1
        have e1 : decide ((1 : Int) ≤ z.length) = true := decide_eq_true (by omega)
        rw [e1]
        refine iteT ⟨_, _, rfl, rfl, _, rfl, ?_⟩
        cases h2 : decide (z.length ≤ 30) with
        | false =>
          rw [h1, h2, Bool.and_false, Bool.false_and, Bool.false_and, Bool.false_and] at q'
          have e2 : decide ((z.length : Int) ≤ 30) = false := by
            have := of_decide_eq_false h2
            exact decide_eq_false (by omega)
          rw [e2]
          exact iteT (q' H (Same.refl H))
        | true =>
          rw [h1, h2, Bool.and_true, Bool.true_and] at q'
          have e2 : decide ((z.length : Int) ≤ 30) = true := by
            have := of_decide_eq_true h2
            exact decide_eq_true (by omega)
          rw [e2]
          refine iteF ?_
          -- the first and the last sign
          have ln : z.cps.toList.length = z.length := (len_is z).symm
          have g0 : z.cps.toList[0]? = some (z.cps.toList[0]'(by omega)) := List.getElem?_eq_getElem (by omega)
          have hne : z.cps.toList ≠ [] := fun e => by rw [e] at ln; simp at ln; omega
          have gl : z.cps.toList.getLast? = some (z.cps.toList.getLast hne) := List.getLast?_eq_getLast hne
          generalize hc0 : z.cps.toList[0]'(by omega) = c0 at g0
          generalize hcl : z.cps.toList.getLast hne = cl at gl
          have al : atI z.cps.toList (-1) = some cl := by
            rw [← hcl]
            exact at_last hne
          have one_eq : ∀ c : Nat, decide (V.str ⟨#[c]⟩ = V.str " ") = decide (c = 32) := fun c => decide_eq_decide.mpr ⟨fun z => by
            have e := congrArg TL.tl (V.str.inj z)
            rw [blank_tl] at e
            exact (List.cons.inj e).1, fun z => by rw [z]; exact congrArg V.str (by decide +kernel)⟩
          refine ⟨_, rfl, z, 0, c0, rfl, rfl, by rw [sizeLine_eq]; omega, atI_nat (j := 0) g0, rfl, _, rfl, ?_⟩
          rw [one_eq]
          cases h3 : decide (c0 = 32) with
          | true =>
            have e3 : decide (z.cps.toList[0]? = some 32) = true := decide_eq_true (by rw [g0, of_decide_eq_true h3])
            rw [e3, Bool.not_true, Bool.false_and, Bool.false_and] at q'
            exact iteT (q' H (Same.refl H))
          | false =>
            have e3 : decide (z.cps.toList[0]? = some 32) = false := decide_eq_false (by rw [g0]; exact fun e => of_decide_eq_false h3 (Option.some.inj e))
            rw [e3, Bool.not_false, Bool.true_and] at q'
            refine iteF ⟨_, rfl, _, rfl, z, _, cl, rfl, rfl, by rw [sizeLine_eq]; omega, al, rfl, _, rfl, ?_⟩
            rw [one_eq]
            cases h4 : decide (cl = 32) with
            | true =>
              have e4 : decide (z.cps.toList.getLast? = some 32) = true := decide_eq_true (by rw [gl, of_decide_eq_true h4])
              rw [e4, Bool.not_true, Bool.false_and] at q'
              exact iteT (q' H (Same.refl H))
            | false =>
              have e4 : decide (z.cps.toList.getLast? = some 32) = false := decide_eq_false (by rw [gl]; exact fun e => of_decide_eq_false h4 (Option.some.inj e))
              rw [e4, Bool.not_false, Bool.true_and] at q'
              rw [← text_signs z] at q'
              refine iteF ⟨_, rfl, ⟨z, rfl⟩, z, rfl, rfl, trivial, _, rfl, ?_⟩
              cases h5 : Txt.isascii z with
              | false =>
                rw [h5, Bool.false_and] at q'
                exact iteF (q' H (Same.refl H))
              | true =>
                rw [h5, Bool.true_and] at q'
                refine iteT ⟨_, rfl, ⟨z, rfl⟩, z, rfl, rfl, trivial, _, rfl, ?_⟩
                cases h6 : Txt.isprintable z with
                | false =>
                  rw [h6, Bool.false_and] at q'
                  exact iteF (q' H (Same.refl H))
                | true =>
                  rw [h6, Bool.true_and] at q'
                  refine iteT ⟨_, rfl, z, rfl, fun D hD => ?_⟩
                  refine lc_it walk_str (fun i H' => (∀ b o, b ≠ D → H b = some o → H' b = some o) ∧ H' D = some (.lst (((z.cps.toList.take i).map fun c => !decide (c = 37)).map V.bl))) ⟨fun b o n e => ?_, upd_same⟩ (fun _ _ _ _ => trivial) ?_ ?_
                  · rw [upd_ne n]
                    exact e
                  · rintro i x H1 H2 hi ⟨k, hd⟩ ⟨rfl, c, hc, rfl⟩
                    have hc' : z.cps.toList[i]? = some c := by rw [Array.getElem?_toList]; exact hc
                    have e3 : decide (V.int ((⟨#[c]⟩ : Str).cps.getD 0 0 : Nat) = V.int 37) = decide (c = 37) := decide_eq_decide.mpr ⟨fun z => by
                      have := V.int.inj z
                      have e : ((⟨#[c]⟩ : Str).cps.getD 0 0) = c := rfl
                      rw [e] at this
                      omega, fun z => by rw [z]; rfl⟩
                    refine ⟨rfl, _, rfl, _, rfl, rfl, rfl, _, hd, ?_, fun b o n e => ?_, ?_⟩
                    · rw [List.length_map, List.length_map, List.length_take, sizeLine_eq, ← len_is]
                      omega
                    · rw [upd_ne n]
                      exact k b o n e
                    · rw [upd_same, List.take_add_one, hc', List.map_append, List.map_append]
                      show some (HO.lst (_ ++ [V.bl (!decide (V.int ((⟨#[c]⟩ : Str).cps.getD 0 0 : Nat) = V.int 37))])) = _
                      rw [e3]
                      rfl
                  · rintro H1 ⟨k, hd⟩
                    rw [List.take_of_length_le (by rw [Array.length_toList]; exact Nat.le_refl _)] at hd
                    refine ⟨D, _, rfl, SqL.of hd, ?_⟩
                    have e5 : ((z.cps.toList.map fun c => !decide (c = 37)).all id) = z.cps.toList.all fun c => !decide (c = 37) := by
                      rw [List.all_map]
                      rfl
                    rw [e5]
                    exact q' H1 fun b o e => k b o (fun z => by rw [z, hD] at e; cases e) e
end
end Pk
namespace Pk
open PySem L2
def spIsNameE : Sp := fun vs H Q _ => ∃ x, vs = [x] ∧ Thg H x ∧ ∀ H', Same H H' → Q (.bl (nameE x)) H'
def spAreAnswers : Sp := fun vs H Q _ => ∃ x, vs = [x] ∧ Thg H x ∧ (∀ ws, tupV H x = some ws → ∀ v ∈ ws, Thg H v) ∧ ∀ H', Same H H' → Q (.bl (answersV H x)) H'
section
variable {P : Program} {w : World} {K : PySem.W.Frag} {mg : Str → Option Value} {base : Heap}
theorem scIsNameE : FnScope ["thing"] ["thing"] (defScope sIsNameE) := ⟨rfl, rfl, rfl, by decide +kernel, rfl, by decide +kernel, by decide +kernel⟩
theorem ok_isNameE {f fN : Addr} {fd fdN : FuncData} (F : Fun K "is_name_or_empty" "is_name_or_empty" sIsNameE f fd) (FN : Fun K "is_name" "is_name" sIsName fN fdN) (bN : Binds K fdN ["thing"] []) (gN : mg "is_name" = some (.ref fN))
    (mi : mg "isinstance" = none) (ms : mg "str" = none) (ml : mg "len" = none) (gM : ∃ t, mg "MOST_LETTERS" = some (.int 8 t)) : FnOk P w K mg base CX0 2 f fd ["thing"] spIsNameE := by
  have GN : FnOk P w K mg base CX0 1 fN fdN ["thing"] spIsName := ok_isName FN mi ms ml gM
  refine F.ok scIsNameE (fun vs H Q E h => ?_) (fun cdv A outer s H vs Q E hr h => ?_)
  · obtain ⟨x, rfl, _⟩ := h
    rfl
  · obtain ⟨x, rfl, hx, q⟩ := h
    refine ⟨_, pss_one (ps_ret (pe_or (pe_call GN hr (by rfl) gN FN.kp bN .nil pass0 (pa_cons (pv 0) pa_nil)) (pe_one (pe_and (isb (i := 0) mi ms PyProof.Rows.boot_str) (pe_one (pe_cmpR op_eq (pv 0) pe_str (nomark _))))))), ?_⟩
    refine ⟨_, rfl, x, rfl, hx, fun H1 s1 => ⟨_, rfl, ?_⟩⟩
    obtain ⟨t, ty, _, _, k3, _⟩ := (hx.same s1).ty (K := K)
    have q1 := q H1 s1
    unfold nameE at q1
    cases hn : nameV x with
    | true =>
      rw [hn, Bool.true_or] at q1
      exact iteT q1
    | false =>
      rw [hn, Bool.false_or] at q1
      refine iteF ⟨_, rfl, _, _, _, _, _, rfl, .ty "str", ty, kit_ty k3, _, rfl, ?_⟩
      cases hx with
      | str z hl ho => exact iteT ⟨_, rfl, rfl, q1⟩
      | _ => exact iteF q1
theorem scAreAnswers : FnScope ["thing", "each"] ["thing"] (defScope sAreAnswers) := ⟨rfl, rfl, rfl, by decide +kernel, rfl, by decide +kernel, by decide +kernel⟩
theorem ok_areAnswers {f fT : Addr} {fd fdT : FuncData} (F : Fun K "are_answers" "are_answers" sAreAnswers f fd) (GT : FnOk P w K mg base CX0 2 fT fdT ["thing"] spIsText) (kT : PySem.W.keepIn K (.ref fT) = true) (bT : Binds K fdT ["thing"] []) (gT : mg "is_text" = some (.ref fT))
    (mi : mg "isinstance" = none) (mt : mg "tuple" = none) (ml : mg "len" = none) (ma : mg "all" = none) (mst : mg "set" = none) (g2 : ∃ t, mg "LEAST_ANSWERS" = some (.int 2 t)) (g6 : ∃ t, mg "MOST_ANSWERS" = some (.int 6 t)) : FnOk P w K mg base CX0 3 f fd ["thing"] spAreAnswers := by
  obtain ⟨t2, g2⟩ := g2
  obtain ⟨t6, g6⟩ := g6
  refine F.ok scAreAnswers (fun vs H Q E h => ?_) (fun cdv A outer s H vs Q E hr h => ?_)
  · obtain ⟨x, rfl, _⟩ := h
    rfl
  · obtain ⟨x, rfl, hx, hw, q⟩ := h
    obtain ⟨t, ty, _, _, _, k4⟩ := hx.ty (K := K)
    refine ⟨_, pss_cons (ps_if (PW.pt (pw_or (pt_not (pt_val (isb (i := 0) mi mt PyProof.Rows.boot_tuple))) (pw_or1 (pt_not (pt_chain op_le op_le (pe_glob (v := .int 2) (by rfl) g2 ⟨_, rfl⟩) (pe_callB call_len_seq (by rfl) ml PySem.boot_len (pa_cons (pv 0) pa_nil)) (pe_glob (v := .int 6) (by rfl) g6 ⟨_, rfl⟩)))))) (pss_one (ps_ret pe_bl)) pss_nil)
      (pss_one (ps_ret (pe_and (pe_callB (cr_all rfl) (by rfl) ma (by decide +kernel) (pa_cons (pe_lc (own := [("each", 1)]) (g := gName 1) rfl scAreAnswers.nd (pi_tup (pv 0)) (blkOk_by (N := ["thing", "each"]) (sc := defScope sAreAnswers) (by decide +kernel))
        (fun _ _ _ _ _ => pg_name (i := 1) scAreAnswers.nd rfl (Or.inl rfl)) (fun _ _ _ _ _ => pts_nil) (fun _ _ _ _ _ => pe_call GT hr (by rfl) gT kT bT .nil pass0 (pa_cons (pv 1) pa_nil))) pa_nil))
        (pe_one (pe_cmpR op_eq (pe_lenTexts (by rfl) ml (by rfl) mst (pv 0)) (pe_callB call_len_seq (by rfl) ml PySem.boot_len (pa_cons (pv 0) pa_nil)) (nomark _)))))), ?_⟩
    refine ⟨_, rfl, _, _, _, _, _, rfl, .ty "tuple", ty, kit_ty k4, _, rfl, ?_⟩
    unfold answersV at q
    cases ht : tupV H x with
    | none =>
      rw [ht] at q
      exact iteT (q H (Same.refl H))
    | some ws =>
      rw [ht] at q
      obtain ⟨a, rfl, ha⟩ := tupV_of ht
      have hw' := hw ws ht
      refine iteF ⟨_, rfl, a, ws, rfl, .inr (SqT.of ha), _, _, rfl, rfl, _, rfl, ?_⟩
      have q' : ∀ H', Same H H' → Q (.bl (decide (2 ≤ ws.length) && decide (ws.length ≤ 6) && ws.all textV && decide (unlike (ws.map strV) ws.length = ws.length))) H' := q
      cases h1 : decide (2 ≤ ws.length) with
      | false =>
        rw [h1, Bool.false_and, Bool.false_and, Bool.false_and] at q'
        have e1 : decide ((2 : Int) ≤ ws.length) = false := by
          have := of_decide_eq_false h1
          exact decide_eq_false (by omega)
        rw [e1]
        exact iteF ⟨_, rfl, iteT (q' H (Same.refl H))⟩
      | true =>
        have e1 : decide ((2 : Int) ≤ ws.length) = true := by
          have := of_decide_eq_true h1
          exact decide_eq_true (by omega)
        rw [e1]
        refine iteT ⟨_, _, rfl, rfl, _, rfl, ?_⟩
        cases h2 : decide (ws.length ≤ 6) with
        | false =>
          rw [h1, h2, Bool.and_false, Bool.false_and, Bool.false_and] at q'
          have e2 : decide ((ws.length : Int) ≤ 6) = false := by
            have := of_decide_eq_false h2
            exact decide_eq_false (by omega)
          rw [e2]
          exact iteT (q' H (Same.refl H))
        | true =>
          rw [h1, h2, Bool.and_true, Bool.true_and] at q'
          have l6 : ws.length ≤ 6 := of_decide_eq_true h2
          have e2 : decide ((ws.length : Int) ≤ 6) = true := decide_eq_true (by omega)
          rw [e2]
          refine iteF ⟨_, rfl, a, rfl, ⟨ws, SqT.of ha⟩, fun D hD => ?_⟩
          refine lc_it (walk_tup (xs := ws)) (fun i H' => (∀ b o, b ≠ D → H b = some o → H' b = some o) ∧ H' D = some (.lst (((ws.take i).map textV).map V.bl))) ⟨fun b o n e => ?_, upd_same⟩ (fun i H' _ h => SqT.of (h.1 a _ (fun z => by rw [z, hD] at ha; cases ha) ha)) ?_ ?_
          · rw [upd_ne n]
            exact e
          · rintro i x H1 H2 hi ⟨k, hd⟩ ⟨rfl, hc⟩
            have aD : ∀ {b : Addr} {o : HO}, H b = some o → b ≠ D := fun {b o} e z => by rw [z, hD] at e; cases e
            have sm : Same H H2 := fun b o e => k b o (aD e) e
            refine ⟨rfl, _, rfl, x, rfl, (hw' x (List.mem_of_getElem? hc)).same sm, fun H3 s3 => ⟨_, s3 _ _ hd, ?_, fun b o n e => ?_, ?_⟩⟩
            · rw [List.length_map, List.length_map, List.length_take, sizeLine_eq]
              omega
            · rw [upd_ne n]
              exact s3 _ _ (k b o n e)
            · rw [upd_same, List.take_add_one, hc, List.map_append, List.map_append]
              rfl
          · rintro H1 ⟨k, hd⟩
            have sm : Same H H1 := fun b o e => k b o (fun z => by rw [z, hD] at e; cases e) e
            rw [List.take_of_length_le (Nat.le_refl _)] at hd
            refine ⟨D, _, rfl, SqL.of hd, _, rfl, ?_⟩
            have e5 : ((ws.map textV).all id) = ws.all textV := by
              rw [List.all_map]
              rfl
            rw [e5]
            cases h3 : ws.all textV with
            | false =>
              rw [h3, Bool.false_and] at q'
              exact iteF (q' H1 sm)
            | true =>
              rw [h3, Bool.true_and] at q'
              have ha1 := sm _ _ ha
              refine iteT ⟨_, rfl, a, ws.map strV, rfl, ?_, by rw [List.length_map]; omega, _, rfl, a, ws, rfl, .inr (SqT.of ha1), rfl, ?_⟩
              · rw [← strs_of h3]
                exact SqT.of ha1
              · have e6 : decide (V.int ((unlike (ws.map strV) (ws.map strV).length : Nat) : Int) = V.int ((ws.length : Nat) : Int)) = decide (unlike (ws.map strV) ws.length = ws.length) := by
                  rw [List.length_map]
                  exact decide_eq_decide.mpr ⟨fun z => Int.ofNat.inj (V.int.inj z), fun z => by rw [z]⟩
                rw [e6]
                exact q' H1 sm
end
end Pk
/-! ### what own errors say of themselves: str(e), and {x!s} -/
namespace Pk
open PySem PySem.Spec L2
section
variable {X : Cx}
/-- {x!s} of a text -/
def tFmtS (te : TE) : TE := fun σ H Q => te σ H fun x H1 => ∃ y : Str, x = .str y ∧ y.length ≤ sizeLine ∧ Q (.str y) H1
theorem pe_fmtS {e : Expr} {te : TE} {pos : Pos} (he : PE X e te) : PE X (.FormattedValue e 115 none pos) (tFmtS te) := by
  constructor
  intro pins s σ H Q I h
  refine wpAny_FormattedValue_s (thn (he.run pins s σ H _ I h) ?_)
  rintro v s1 ⟨x, H1, I1, r1, y, rfl, hz, q⟩
  obtain ⟨t, rfl⟩ := r1
  have fin : ∀ (t' : Tok) (tk : Nat), wpAny (model X.prog X.w) X.A (formatField (.str y t') Str.empty) (EP X pins σ Q) X.xe { s1 with toks := tk } := fun t' tk =>
    wpAny_formatField_str (s := { s1 with toks := tk }) ⟨.str y, H1, I1.tok _, ⟨_, rfl⟩, q⟩ ⟨.str y, H1, I1.tok _, ⟨_, rfl⟩, q⟩ hz
  refine wpAny_habitSame_str (fin t s1.toks) (fin _ _)
variable {k : Nat} {f C : Addr} {fd : FuncData} {sp : Sp} {e : Expr} {te : TE} {p pos : Pos}
/-- str(e), e a kept error whose class says how it is told -/
def tStrErr (C : Addr) (sp : Sp) (te : TE) : TE := fun σ H Q => te σ H fun x H1 => ∃ (a : Addr) (d : Option Addr), x = .ref a ∧ H1 a = some (ExH (.ref C) d a) ∧ DictOk H1 d ∧ sp [.ref a] H1 (fun v H2 => (∃ z, v = .str z) ∧ Q v H2) E0
theorem pe_strErr (F : FnOk X.prog X.w X.K X.mg X.base CX0 k f fd ["self"] sp) (hr : Room (k + 2) X.A) (hs : PySem.W.findIn X.K (.ref C) "__str__" = some (some (.ref f))) (hf : PySem.W.isFn X.K (.ref f) = true) (hb : Binds X.K fd ["self"] []) (hg : Gl X "str") (hm : X.mg "str" = none) (he : PE X e te)
    (na : starEach [e] X.env = (false, eval e X.env) :: starEach [] X.env := by rfl) : PE X (.Call (.Name "str" p) [e] [] pos) (tStrErr C sp te) := by
  constructor
  intro pins s σ H Q I h
  refine PyProof.Rows.Call_ (ld_blt I hg hm PyProof.Rows.boot_str ?_)
  refine PyProof.Rows.callWith_type1 (PyProof.Rows.args_cons (thn (he.run pins s σ H _ I h) ?_) na) na rfl
  rintro v s1 ⟨x, H1, I1, r1, a, d, rfl, ha, hd, q⟩
  cases (show v = Value.ref a from r1)
  obtain ⟨oe, od, J, -⟩ := held_at I1 ha hd
  refine PyProof.Rows.args_nil (PySem.W.kso_call (by have := hr.un; show X.A.in1.in1.units < cLine; have e1 := (hr.in1.in1).un; omega) I1.kIn J hs hf ?_)
  refine wpAny_call (codeAny_mono (F.run _ X.stack s1 H1 ⟨[.ref a], []⟩ [.ref a] [.ref a] _ E0 hr.in1.in1 I1.env0.in1.in1 (hb s1 [.ref a] I1.kIn rfl) (.cons rfl .nil) q) fun r s' hq => ?_)
  cases r with
  | error e => exact hq.elim
  | ok fl =>
    cases fl with
    | ret u =>
      obtain ⟨v, H2, I2, rv, ⟨z, rfl⟩, q2⟩ := I1.after hq
      obtain ⟨t, rfl⟩ := rv
      exact ⟨.str z, H2, I2, ⟨t, rfl⟩, q2⟩
    | next => exact False.elim hq
    | brk => exact False.elim hq
    | cont => exact False.elim hq
end
end Pk
namespace Pk
open PySem L2
/-! ### calls with keywords, of defs with defaults -/
section
variable {K : PySem.W.Frag} {x qual : Str} {params : Arguments} {body : List Stmt} {scope : Scope} {dvs : List V} {f : Addr} {fd : FuncData} {ps : List Str}
theorem kbnD (F : FunD K x qual params body scope dvs [] f fd) (n : Nat) (ks : List Str) (g : {α : Type} → List α → List α → List α → List α) (hd : dvs ≠ [])
    (hrel : ∀ {vs ds zs : List V} {us its ws : List Value}, Vals vs us → Vals ds its → Vals zs ws → Vals (g vs ds zs) (g us its ws))
    (h : ∀ (T : Addr) (kV doc pm : Value) (an : Option Addr) (cdv ct : Value) (us its ws : List Value), us.length = n → its.length = dvs.length → ws.length = ks.length →
      ∃ k, bindArgs (PySem.W.fnOf x qual params body scope (.ref T) kV doc pm an cdv ct) ⟨us, ks.zip ws⟩ = seqItems? (.ref T) >>= k ∧ k (some its.toArray) = pure (ps.zip (g us its ws))) :
    ∃ its : List Value, KBn K fd ps n ks (fun us ws => g us its ws) (fun vs zs => g vs dvs zs) := by
  obtain ⟨oc, od, dV, kV, doc, pm, an, cdv, ct, osl, rfl, lk, hcd, hD, hK⟩ := F.ex
  rcases hD with ⟨e, _⟩ | ⟨_, T, o, its, m, rfl, lT, oT, rT⟩
  · exact absurd e hd
  · refine ⟨its, ⟨fun s us ws X l1 l2 => ?_, fun r1 r2 => hrel r1 rT r2⟩⟩
    obtain ⟨k, e1, e2⟩ := h T kV doc pm an cdv ct us its ws l1 rT.length.symm l2
    refine BindsTo.of_looks fun M => ?_
    rw [e1]
    exact looks_items X lT oT (.of_pure e2)
end
section
variable {X : Cx} {CX : CXT} {k : Nat} {f : Addr} {fd : FuncData} {ps ks : List Str} {sp : Sp} {E : XK} {x : Str} {p pos : Pos} {kws : List Keyword} {tk : TA} {g : List Value → List Value → List Value} {gV : List V → List V → List V}
theorem pe_callN0 (F : FnOk X.prog X.w X.K X.mg X.base CX k f fd ps sp) (hr : Room k X.A) (hg : Gl X x) (hm : X.mg x = some (.ref f)) (hk : PySem.W.keepIn X.K (.ref f) = true) (hb : KBn X.K fd ps 0 ks g gV) (hx : Passes CX X E)
    (hkw : PK X kws tk) (hall : (backToKw pos (keywordEach kws X.env)).all (·.1.isSome) = true := by rfl) (hks : (backToKw pos (keywordEach kws X.env)).filterMap (·.1) = ks := by rfl) (hdb : (x == ("__debug__" : Str)) = false := by decide)
    (hpl : ((backTo pos (starEach [] X.env)).any (·.1) || (backToKw pos (keywordEach kws X.env)).any (·.1.isNone)) = false := by rfl) :
    PE X (.Call (.Name x p) [] kws pos) (tCallN 0 ks.length sp gV E tNil tk) := by
  constructor
  intro pins s σ H Q I h
  refine wpAny_Call_Name_kw (ld_glob I hg hm ?_ hdb)
  refine PySem.W.callWith_KW0 (h₀ := X.base) I.ok.mod.kin hk hall (thn (hkw.run pos pins s σ H _ I h) ?_) hpl
  rintro ws s2 ⟨zs, H2, I2, rz, l1, l2, q2⟩
  refine ⟨I2.kIn, ?_⟩
  rw [hks]
  exact run_fnN (us := []) (vs := []) F hr hb hx I2 .nil rz l1 l2 q2
theorem pe_callK0 (F : FnOk X.prog X.w X.K X.mg X.base CX k f fd ps sp) (hr : Room k X.A) (hg : Gl X x) (hm : X.mg x = some (.ref f)) (hk : PySem.W.keepIn X.K (.ref f) = true) (hb : KBinds X.K fd ps ks g gV) (hx : Passes CX X E)
    (hkw : PK X kws tk) (hall : (backToKw pos (keywordEach kws X.env)).all (·.1.isSome) = true := by rfl) (hks : (backToKw pos (keywordEach kws X.env)).filterMap (·.1) = ks := by rfl) (hdb : (x == ("__debug__" : Str)) = false := by decide)
    (hpl : ((backTo pos (starEach [] X.env)).any (·.1) || (backToKw pos (keywordEach kws X.env)).any (·.1.isNone)) = false := by rfl) :
    PE X (.Call (.Name x p) [] kws pos) (tCallK sp gV E tNil tk) := by
  constructor
  intro pins s σ H Q I h
  refine wpAny_Call_Name_kw (ld_glob I hg hm ?_ hdb)
  refine PySem.W.callWith_KW0 (h₀ := X.base) I.ok.mod.kin hk hall (thn (hkw.run pos pins s σ H _ I h) ?_) hpl
  rintro ws s2 ⟨zs, H2, I2, rz, q2⟩
  refine ⟨I2.kIn, ?_⟩
  rw [hks]
  exact run_fnk (us := []) (vs := []) F hr hb hx I2 .nil rz q2
/-- a def of one parameter, called by its name or by place -/
theorem kbinds_one {K : PySem.W.Frag} {nm ql pr : Str} {st : Stmt} {f : Addr} {fd : FuncData} (F : Fun K nm ql st f fd)
    (h1 : ∀ (kV doc pm : Value) (an : Option Addr) (cdv ct u : Value), bindArgs (PySem.W.fnOf nm ql (defArgs st) (defBody st) (defScope st) .none kV doc pm an cdv ct) ⟨[], [(pr, u)]⟩ = pure [(pr, u)])
    (h2 : ∀ (kV doc pm : Value) (an : Option Addr) (cdv ct u : Value), bindArgs (PySem.W.fnOf nm ql (defArgs st) (defBody st) (defScope st) .none kV doc pm an cdv ct) ⟨[u], []⟩ = pure [(pr, u)]) :
    KBinds K fd [pr] [pr] (fun us ws => us ++ ws) (fun vs zs => vs ++ zs) := by
  obtain ⟨oc, od, kV, doc, pm, an, cdv, ct, osl, rfl, lk, hcd⟩ := F.ex
  exact ⟨fun s us ws _ hl => match us, ws, hl with
    | [], [u], _ => .of_eq (h1 kV doc pm an cdv ct u)
    | [u], [], _ => .of_eq (h2 kV doc pm an cdv ct u), fun r1 r2 => r1.append r2⟩
end
end Pk
namespace Pk
open PySem L2
/-! ### questions.py: a question made -/
def manyV (H : Hp) (an : V) : Int := (((tupV H an).getD []).length : Nat)
/-- the first part that can't be there -/
def wrongP (H : Hp) (nm mt an ri to ma ki : V) : Str :=
  if nameV nm = false then "name" else if nameV mt = false then "matter" else if answersV H an = false then "answers" else if whole ri 0 (manyV H an - 1) = false then "right" else if whole to 1 9 = false then "toil" else if whole ma 1 9 = false then "marks" else if nameE ki = false then "kin" else ""
def qFs (nm mt an ri to ma ki : V) : List (Str × V) := [("name", nm), ("matter", mt), ("answers", an), ("right", ri), ("toil", to), ("marks", ma), ("kin", ki)]
theorem qFs_put (nm mt an ri to ma ki : V) : putF "kin" ki (putF "marks" ma (putF "toil" to (putF "right" ri (putF "answers" an (putF "matter" mt (putF "name" nm [])))))) = qFs nm mt an ri to ma ki := by kernel_rfl
theorem put_le {f : Str} {v : V} {fs : List (Str × V)} {n : Nat} (h : fs.length ≤ n) : (putF f v fs).length ≤ n + 1 := by
  have := length_putF f v fs
  omega
/-- a thing, and, of a tuple, the things in it -/
def Thgs (H : Hp) (x : V) : Prop := Thg H x ∧ ∀ ws, tupV H x = some ws → ∀ v ∈ ws, Thg H v
theorem Thgs.same {H H' : Hp} {x : V} (h : Thgs H x) (s : Same H H') : Thgs H' x := ⟨h.1.same s, fun ws e v hv => (h.2 ws ((h.1.tupS s).symm.trans e) v hv).same s⟩
structure Parts (H : Hp) (nm mt an ri to ma ki : V) : Prop where
  nm : Thg H nm
  mt : Thg H mt
  an : Thgs H an
  ri : Thg H ri
  to : Thg H to
  ma : Thg H ma
  ki : Thg H ki
theorem Parts.same {H H' : Hp} {nm mt an ri to ma ki : V} (h : Parts H nm mt an ri to ma ki) (s : Same H H') : Parts H' nm mt an ri to ma ki := ⟨h.nm.same s, h.mt.same s, h.an.same s, h.ri.same s, h.to.same s, h.ma.same s, h.ki.same s⟩
theorem Parts.wrong {H H' : Hp} {nm mt an ri to ma ki : V} (h : Parts H nm mt an ri to ma ki) (s : Same H H') : wrongP H' nm mt an ri to ma ki = wrongP H nm mt an ri to ma ki := by
  have e := h.an.1.tupS s
  unfold wrongP answersV manyV
  rw [e]
def spQInit (CQ cE : Addr) : Sp := fun vs H Q E => ∃ (x dx : Addr) (nm mt an ri to ma ki : V), vs = [.ref x, nm, mt, an, ri, to, ma, ki] ∧ H x = some (.ins CQ dx []) ∧ Parts H nm mt an ri to ma ki ∧
  ∀ H', Same H H' → (wrongP H nm mt an ri to ma ki = "" → Q .non (upd H' x (.ins CQ dx (qFs nm mt an ri to ma ki)))) ∧
    (wrongP H nm mt an ri to ma ki ≠ "" → ∀ d, H' d = none → E (.ref cE) (some d) (upd H' d (.xd [(("part" : Str), .str (wrongP H nm mt an ri to ma ki))])))
abbrev VaLine : List Value := [.type "ValueError", .type "Exception", .type "BaseException", .type "object"]
abbrev psQ : List Str := ["self", "name", "matter", "answers", "right", "toil", "marks", "kin"]
abbrev dvQ : List V := [.int 0, .int 5, .int 1, .str ""]
structure QCls (K : PySem.W.Frag) (CQ : Addr) : Prop where
  cls : Cls K CQ
  no : ∀ f ∈ ["name", "matter", "answers", "right", "toil", "marks", "kin"], NoAttr K CQ f
section
variable {P : Program} {w : World} {K : PySem.W.Frag} {mg : Str → Option Value} {base : Heap}
theorem scQInit : FnScope psQ psQ (defScope sQInit) := ⟨rfl, rfl, rfl, by decide +kernel, rfl, by decide +kernel, by decide +kernel⟩
theorem ok_qInit {f fN fW fA fE CQ cE fI : Addr} {fd fdN fdW fdA fdE : FuncData} (F : FunD K "__init__" "Question.__init__" (defArgs sQInit) (defBody sQInit) (defScope sQInit) dvQ [] f fd)
    (T : Of_part.Tx K mg "BadQuestion" "BadQuestion.__init__" cE fI "ValueError" "ValueError.__new__" "ValueError.__init__" VaLine) (C : QCls K CQ)
    (GN : FnOk P w K mg base CX0 1 fN fdN ["thing"] spIsName) (kN : PySem.W.keepIn K (.ref fN) = true) (bN : Binds K fdN ["thing"] []) (gN : mg "is_name" = some (.ref fN))
    (GA : FnOk P w K mg base CX0 3 fA fdA ["thing"] spAreAnswers) (kA : PySem.W.keepIn K (.ref fA) = true) (bA : Binds K fdA ["thing"] []) (gA : mg "are_answers" = some (.ref fA))
    (GW : FnOk P w K mg base CX0 2 fW fdW ["thing", "least", "most"] spIsWhole) (kW : PySem.W.keepIn K (.ref fW) = true) (bW : ∃ ds, Vals ([] : List V) ds ∧ Binds K fdW ["thing", "least", "most"] ds) (gW : mg "is_whole" = some (.ref fW))
    (GE : FnOk P w K mg base CX0 2 fE fdE ["thing"] spIsNameE) (kE : PySem.W.keepIn K (.ref fE) = true) (bE : Binds K fdE ["thing"] []) (gE : mg "is_name_or_empty" = some (.ref fE))
    (ml : mg "len" = none) (mt : mg "tuple" = none) : FnOk P w K mg base (L2.CX P w) 5 f fd psQ (spQInit CQ cE) := by
  obtain ⟨ds, hds, bW⟩ := bW
  refine F.ok scQInit (fun vs H Q E h => ?_) (fun cdv A outer s H vs Q E hr h => ?_)
  · obtain ⟨x, dx, nm, mt, an, ri, to, ma, ki, rfl, _⟩ := h
    rfl
  · obtain ⟨x, dx, nm, mtr, an, ri, to, ma, ki, rfl, hx, hp, q⟩ := h
    have r1 : Room 1 _ := hr.mono (by decide)
    have r2 : Room 2 _ := hr.mono (by decide)
    have r3 : Room 3 _ := hr.mono (by decide)
    refine ⟨_, pss_cons (ps_if (pt_not (pt_val (pe_call GN r1 (by rfl) gN kN bN .nil pass0 (pa_cons (pv 1) pa_nil)))) (pss_one (ps_raise_part rfl T hr (takes_of rfl rfl rfl rfl) (by exact (pa_cons pe_str pa_nil)))) pss_nil)
      (pss_cons (ps_if (pt_not (pt_val (pe_call GN r1 (by rfl) gN kN bN .nil pass0 (pa_cons (pv 2) pa_nil)))) (pss_one (ps_raise_part rfl T hr (takes_of rfl rfl rfl rfl) (by exact (pa_cons pe_str pa_nil)))) pss_nil)
      (pss_cons (ps_if (pt_not (pt_val (pe_call GA r3 (by rfl) gA kA bA .nil pass0 (pa_cons (pv 3) pa_nil)))) (pss_one (ps_raise_part rfl T hr (takes_of rfl rfl rfl rfl) (by exact (pa_cons pe_str pa_nil)))) pss_nil)
      (pss_cons (ps_if (pt_not (pt_val (pe_call GW r2 (by rfl) gW kW bW hds pass0 (pa_cons (pv 4) (pa_cons pe_int (pa_cons (pe_op op_sub (pe_callB call_len_seq (by rfl) ml PySem.boot_len (pa_cons (pv 3) pa_nil)) pe_int) pa_nil)))))) (pss_one (ps_raise_part rfl T hr (takes_of rfl rfl rfl rfl) (by exact (pa_cons pe_str pa_nil)))) pss_nil)
      (pss_cons (ps_if (pt_not (pt_val (pe_call GW r2 (by rfl) gW kW bW hds pass0 (pa_cons (pv 5) (pa_cons pe_int (pa_cons pe_int pa_nil)))))) (pss_one (ps_raise_part rfl T hr (takes_of rfl rfl rfl rfl) (by exact (pa_cons pe_str pa_nil)))) pss_nil)
      (pss_cons (ps_if (pt_not (pt_val (pe_call GW r2 (by rfl) gW kW bW hds pass0 (pa_cons (pv 6) (pa_cons pe_int (pa_cons pe_int pa_nil)))))) (pss_one (ps_raise_part rfl T hr (takes_of rfl rfl rfl rfl) (by exact (pa_cons pe_str pa_nil)))) pss_nil)
      (pss_cons (ps_if (pt_not (pt_val (pe_call GE r2 (by rfl) gE kE bE .nil pass0 (pa_cons (pv 7) pa_nil)))) (pss_one (ps_raise_part rfl T hr (takes_of rfl rfl rfl rfl) (by exact (pa_cons pe_str pa_nil)))) pss_nil)
      (pss_cons (ps_fld (pv 0) (pv 1) rfl)
      (pss_cons (ps_fld (pv 0) (pv 2) rfl)
      (pss_cons (ps_fld (pv 0) (pe_callTy call_tupleT (by rfl) mt PyProof.Rows.boot_tuple (pa_cons (pv 3) pa_nil)) rfl)
      (pss_cons (ps_fld (pv 0) (pv 4) rfl)
      (pss_cons (ps_fld (pv 0) (pv 5) rfl)
      (pss_cons (ps_fld (pv 0) (pv 6) rfl)
      (pss_one (ps_fld (pv 0) (pv 7) rfl)))))))))))))), ?_⟩
    have bad : ∀ {wd : Str}, wrongP H nm mtr an ri to ma ki = wd → wd ≠ "" → ∀ {H' : Hp}, Same H H' → ∀ d, H' d = none → E (.ref cE) (some d) (upd H' d (.xd [(("part" : Str), .str wd)])) := fun {wd} e n {H'} s' d hd => by
      have := (q H' s').2 (by rw [e]; exact n) d hd
      rw [e] at this
      exact this
    refine ⟨_, rfl, nm, rfl, hp.nm, fun H1 s1 => ⟨_, rfl, ?_⟩⟩
    cases h1 : nameV nm with
    | false => exact iteT ⟨_, rfl, fun d hd => bad (by unfold wrongP; rw [if_pos h1]) (by decide) s1 d hd⟩
    | true =>
    refine iteF ⟨_, rfl, mtr, rfl, hp.mt.same s1, fun H2 s2 => ⟨_, rfl, ?_⟩⟩
    have s12 : Same H H2 := s1.trans s2
    cases h2 : nameV mtr with
    | false => exact iteT ⟨_, rfl, fun d hd => bad (by unfold wrongP; rw [if_neg (by rw [h1]; decide), if_pos h2]) (by decide) s12 d hd⟩
    | true =>
    refine iteF ⟨_, rfl, an, rfl, (hp.an.same s12).1, (hp.an.same s12).2, fun H3 s3 => ⟨_, rfl, ?_⟩⟩
    have s13 : Same H H3 := s12.trans s3
    have e3 : answersV H2 an = answersV H an := by
      unfold answersV
      rw [hp.an.1.tupS s12]
    rw [e3]
    cases h3 : answersV H an with
    | false => exact iteT ⟨_, rfl, fun d hd => bad (by unfold wrongP; rw [if_neg (by rw [h1]; decide), if_neg (by rw [h2]; decide), if_pos h3]) (by decide) s13 d hd⟩
    | true =>
    have ht : ∃ ws, tupV H an = some ws := by
      unfold answersV at h3
      cases e : tupV H an with
      | none => rw [e] at h3; cases h3
      | some ws => exact ⟨ws, rfl⟩
    obtain ⟨ws, ht⟩ := ht
    obtain ⟨a, rfl, ha⟩ := tupV_of ht
    have hm : manyV H (.ref a) = (ws.length : Int) := by
      unfold manyV
      rw [ht]
      rfl
    refine iteF ⟨_, rfl, _, rfl, a, ws, rfl, .inr (SqT.of (s13 _ _ ha)), _, _, rfl, rfl, ri, 0, _, rfl, hp.ri.same s13, _, rfl, ?_⟩
    cases h4 : whole ri 0 (manyV H (.ref a) - 1) with
    | false =>
      rw [hm] at h4
      rw [h4]
      exact iteT ⟨_, rfl, fun d hd => bad (by unfold wrongP; rw [if_neg (by rw [h1]; decide), if_neg (by rw [h2]; decide), if_neg (by rw [h3]; decide), if_pos (by rw [hm]; exact h4)]) (by decide) s13 d hd⟩
    | true =>
    have h4' := h4
    rw [hm] at h4'
    rw [h4']
    refine iteF ⟨_, rfl, to, 1, 9, rfl, hp.to.same s13, _, rfl, ?_⟩
    cases h5 : whole to 1 9 with
    | false => exact iteT ⟨_, rfl, fun d hd => bad (by unfold wrongP; rw [if_neg (by rw [h1]; decide), if_neg (by rw [h2]; decide), if_neg (by rw [h3]; decide), if_neg (by rw [h4]; decide), if_pos h5]) (by decide) s13 d hd⟩
    | true =>
    refine iteF ⟨_, rfl, ma, 1, 9, rfl, hp.ma.same s13, _, rfl, ?_⟩
    cases h6 : whole ma 1 9 with
    | false => exact iteT ⟨_, rfl, fun d hd => bad (by unfold wrongP; rw [if_neg (by rw [h1]; decide), if_neg (by rw [h2]; decide), if_neg (by rw [h3]; decide), if_neg (by rw [h4]; decide), if_neg (by rw [h5]; decide), if_pos h6]) (by decide) s13 d hd⟩
    | true =>
    refine iteF ⟨_, rfl, ki, rfl, hp.ki.same s13, fun H4 s4 => ⟨_, rfl, ?_⟩⟩
    have s14 : Same H H4 := s13.trans s4
    cases h7 : nameE ki with
    | false => exact iteT ⟨_, rfl, fun d hd => bad (by unfold wrongP; rw [if_neg (by rw [h1]; decide), if_neg (by rw [h2]; decide), if_neg (by rw [h3]; decide), if_neg (by rw [h4]; decide), if_neg (by rw [h5]; decide), if_neg (by rw [h6]; decide), if_pos h7]) (by decide) s14 d hd⟩
    | true =>
    have good := (q H4 s14).1 (by unfold wrongP; rw [if_neg (by rw [h1]; decide), if_neg (by rw [h2]; decide), if_neg (by rw [h3]; decide), if_neg (by rw [h4]; decide), if_neg (by rw [h5]; decide), if_neg (by rw [h6]; decide), if_neg (by rw [h7]; decide)])
    have ax : a ≠ x := fun e => by
      rw [e, hx] at ha
      cases ha
    have ha4 := s14 _ _ ha
    rw [← qFs_put] at good
    refine iteF ⟨_, rfl, _, rfl, x, CQ, dx, _, rfl, s14 _ _ hx, C.cls, C.no _ (by decide), by decide, ?_⟩
    refine ⟨_, rfl, _, rfl, x, CQ, dx, _, rfl, upd_same, C.cls, C.no _ (by decide), Nat.lt_of_le_of_lt (put_le (Nat.le_refl 0)) (by decide), ?_⟩
    refine ⟨_, rfl, a, ws, rfl, ?_, _, rfl, x, CQ, dx, _, rfl, upd_same, C.cls, C.no _ (by decide), Nat.lt_of_le_of_lt (put_le (put_le (Nat.le_refl 0))) (by decide), ?_⟩
    · exact SqT.of (by rw [upd_ne ax, upd_ne ax]; exact ha4)
    refine ⟨_, rfl, _, rfl, x, CQ, dx, _, rfl, upd_same, C.cls, C.no _ (by decide), Nat.lt_of_le_of_lt (put_le (put_le (put_le (Nat.le_refl 0)))) (by decide), ?_⟩
    refine ⟨_, rfl, _, rfl, x, CQ, dx, _, rfl, upd_same, C.cls, C.no _ (by decide), Nat.lt_of_le_of_lt (put_le (put_le (put_le (put_le (Nat.le_refl 0))))) (by decide), ?_⟩
    refine ⟨_, rfl, _, rfl, x, CQ, dx, _, rfl, upd_same, C.cls, C.no _ (by decide), Nat.lt_of_le_of_lt (put_le (put_le (put_le (put_le (put_le (Nat.le_refl 0)))))) (by decide), ?_⟩
    refine ⟨_, rfl, _, rfl, x, CQ, dx, _, rfl, upd_same, C.cls, C.no _ (by decide), Nat.lt_of_le_of_lt (put_le (put_le (put_le (put_le (put_le (put_le (Nat.le_refl 0))))))) (by decide), ?_⟩
    rw [upd_upd, upd_upd, upd_upd, upd_upd, upd_upd, upd_upd]
    exact good
end
end Pk
namespace Pk
open PySem L2
/-! ### how a question's parts come in -/
abbrev FunQ (K : PySem.W.Frag) (f : Addr) (fd : FuncData) : Prop := FunD K "__init__" "Question.__init__" (defArgs sQInit) (defBody sQInit) (defScope sQInit) dvQ [] f fd
section
variable {K : PySem.W.Frag} {f : Addr} {fd : FuncData}
theorem bQ7 (F : FunQ K f fd) : ∃ ds, Vals ([] : List V) ds ∧ Binds K fd psQ ds :=
  F.binds1 8 4 (fun z => nomatch z) rfl fun T kV doc pm an cdv ct us its l1 l2 => match us, its, l1, l2 with
    | [_, _, _, _, _, _, _, _], [_, _, _, _], _, _ => ⟨_, rfl, rfl⟩
theorem bQ3 (F : FunQ K f fd) : ∃ ds, Vals dvQ ds ∧ Binds K fd psQ ds :=
  F.binds1 4 0 (fun z => nomatch z) rfl fun T kV doc pm an cdv ct us its l1 l2 => match us, its, l1, l2 with
    | [_, _, _, _], [_, _, _, _], _, _ => ⟨_, rfl, rfl⟩
abbrev ksQ : List Str := ["kin", "toil", "name", "marks", "answers", "right", "matter"]
def gQ7 {α : Type} (us _its ws : List α) : List α := us ++ ((ws.drop 2).take 1 ++ ((ws.drop 6).take 1 ++ ((ws.drop 4).take 1 ++ ((ws.drop 5).take 1 ++ ((ws.drop 1).take 1 ++ ((ws.drop 3).take 1 ++ ws.take 1))))))
def gQ1 {α : Type} (us its ws : List α) : List α := us ++ (its.take 1 ++ (ws.take 1 ++ its.drop 2))
theorem kQ7 (F : FunQ K f fd) : ∃ its : List Value, KBn K fd psQ 1 ksQ (fun us ws => gQ7 us its ws) (fun vs zs => gQ7 vs dvQ zs) :=
  kbnD F 1 ksQ gQ7 (fun z => nomatch z) (fun r1 _ r3 => r1.append (((r3.drop 2).take 1).append (((r3.drop 6).take 1).append (((r3.drop 4).take 1).append (((r3.drop 5).take 1).append (((r3.drop 1).take 1).append (((r3.drop 3).take 1).append (r3.take 1))))))))
    fun T kV doc pm an cdv ct us its ws l1 l2 l3 => match us, its, ws, l1, l2, l3 with
    | [_], [_, _, _, _], [_, _, _, _, _, _, _], _, _, _ => ⟨_, rfl, rfl⟩
theorem kQ1 (F : FunQ K f fd) : ∃ its : List Value, KBn K fd psQ 4 ["toil"] (fun us ws => gQ1 us its ws) (fun vs zs => gQ1 vs dvQ zs) :=
  kbnD F 4 ["toil"] gQ1 (fun z => nomatch z) (fun r1 r2 r3 => r1.append ((r2.take 1).append ((r3.take 1).append (r2.drop 2))))
    fun T kV doc pm an cdv ct us its ws l1 l2 l3 => match us, its, ws, l1, l2, l3 with
    | [_, _, _, _], [_, _, _, _], [_], _, _, _ => ⟨_, rfl, rfl⟩
end
/-! ### what a bad question says -/
/-! ### the law's own making -/
def someP (i : Int) (ri to ma ki : V) : V × V × V × V := if i = 2 then (.int 0, to, .int 1, .str "") else if i = 3 then (.int 0, .int 5, .int 1, .str "") else (ri, to, ma, ki)
def wrongI (H : Hp) (i : Int) (nm mt an ri to ma ki : V) : Str := match someP i ri to ma ki with
  | (r, t, m, k) => wrongP H nm mt an r t m k
def qFsI (i : Int) (nm mt an ri to ma ki : V) : List (Str × V) := match someP i ri to ma ki with
  | (r, t, m, k) => qFs nm mt an r t m k
def PAt (H : Hp) (p : Addr) (nm mt an ri to ma ki : V) : Prop := H p = some (.tup [nm, mt, an, ri, to, ma, ki]) ∧ Parts H nm mt an ri to ma ki
def spMade (CQ cE : Addr) : Sp := fun vs H Q E => ∃ (i : Int) (p : Addr) (nm mt an ri to ma ki : V), vs = [.int i, .ref p] ∧ 0 ≤ i ∧ i ≤ 3 ∧ PAt H p nm mt an ri to ma ki ∧
  (∀ (x dx : Addr) (H' : Hp), Same H H' → wrongI H i nm mt an ri to ma ki = "" → H' x = some (.ins CQ dx (qFsI i nm mt an ri to ma ki)) → Q (.ref x) H') ∧
  (∀ (d : Addr) (H' : Hp), Same H H' → wrongI H i nm mt an ri to ma ki ≠ "" → H' d = some (.xd [(("part" : Str), .str (wrongI H i nm mt an ri to ma ki))]) → E (.ref cE) (some d) H')
section
variable {P : Program} {w : World} {K : PySem.W.Frag} {mg : Str → Option Value} {base : Heap}
theorem thg_empty {H : Hp} : Thg H (.str "") := .str _ (by decide) fun c hc => by
  rw [show ("" : Str).cps.toList = [] from empty_tl] at hc
  cases hc
theorem made_fin {H : Hp} {CQ cE : Addr} {Q : VK} {E : XK} {nm mt an r t m k : V} (hp : Parts H nm mt an r t m k)
    (q1 : ∀ (x dx : Addr) (H' : Hp), Same H H' → wrongP H nm mt an r t m k = "" → H' x = some (.ins CQ dx (qFs nm mt an r t m k)) → Q (.ref x) H')
    (q2 : ∀ (d : Addr) (H' : Hp), Same H H' → wrongP H nm mt an r t m k ≠ "" → H' d = some (.xd [(("part" : Str), .str (wrongP H nm mt an r t m k))]) → E (.ref cE) (some d) H') :
    ∀ x dx, H x = none → H dx = none → dx ≠ x → spQInit CQ cE [.ref x, nm, mt, an, r, t, m, k] (upd (upd H dx (.own x)) x (.ins CQ dx [])) (fun v H2 => v = .non ∧ Q (.ref x) H2) E := fun x dx hx hdx ne => by
  have s0 : Same H (upd (upd H dx (.own x)) x (.ins CQ dx [])) := fun b o e => by
    rw [upd_ne (ne_of_none e hx), upd_ne (ne_of_none e hdx)]
    exact e
  have ew := hp.wrong s0
  refine ⟨x, dx, nm, mt, an, r, t, m, k, rfl, upd_same, hp.same s0, fun H' s' => ⟨fun e => ⟨rfl, ?_⟩, fun n d hd => ?_⟩⟩
  · rw [ew] at e
    exact q1 x dx _ (fun b o e => by rw [upd_ne (ne_of_none e hx)]; exact s' b o (s0 b o e)) e upd_same
  · rw [ew] at n ⊢
    refine q2 d _ (fun b o e => ?_) n upd_same
    have := s' b o (s0 b o e)
    rw [upd_ne (ne_of_none this hd)]
    exact this
end
end Pk
namespace Pk
open PySem L2
/-- what is said of a making -/
def valsI (i : Int) (nm mt an ri to ma ki : V) : List V := match someP i ri to ma ki with
  | (r, t, m, k) => [nm, mt, an, r, t, m, k]
theorem look_name (nm mt an r t m k : V) : (qFs nm mt an r t m k).lookup ("name" : Str) = some nm := by kernel_rfl
theorem look_matter (nm mt an r t m k : V) : (qFs nm mt an r t m k).lookup ("matter" : Str) = some mt := by kernel_rfl
theorem look_answers (nm mt an r t m k : V) : (qFs nm mt an r t m k).lookup ("answers" : Str) = some an := by kernel_rfl
theorem look_right (nm mt an r t m k : V) : (qFs nm mt an r t m k).lookup ("right" : Str) = some r := by kernel_rfl
theorem look_toil (nm mt an r t m k : V) : (qFs nm mt an r t m k).lookup ("toil" : Str) = some t := by kernel_rfl
theorem look_marks (nm mt an r t m k : V) : (qFs nm mt an r t m k).lookup ("marks" : Str) = some m := by kernel_rfl
theorem look_kin (nm mt an r t m k : V) : (qFs nm mt an r t m k).lookup ("kin" : Str) = some k := by kernel_rfl
theorem wrong_len (H : Hp) (nm mt an r t m k : V) : (wrongP H nm mt an r t m k).length ≤ 10 := by
  unfold wrongP
  repeat' split
  all_goals decide +kernel
section
variable {P : Program} {w : World} {K : PySem.W.Frag} {mg : Str → Option Value} {base : Heap} {cB fI : Addr} {c : Nat → Addr}
end
end Pk
namespace Pk
open PySem L2
/-! ### answers that go round -/
def rotL {α : Type} (l : List α) (k : Nat) : List α := l.drop k ++ l.take k
theorem rot_zero {α : Type} (l : List α) : rotL l 0 = l := by
  unfold rotL
  rw [List.drop_zero, List.take_zero, List.append_nil]
theorem rot_len {α : Type} (l : List α) (k : Nat) : (rotL l k).length = l.length := by
  unfold rotL
  rw [List.length_append, List.length_drop, List.length_take]
  omega
theorem rot_step {α : Type} {l : List α} {k : Nat} (h : k < l.length) : (rotL l k).drop 1 ++ (rotL l k).take 1 = rotL l (k + 1) := by
  unfold rotL
  rw [List.drop_eq_getElem_cons h, List.cons_append, List.drop_succ_cons, List.drop_zero, List.take_succ_cons, List.take_zero, List.append_assoc, List.take_append_getElem]
theorem rot_perm {α : Type} (l : List α) (k : Nat) : (rotL l k).Perm l := by
  unfold rotL
  exact List.perm_append_comm.trans (by rw [List.take_append_drop])
theorem rot_map {α β : Type} (f : α → β) (l : List α) (k : Nat) : (rotL l k).map f = rotL (l.map f) k := by
  unfold rotL
  rw [List.map_append, List.map_drop, List.map_take]
theorem rot_mem {α : Type} {l : List α} {k : Nat} {x : α} (h : x ∈ rotL l k) : x ∈ l := (rot_perm l k).mem_iff.mp h
theorem unlike_nodup {zs : List Str} (nd : zs.Nodup) : ∀ i, i ≤ zs.length → unlike zs i = i
  | 0, _ => rfl
  | i + 1, h => by
    have hi : i < zs.length := h
    have e1 : zs.getD i Str.empty = zs[i] := by rw [List.getD_eq_getElem?_getD, List.getElem?_eq_getElem hi]; rfl
    have no : seen zs i (zs.getD i Str.empty) = false := by
      unfold seen
      rw [e1, Bool.eq_false_iff]
      intro z
      obtain ⟨y, hy, e⟩ := List.any_eq_true.mp z
      have e' : y = zs[i] := eq_of_beq e
      subst e'
      obtain ⟨j, hj, ej⟩ := List.mem_take_iff_getElem.mp hy
      have hj' : j < i := by omega
      exact List.pairwise_iff_getElem.mp nd j i (by omega) hi hj' ej
    unfold unlike
    rw [no, unlike_nodup nd i (by omega)]
    rfl
theorem nodup_take {zs : List Str} : ∀ i, i ≤ zs.length → unlike zs i = i → (zs.take i).Nodup
  | 0, _, _ => by rw [List.take_zero]; exact List.nodup_nil
  | i + 1, h, e => by
    have hi : i < zs.length := h
    have e1 : zs.getD i Str.empty = zs[i] := by rw [List.getD_eq_getElem?_getD, List.getElem?_eq_getElem hi]; rfl
    have le := unlike_le zs i
    unfold unlike at e
    cases hs : seen zs i (zs.getD i Str.empty) with
    | true =>
      rw [hs, if_pos rfl] at e
      omega
    | false =>
      rw [hs, if_neg (by decide)] at e
      have ih := nodup_take (zs := zs) i (by omega) (by omega)
      rw [List.take_add_one, List.getElem?_eq_getElem hi, List.nodup_append]
      refine ⟨ih, List.pairwise_singleton _ _, fun x hx y hy z => ?_⟩
      have hy' : y = zs[i] := List.mem_singleton.mp hy
      unfold seen at hs
      rw [e1, Bool.eq_false_iff] at hs
      exact hs (List.any_eq_true.mpr ⟨x, hx, by rw [z, hy']; exact beq_self_eq_true _⟩)
theorem nodup_of_unlike {zs : List Str} (e : unlike zs zs.length = zs.length) : zs.Nodup := by
  have := nodup_take zs.length (Nat.le_refl _) e
  rwa [List.take_length] at this
theorem answers_is {ws : List V} (h : answersL ws = true) : 2 ≤ ws.length ∧ ws.length ≤ 6 ∧ ws.all textV = true ∧ (ws.map strV).Nodup := by
  unfold answersL at h
  simp only [Bool.and_eq_true, decide_eq_true_iff] at h
  refine ⟨h.1.1.1, h.1.1.2, h.1.2, nodup_of_unlike ?_⟩
  rw [List.length_map]
  exact h.2
theorem answers_of {ws : List V} (h2 : 2 ≤ ws.length) (h6 : ws.length ≤ 6) (ht : ws.all textV = true) (nd : (ws.map strV).Nodup) : answersL ws = true := by
  unfold answersL
  have e := unlike_nodup nd ws.length (by rw [List.length_map]; exact Nat.le_refl _)
  rw [decide_eq_true h2, decide_eq_true h6, ht, decide_eq_true e]
  rfl
theorem answers_rot {ws : List V} (h : answersL ws = true) (k : Nat) : answersL (rotL ws k) = true := by
  obtain ⟨h2, h6, ht, nd⟩ := answers_is h
  refine answers_of (by rw [rot_len]; exact h2) (by rw [rot_len]; exact h6) (List.all_eq_true.mpr fun v hv => List.all_eq_true.mp ht v (rot_mem hv)) ?_
  rw [rot_map]
  exact (rot_perm _ _).nodup_iff.mpr nd
/-- the place of the right one, one step on -/
theorem place_step {r n : Int} (k : Nat) (n0 : 0 < n) : (if 0 < (r - k) % n then (r - k) % n - 1 else n - 1) = (r - ((k + 1 : Nat) : Int)) % n := by
  have b0 := Int.emod_nonneg (r - k) (show n ≠ 0 by omega)
  have b1 := Int.emod_lt_of_pos (r - k) n0
  have e : (r - ((k + 1 : Nat) : Int)) % n = ((r - k) % n - 1) % n := by
    rw [show r - ((k + 1 : Nat) : Int) = (r - k) - 1 by omega]
    exact (Int.emod_sub_emod (r - k) n 1).symm
  rw [e]
  generalize (r - (k : Int)) % n = x at b0 b1 ⊢
  by_cases h : 0 < x
  · rw [if_pos h, Int.emod_eq_of_lt (by omega) (by omega)]
  · rw [if_neg h, show x = 0 by omega, show (0 - 1 : Int) = (n - 1) + n * (-1) by omega, Int.add_mul_emod_self_left, Int.emod_eq_of_lt (by omega) (by omega)]
end Pk
namespace Pk
open PySem L2
/-! ### how things are shown -/
theorem from_le : ∀ (ts : List Str) (k : Nat) (acc : Str), (textFrom k acc ts).length ≤ acc.length + (ts.map fun t => t.length + 2).sum
  | [], k, acc => by
    show acc.length ≤ _
    omega
  | t :: r, k, acc => by
    have h := from_le r (k + 1) (acc ++ (if k > 0 then ", " else "" : String) ++ t)
    rw [app_len, app_len] at h
    have h2 : ((if k > 0 then ", " else "" : String) : Str).length ≤ 2 := by
      split <;> decide +kernel
    rw [List.map_cons, List.sum_cons]
    have h3 : textFrom k acc (t :: r) = textFrom (k + 1) (acc ++ (if k > 0 then ", " else "" : String) ++ t) r := rfl
    rw [h3]
    omega
theorem list_le (ts : List Str) : (listText ts).length ≤ 2 + (ts.map fun t => t.length + 2).sum := by
  unfold listText
  rw [app_len, show ("]" : Str).length = 1 by decide +kernel]
  have := from_le ts 0 "["
  rw [show ("[" : Str).length = 1 by decide +kernel] at this
  omega
/-- fit to be shown -/
structure Shows (K : PySem.W.Frag) (H : Hp) (x : V) (d : PyData) : Prop where
  dq : Dq K H x d
  sh : d.showable = true
  dp : d.depth ≤ 64
  sz : d.shown.length ≤ sizeLine
theorem repr_le {z : Str} (hl : z.length ≤ 100) (ho : Sgn z) : (reprText z).length ≤ 1002 := by
  have h := StrLaws.reprText_len z fun c hc => by
    have := ho.ok c hc
    omega
  omega
theorem bools_le : ∀ bs : List Bool, ((PyData.shownAll (bs.map .bool)).map fun t => t.length + 2).sum ≤ 7 * bs.length
  | [] => Nat.le_refl _
  | b :: r => by
    have ih := bools_le r
    show ((PyData.shown (.bool b)).length + 2) + ((PyData.shownAll (r.map .bool)).map fun t => t.length + 2).sum ≤ 7 * (r.length + 1)
    have : (PyData.shown (.bool b)).length ≤ 5 := by
      cases b <;> decide +kernel
    omega
theorem bools_show : ∀ bs : List Bool, PyData.showableAll (bs.map .bool) = true
  | [] => by simp [PyData.showableAll]
  | b :: r => by simp [PyData.showableAll, PyData.showable, bools_show r]
theorem bools_depth : ∀ bs : List Bool, PyData.depthAll (bs.map .bool) = 0
  | [] => by simp [PyData.depthAll]
  | b :: r => by simp [PyData.depthAll, PyData.depth, bools_depth r]
theorem bools_dict : ∀ bs : List Bool, PyData.hasDictAll (bs.map .bool) = false
  | [] => by simp [PyData.hasDictAll]
  | b :: r => by simp [PyData.hasDictAll, PyData.hasDict, bools_dict r]
theorem bools_dp {K : PySem.W.Frag} {H : Hp} : ∀ bs : List Bool, DpAll K H (bs.map V.bl) (bs.map .bool)
  | [] => .nil
  | b :: r => .cons (.bl b) (bools_dp r)
/-- a list of truths -/
theorem shows_bools {K : PySem.W.Frag} {H : Hp} {p : Addr} (bs : List Bool) (h : H p = some (.lst (bs.map V.bl))) (n : bs.length ≤ 100) : Shows K H (.ref p) (.list (bs.map .bool)) where
  dq := .of (.lst (SqL.of h) (bools_dp bs)) (by simp [PyData.hasDict, bools_dict])
  sh := by simp [PyData.showable, bools_show]
  dp := by simp [PyData.depth, bools_depth]
  sz := by
    have h1 := list_le (PyData.shownAll (bs.map .bool))
    have h2 := bools_le bs
    have e : (PyData.list (bs.map .bool)).shown = listText (PyData.shownAll (bs.map .bool)) := by simp [PyData.shown]
    rw [e, sizeLine_eq]
    omega
theorem Itm.shows {K : PySem.W.Frag} {H : Hp} {x : V} (h : Itm H x) : ∃ d, Shows K H x d := by
  cases h with
  | non => exact ⟨.none, .of .non rfl, rfl, by decide, by decide +kernel⟩
  | bl b => exact ⟨.bool b, .of (.bl b) (by simp [PyData.hasDict]), by simp [PyData.showable], by simp [PyData.depth], by cases b <;> decide +kernel⟩
  | int i h =>
    refine ⟨.int i, .of (.int i) (by simp [PyData.hasDict]), decide_eq_true (by omega), by simp [PyData.depth], ?_⟩
    have e : (PyData.int i).shown = Str.ofString (toString i) := by simp [PyData.shown]
    rw [e]
    exact int_text_fits (by omega)
  | str z hl ho =>
    refine ⟨.str z, .of (.str z) (by simp [PyData.hasDict]), by simp [PyData.showable], by simp [PyData.depth], ?_⟩
    have e : (PyData.str z).shown = reprText z := by simp [PyData.shown]
    have := repr_le hl ho
    rw [e, sizeLine_eq]
    omega
  | @lst a v h hv =>
    rcases hv with rfl | ⟨z, rfl, hl, ho⟩
    · refine ⟨.list [.int 1], .of (.lst (SqL.of h) (.cons (.int 1) .nil)) (by simp [PyData.hasDict, PyData.hasDictAll]), by decide +kernel, by decide +kernel, by decide +kernel⟩
    · refine ⟨.list [.str z], .of (.lst (SqL.of h) (.cons (.str z) .nil)) (by simp [PyData.hasDict, PyData.hasDictAll]), by simp [PyData.showable, PyData.showableAll], by simp [PyData.depth, PyData.depthAll], ?_⟩
      have e : (PyData.list [.str z]).shown = listText [reprText z] := by simp [PyData.shown, PyData.shownAll]
      have h1 := list_le [reprText z]
      have h2 := repr_le hl ho
      rw [e, sizeLine_eq]
      simp at h1
      omega
  | tup h => exact ⟨.tuple [.int 1], .of (.tup (SqT.of h) (.cons (.int 1) .nil)) (by simp [PyData.hasDict, PyData.hasDictAll]), by decide +kernel, by decide +kernel, by decide +kernel⟩
  | dct h => exact ⟨.dict [], .emp h, by decide +kernel, by decide +kernel, by decide +kernel⟩
theorem Dq.same {K : PySem.W.Frag} {H H' : Hp} {x : V} {d : PyData} (s : Same H H') (h : Itm H x) (g : Shows K H x d) : True := trivial
end Pk
namespace Pk
open PySem L2
theorem room_show {k : Nat} {A : Around} (hr : Room k A) : A.units + 70 < cLine := by
  have := hr.un
  omega
/-- a reading that asks for more -/
theorem pe_imp {X : Cx} {e : Expr} {t : TE} (t' : TE) (h : PE X e t) (k : ∀ σ H Q, t' σ H Q → t σ H Q) : PE X e t' := ⟨fun pins s σ H Q I w => h.run pins s σ H Q I (k σ H Q w)⟩
/-- signs as texts -/
def sgnD (l : List Nat) : PyData := .list (l.map fun c => .str ⟨#[c]⟩)
theorem sgn_lay : ∀ l : List Nat, (∀ c ∈ l, c < 0x110000) → PyData.canLayAll0 (l.map fun c => .str ⟨#[c]⟩) = true
  | [], _ => by simp [PyData.canLayAll0]
  | c :: r, h => by
    have h1 : PyData.strOk ⟨#[c]⟩ = true := (sok_iff _).mpr fun d hd => by
      rw [List.mem_singleton.mp hd]
      exact h c List.mem_cons_self
    have h2 := sgn_lay r fun d hd => h d (List.mem_cons_of_mem _ hd)
    simp [PyData.canLayAll0, PyData.canLay0, h1, h2]
theorem sgn_depth : ∀ l : List Nat, PyData.depthAll (l.map fun c => .str ⟨#[c]⟩) = 0
  | [] => by simp [PyData.depthAll]
  | c :: r => by simp [PyData.depthAll, PyData.depth, sgn_depth r]
theorem sgn_shaped (l : List Nat) (h : ∀ c ∈ l, c < 0x110000) : SeqAt.shaped (sgnD l) = true := by
  unfold sgnD
  simp [SeqAt.shaped, PyData.canLay0, PyData.depth, sgn_lay l h, sgn_depth]
theorem sgn_dp {K : PySem.W.Frag} {H : Hp} {p : Addr} {l : List Nat} (h : H p = some (.lst (l.map fun c => V.str ⟨#[c]⟩))) : Dp K H (.ref p) (sgnD l) := by
  refine .lst (SqL.of h) ?_
  clear h
  induction l with
  | nil => exact .nil
  | cons c r ih => exact .cons (.str _) ih
theorem sgn_nil (l : List Nat) : PyData.eqv (sgnD l) (sgnD []) = decide (l = []) := by
  cases l with
  | nil => simp [sgnD, PyData.eqv, PyData.eqvAll]
  | cons c r => simp [sgnD, PyData.eqv, PyData.eqvAll]
theorem name_filter (z : Str) : nameT z = (decide (0 < z.length) && (decide (z.length < 9) && decide (z.cps.toList.filter (fun c => !decide (c ∈ letters.cps.toList)) = []))) := by
  unfold nameT
  have e : (z.cps.toList.all fun c => decide (c ∈ letters.cps.toList)) = decide (z.cps.toList.filter (fun c => !decide (c ∈ letters.cps.toList)) = []) := by
    rw [Bool.eq_iff_iff, List.all_eq_true, decide_eq_true_iff, List.filter_eq_nil_iff]
    constructor
    · intro h c hc
      rw [h c hc]
      decide
    · intro h c hc
      have := h c hc
      simpa using this
  rw [e]
  have e1 : decide (1 ≤ z.length) = decide (0 < z.length) := decide_eq_decide.mpr (by omega)
  have e2 : decide (z.length ≤ 8) = decide (z.length < 9) := decide_eq_decide.mpr (by omega)
  rw [e1, e2, Bool.and_assoc]
theorem sign_ten {z : Str} (ho : Sgn z) : z.cps.toList.all signOk = !decide (10 ∈ z.cps.toList) := by
  rw [Bool.eq_iff_iff, List.all_eq_true]
  constructor
  · intro h
    have : ¬ (10 ∈ z.cps.toList) := fun hm => by
      have := h 10 hm
      revert this
      decide
    rw [decide_eq_false this]
    rfl
  · intro h c hc
    have hn : ¬ (10 ∈ z.cps.toList) := by
      intro hm
      rw [decide_eq_true hm] at h
      cases h
    rcases ho c hc with q | q
    · unfold signOk
      rw [decide_eq_true q.1, decide_eq_true q.2.1, decide_eq_false q.2.2]
      rfl
    · rw [q] at hc
      exact absurd hc hn
theorem text_law {z : Str} (ho : Sgn z) : textT z = ((decide (0 < z.length) && (decide (z.length < 31) && !decide (10 ∈ z.cps.toList))) && (!decide (z.cps.toList[0]? = some 32) && !decide (z.cps.toList.getLast? = some 32))) := by
  unfold textT
  rw [sign_ten ho]
  have e1 : decide (1 ≤ z.length) = decide (0 < z.length) := decide_eq_decide.mpr (by omega)
  have e2 : decide (z.length ≤ 30) = decide (z.length < 31) := decide_eq_decide.mpr (by omega)
  rw [e1, e2]
  cases decide (0 < z.length) <;> cases decide (z.length < 31) <;> cases decide (10 ∈ z.cps.toList) <;> cases decide (z.cps.toList[0]? = some 32) <;> cases decide (z.cps.toList.getLast? = some 32) <;> rfl

theorem one_blank (c : Nat) : decide (V.str ⟨#[c]⟩ = V.str " ") = decide (c = 32) := decide_eq_decide.mpr ⟨fun z => by
  have e := congrArg TL.tl (V.str.inj z)
  rw [blank_tl] at e
  exact (List.cons.inj e).1, fun z => by rw [z]; exact congrArg V.str (by decide +kernel)⟩
theorem last_at {l : List Nat} (h : l ≠ []) : atI l (-1) = some (l.getLast h) :=
  (congrArg (fun x => atI x (-1)) (List.dropLast_concat_getLast h).symm).trans (atI_last _ _)
end Pk
namespace Pk
open PySem L2
/-! ### methods called by keywords alone; calls that let nothing out -/
section
variable {X : Cx} {CX : CXT} {k : Nat} {f C : Addr} {fd : FuncData} {ps ks : List Str} {sp : Sp} {E : XK} {m : Str} {p pos apos : Pos} {o : Expr} {ta : TE} {kws : List Keyword} {tk : TA} {g : List Value → List Value → List Value} {gV : List V → List V → List V}
theorem pass_no : Passes (L2.CX X.prog X.w) X E0 := fun _ _ _ _ _ _ _ ⟨_, _, _, _, _, _, _, _, _, _, _, _, h⟩ => h.elim
def tMethN (C : Addr) (m : Str) (nk : Nat) (sp : Sp) (gV : List V → List V → List V) (E : XK) (ta : TE) (tk : TA) : TE := fun σ H Q => ta σ H fun x H1 => ∃ a dx fs, x = .ref a ∧ H1 a = some (.ins C dx fs) ∧ fs.lookup m = none ∧ tk σ H1 fun zs H2 => zs.length = nk ∧ sp (gV [x] zs) H2 Q E
theorem pe_methN0 {pl : Sem Bool} (he : PE X o ta) (c : Cls X.K C) (hm : Meth X.K C m f) (F : FnOk X.prog X.w X.K X.mg X.base CX k f fd ps sp) (hr : Room k X.A) (hb : KBn X.K fd ps 1 ks g gV) (hx : Passes CX X E)
    (hkw : PK X kws tk) (hall : (backToKw pos (keywordEach kws X.env)).all (·.1.isSome) = true := by rfl) (hks : (backToKw pos (keywordEach kws X.env)).filterMap (·.1) = ks := by rfl)
    (hpl : ((backTo pos (starEach [] X.env)).any (·.1) || (backToKw pos (keywordEach kws X.env)).any (·.1.isNone)) = false := by rfl)
    (ht : eval (.Call (.Attribute o m apos) [] kws pos) X.env = (do
      let ov ← eval o X.env
      standAt apos.atName
      let (f, first) ← holding [ov] (getMethod ov m pl)
      callWith pos f first (backTo pos (starEach [] X.env)) (backToKw pos (keywordEach kws X.env))) := by rfl) :
    PE X (.Call (.Attribute o m apos) [] kws pos) (tMethN C m ks.length sp gV E ta tk) := by
  refine ⟨fun pins s σ H Q I h => ?_⟩
  refine PySem.W.methodCall_KW (pl := pl) (thn (he.run pins s σ H _ I h) fun u s1 ⟨x, H1, I1, rx, a, dx, fs, ex, ea, l, q⟩ => ?_) ht
  subst ex
  obtain rfl : u = Value.ref a := rx
  refine getmeth_ok I1 ea c hm l ?_
  refine PySem.W.callWith_KW0 (first := [.ref a]) (h₀ := X.base) I.ok.mod.kin hm.kp hall (thn (hkw.run pos pins s1 σ H1 _ I1 q) ?_) hpl
  rintro ws s2 ⟨zs, H2, I2, rz, l2, q2⟩
  refine ⟨I2.kIn, ?_⟩
  rw [hks]
  exact run_fnN (us := [.ref a]) (vs := [.ref a]) F hr hb hx I2 (.cons rfl .nil) rz rfl l2 q2
end
end Pk
namespace Pk
open PySem L2
/-! ### a text without blanks at its ends -/
theorem strip_is (x : Str) : ∃ lo hi, lo ≤ hi ∧ hi ≤ x.length ∧ (Txt.stripChars x " ").cps.toList = (x.cps.toList.drop lo).take (hi - lo) ∧ (lo = hi ∨ (x.cps.getD lo 0 ≠ 32 ∧ x.cps.getD (hi - 1) 0 ≠ 32)) := by
  have e : Txt.stripChars x " " = Txt.stripBy (" " : Str).cps.contains true true x := rfl
  obtain ⟨a1, a2, a3⟩ := PyProof.Rows.lo_facts (" " : Str).cps.contains x
  obtain ⟨b1, b2, b3, b4⟩ := PyProof.Rows.hi_facts (" " : Str).cps.contains x _ a1
  have no : ∀ c : Nat, (" " : Str).cps.contains c = false → c ≠ 32 := fun c h z => by
    rw [z] at h
    revert h
    decide +kernel
  rw [PyProof.Rows.stripBy_eq] at e
  refine ⟨_, _, b1, b2, ?_, ?_⟩
  · rw [e]
    show (x.cps.extract _ _).toList = _
    rw [Array.toList_extract]
  · rcases b4 with h | h
    · exact .inl h.symm
    · rcases a3 with g | g
      · exact .inl (by omega)
      · exact .inr ⟨no _ g, no _ h⟩
theorem getD_at {x : Str} {k : Nat} (h : k < x.length) : x.cps.toList[k]? = some (x.cps.getD k 0) := by
  have h' : k < x.cps.toList.length := by rw [← len_is]; exact h
  rw [← PyProof.Rows.getD_list, List.getD_eq_getElem?_getD, List.getElem?_eq_getElem h']
  rfl
/-- such a text of good signs is a TEXT, unless nothing is left -/
theorem strip_text {x : Str} (hl : x.length ≤ 30) (hs : ∀ c ∈ x.cps.toList, signOk c = true) (hn : Txt.stripChars x " " ≠ "") : textT (Txt.stripChars x " ") = true := by
  obtain ⟨lo, hi, h1, h2, e, h3⟩ := strip_is x
  have ll : x.cps.toList.length = x.length := (len_is x).symm
  have hlen : (Txt.stripChars x " ").length = hi - lo := by
    rw [len_is, e, List.length_take, List.length_drop, ll]
    omega
  have ne : lo ≠ hi := fun z => hn (TL.ext_tl (by
    rw [empty_tl]
    show (Txt.stripChars x " ").cps.toList = []
    rw [e, z, Nat.sub_self, List.take_zero]))
  obtain ⟨c1, c2⟩ := h3.resolve_left ne
  have g0 : (Txt.stripChars x " ").cps.toList[0]? = some (x.cps.getD lo 0) := by
    rw [e, List.getElem?_take, if_pos (by omega), List.getElem?_drop, Nat.add_zero]
    exact getD_at (by omega)
  have gl : (Txt.stripChars x " ").cps.toList.getLast? = some (x.cps.getD (hi - 1) 0) := by
    rw [List.getLast?_eq_getElem?, ← len_is, hlen, e, List.getElem?_take, if_pos (by omega), List.getElem?_drop, show lo + (hi - lo - 1) = hi - 1 by omega]
    exact getD_at (by omega)
  have al : (Txt.stripChars x " ").cps.toList.all signOk = true := List.all_eq_true.mpr fun c hc => by
    rw [e] at hc
    exact hs c (List.mem_of_mem_drop (List.mem_of_mem_take hc))
  unfold textT
  rw [g0, gl, al, hlen, decide_eq_true (show 1 ≤ hi - lo by omega), decide_eq_true (show hi - lo ≤ 30 by omega), decide_eq_false (fun z => c1 (Option.some.inj z)), decide_eq_false (fun z => c2 (Option.some.inj z))]
  rfl
/-- signs one by one, put together -/
theorem joins_of {p : Nat → Prop} {ys : List Str} (h : ∀ y ∈ ys, ∃ c, y = ⟨#[c]⟩ ∧ p c) : (Txt.join "" ys).length = ys.length ∧ ∀ c ∈ (Txt.join "" ys).cps.toList, p c := by
  constructor
  · rw [join0_len]
    induction ys with
    | nil => rfl
    | cons y r ih =>
      obtain ⟨c, rfl, _⟩ := h y List.mem_cons_self
      rw [List.map_cons, List.sum_cons, ih fun x hx => h x (List.mem_cons_of_mem _ hx), List.length_cons]
      show 1 + _ = _
      omega
  · intro c hc
    rw [show (Txt.join "" ys).cps.toList = TL.joinL (TL.tl "") (ys.map TL.tl) from by rw [TL.join_eq]; exact TL.tl_join "" ys, empty_tl] at hc
    obtain ⟨q, hq, hm⟩ := joinL_mem _ hc
    obtain ⟨y, hy, rfl⟩ := List.mem_map.mp hq
    obtain ⟨d, rfl, hd⟩ := h y hy
    have : c = d := List.mem_singleton.mp hm
    rw [this]
    exact hd
end Pk
namespace Pk
open PySem L2
/-! ### list + list, whatever they are read from -/
def rCatS (K : PySem.W.Frag) : R2 := fun x y H Q => ∃ l b xs zs, x = .ref l ∧ y = .ref b ∧ SqL K H l xs ∧ SqL K H b zs ∧ xs.length + zs.length ≤ sizeLine ∧ ∀ p, H p = none → Q (.ref p) (upd H p (.lst (xs ++ zs)))
theorem op_catS {X : Cx} : OpR X (binaryOp .Add) (rCatS X.K) := by
  rintro pins s σ H x y v u Q I rx ry ⟨l, b, xs, zs, ex, ey, hl, hb, hz, q⟩
  subst ex ey
  cases rx
  cases ry
  obtain ⟨its, r, ⟨⟨c1, d1, dt1, sl1⟩, n1, e1, ec1, ed1, et1⟩, _⟩ := I.list hl
  obtain ⟨its2, r2, ⟨⟨c2, d2, dt2, sl2⟩, n2, e2, ec2, ed2, et2⟩, _⟩ := I.list hb
  dsimp only at ec1 ed1 et1 ec2 ed2 et2
  subst ec1 ed1 et1 ec2 ed2 et2
  have k1 := r.length
  have k2 := r2.length
  refine concat_meets ⟨_, e1, rfl⟩ ⟨_, e2, rfl⟩ noFill_list_add seq_list_add PySem.F.slot_list_add PySem.F.entry_list_add (PySem.F.args_list_add_2 _ _)
    (PyProof.Rows.list_addW l b its.toArray its2.toArray n1 n2 none none sl1 sl2 (by rw [List.size_toArray, List.size_toArray]; omega)) ⟨e1, e2, ?_⟩
  rw [show its.toArray ++ its2.toArray = (its ++ its2).toArray by simp]
  exact ⟨.ref _, _, I.lnew (t' := s.toks) (r.append r2) (by rw [List.length_append]; omega), rfl, q _ I.fresh⟩
theorem cut_int {ns : List Int} {lo hi : Option Int} {x : V} (h : x ∈ cutV (ns.map V.int ++ [V.int 0]) lo hi) : ∃ i : Int, x = V.int i := by
  unfold cutV at h
  have h2 := List.mem_of_mem_drop (List.mem_of_mem_take h)
  rcases List.mem_append.mp h2 with h | h
  · obtain ⟨i, _, rfl⟩ := List.mem_map.mp h
    exact ⟨i, rfl⟩
  · exact ⟨0, List.mem_singleton.mp h⟩
end Pk
namespace Pk
open PySem L2
theorem cut_lo {L : List V} {i : Int} (i0 : 0 ≤ i) : cutV L none (some i) = L.take i.toNat := by
  obtain ⟨k, rfl⟩ := Int.eq_ofNat_of_zero_le i0
  unfold cutV
  rw [show HT.sIx L.length L.length (some (k : Int)) = min k L.length from HT.sIx_nat _ _ _]
  show (L.drop 0).take (min k L.length - 0) = _
  rw [List.drop_zero, Nat.sub_zero, Int.toNat_natCast, List.take_eq_take_iff]
  omega
theorem cut_hi {L : List V} {i : Int} (i0 : 0 ≤ i) : cutV L (some i) none = L.drop i.toNat := by
  obtain ⟨k, rfl⟩ := Int.eq_ofNat_of_zero_le i0
  unfold cutV
  rw [show HT.sIx L.length 0 (some (k : Int)) = min k L.length from HT.sIx_nat _ _ _]
  show (L.drop (min k L.length)).take (L.length - min k L.length) = _
  rw [List.take_of_length_le (by rw [List.length_drop]; omega), Int.toNat_natCast]
  by_cases h : k ≤ L.length
  · rw [Nat.min_eq_left h]
  · rw [Nat.min_eq_right (by omega), List.drop_of_length_le (Nat.le_refl _), List.drop_of_length_le (by omega)]
end Pk
namespace Pk
open PySem L2
/-! ### questions that can be there -/
structure Qok (H : Hp) (nm mt an ri to ma ki : V) : Prop where
  pa : Parts H nm mt an ri to ma ki
  ok : wrongP H nm mt an ri to ma ki = ""
section
variable {H H' : Hp} {nm mt an ri to ma ki : V}
theorem wr_all (hw : wrongP H nm mt an ri to ma ki = "") : nameV nm = true ∧ nameV mt = true ∧ answersV H an = true ∧ whole ri 0 (manyV H an - 1) = true ∧ whole to 1 9 = true ∧ whole ma 1 9 = true ∧ nameE ki = true := by
  unfold wrongP at hw
  cases h0 : nameV nm with
  | false => rw [h0, if_pos rfl] at hw; exact absurd hw (by decide)
  | true =>
  rw [h0, if_neg (by decide)] at hw
  cases h1 : nameV mt with
  | false => rw [h1, if_pos rfl] at hw; exact absurd hw (by decide)
  | true =>
  rw [h1, if_neg (by decide)] at hw
  cases h2 : answersV H an with
  | false => rw [h2, if_pos rfl] at hw; exact absurd hw (by decide)
  | true =>
  rw [h2, if_neg (by decide)] at hw
  cases h3 : whole ri 0 (manyV H an - 1) with
  | false => rw [h3, if_pos rfl] at hw; exact absurd hw (by decide)
  | true =>
  rw [h3, if_neg (by decide)] at hw
  cases h4 : whole to 1 9 with
  | false => rw [h4, if_pos rfl] at hw; exact absurd hw (by decide)
  | true =>
  rw [h4, if_neg (by decide)] at hw
  cases h5 : whole ma 1 9 with
  | false => rw [h5, if_pos rfl] at hw; exact absurd hw (by decide)
  | true =>
  rw [h5, if_neg (by decide)] at hw
  cases h6 : nameE ki with
  | false => rw [h6, if_pos rfl] at hw; exact absurd hw (by decide)
  | true => exact ⟨rfl, rfl, rfl, rfl, rfl, rfl, rfl⟩
theorem wr7 (h0 : nameV nm = true) (h1 : nameV mt = true) (h2 : answersV H an = true) (h3 : whole ri 0 (manyV H an - 1) = true) (h4 : whole to 1 9 = true) (h5 : whole ma 1 9 = true) (h6 : nameE ki = true) : wrongP H nm mt an ri to ma ki = "" := by
  unfold wrongP
  rw [h0, h1, h2, h3, h4, h5, h6]
  rfl
theorem whole_is {x : V} {lo hi : Int} (h : whole x lo hi = true) : ∃ i : Int, x = .int i ∧ lo ≤ i ∧ i ≤ hi := by
  cases x with
  | int i =>
    have h' : (decide (lo ≤ i) && decide (i ≤ hi)) = true := h
    rw [Bool.and_eq_true, decide_eq_true_iff, decide_eq_true_iff] at h'
    exact ⟨i, rfl, h'.1, h'.2⟩
  | _ => cases h
theorem whole_of {i lo hi : Int} (h1 : lo ≤ i) (h2 : i ≤ hi) : whole (.int i) lo hi = true := by
  show (decide (lo ≤ i) && decide (i ≤ hi)) = true
  rw [decide_eq_true h1, decide_eq_true h2]
  rfl
theorem Qok.same (q : Qok H nm mt an ri to ma ki) (s : Same H H') : Qok H' nm mt an ri to ma ki := ⟨q.pa.same s, (q.pa.wrong s).trans q.ok⟩
theorem manyV_at {a : Addr} {ws : List V} (h : H a = some (.tup ws)) : manyV H (.ref a) = (ws.length : Int) := by
  unfold manyV
  rw [tupV_at h]
  rfl
theorem answersV_at {a : Addr} {ws : List V} (h : H a = some (.tup ws)) : answersV H (.ref a) = answersL ws := by
  unfold answersV
  rw [tupV_at h]
/-- its answers and its right one -/
theorem Qok.ans (q : Qok H nm mt an ri to ma ki) : ∃ (a : Addr) (ws : List V) (r : Int), an = .ref a ∧ H a = some (.tup ws) ∧ answersL ws = true ∧ ri = .int r ∧ 0 ≤ r ∧ r < ws.length := by
  obtain ⟨_, _, h2, h3, _⟩ := wr_all q.ok
  obtain ⟨ws, hws⟩ : ∃ ws, tupV H an = some ws := by
    unfold answersV at h2
    cases e : tupV H an with
    | none => rw [e] at h2; cases h2
    | some ws => exact ⟨ws, rfl⟩
  obtain ⟨a, rfl, ha⟩ := tupV_of hws
  rw [answersV_at ha] at h2
  rw [manyV_at ha] at h3
  obtain ⟨r, rfl, r0, r1⟩ := whole_is h3
  exact ⟨a, ws, r, rfl, ha, h2, rfl, r0, by omega⟩
/-- other answers, another right one -/
theorem Qok.with (q : Qok H nm mt an ri to ma ki) (s : Same H H') {b : Addr} {vs : List V} {r : Int} (hb : H' b = some (.tup vs)) (ha : answersL vs = true) (ht : ∀ v ∈ vs, Thg H' v) (r0 : 0 ≤ r) (r1 : r < vs.length) : Qok H' nm mt (.ref b) (.int r) to ma ki := by
  obtain ⟨h0, h1, _, _, h4, h5, h6⟩ := wr_all q.ok
  refine ⟨⟨q.pa.nm.same s, q.pa.mt.same s, ⟨.tup hb, fun ws e => ?_⟩, .int r, q.pa.to.same s, q.pa.ma.same s, q.pa.ki.same s⟩, wr7 h0 h1 (by rw [answersV_at hb]; exact ha) (by rw [manyV_at hb]; exact whole_of r0 (by omega)) h4 h5 h6⟩
  rw [tupV_at hb] at e
  cases e
  exact ht
end
/-! ### what comes of turning and changing -/
inductive Out where
  | new (ws : List V) (r t m k : V)
  | part (z : Str)
  | kind
def OutK (CQ c5 c10 : Addr) (nm mt : V) (H : Hp) (Q : VK) (E : XK) : Out → Prop
  | .new ws r t m k => ∀ (y dy b : Addr) (H' : Hp), Same H H' → H' y = some (.ins CQ dy (qFs nm mt (.ref b) r t m k)) → H' b = some (.tup ws) → Qok H' nm mt (.ref b) r t m k → Q (.ref y) H'
  | .part z => ∀ (d : Addr) (H' : Hp), Same H H' → H' d = some (.xd [(("part" : Str), .str z)]) → E (.ref c5) (some d) H'
  | .kind => ∀ (d : Addr) (H' : Hp), Same H H' → H' d = some (.xd [(("wanted" : Str), .str "number")]) → E (.ref c10) (some d) H'
theorem OutK.same {CQ c5 c10 : Addr} {nm mt : V} {H H1 : Hp} {Q : VK} {E : XK} {o : Out} (h : OutK CQ c5 c10 nm mt H Q E o) (s : Same H H1) : OutK CQ c5 c10 nm mt H1 Q E o := by
  cases o with
  | new ws r t m k => exact fun y dy b H' s' => h y dy b H' (s.trans s')
  | part z => exact fun d H' s' => h d H' (s.trans s')
  | kind => exact fun d H' s' => h d H' (s.trans s')
def outTurned (ws : List V) (r : Int) (to ma ki th : V) : Out := match th with
  | .int i => .new (rotL ws (i % ws.length).toNat) (.int ((r - i % ws.length) % ws.length)) to ma ki
  | _ => .kind
def orV (x y : V) : V := if x = .non then y else x
def outChanged (H : Hp) (nm mt an ri to ma ki a b c d : V) : Out :=
  if wrongP H nm mt an (orV a ri) (orV b to) (orV c ma) (orV d ki) = "" then .new ((tupV H an).getD []) (orV a ri) (orV b to) (orV c ma) (orV d ki) else .part (wrongP H nm mt an (orV a ri) (orV b to) (orV c ma) (orV d ki))
abbrev TyLine : List Value := [.type "TypeError", .type "Exception", .type "BaseException", .type "object"]
def spTurned (CQ c5 c10 : Addr) : Sp := fun vs H Q E => ∃ (x dx a : Addr) (ws : List V) (r : Int) (nm mt to ma ki th : V), vs = [.ref x, th] ∧ H x = some (.ins CQ dx (qFs nm mt (.ref a) (.int r) to ma ki)) ∧ Qok H nm mt (.ref a) (.int r) to ma ki ∧ H a = some (.tup ws) ∧ Thg H th ∧ OutK CQ c5 c10 nm mt H Q E (outTurned ws r to ma ki th)
def spChanged (CQ c5 c10 : Addr) : Sp := fun vs H Q E => ∃ (x dx : Addr) (nm mt an ri to ma ki a b c d : V), vs = [.ref x, a, b, c, d] ∧ H x = some (.ins CQ dx (qFs nm mt an ri to ma ki)) ∧ Qok H nm mt an ri to ma ki ∧ Thg H a ∧ Thg H b ∧ Thg H c ∧ Thg H d ∧ OutK CQ c5 c10 nm mt H Q E (outChanged H nm mt an ri to ma ki a b c d)
def spAnswer (CQ : Addr) : Sp := fun vs H Q _ => ∃ (x dx a : Addr) (ws : List V) (r : Int) (v : V) (nm mt to ma ki : V), vs = [.ref x] ∧ H x = some (.ins CQ dx (qFs nm mt (.ref a) (.int r) to ma ki)) ∧ H a = some (.tup ws) ∧ 0 ≤ r ∧ ws[r.toNat]? = some v ∧ Q v H
/-- t[k:] + t[:k], t the answers -/
def tRot (CQ : Addr) : TE := fun σ H Q => ∃ (a : Addr) (ws : List V) (k : Nat) (x dx : Addr) (nm mt ri to ma ki : V), σ[0]? = some (some (.ref x)) ∧ H x = some (.ins CQ dx (qFs nm mt (.ref a) ri to ma ki)) ∧ σ[3]? = some (some (.int k)) ∧ H a = some (.tup ws) ∧ k < ws.length ∧ ws.length ≤ 6 ∧ (∀ (b : Addr) (H' : Hp), Same H H' → H' b = some (.tup (rotL ws k)) → Q (.ref b) H')
section
variable {P : Program} {w : World} {K : PySem.W.Frag} {mg : Str → Option Value} {base : Heap}
abbrev NTurned : List Str := ["self", "by", "many", "first", "answers", "right"]
/-! ### changed -/
abbrev NChanged : List Str := ["self", "right", "toil", "marks", "kin"]
/-- a field, or what was handed in in its place -/
def tOrF (CQ : Addr) (j : Nat) (f : Str) : TE := fun σ H Q => ∃ (x dx : Addr) (fs : List (Str × V)) (v y : V), σ[0]? = some (some (.ref x)) ∧ H x = some (.ins CQ dx fs) ∧ fs.lookup f = some y ∧ σ[j]? = some (some v) ∧ Q (orV v y) H
theorem pe_orF {X : Cx} {CQ : Addr} {e : Expr} {j : Nat} {f : Str} (C : Cls X.K CQ) (no : NoAttr X.K CQ f) (h : PE X e (tIf (tTest (tOp (fun x y H Q => y = .non ∧ Q (.bl (decide (x = .non))) H) (tVar j) (tC .non))) (tFld X.K (tVar 0) f) (tVar j))) : PE X e (tOrF CQ j f) := pe_imp _ h (by
  rintro σ H Q ⟨x, dx, fs, v, y, h0, hx, hf, hj, q⟩
  refine ⟨_, hj, rfl, _, rfl, ?_⟩
  unfold orV at q
  by_cases hv : v = .non
  · rw [if_pos hv] at q
    rw [decide_eq_true hv]
    exact iteT ⟨_, h0, x, CQ, dx, fs, y, rfl, hx, C, no, hf, q⟩
  · rw [if_neg hv] at q
    rw [decide_eq_false hv]
    exact iteF ⟨_, hj, q⟩)
end
end Pk
namespace Pk
open PySem L2
def spOf (CQ : Addr) : Sp := fun vs H Q _ => ∃ (p : Addr) (nm mt an ri to ma ki : V), vs = [.ref p] ∧ H p = some (.tup [nm, mt, an, ri, to, ma, ki]) ∧ Qok H nm mt an ri to ma ki ∧ ∀ (x dx : Addr) (H' : Hp), Same H H' → H' x = some (.ins CQ dx (qFs nm mt an ri to ma ki)) → Q (.ref x) H'
def spParts (CQ : Addr) : Sp := fun vs H Q _ => ∃ (x dx : Addr) (nm mt an ri to ma ki : V), vs = [.ref x] ∧ H x = some (.ins CQ dx (qFs nm mt an ri to ma ki)) ∧ ∀ (t : Addr) (H' : Hp), Same H H' → H' t = some (.tup [nm, mt, an, ri, to, ma, ki]) → Q (.ref t) H'
def SaidV (H : Hp) (nm mt : V) : Out → List V → Prop
  | .new ws r t m k, L => ∃ t2 b : Addr, L = [.str "told", .ref t2] ∧ H t2 = some (.tup [nm, mt, .ref b, r, t, m, k]) ∧ H b = some (.tup ws) ∧ Qok H nm mt (.ref b) r t m k
  | .part z, L => L = [.str "question", .str z]
  | .kind, L => L = [.str "kind", .str "number"]
structure QTy (K : PySem.W.Frag) (CQ : Addr) : Prop where
  ha : PySem.W.findIn K (.ref CQ) "__class__" = some (some (.builtin "object.__class__"))
  hn : PySem.W.specialIn K (.builtin "object.__class__") "__get__" = some (some (.builtin "getset_descriptor.__get__"))
  ht : PySem.W.takesIn K (.builtin "object.__class__") = some true
  hm : PySem.W.mroIn K CQ (.type "object") = some true
  hk : PySem.W.kitOne K (.ref CQ) (.ref CQ) = some true
section
variable {nm mt an r t m k : V}
theorem look_turned : (qFs nm mt an r t m k).lookup ("turned" : Str) = none := by kernel_rfl
theorem look_changed : (qFs nm mt an r t m k).lookup ("changed" : Str) = none := by kernel_rfl
theorem look_answer : (qFs nm mt an r t m k).lookup ("answer" : Str) = none := by kernel_rfl
end
section
variable {K : PySem.W.Frag} {f : Addr} {fd : FuncData}
def gC4 {α : Type} (us _its ws : List α) : List α := us ++ ((ws.drop 2).take 1 ++ ((ws.drop 3).take 1 ++ ((ws.drop 1).take 1 ++ ws.take 1)))
def gC1 {α : Type} (us its ws : List α) : List α := us ++ (its.take 2 ++ (ws.take 1 ++ its.drop 3))
end
section
variable {P : Program} {w : World} {K : PySem.W.Frag} {mg : Str → Option Value} {base : Heap} {cB fI fK : Addr} {c : Nat → Addr}
theorem scOf : FnScope ["_law_parts"] ["_law_parts"] (defScope sOf) := ⟨rfl, rfl, rfl, by decide +kernel, rfl, by decide +kernel, by decide +kernel⟩
theorem ok_of {f CQ c5 : Addr} {fd fdI : FuncData} (F : Fun K "_law_of" "_law_of" sOf f fd) (FI : FunQ K fI fdI) (GI : FnOk P w K mg base (L2.CX P w) 5 fI fdI psQ (spQInit CQ c5)) (M : Mk K CQ fI) (gQ : mg "Question" = some (.ref CQ)) : FnOk P w K mg base CX0 7 f fd ["_law_parts"] (spOf CQ) := by
  obtain ⟨d7, hd7, b7⟩ := bQ7 FI
  refine F.ok scOf (fun vs H Q E h => ?_) (fun cdv A outer s H vs Q E hr h => ?_)
  · obtain ⟨p, nm, mt, an, ri, to, ma, ki, rfl, _⟩ := h
    rfl
  · obtain ⟨p, nm, mt, an, ri, to, ma, ki, rfl, hp, hq, q⟩ := h
    refine ⟨_, pss_one (ps_ret (pe_make (E := E0) M GI hr (by rfl) gQ b7 hd7 pass_no (pa_cons (pe_ix ix_tup (pv 0) pe_int (fun _ _ => rfl)) (pa_cons (pe_ix ix_tup (pv 0) pe_int (fun _ _ => rfl)) (pa_cons (pe_ix ix_tup (pv 0) pe_int (fun _ _ => rfl)) (pa_cons (pe_ix ix_tup (pv 0) pe_int (fun _ _ => rfl)) (pa_cons (pe_ix ix_tup (pv 0) pe_int (fun _ _ => rfl)) (pa_cons (pe_ix ix_tup (pv 0) pe_int (fun _ _ => rfl)) (pa_cons (pe_ix ix_tup (pv 0) pe_int (fun _ _ => rfl)) pa_nil))))))))), ?_⟩
    refine ⟨_, rfl, p, _, 0, nm, rfl, rfl, SqT.of hp, rfl, _, rfl, p, _, 1, mt, rfl, rfl, SqT.of hp, rfl, _, rfl, p, _, 2, an, rfl, rfl, SqT.of hp, rfl, _, rfl, p, _, 3, ri, rfl, rfl, SqT.of hp, rfl, _, rfl, p, _, 4, to, rfl, rfl, SqT.of hp, rfl, _, rfl, p, _, 5, ma, rfl, rfl, SqT.of hp, rfl, _, rfl, p, _, 6, ki, rfl, rfl, SqT.of hp, rfl, ?_⟩
    exact made_fin hq.pa (fun x dx H' s' _ hx => q x dx H' s' hx) (fun d H' _ n => absurd hq.ok n)
abbrev NSaid : List Str := ["_law_which", "_law_one", "_law_things", "_law_caught", "_law_found", "_law_error"]
end
end Pk
namespace Pk
open PySem L2
theorem sgn_dec {z : Str} (h : (z.cps.toList.all fun c => decide ((32 ≤ c ∧ c ≤ 126 ∧ c ≠ 37) ∨ c = 10)) = true) : Sgn z := fun c hc => of_decide_eq_true (List.all_eq_true.mp h c hc)
/-- some text that is so, so many numbers taken at most -/
def spByP (p : Str → Prop) (m : Int) : Sp := fun vs H Q _ => ∃ (s : Addr) (t : Int), vs = [.ref s] ∧ StrmAt H s t ∧ 0 ≤ t ∧ t ≤ 2000 ∧
  ∀ (z : Str) (H' : Hp) (t' : Int), p z → But s H H' → StrmAt H' s t' → 0 ≤ t' → t' ≤ t + m → Q (.str z) H'
theorem letters_len : letters.cps.toList.length = 26 := by decide +kernel
theorem letters_sign : ∀ c ∈ letters.cps.toList, signOk c = true := fun c hc => List.all_eq_true.mp (by decide +kernel : letters.cps.toList.all signOk = true) c hc
theorem sign_sgn {c : Nat} (h : signOk c = true) : 32 ≤ c ∧ c ≤ 126 ∧ c ≠ 37 := by
  unfold signOk at h
  simp at h
  omega
theorem name_thg {H : Hp} {z : Str} (h : nameT z = true) : Thg H (.str z) := by
  unfold nameT at h
  simp only [Bool.and_eq_true, decide_eq_true_iff, List.all_eq_true] at h
  exact .str z (by omega) fun c hc => .inl (sign_sgn (letters_sign c (h.2 c hc)))
theorem text_thg {H : Hp} {z : Str} (h : textT z = true) : Thg H (.str z) := by
  unfold textT at h
  simp only [Bool.and_eq_true, decide_eq_true_iff, List.all_eq_true] at h
  exact .str z (by omega) fun c hc => .inl (sign_sgn (h.2 c hc))
theorem name_join {ys : List Str} (h : ∀ y ∈ ys, ∃ c, y = ⟨#[c]⟩ ∧ c ∈ letters.cps.toList) (h1 : 1 ≤ ys.length) (h8 : ys.length ≤ 8) : nameT (Txt.join "" ys) = true := by
  obtain ⟨e, a⟩ := joins_of h
  unfold nameT
  rw [e]
  simp only [Bool.and_eq_true, decide_eq_true_iff, List.all_eq_true]
  exact ⟨⟨h1, h8⟩, a⟩
def someT : Str := " !\"#$&'()*+,-./0123456789:;<=>?@ABCDEFGHIJKLMNOPQRSTUVWXYZ[\\]^_`abcdefghijklmnopqrstuvwxyz{|}~"
theorem someT_len : someT.length = 94 := by decide +kernel
section
variable {P : Program} {w : World} {K : PySem.W.Frag} {mg : Str → Option Value} {base : Heap} {cB fI : Addr} {c : Nat → Addr}
abbrev NNameBy : List Str := ["_law_stream_here", "_law_letters", "_law_turn"]
theorem scNameBy : FnScope NNameBy ["_law_stream_here"] (defScope sNameBy) := ⟨rfl, rfl, rfl, by decide +kernel, rfl, by decide +kernel, by decide +kernel⟩
theorem ok_nameBy {f fT fM : Addr} {fd fdT fdM : FuncData} (F : Fun K "_law_name_by" "_law_name_by" sNameBy f fd) (mr : mg "range" = none) (FT : Fun K "_law_take" "_law_take" sTake fT fdT) (bT : Binds K fdT ["_law_stream_here", "_law_many"] []) (gT : mg "_law_take" = some (.ref fT))
    (FM : Fun K "_law_mixed" "_law_mixed" sMixed fM fdM) (bM : Binds K fdM ["_law_number", "_law_k"] []) (gM : mg "_law_mixed" = some (.ref fM)) : FnOk P w K mg base CX0 3 f fd ["_law_stream_here"] (spByP (fun z => nameT z = true) 9) := by
  have GT : FnOk P w K mg base CX0 2 fT fdT ["_law_stream_here", "_law_many"] spTake := ok_take FT FM bM gM
  refine F.ok scNameBy (fun vs H Q E h => ?_) (fun cdv A outer s H vs Q E hr h => ?_)
  · obtain ⟨a, t, rfl, _⟩ := h
    rfl
  · obtain ⟨a, t, rfl, st, t0, t1, q⟩ := h
    refine ⟨_, pss_cons (ps_set (i := 1) scNameBy.nd rfl (.inr rfl) pe_str)
      (pss_one (ps_ret (pe_join pe_str (pe_lc (own := [("_law_turn", 2)]) (g := gName 2) rfl scNameBy.nd
            (pi_range1 (by rfl) mr (pa_cons (pe_op op_add pe_int (pe_call GT hr (by rfl) gT FT.kp bT .nil pass0 (pa_cons (pv 0) (pa_cons pe_int pa_nil)))) pa_nil)) (blkOk_by (N := NNameBy) (sc := defScope sNameBy) (by decide +kernel))
            (fun _ _ _ _ _ => pg_name (i := 2) scNameBy.nd rfl (Or.inl rfl)) (fun _ _ _ _ _ => pts_nil) (fun _ _ _ _ _ => pe_ix ix_str (pv 1) (pe_call GT hr (by rfl) gT FT.kp bT .nil pass0 (pa_cons (pv 0) (pa_cons pe_int pa_nil))) (fun _ _ => rfl)))))), ?_⟩
    refine ⟨⟨_, rfl⟩, _, rfl, a, t, 8, rfl, st, t0, by omega, by decide, by decide, fun v2 H4 w0 w4 u4 st4 => ?_⟩
    refine ⟨1, v2, rfl, rfl, _, rfl, by omega, by omega, fun D hD => ?_⟩
    obtain ⟨b4, c4, m4, e4⟩ := id st4
    have aD : a ≠ D := ne_of_none e4 hD
    refine lc_it walk_range (fun j H' => (∀ b o, b ≠ a → b ≠ D → H4 b = some o → H' b = some o) ∧ StrmAt H' a (t + 1 + j) ∧ ∃ ys : List Str, ys.length = j ∧ (∀ y ∈ ys, ∃ c, y = ⟨#[c]⟩ ∧ c ∈ letters.cps.toList) ∧ H' D = some (.lst (ys.map V.str))) ⟨fun b o n1 n2 e => ?_, ⟨b4, c4, m4, ?_⟩, [], rfl, (fun _ h => by cases h), upd_same⟩ (fun _ _ _ _ => trivial) ?_ ?_
    · rw [upd_ne n2]
      exact e
    · rw [upd_ne aD, e4]
      simp
    · rintro j x H5 H6 hj ⟨k5, st5, ys, ly, oy, hd⟩ ⟨rfl, rfl⟩
      refine ⟨rfl, _, rfl, _, rfl, a, _, 26, rfl, st5, by omega, by omega, by decide, by decide, fun v3 H6 x0 x9 u6 st6 => ?_⟩
      obtain ⟨c6, hc6, mc6⟩ := at_some (l := letters.cps.toList) x0 (by rw [letters_len]; exact x9)
      refine ⟨_, v3, c6, rfl, rfl, by decide +kernel, hc6, _, u6 _ _ (Ne.symm aD) hd, ?_, fun b o n1 n2 e => ?_, ?_, ys ++ [⟨#[c6]⟩], ?_, ?_, ?_⟩
      · rw [List.length_map, sizeLine_eq]
        omega
      · rw [upd_ne n2]
        exact u6 b o n1 (k5 b o n1 n2 e)
      · obtain ⟨b6, c7, m6, e6⟩ := st6
        refine ⟨b6, c7, m6, ?_⟩
        rw [upd_ne aD, e6]
        simp
        omega
      · rw [List.length_append, ly]
        rfl
      · intro y hy
        rcases List.mem_append.mp hy with h | h
        · exact oy y h
        · rw [List.mem_singleton.mp h]
          exact ⟨c6, rfl, mc6⟩
      · rw [upd_same, List.map_append]
        rfl
    · rintro H5 ⟨k5, st5, ys, ly, oy, hd⟩
      have sm : (ys.map (·.length)).sum = ys.length := (join0_len ys).symm.trans (joins_of oy).1
      have l4 : ys.length ≤ 8 := by omega
      refine ⟨_, D, ys, rfl, rfl, .inl (SqL.of hd), by rw [sm, show ("" : Str).length = 0 by decide +kernel]; omega, ?_⟩
      refine q _ H5 _ (name_join oy (by omega) l4) (fun b o n e => ?_) st5 (by omega) (by omega)
      have e4' := u4 b o n e
      exact k5 b o n (ne_of_none e4' hD) e4'
abbrev NTextBy : List Str := ["_law_stream_here", "_law_some", "_law_signs", "_law_size", "_law_text", "_law_turn"]
theorem scTextBy : FnScope NTextBy ["_law_stream_here"] (defScope sTextBy) := ⟨rfl, rfl, rfl, by decide +kernel, rfl, by decide +kernel, by decide +kernel⟩
theorem ok_textBy {f fT fM : Addr} {fd fdT fdM : FuncData} (F : Fun K "_law_text_by" "_law_text_by" sTextBy f fd) (mr : mg "range" = none) (ml : mg "len" = none) (FT : Fun K "_law_take" "_law_take" sTake fT fdT) (bT : Binds K fdT ["_law_stream_here", "_law_many"] []) (gT : mg "_law_take" = some (.ref fT))
    (FM : Fun K "_law_mixed" "_law_mixed" sMixed fM fdM) (bM : Binds K fdM ["_law_number", "_law_k"] []) (gM : mg "_law_mixed" = some (.ref fM)) : FnOk P w K mg base CX0 3 f fd ["_law_stream_here"] (spByP (fun z => textT z = true) 33) := by
  have GT : FnOk P w K mg base CX0 2 fT fdT ["_law_stream_here", "_law_many"] spTake := ok_take FT FM bM gM
  refine F.ok scTextBy (fun vs H Q E h => ?_) (fun cdv A outer s H vs Q E hr h => ?_)
  · obtain ⟨a, t, rfl, _⟩ := h
    rfl
  · obtain ⟨a, t, rfl, st, t0, t1, q⟩ := h
    refine ⟨_, pss_cons (ps_set (i := 1) scTextBy.nd rfl (.inl rfl) pe_str)
      (pss_cons (ps_set (i := 2) scTextBy.nd rfl (.inr rfl) (pe_ix ix_list (pe_lst (pa_cons (pv 1) (pa_cons pe_str (pa_cons pe_str pa_nil)))) (pe_call GT hr (by rfl) gT FT.kp bT .nil pass0 (pa_cons (pv 0) (pa_cons pe_int pa_nil))) (fun _ _ => rfl)))
      (pss_cons (ps_set (i := 3) scTextBy.nd rfl (.inl rfl) (pe_ix ix_list (pe_lst (pa_cons pe_int (pa_cons pe_int (pa_cons pe_int (pa_cons (pe_op op_add pe_int (pe_call GT hr (by rfl) gT FT.kp bT .nil pass0 (pa_cons (pv 0) (pa_cons pe_int pa_nil)))) pa_nil))))) (pe_call GT hr (by rfl) gT FT.kp bT .nil pass0 (pa_cons (pv 0) (pa_cons pe_int pa_nil))) (fun _ _ => rfl)))
      (pss_cons (ps_set (i := 4) scTextBy.nd rfl (.inl rfl) (pe_bm PySem.F.plainAttrs_str PySem.F.slot_str_strip PySem.F.type_str_strip mt_stripChars (pe_join pe_str (pe_lc (own := [("_law_turn", 5)]) (g := gName 5) rfl scTextBy.nd
            (pi_range1 (by rfl) mr (pa_cons (pv 3) pa_nil)) (blkOk_by (N := NTextBy) (sc := defScope sTextBy) (by decide +kernel))
            (fun _ _ _ _ _ => pg_name (i := 5) scTextBy.nd rfl (Or.inl rfl)) (fun _ _ _ _ _ => pts_nil) (fun _ _ _ _ _ => pe_ix ix_str (pv 2) (pe_call GT hr (by rfl) gT FT.kp bT .nil pass0 (pa_cons (pv 0) (pa_cons (pe_callB call_len_str (by rfl) ml PySem.boot_len (pa_cons (pv 2) pa_nil)) pa_nil))) (fun _ _ => rfl)))) (pa_cons pe_str pa_nil)))
      (pss_one (ps_ret (pe_ifExp (pt_cmpR op_ne (pv 4) pe_str (nomark _)) (pv 4) pe_str)))))), ?_⟩
    -- the signs
    refine ⟨_, rfl, by show 3 ≤ sizeLine; decide, fun l1 hl1 => ?_⟩
    obtain ⟨b1, c1, m1, e1⟩ := id st
    have al1 : a ≠ l1 := ne_of_none e1 hl1
    have st1 : StrmAt (upd H l1 (.lst [.str someT, .str "ab 1", .str "x "])) a t := ⟨b1, c1, m1, by rw [upd_ne al1]; exact e1⟩
    refine ⟨_, rfl, a, t, 3, rfl, st1, t0, by omega, by decide, by decide, fun v1 H1 v10 v13 u1 st2 => ?_⟩
    obtain ⟨x1, hx1, mx1⟩ := at_some (l := [V.str someT, V.str "ab 1", V.str "x "]) v10 v13
    obtain ⟨zs, rfl, zs1, zs2, zs3⟩ : ∃ z, x1 = V.str z ∧ 1 ≤ z.length ∧ z.length ≤ 94 ∧ ∀ c ∈ z.cps.toList, signOk c = true := by
      simp only [List.mem_cons, List.not_mem_nil, or_false] at mx1
      rcases mx1 with rfl | rfl | rfl
      · exact ⟨_, rfl, by rw [someT_len]; decide, by rw [someT_len]; decide, fun c hc => List.all_eq_true.mp (by decide +kernel : someT.cps.toList.all signOk = true) c hc⟩
      · exact ⟨_, rfl, by decide +kernel, by decide +kernel, fun c hc => List.all_eq_true.mp (by decide +kernel : ("ab 1" : Str).cps.toList.all signOk = true) c hc⟩
      · exact ⟨_, rfl, by decide +kernel, by decide +kernel, fun c hc => List.all_eq_true.mp (by decide +kernel : ("x " : Str).cps.toList.all signOk = true) c hc⟩
    refine ⟨l1, _, v1, _, rfl, rfl, SqL.of (u1 _ _ (Ne.symm al1) upd_same), hx1, ?_⟩
    -- the size
    refine ⟨_, rfl, a, t + 1, 30, rfl, st2, by omega, by omega, by decide, by decide, fun v2 H2 v20 v23 u2 st3 => ?_⟩
    refine ⟨1, v2, rfl, rfl, by show 4 ≤ sizeLine; decide, fun l2 hl2 => ?_⟩
    obtain ⟨b2, c2, m2, e2⟩ := id st3
    have al2 : a ≠ l2 := ne_of_none e2 hl2
    have st4 : StrmAt (upd H2 l2 (.lst [.int 1, .int 2, .int 30, .int (1 + v2)])) a (t + 2) := ⟨b2, c2, m2, by rw [upd_ne al2, show t + 2 = t + 1 + 1 by omega]; exact e2⟩
    refine ⟨_, rfl, a, t + 2, 4, rfl, st4, by omega, by omega, by decide, by decide, fun v3 H3 v30 v33 u3 st5 => ?_⟩
    obtain ⟨x2, hx2, mx2⟩ := at_some (l := [V.int 1, V.int 2, V.int 30, V.int (1 + v2)]) v30 v33
    obtain ⟨n, rfl, n0, n30⟩ : ∃ n : Int, x2 = V.int n ∧ 1 ≤ n ∧ n ≤ 30 := by
      simp only [List.mem_cons, List.not_mem_nil, or_false] at mx2
      rcases mx2 with rfl | rfl | rfl | rfl
      · exact ⟨1, rfl, by decide, by decide⟩
      · exact ⟨2, rfl, by decide, by decide⟩
      · exact ⟨30, rfl, by decide, by decide⟩
      · exact ⟨1 + v2, rfl, by omega, by omega⟩
    refine ⟨l2, _, v3, _, rfl, rfl, SqL.of (u3 _ _ (Ne.symm al2) upd_same), hx2, ?_⟩
    have bu : But a H H3 := fun b o n e => by
      refine u3 b o n ?_
      have e2' := u2 b o n (u1 b o n (by rw [upd_ne (ne_of_none e hl1)]; exact e))
      rw [upd_ne (ne_of_none e2' hl2)]
      exact e2'
    -- the text
    refine ⟨⟨_, rfl⟩, _, rfl, n, rfl, by omega, by omega, fun D hD => ?_⟩
    obtain ⟨b4, c4, m4, e4⟩ := id st5
    have aD : a ≠ D := ne_of_none e4 hD
    refine lc_it walk_range (fun j H' => (∀ b o, b ≠ a → b ≠ D → H3 b = some o → H' b = some o) ∧ StrmAt H' a (t + 3 + j) ∧ ∃ ys : List Str, ys.length = j ∧ (∀ y ∈ ys, ∃ c, y = ⟨#[c]⟩ ∧ signOk c = true) ∧ H' D = some (.lst (ys.map V.str))) ⟨fun b o n1 n2 e => ?_, ⟨b4, c4, m4, ?_⟩, [], rfl, (fun _ h => by cases h), upd_same⟩ (fun _ _ _ _ => trivial) ?_ ?_
    · rw [upd_ne n2]
      exact e
    · rw [upd_ne aD, e4]
      simp
      omega
    · rintro j x H5 H6 hj ⟨k5, st6, ys, ly, oy, hd⟩ ⟨rfl, rfl⟩
      refine ⟨rfl, _, rfl, _, rfl, _, rfl, zs, rfl, by rw [sizeLine_eq]; omega, a, _, zs.length, rfl, st6, by omega, by omega, by omega, by omega, fun v4 H6 x0 x9 u6 st7 => ?_⟩
      obtain ⟨c6, hc6, mc6⟩ := at_some (l := zs.cps.toList) x0 (by rw [← len_is]; exact x9)
      refine ⟨_, v4, c6, rfl, rfl, by rw [sizeLine_eq]; omega, hc6, _, u6 _ _ (Ne.symm aD) hd, ?_, fun b o n1 n2 e => ?_, ?_, ys ++ [⟨#[c6]⟩], ?_, ?_, ?_⟩
      · rw [List.length_map, sizeLine_eq]
        omega
      · rw [upd_ne n2]
        exact u6 b o n1 (k5 b o n1 n2 e)
      · obtain ⟨b6, c7, m6, e6⟩ := st7
        refine ⟨b6, c7, m6, ?_⟩
        rw [upd_ne aD, e6]
        simp
        omega
      · rw [List.length_append, ly]
        rfl
      · intro y hy
        rcases List.mem_append.mp hy with h | h
        · exact oy y h
        · rw [List.mem_singleton.mp h]
          exact ⟨c6, rfl, zs3 _ mc6⟩
      · rw [upd_same, List.map_append]
        rfl
    · rintro H5 ⟨k5, st6, ys, ly, oy, hd⟩
      obtain ⟨jl, ja⟩ := joins_of oy
      have sm : (ys.map (·.length)).sum = ys.length := (join0_len ys).symm.trans jl
      have l4 : ys.length ≤ 30 := by omega
      have lj : (Txt.join "" ys).length ≤ 30 := by rw [jl]; exact l4
      have bu5 : But a H H5 := fun b o n e => by
        have e3 := bu b o n e
        exact k5 b o n (ne_of_none e3 hD) e3
      have q' : ∀ z : Str, textT z = true → Q (.str z) H5 := fun z hz => q z H5 _ hz bu5 st6 (by omega) (by omega)
      refine ⟨_, D, ys, rfl, rfl, .inl (SqL.of hd), by rw [sm, show ("" : Str).length = 0 by decide +kernel]; omega, ?_⟩
      refine ⟨rfl, _, _, rfl, rfl, by rw [sizeLine_eq]; omega, ?_⟩
      refine ⟨_, rfl, rfl, _, rfl, ite2 (fun hne => ?_) (fun _ => ?_)⟩
      · refine ⟨_, rfl, q' _ (strip_text lj ja fun e => ?_)⟩
        rw [e] at hne
        simp at hne
      · exact q' _ (by decide +kernel)
end
end Pk
namespace Pk
open PySem L2
/-! ### unlike texts -/
theorem le_of_all {α : Type} [DecidableEq α] : ∀ {l m : List α}, l.Nodup → (∀ x ∈ l, x ∈ m) → l.length ≤ m.length
  | [], _, _, _ => Nat.zero_le _
  | a :: l, m, nd, h => by
    rw [List.nodup_cons] at nd
    have ha := h a List.mem_cons_self
    have ih := le_of_all (m := m.erase a) nd.2 fun x hx => (List.mem_erase_of_ne (fun e : x = a => nd.1 (by rw [← e]; exact hx))).mpr (h x (List.mem_cons_of_mem _ hx))
    have := List.length_erase_of_mem ha
    have := List.length_pos_of_mem ha
    rw [List.length_cons]
    omega
theorem inV_str (z : Str) : ∀ zs : List Str, inV (.str z) (zs.map V.str) = decide (z ∈ zs)
  | [] => rfl
  | y :: zs => by
    have ih := inV_str z zs
    unfold inV at ih ⊢
    rw [List.map_cons, List.any_cons, ih]
    show ((y == z) || _) = _
    rw [Bool.eq_iff_iff, Bool.or_eq_true, beq_iff_eq, decide_eq_true_iff, decide_eq_true_iff, List.mem_cons]
    exact ⟨fun h => h.imp Eq.symm id, fun h => h.imp Eq.symm id⟩
theorem flat_strs : ∀ zs : List Str, (zs.map V.str).all flatV = true
  | [] => rfl
  | z :: zs => by
    rw [List.map_cons, List.all_cons, flat_strs zs]
    rfl
theorem answers_ok {zs : List Str} (h2 : 2 ≤ zs.length) (h6 : zs.length ≤ 6) (ht : ∀ z ∈ zs, textT z = true) (nd : zs.Nodup) : answersL (zs.map V.str) = true := by
  have e : (zs.map V.str).map strV = zs := by
    rw [List.map_map]
    exact List.map_id'' (fun _ => rfl) zs
  unfold answersL
  rw [e, List.length_map, unlike_nodup nd zs.length (Nat.le_refl _)]
  simp only [Bool.and_eq_true, decide_eq_true_iff, List.all_eq_true]
  refine ⟨⟨⟨h2, h6⟩, fun v hv => ?_⟩, by trivial⟩
  obtain ⟨z, hz, rfl⟩ := List.mem_map.mp hv
  exact ht z hz
def figs : Str := "0123456"
theorem figs_text : ∀ c ∈ figs.cps.toList, textT ⟨#[c]⟩ = true := fun c hc => List.all_eq_true.mp (by decide +kernel : (figs.cps.toList.all fun c => textT ⟨#[c]⟩) = true) c hc
theorem figs_len : figs.length = 7 := by decide +kernel
/-- some figure is left -/
theorem figs_left {zs : List Str} (h : zs.length ≤ 6) : figs.cps.toList.filter (fun c => !decide ((⟨#[c]⟩ : Str) ∈ zs)) ≠ [] := by
  intro e
  rw [List.filter_eq_nil_iff] at e
  have nd : (figs.cps.toList.map fun c => (⟨#[c]⟩ : Str)).Nodup := by decide +kernel
  have := le_of_all (m := zs) nd fun y hy => by
    obtain ⟨c, hc, rfl⟩ := List.mem_map.mp hy
    have := e c hc
    simpa using this
  rw [List.length_map, ← len_is, figs_len] at this
  omega
def signs12 : Str := "abcdefghijkl"
theorem signs12_text : ∀ c ∈ signs12.cps.toList, textT ⟨#[c]⟩ = true := fun c hc => List.all_eq_true.mp (by decide +kernel : (signs12.cps.toList.all fun c => textT ⟨#[c]⟩) = true) c hc
theorem signs12_len : signs12.cps.toList.length = 12 := by decide +kernel
def spAnswersBy : Sp := fun vs H Q _ => ∃ (s : Addr) (t : Int), vs = [.ref s] ∧ StrmAt H s t ∧ 0 ≤ t ∧ t ≤ 1000 ∧
  ∀ (zs : List Str) (p : Addr) (H' : Hp) (t' : Int), 2 ≤ zs.length → zs.length ≤ 6 → (∀ z ∈ zs, textT z = true) → zs.Nodup → H' p = some (.tup (zs.map V.str)) → But s H H' → StrmAt H' s t' → 0 ≤ t' → t' ≤ t + 300 → Q (.ref p) H'
/-- a text that is drawn: the first part of a turn -/
def tDraw : TE := fun σ H Q => ∃ (s : Addr) (t : Int), σ[0]? = some (some (.ref s)) ∧ StrmAt H s t ∧ 0 ≤ t ∧ t ≤ 1500 ∧ ∀ (z : Str) (H' : Hp) (t' : Int), textT z = true → But s H H' → StrmAt H' s t' → 0 ≤ t' → t' ≤ t + 40 → Q (.str z) H'
/-- the first figure that isn't there yet -/
def tFig : TE := fun σ H Q => ∃ (l : Addr) (zs : List Str) (v0 v2 v3 v4 : Option V), σ = [v0, some (.ref l), v2, v3, v4] ∧ H l = some (.lst (zs.map V.str)) ∧ zs.length ≤ 6 ∧ ∀ (z : Str) (H' : Hp), textT z = true → z ∉ zs → Same H H' → Q (.str z) H'
/-- what holds behind j turns -/
def ansInv (H1 : Hp) (a D : Addr) (t : Int) (j : Nat) (σ : L2.St) (H' : Hp) : Prop := ∃ (v2 v3 v4 : Option V) (zs : List Str) (t' : Int), σ = [some (.ref a), some (.ref D), v2, v3, v4] ∧ (∀ b o, b ≠ a → b ≠ D → H1 b = some o → H' b = some o) ∧ H' D = some (.lst (zs.map V.str)) ∧ zs.length = j ∧ (∀ z ∈ zs, textT z = true) ∧ zs.Nodup ∧ StrmAt H' a t' ∧ 0 ≤ t' ∧ t' ≤ t + 1 + 40 * (j : Int)
section
variable {P : Program} {w : World} {K : PySem.W.Frag} {mg : Str → Option Value} {base : Heap} {cB fI : Addr} {c : Nat → Addr}
abbrev NAnsBy : List Str := ["_law_stream_here", "_law_found", "_law_turn", "_law_text", "_law_sign"]
theorem scAnsBy : FnScope NAnsBy ["_law_stream_here"] (defScope sAnswersBy) := ⟨rfl, rfl, rfl, by decide +kernel, rfl, by decide +kernel, by decide +kernel⟩
theorem ok_answersBy {f fT fX : Addr} {fd fdT fdX : FuncData} (F : Fun K "_law_answers_by" "_law_answers_by" sAnswersBy f fd) (mr : mg "range" = none) (mtu : mg "tuple" = none)
    (GT : FnOk P w K mg base CX0 2 fT fdT ["_law_stream_here", "_law_many"] spTake) (kT : PySem.W.keepIn K (.ref fT) = true) (bT : Binds K fdT ["_law_stream_here", "_law_many"] []) (gT : mg "_law_take" = some (.ref fT))
    (GX : FnOk P w K mg base CX0 3 fX fdX ["_law_stream_here"] (spByP (fun z => textT z = true) 33)) (kX : PySem.W.keepIn K (.ref fX) = true) (bX : Binds K fdX ["_law_stream_here"] []) (gX : mg "_law_text_by" = some (.ref fX)) :
    FnOk P w K mg base CX0 4 f fd ["_law_stream_here"] spAnswersBy := by
  refine F.ok scAnsBy (fun vs H Q E h => ?_) (fun cdv A outer s H vs Q E hr h => ?_)
  · obtain ⟨a, t, rfl, _⟩ := h
    rfl
  · obtain ⟨a, t, rfl, st, t0, t1, q⟩ := h
    have r2 : Room 2 _ := hr.mono (by decide)
    refine ⟨_, pss_cons (ps_set (i := 1) scAnsBy.nd rfl (.inr rfl) (pe_lst pa_nil))
      (pss_cons (ps_for PassesOwn.never rfl (pi_range1 (by rfl) mr (pa_cons (pe_op op_add pe_int (pe_call GT r2 (by rfl) gT kT bT .nil pass0 (pa_cons (pv 0) (pa_cons pe_int pa_nil)))) pa_nil)) (pg_name (i := 2) scAnsBy.nd rfl (.inl rfl))
        (pss_cons (ps_set (i := 3) scAnsBy.nd rfl (.inl rfl) (pe_imp tDraw (pe_ifExp (pt_cmpR op_eq (pe_call GT r2 (by rfl) gT kT bT .nil pass0 (pa_cons (pv 0) (pa_cons pe_int pa_nil))) pe_int (nomark _)) (pe_call GX hr (by rfl) gX kX bX .nil pass0 (pa_cons (pv 0) pa_nil)) (pe_ix ix_str pe_str (pe_call GT r2 (by rfl) gT kT bT .nil pass0 (pa_cons (pv 0) (pa_cons pe_int pa_nil))) (fun _ _ => rfl))) (by
            rintro σ H Q ⟨s, t, h0, st, t0, t1, q⟩
            refine ⟨_, h0, s, t, 3, rfl, st, t0, by omega, by decide, by decide, fun v1 H1 v10 v11 u1 st1 => ?_⟩
            refine ⟨rfl, _, rfl, ite2 (fun _ => ?_) (fun _ => ?_)⟩
            · exact ⟨_, h0, s, t + 1, rfl, st1, by omega, by omega, fun z H2 t2 hz u2 st2 t20 t21 => q z H2 t2 hz (u1.trans u2) st2 t20 (by omega)⟩
            · refine ⟨_, h0, s, t + 1, 12, rfl, st1, by omega, by omega, by decide, by decide, fun v2 H2 v20 v21 u2 st2 => ?_⟩
              obtain ⟨c6, hc6, mc6⟩ := at_some (l := signs12.cps.toList) v20 (by rw [signs12_len]; exact v21)
              exact ⟨_, v2, c6, rfl, rfl, by decide +kernel, hc6, q _ H2 _ (signs12_text c6 mc6) (u1.trans u2) st2 (by omega) (by omega)⟩)))
        (pss_cons (ps_if (pt_cmpR op_in_seq (pv 3) (pv 1) (by rfl)) (pss_one (ps_set (i := 3) scAnsBy.nd rfl (.inl rfl) (pe_imp tFig (pe_ix ix_list (pe_lc (own := [("_law_sign", 4)]) (g := gName 4) rfl scAnsBy.nd (pi_str pe_str) (blkOk_by (N := NAnsBy) (sc := defScope sAnswersBy) (by decide +kernel))
            (fun _ _ _ _ _ => pg_name (i := 4) scAnsBy.nd rfl (Or.inl rfl)) (fun _ _ _ _ _ => pts_one (pt_cmpR (r := rIn K true) (by exact op_notIn_seq) (pv 4) (pv 1) (by rfl))) (fun _ _ _ _ _ => pv 4)) pe_int (fun _ _ => rfl)) (by
            rintro σ H Q ⟨l, zs, v0, v2, v3, v4, rfl, hl, lz, q⟩
            refine ⟨figs, rfl, fun D hD => ?_⟩
            have lD : l ≠ D := ne_of_none hl hD
            refine lc_it walk_str (fun i H' => (∀ b o, b ≠ D → H b = some o → H' b = some o) ∧ H' D = some (.lst (((figs.cps.toList.take i).filter (fun c => !decide ((⟨#[c]⟩ : Str) ∈ zs))).map fun c => V.str ⟨#[c]⟩))) ⟨fun b o n e => ?_, upd_same⟩ (fun _ _ _ _ => trivial) ?_ ?_
            · rw [upd_ne n]
              exact e
            · rintro i y H1 H2 hi ⟨k, hd⟩ ⟨rfl, c, hc, rfl⟩
              have hc' : figs.cps.toList[i]? = some c := by rw [Array.getElem?_toList]; exact hc
              have tk : figs.cps.toList.take (i + 1) = figs.cps.toList.take i ++ [c] := by
                rw [List.take_add_one, hc']
                rfl
              refine ⟨rfl, _, rfl, _, rfl, l, zs.map V.str, rfl, .inl (SqL.of (k _ _ lD hl)), rfl, flat_strs zs, _, rfl, ?_⟩
              rw [show (if true = true then !inV (V.str ⟨#[c]⟩) (zs.map V.str) else inV (V.str ⟨#[c]⟩) (zs.map V.str)) = !inV (V.str ⟨#[c]⟩) (zs.map V.str) from rfl, inV_str]
              cases hin : decide ((⟨#[c]⟩ : Str) ∈ zs) with
              | true =>
                refine iteF ⟨k, ?_⟩
                rw [hd, tk, List.filter_append, List.filter_cons, if_neg (by rw [hin]; decide), List.filter_nil, List.append_nil]
              | false =>
                refine iteT ⟨_, rfl, _, hd, ?_, fun b o n e => ?_, ?_⟩
                · rw [List.length_map]
                  refine Nat.lt_of_le_of_lt (List.length_filter_le _ _) ?_
                  rw [List.length_take, sizeLine_eq, ← len_is, figs_len]
                  omega
                · rw [upd_ne n]
                  exact k b o n e
                · rw [upd_same, tk, List.filter_append, List.map_append, List.filter_cons, if_pos (by rw [hin]; rfl), List.filter_nil]
                  rfl
            · rintro H1 ⟨k, hd⟩
              rw [List.take_of_length_le (by rw [Array.length_toList]; exact Nat.le_refl _)] at hd
              have ne := figs_left lz
              cases hf : figs.cps.toList.filter (fun c => !decide ((⟨#[c]⟩ : Str) ∈ zs)) with
              | nil => exact absurd hf ne
              | cons c r =>
                have hm : c ∈ figs.cps.toList.filter (fun c => !decide ((⟨#[c]⟩ : Str) ∈ zs)) := by rw [hf]; exact List.mem_cons_self
                obtain ⟨m1, m2⟩ := List.mem_filter.mp hm
                rw [hf] at hd
                refine ⟨D, _, 0, .str ⟨#[c]⟩, rfl, rfl, SqL.of hd, atI_nat (j := 0) rfl, q _ H1 (figs_text c m1) (by simpa using m2) fun b o e => k b o (fun z => by rw [z, hD] at e; cases e) e⟩)))) pss_nil)
        (pss_one (ps_expr (pe_bm PySem.F.plainAttrs_list PySem.F.slot_list_append PySem.F.type_list_append mt_append (pv 1) (pa_cons (pv 3) pa_nil)))))))
      (pss_one (ps_ret (pe_callTy call_tuple_of (by rfl) mtu PyProof.Rows.boot_tuple (pa_cons (pv 1) pa_nil))))), ?_⟩
    refine ⟨by show 0 ≤ sizeLine; decide, fun D hD => ?_⟩
    obtain ⟨b1, c1, m1, e1⟩ := id st
    have aD : a ≠ D := ne_of_none e1 hD
    have st1 : StrmAt (upd H D (.lst [])) a t := ⟨b1, c1, m1, by rw [upd_ne aD]; exact e1⟩
    refine ⟨_, rfl, a, t, 5, rfl, st1, t0, by omega, by decide, by decide, fun v1 H1 v10 v11 u1 st2 => ?_⟩
    refine ⟨2, v1, rfl, rfl, _, rfl, by omega, by omega, ?_⟩
    have hD1 : H1 D = some (.lst []) := u1 _ _ (Ne.symm aD) upd_same
    refine for_it walk_range (ansInv H1 a D t) ⟨_, _, _, [], t + 1, rfl, fun _ _ _ _ e => e, hD1, rfl, (fun _ h => by cases h), List.nodup_nil, st2, by omega, by omega⟩ (fun _ _ _ _ _ => trivial) ?_ ?_
    · rintro j x σ H2 H3 hj ⟨v2, v3, v4, zs, t', rfl, k2, hd, lz, tz, nz, st3, t0', t1'⟩ ⟨rfl, rfl⟩
      have j6 : j < 7 := by omega
      refine ⟨a, t', rfl, st3, t0', by omega, fun z H4 t4 hz u4 st4 t40 t41 => ?_⟩
      have hd4 := u4 _ _ (Ne.symm aD) hd
      refine ⟨_, rfl, _, rfl, D, zs.map V.str, rfl, .inl (SqL.of hd4), rfl, flat_strs zs, _, rfl, ?_⟩
      rw [show (if false = true then !inV (V.str z) (zs.map V.str) else inV (V.str z) (zs.map V.str)) = inV (V.str z) (zs.map V.str) from rfl, inV_str]
      have fin : ∀ (y : Str) (H5 : Hp), textT y = true → y ∉ zs → Same H4 H5 → ansInv H1 a D t (j + 1) [some (.ref a), some (.ref D), some (.int (0 + j)), some (.str y), v4] (upd H5 D (.lst (zs.map V.str ++ [.str y]))) := by
        intro y H5 hy ny s5
        refine ⟨_, _, _, zs ++ [y], t4, rfl, fun b o n1 n2 e => ?_, ?_, ?_, ?_, ?_, ?_, t40, ?_⟩
        · rw [upd_ne n2]
          exact s5 _ _ (u4 b o n1 (k2 b o n1 n2 e))
        · rw [upd_same, List.map_append]
          rfl
        · rw [List.length_append, lz]
          rfl
        · intro x hx
          rcases List.mem_append.mp hx with h | h
          · exact tz x h
          · rw [List.mem_singleton.mp h]
            exact hy
        · rw [List.nodup_append]
          refine ⟨nz, List.pairwise_singleton _ _, fun x hx w hw e => ?_⟩
          rw [List.mem_singleton.mp hw] at e
          exact ny (e ▸ hx)
        · obtain ⟨b5, c5, m5, e5⟩ := st4
          exact ⟨b5, c5, m5, by rw [upd_ne aD]; exact s5 _ _ e5⟩
        · omega
      refine ite2 (fun _ => ?_) (fun hn => ?_)
      · refine ⟨D, zs, _, _, _, _, rfl, hd4, by omega, fun y H5 hy ny s5 => ?_⟩
        exact ⟨_, rfl, .inl ⟨rfl, _, SqL.of (s5 _ _ hd4)⟩, _, rfl, D, _, _, rfl, rfl, s5 _ _ hd4, by rw [List.length_map, sizeLine_eq]; omega, fin y H5 hy ny s5⟩
      · exact ⟨_, rfl, .inl ⟨rfl, _, SqL.of hd4⟩, _, rfl, D, _, _, rfl, rfl, hd4, by rw [List.length_map, sizeLine_eq]; omega, fin z H4 hz (by simpa using hn) (Same.refl H4)⟩
    · rintro σ H2 ⟨v2, v3, v4, zs, t', rfl, k2, hd, lz, tz, nz, st3, t0', t1'⟩
      refine ⟨_, rfl, D, zs.map V.str, rfl, .inl ⟨SqL.of hd, fun p np => ?_⟩⟩
      obtain ⟨b5, c5, m5, e5⟩ := st3
      refine q zs p _ t' (by omega) (by omega) tz nz upd_same (fun b o n e => ?_) ⟨b5, c5, m5, by rw [upd_ne (ne_of_none e5 np)]; exact e5⟩ t0' (by omega)
      have e1 := u1 b o n (by rw [upd_ne (ne_of_none e hD)]; exact e)
      have e2 := k2 b o n (ne_of_none e hD) e1
      rw [upd_ne (ne_of_none e2 np)]
      exact e2
end
end Pk
namespace Pk
open PySem L2
/-! ### things that stay while a stream goes on -/
section
variable {H H' : Hp} {s : Addr} {t t' : Int} {x : V}
theorem tup_off {a : Addr} {vs : List V} (h : H a = some (.tup vs)) (st : StrmAt H s t) : a ≠ s := fun e => by
  obtain ⟨b, c, m, hs⟩ := st
  rw [e, hs] at h
  cases h
theorem Thg.but (h : Thg H x) (u : But s H H') (a : StrmAt H s t) (b : StrmAt H' s t') : Thg H' x := by
  cases h with
  | non => exact .non
  | bl b => exact .bl b
  | int i => exact .int i
  | str z hl ho => exact .str z hl ho
  | @lst l vs h =>
    by_cases e : l = s
    · obtain ⟨b1, c1, m1, hs⟩ := b
      rw [e]
      exact .lst hs
    · exact .lst (u _ _ e h)
  | tup h => exact .tup (u _ _ (tup_off h a) h)
  | @dct l kvs h =>
    refine .dct (u _ _ (fun e => ?_) h)
    obtain ⟨b1, c1, m1, hs⟩ := a
    rw [e, hs] at h
    cases h
theorem Thg.tupB (h : Thg H x) (u : But s H H') (a : StrmAt H s t) (b : StrmAt H' s t') : tupV H' x = tupV H x := by
  cases h with
  | non => rfl
  | bl b => rfl
  | int i => rfl
  | str z hl ho => rfl
  | @lst l vs h =>
    by_cases e : l = s
    · obtain ⟨b1, c1, m1, hs⟩ := b
      obtain ⟨b2, c2, m2, hs2⟩ := a
      rw [tupV_ref, tupV_ref, e, hs, hs2]
      rfl
    · rw [tupV_ref, tupV_ref, h, u _ _ e h]
  | tup h => rw [tupV_at h, tupV_at (u _ _ (tup_off h a) h)]
  | @dct l kvs h =>
    have ne : l ≠ s := fun e => by
      obtain ⟨b1, c1, m1, hs⟩ := a
      rw [e, hs] at h
      cases h
    rw [tupV_ref, tupV_ref, h, u _ _ ne h]
theorem Thgs.but (h : Thgs H x) (u : But s H H') (a : StrmAt H s t) (b : StrmAt H' s t') : Thgs H' x :=
  ⟨h.1.but u a b, fun ws e v hv => (h.2 ws ((h.1.tupB u a b).symm.trans e) v hv).but u a b⟩
theorem thgs_str {z : Str} (h : Thg H (.str z)) : Thgs H (.str z) := ⟨h, fun ws e => by cases e⟩
theorem thgs_int {i : Int} : Thgs H (.int i) := ⟨.int i, fun ws e => by cases e⟩
theorem thgs_bl {b : Bool} : Thgs H (.bl b) := ⟨.bl b, fun ws e => by cases e⟩
theorem thgs_non : Thgs H .non := ⟨.non, fun ws e => by cases e⟩
theorem thgs_tup {a : Addr} {vs : List V} (h : H a = some (.tup vs)) (hv : ∀ v ∈ vs, Thg H v) : Thgs H (.ref a) := ⟨.tup h, fun ws e => by
  rw [tupV_at h] at e
  cases e
  exact hv⟩
theorem thgs_lst {a : Addr} {vs : List V} (h : H a = some (.lst vs)) : Thgs H (.ref a) := ⟨.lst h, fun ws e => by
  rw [tupV_ref, h] at e
  cases e⟩
theorem thgs_dct {a : Addr} {kvs : List (Key × V)} (h : H a = some (.dK kvs)) : Thgs H (.ref a) := ⟨.dct h, fun ws e => by
  rw [tupV_ref, h] at e
  cases e⟩
theorem thg_sgn {z : Str} (hl : z.length ≤ 1000) (h : (z.cps.toList.all fun c => decide ((32 ≤ c ∧ c ≤ 126 ∧ c ≠ 37) ∨ c = 10)) = true) : Thg H (.str z) := .str z hl (sgn_dec h)
end
/-! ### seven parts -/
structure L7 (H : Hp) (p : Addr) (L : List V) : Prop where
  at_ : H p = some (.tup L)
  len : L.length = 7
  all : ∀ x ∈ L, Thgs H x
theorem L7.pat {H : Hp} {p : Addr} {L : List V} (h : L7 H p L) : ∃ nm mt an ri to ma ki, L = [nm, mt, an, ri, to, ma, ki] ∧ PAt H p nm mt an ri to ma ki := by
  obtain ⟨a, l, al⟩ := h
  match L, l, a, al with
  | [nm, mt, an, ri, to, ma, ki], _, a, al => exact ⟨nm, mt, an, ri, to, ma, ki, rfl, a, (al nm (by simp)).1, (al mt (by simp)).1, al an (by simp), (al ri (by simp)).1, (al to (by simp)).1, (al ma (by simp)).1, (al ki (by simp)).1⟩
theorem L7.same {H H' : Hp} {p : Addr} {L : List V} (h : L7 H p L) (s : Same H H') : L7 H' p L := ⟨s _ _ h.at_, h.len, fun x hx => (h.all x hx).same s⟩
theorem L7.but {H H' : Hp} {p s : Addr} {L : List V} {t t' : Int} (h : L7 H p L) (u : But s H H') (a : StrmAt H s t) (b : StrmAt H' s t') : L7 H' p L := ⟨u _ _ (tup_off h.at_ a) h.at_, h.len, fun x hx => (h.all x hx).but u a b⟩
/-- one of them otherwise -/
def sub7 (L : List V) (i : Int) (x : V) : List V := L.take i.toNat ++ [x] ++ L.drop (i.toNat + 1)
theorem L7.sub {H H' : Hp} {p q : Addr} {L : List V} {i : Int} {x : V} (h : L7 H p L) (i0 : 0 ≤ i) (i7 : i < 7) (s : ∀ y ∈ L, Thgs H' y) (hx : Thgs H' x) (hq : H' q = some (.tup (sub7 L i x))) : L7 H' q (sub7 L i x) where
  at_ := hq
  len := by
    unfold sub7
    have := h.len
    rw [List.length_append, List.length_append, List.length_take, List.length_drop, List.length_singleton]
    omega
  all := fun y hy => by
    unfold sub7 at hy
    rcases List.mem_append.mp hy with hy | hy
    · rcases List.mem_append.mp hy with hy | hy
      · exact s y (List.mem_of_mem_take hy)
      · rw [List.mem_singleton.mp hy]
        exact hx
    · exact s y (List.mem_of_mem_drop hy)
/-- t[:i] + (x,) + t[i + 1:] -/
def tSub (te : TE) (j k : Nat) : TE := fun σ H Q => ∃ (p : Addr) (L : List V) (i : Int), σ[j]? = some (some (.ref p)) ∧ σ[k]? = some (some (.int i)) ∧ 0 ≤ i ∧ i < L.length ∧ L.length ≤ 1000 ∧ H p = some (.tup L) ∧
  ∀ c1 : Addr, H c1 = none → te σ (upd H c1 (.tup (L.take i.toNat))) fun x H2 => H2 c1 = some (.tup (L.take i.toNat)) ∧ H2 p = some (.tup L) ∧ ∀ (q : Addr) (H3 : Hp), Same H2 H3 → H3 q = some (.tup (sub7 L i x)) → Q (.ref q) H3
theorem pe_sub7 {X : Cx} {e : Expr} {te : TE} {j k : Nat} (hm : ∀ σ H (Q Q' : VK), (∀ x H, Q x H → Q' x H) → te σ H Q → te σ H Q') (h : PE X e (tOp (rCatA X.K) (tOp (rCatA X.K) (tSl (rSlA X.K) (tVar j) tNoPart (tPart (tVar k))) (tTup (tCons te tNil))) (tSl (rSlA X.K) (tVar j) (tPart (tOp (rI0 fun i j => .int (i + j)) (tVar k) (tC (.int 1)))) tNoPart))) : PE X e (tSub te j k) := pe_imp (tSub te j k) h (by
  rintro σ H Q ⟨p, L, i, hj, hk, i0, i7, l7, hp, q⟩
  obtain ⟨n, rfl⟩ := Int.eq_ofNat_of_zero_le i0
  have n7 : n < L.length := by omega
  refine ⟨_, hj, _, hk, n, rfl, p, L, rfl, SqT.of hp, fun z => ?_, fun _ c1 n1 => ?_⟩
  · have z2 := z.2
    rw [show HT.sIx L.length L.length (some (n : Int)) = min n L.length from HT.sIx_nat _ _ _] at z2
    omega
  rw [cut_lo (by omega)]
  refine hm _ _ _ _ ?_ (q c1 n1)
  rintro x H2 ⟨h1, h2, q2⟩
  rw [Int.toNat_natCast] at h1
  refine ⟨by show 1 ≤ sizeLine; decide, fun c2 n2 => ?_⟩
  have s2 := same_upd (o := .tup [x]) n2
  have e2 : upd H2 c2 (.tup [x]) c2 = some (.tup [x]) := upd_same
  generalize upd H2 c2 (.tup [x]) = H3 at s2 e2
  have lt : (L.take n).length = n := by rw [List.length_take]; omega
  -- the second slice, whatever the first sum is
  have rest : ∀ (c3 : Addr) (H4 : Hp), Same H3 H4 → H4 c3 = some (.tup (L.take n ++ [x])) → tSl (rSlA X.K) (tVar j) (tPart (tOp (rI0 fun i j => .int (i + j)) (tVar k) (tC (.int 1)))) tNoPart σ H4 fun y H5 => rCatA X.K (.ref c3) y H5 Q := by
    intro c3 H4 s4 e4
    refine ⟨_, hj, _, hk, (n : Int), 1, rfl, rfl, (n : Int) + 1, rfl, p, L, rfl, SqT.of (s4 _ _ (s2 _ _ h2)), (fun z => ?_), fun _ c5 n5 => ?_⟩
    · have z1 := z.1
      rw [show HT.sIx L.length 0 (some ((n : Int) + 1)) = min (n + 1) L.length from HT.sIx_nat _ _ (n + 1)] at z1
      omega
    rw [cut_hi (by omega), show ((n : Int) + 1).toNat = n + 1 by omega]
    have s5 := same_upd (o := .tup (L.drop (n + 1))) n5
    refine ⟨c3, c5, L.take n ++ [x], L.drop (n + 1), rfl, rfl, SqT.of (s5 _ _ e4), SqT.of upd_same, ?_, (fun z => ?_), (fun _ hd => ?_), fun _ _ q6 n6 => ?_⟩
    · rw [List.length_append, List.length_singleton, lt, List.length_drop, sizeLine_eq]
      omega
    · have := congrArg List.length z
      rw [List.length_append, List.length_singleton] at this
      exact absurd this (by simp)
    · refine q2 c3 _ (s2.trans (s4.trans s5)) ?_
      unfold sub7
      rw [Int.toNat_natCast]
      exact (s5 _ _ e4).trans (congrArg (fun l => some (HO.tup l)) (by rw [hd, List.append_nil]))
    · refine q2 q6 _ (s2.trans (s4.trans (s5.trans (same_upd n6)))) ?_
      unfold sub7
      rw [Int.toNat_natCast]
      exact upd_same
  refine ⟨c1, c2, L.take n, [x], rfl, rfl, SqT.of (s2 _ _ h1), SqT.of e2, by rw [lt, sizeLine_eq]; show n + 1 ≤ _; omega, (fun z => ?_), (fun _ z => nomatch z), fun _ _ c3 n3 => ?_⟩
  · exact rest c2 H3 (Same.refl H3) (by rw [e2, z]; rfl)
  · exact rest c3 _ (same_upd n3) upd_same)
/-! ### the parts that are drawn -/
def spPartsBy : Sp := fun vs H Q _ => ∃ (s : Addr) (t : Int), vs = [.ref s] ∧ StrmAt H s t ∧ 0 ≤ t ∧ t ≤ 900 ∧
  ∀ (p : Addr) (nm mt an ri to ma ki : V) (H' : Hp) (t' : Int), L7 H' p [nm, mt, an, ri, to, ma, ki] → wrongP H' nm mt an ri to ma ki = "" → But s H H' → StrmAt H' s t' → 0 ≤ t' → t' ≤ t + 400 → Q (.ref p) H'
theorem nameV_of {z : Str} (h : nameT z = true) : nameV (.str z) = true := h
/-- a name, or none -/
def tLast : TE := fun σ H Q => ∃ (s : Addr) (t : Int), σ[0]? = some (some (.ref s)) ∧ StrmAt H s t ∧ 0 ≤ t ∧ t ≤ 1500 ∧ ∀ (z : Str) (H' : Hp) (t' : Int), nameE (.str z) = true → (∀ H2, Thg H2 (.str z)) → But s H H' → StrmAt H' s t' → 0 ≤ t' → t' ≤ t + 10 → Q (.str z) H'
theorem strm_new {H : Hp} {s p : Addr} {t : Int} {o : HO} (st : StrmAt H s t) (n : H p = none) : StrmAt (upd H p o) s t := by
  obtain ⟨b, c, m, e⟩ := st
  exact ⟨b, c, m, by rw [upd_ne (ne_of_none e n)]; exact e⟩
section
variable {P : Program} {w : World} {K : PySem.W.Frag} {mg : Str → Option Value} {base : Heap} {cB fI : Addr} {c : Nat → Addr}
abbrev NPartsBy : List Str := ["_law_stream_here", "_law_some", "_law_last", "_law_numbers"]
theorem scPartsBy : FnScope NPartsBy ["_law_stream_here"] (defScope sPartsBy) := ⟨rfl, rfl, rfl, by decide +kernel, rfl, by decide +kernel, by decide +kernel⟩
theorem ok_partsBy {f fT fA fN : Addr} {fd fdT fdA fdN : FuncData} (F : Fun K "_law_parts_by" "_law_parts_by" sPartsBy f fd) (ml : mg "len" = none)
    (GT : FnOk P w K mg base CX0 2 fT fdT ["_law_stream_here", "_law_many"] spTake) (kT : PySem.W.keepIn K (.ref fT) = true) (bT : Binds K fdT ["_law_stream_here", "_law_many"] []) (gT : mg "_law_take" = some (.ref fT))
    (GA : FnOk P w K mg base CX0 4 fA fdA ["_law_stream_here"] spAnswersBy) (kA : PySem.W.keepIn K (.ref fA) = true) (bA : Binds K fdA ["_law_stream_here"] []) (gA : mg "_law_answers_by" = some (.ref fA))
    (GN : FnOk P w K mg base CX0 3 fN fdN ["_law_stream_here"] (spByP (fun z => nameT z = true) 9)) (kN : PySem.W.keepIn K (.ref fN) = true) (bN : Binds K fdN ["_law_stream_here"] []) (gN : mg "_law_name_by" = some (.ref fN)) :
    FnOk P w K mg base CX0 5 f fd ["_law_stream_here"] spPartsBy := by
  refine F.ok scPartsBy (fun vs H Q E h => ?_) (fun cdv A outer s H vs Q E hr h => ?_)
  · obtain ⟨a, t, rfl, _⟩ := h
    rfl
  · obtain ⟨a, t, rfl, st, t0, t1, q⟩ := h
    have r2 : Room 2 _ := hr.mono (by decide)
    have r3 : Room 3 _ := hr.mono (by decide)
    refine ⟨_, pss_cons (ps_set (i := 1) scPartsBy.nd rfl (.inl rfl) (pe_call GA hr (by rfl) gA kA bA .nil pass0 (pa_cons (pv 0) pa_nil)))
      (pss_cons (ps_set (i := 2) scPartsBy.nd rfl (.inl rfl) (pe_imp tLast (pe_ifExp (pt_cmpR op_eq (pe_call GT r2 (by rfl) gT kT bT .nil pass0 (pa_cons (pv 0) (pa_cons pe_int pa_nil))) pe_int (nomark _)) (pe_call GN r3 (by rfl) gN kN bN .nil pass0 (pa_cons (pv 0) pa_nil)) pe_str) (by
          rintro σ H Q ⟨s, t, h0, st, t0, t1, q⟩
          refine ⟨_, h0, s, t, 2, rfl, st, t0, by omega, by decide, by decide, fun v1 H1 v10 v11 u1 st1 => ?_⟩
          refine ⟨rfl, _, rfl, ite2 (fun _ => ?_) (fun _ => ?_)⟩
          · exact ⟨_, h0, s, t + 1, rfl, st1, by omega, by omega, fun z H2 t2 hz u2 st2 t20 t21 => q z H2 t2 (by unfold nameE; rw [nameV_of hz]; rfl) (fun _ => name_thg hz) (u1.trans u2) st2 t20 (by omega)⟩
          · exact q _ H1 _ (by decide +kernel) (fun _ => thg_empty) u1 st1 (by omega) (by omega))))
      (pss_cons (ps_set (i := 3) scPartsBy.nd rfl (.inl rfl) (pe_tup (pa_cons (pe_call GT r2 (by rfl) gT kT bT .nil pass0 (pa_cons (pv 0) (pa_cons (pe_callB call_len_seq (by rfl) ml PySem.boot_len (pa_cons (pv 1) pa_nil)) pa_nil))) (pa_cons (pe_op op_add pe_int (pe_call GT r2 (by rfl) gT kT bT .nil pass0 (pa_cons (pv 0) (pa_cons pe_int pa_nil)))) (pa_cons (pe_op op_add pe_int (pe_call GT r2 (by rfl) gT kT bT .nil pass0 (pa_cons (pv 0) (pa_cons pe_int pa_nil)))) pa_nil)))))
      (pss_one (ps_ret (pe_op op_catT (pe_op op_catT (pe_tup (pa_cons (pe_call GN r3 (by rfl) gN kN bN .nil pass0 (pa_cons (pv 0) pa_nil)) (pa_cons (pe_call GN r3 (by rfl) gN kN bN .nil pass0 (pa_cons (pv 0) pa_nil)) (pa_cons (pv 1) pa_nil)))) (pv 3)) (pe_tup (pa_cons (pv 2) pa_nil))))))), ?_⟩
    refine ⟨_, rfl, a, t, rfl, st, t0, by omega, fun zs p1 H1 t1' z2 z6 zt zn hp1 u1 st1 t10 t11 => ?_⟩
    refine ⟨a, t1', rfl, st1, t10, by omega, fun zk H2 t2 hk tk u2 st2 t20 t21 => ?_⟩
    have pa : p1 ≠ a := tup_off hp1 st1
    have hp2 := u2 _ _ pa hp1
    refine ⟨_, rfl, _, rfl, p1, zs.map V.str, rfl, .inr (SqT.of hp2), a, t2, _, rfl, st2, t20, by omega, by rw [List.length_map]; omega, by rw [List.length_map]; omega, fun v3 H3 v30 v31 u3 st3 => ?_⟩
    rw [List.length_map] at v31
    refine ⟨_, rfl, a, _, 9, rfl, st3, by omega, by omega, by decide, by decide, fun v4 H4 v40 v41 u4 st4 => ⟨1, v4, rfl, rfl, ?_⟩⟩
    refine ⟨_, rfl, a, _, 9, rfl, st4, by omega, by omega, by decide, by decide, fun v5 H5 v50 v51 u5 st5 => ⟨1, v5, rfl, rfl, by show 3 ≤ sizeLine; decide, fun p6 n6 => ?_⟩⟩
    have st6 := strm_new (o := .tup [.int v3, .int (1 + v4), .int (1 + v5)]) st5 n6
    have u6 : But a H (upd H5 p6 (.tup [.int v3, .int (1 + v4), .int (1 + v5)])) := ((((u1.trans u2).trans u3).trans u4).trans u5).trans (But.new n6)
    have hp6 : upd H5 p6 (.tup [.int v3, .int (1 + v4), .int (1 + v5)]) p1 = some (.tup (zs.map V.str)) := same_upd n6 _ _ (u5 _ _ pa (u4 _ _ pa (u3 _ _ pa hp2)))
    have hn6 : upd H5 p6 (.tup [.int v3, .int (1 + v4), .int (1 + v5)]) p6 = some (.tup [.int v3, .int (1 + v4), .int (1 + v5)]) := upd_same
    have p6a : p6 ≠ a := tup_off hn6 st6
    refine ⟨_, rfl, a, _, rfl, st6, by omega, by omega, fun z7 H7 t7 hz7 u7 st7 t70 t71 => ?_⟩
    refine ⟨_, rfl, a, _, rfl, st7, by omega, by omega, fun z8 H8 t8 hz8 u8 st8 t80 t81 => ?_⟩
    refine ⟨_, rfl, by show 3 ≤ sizeLine; decide, fun p9 n9 => ?_⟩
    have st9 := strm_new (o := .tup [.str z7, .str z8, .ref p1]) st8 n9
    have u9 : But a H (upd H8 p9 (.tup [.str z7, .str z8, .ref p1])) := ((u6.trans u7).trans u8).trans (But.new n9)
    have hp9 : upd H8 p9 (.tup [.str z7, .str z8, .ref p1]) p1 = some (.tup (zs.map V.str)) := same_upd n9 _ _ (u8 _ _ pa (u7 _ _ pa hp6))
    have hn9 : upd H8 p9 (.tup [.str z7, .str z8, .ref p1]) p6 = some (.tup [.int v3, .int (1 + v4), .int (1 + v5)]) := same_upd n9 _ _ (u8 _ _ p6a (u7 _ _ p6a hn6))
    have hm9 : upd H8 p9 (.tup [.str z7, .str z8, .ref p1]) p9 = some (.tup [.str z7, .str z8, .ref p1]) := upd_same
    refine ⟨_, rfl, p9, p6, _, _, rfl, rfl, SqT.of hm9, SqT.of hn9, (fun z => nomatch z), by show 6 ≤ sizeLine; decide, (fun z => nomatch z), fun _ pb nb => ?_⟩
    refine ⟨_, rfl, by show 1 ≤ sizeLine; decide, fun pc nc => ?_⟩
    refine ⟨pb, pc, [.str z7, .str z8, .ref p1] ++ [.int v3, .int (1 + v4), .int (1 + v5)], [.str zk], rfl, rfl, SqT.of (same_upd nc _ _ upd_same), SqT.of upd_same, (fun z => nomatch z), by show 7 ≤ sizeLine; decide, (fun z => nomatch z), fun _ pd nd => ?_⟩
    have sx := ((same_upd (o := .tup ([.str z7, .str z8, .ref p1] ++ [.int v3, .int (1 + v4), .int (1 + v5)])) nb).trans (same_upd (o := .tup [.str zk]) nc)).trans (same_upd (o := .tup ([.str z7, .str z8, .ref p1] ++ [.int v3, .int (1 + v4), .int (1 + v5)] ++ [.str zk])) nd)
    have fx := upd_same (H := upd (upd (upd H8 p9 (.tup [.str z7, .str z8, .ref p1])) pb (.tup ([.str z7, .str z8, .ref p1] ++ [.int v3, .int (1 + v4), .int (1 + v5)]))) pc (.tup [.str zk])) (a := pd) (o := .tup ([.str z7, .str z8, .ref p1] ++ [.int v3, .int (1 + v4), .int (1 + v5)] ++ [.str zk]))
    generalize upd (upd (upd (upd H8 p9 (.tup [.str z7, .str z8, .ref p1])) pb (.tup ([.str z7, .str z8, .ref p1] ++ [.int v3, .int (1 + v4), .int (1 + v5)]))) pc (.tup [.str zk])) pd (.tup ([.str z7, .str z8, .ref p1] ++ [.int v3, .int (1 + v4), .int (1 + v5)] ++ [.str zk])) = HX at sx fx ⊢
    have px := sx _ _ hp9
    have ux : But a H HX := u9.trans (But.same sx)
    have stx : StrmAt HX a t8 := by
      obtain ⟨b, c, m, e⟩ := st9
      exact ⟨b, c, m, sx _ _ e⟩
    have an : Thgs HX (.ref p1) := thgs_tup px fun v hv => by
      obtain ⟨z, hz, rfl⟩ := List.mem_map.mp hv
      exact text_thg (zt z hz)
    refine q pd (.str z7) (.str z8) (.ref p1) (.int v3) (.int (1 + v4)) (.int (1 + v5)) (.str zk) HX t8 ⟨fx, rfl, fun x hx => ?_⟩ ?_ ux stx (by omega) (by omega)
    · simp only [List.mem_cons, List.not_mem_nil, or_false] at hx
      rcases hx with rfl | rfl | rfl | rfl | rfl | rfl | rfl
      · exact thgs_str (name_thg hz7)
      · exact thgs_str (name_thg hz8)
      · exact an
      · exact thgs_int
      · exact thgs_int
      · exact thgs_int
      · exact thgs_str (tk _)
    · have ha : answersV HX (.ref p1) = true := by
        unfold answersV
        rw [tupV_at px]
        exact answers_ok z2 z6 zt zn
      have hm : manyV HX (.ref p1) = (zs.length : Int) := by
        unfold manyV
        rw [tupV_at px]
        show (((zs.map V.str).length : Nat) : Int) = _
        rw [List.length_map]
      exact wr7 (nameV_of hz7) (nameV_of hz8) ha (by rw [hm]; exact whole_of v30 (by omega)) (whole_of (by omega) (by omega)) (whole_of (by omega) (by omega)) hk
end
end Pk
namespace Pk
open PySem PySem.Spec L2
/-! ### own ==, whatever it tells -/
section
variable {X : Cx} {k : Nat} {C f : Addr} {fd : FuncData} {ps : List Str} {sp : Sp}
/-- x == y, x of the class C whose __eq__ is f, y of the type tb -/
def rEqO (K : PySem.W.Frag) (C : Addr) (sp : Sp) : R2 := fun x y H Q => ∃ (a dx : Addr) (fs : List (Str × V)) (tb : Value), x = .ref a ∧ H a = some (.ins C dx fs) ∧ TyX K H y tb ∧ PySem.W.notFirst K C tb = true ∧ sp [.ref a, y] H (fun v H' => (∃ b, v = .bl b) ∧ Q v H') E0
theorem op_eqO (F : FnOk X.prog X.w X.K X.mg X.base CX0 k f fd ["self", "other"] sp) (hr : Room k X.A) (hs : PySem.W.findIn X.K (.ref C) "__eq__" = some (some (.ref f))) (hf : PySem.W.isFn X.K (.ref f) = true) (hb : Binds X.K fd ["self", "other"] []) : OpR X (compareOp .Eq) (rEqO X.K C sp) := by
  rintro pins s σ H x y v u Q I rx ry ⟨a, dx, fs, tb, rfl, ha, ty, hn, h⟩
  cases (show v = Value.ref a from rx)
  show wpAny (model X.prog X.w) X.A (richCompare .Eq (.ref a) u) (EP X pins σ Q) X.xe s
  obtain ⟨mA, J, _⟩ := ins_get I.hok ha
  obtain ⟨od, J, _⟩ := J.look
  obtain ⟨m, hF⟩ := I.fr
  obtain ⟨Pz, Z, p, -⟩ := kit_of I ry ty
  refine PySem.W.cmp_K (op := .Eq) (tb := tb) hr.units0 hF I.ok.mod.kin J (Z.ty _ _ I.kIn p) hn hs hf ?_
  refine wpAny_call (codeAny_mono (F.run X.A X.stack s H ⟨[.ref a, u], []⟩ [.ref a, u] [.ref a, y] _ E0 hr I.env0 (hb s [.ref a, u] I.kIn rfl) (.cons rfl (.cons ry .nil)) h) fun r s' hq => ?_)
  match r, hq with
  | .error e, hq => exact hq.elim
  | .ok .next, hq => exact hq.elim
  | .ok .brk, hq => exact hq.elim
  | .ok .cont, hq => exact hq.elim
  | .ok (.ret z), hq =>
    obtain ⟨v, H2, I2, rv, ⟨b, rfl⟩, q2⟩ := I.after hq
    cases rv
    exact ⟨.bl b, H2, I2, rfl, q2⟩
end
namespace OwnNe
open PyProof.Rows PySem.SeqAt
section
variable {M : Model} {prog : Program} {w : World} {A : Around} {E : Value → Shared → Prop} {s : Shared} {K : PySem.W.Frag} {x C f : Addr} {ox : Obj} {od : Option Obj} {b tb : Value}
theorem ifBound_objNe {args : List Value} {Q : Option Value → Shared → Prop} (X : K.In s.heap) (I : PySem.W.InstAt s.heap x ox C od) (hs : PySem.W.findIn K (.ref C) "__ne__" = some (some (.builtin "object.__ne__")))
    (h : wpAny M A (call (.builtin "object.__ne__") (.ref x :: args)) (fun v => Q (some v)) E s) : wpAny M A (callSpecialIfBound? (.ref x) "__ne__" args) Q E s := by
  simp only [callSpecialIfBound?, bindSpecialIfBound?]
  refine wpAny_holding (wpAny_bind (wpAny_bind (wpAny_bind (I.type.here ((PySem.W.looks_findIn X hs).here ?_)))))
  refine wpAny_bind (wpAny_askSetting (wpAny_ite ?_))
  have fin : wpAny M A (call (.builtin "object.__ne__") ([.ref x] ++ args) >>= fun v => pure (some v)) Q E s := wpAny_bind (wpAny_mono h (fun v s' h' => wpAny_pure h') fun _ _ h' => h')
  split
  · exact wpAny_bind (wpAny_of_eq (F.cmp_object.ne.bind _) (wpAny_pure (by exact fin)))
  · exact wpAny_tryCatch (wpAny_bind (wpAny_of_eq (F.cmp_object.ne.bind _) (wpAny_pure (by exact fin))))
theorem entry_ne (X : K.In s.heap) (I : PySem.W.InstAt s.heap x ox C od) (he : PySem.W.findIn K (.ref C) "__eq__" = some (some (.ref f))) (hf : PySem.W.isFn K (.ref f) = true) (hu : A.units < cLine) {Q : Fin → Shared → Prop}
    (hcall : wpAny (model prog w) A (call (.ref f) [.ref x, b]) (fun v s' => ∃ r, v = .bool r ∧ Q (.done (.ret (.bool (!r)))) s') E s) : wpAny (model prog w) A (Builtin.«object.__ne__» ⟨[.ref x, b], []⟩) Q E s := by
  unfold Builtin.«object.__ne__»
  repeat (first
    | with_reducible refine wpAny_cRoomFor hu ?_
    | (refine wpAny_bind (m := callSpecialIfBound? (.ref x) (Str.ofString "__eq__") [b])
        (PySem.W.ifBound_K X I he hf (wpAny_mono hcall (fun r s' hr => by
          obtain ⟨b, rfl, hq⟩ := hr
          repeat (first | exact hq | exact wpAny_pure hq | exact wpAny_truthy_bool hq | (refine wpAny_bind (m := truthy (.bool _)) (wpAny_truthy_bool ?_)) | wp_step)) fun _ _ e => e)))
    | wp_step)
theorem rc_ne (X : K.In s.heap) (I : PySem.W.InstAt s.heap x ox C od) (hb : PySem.W.Looks (model prog w) s.heap (typeOf b) tb) (hn : PySem.W.notFirst K C tb = true) (hs : PySem.W.findIn K (.ref C) "__ne__" = some (some (.builtin "object.__ne__")))
    (hm : PySem.W.mroIn K C (.type "object") = some true) (he : PySem.W.findIn K (.ref C) "__eq__" = some (some (.ref f))) (hf : PySem.W.isFn K (.ref f) = true) (hu : A.units + 1 < cLine) {Q : Value → Shared → Prop}
    (hcall : wpAny (model prog w) A.in1 (call (.ref f) [.ref x, b]) (fun v s' => ∃ r, v = .bool r ∧ Q (.bool (!r)) s') E s) : wpAny (model prog w) A (richCompare .NotEq (.ref x) b) Q E s := by
  have one : wpAny (model prog w) A (tryCompare (.ref x) "__ne__" b) (fun r s' => ∃ v, r = some v ∧ Q v s') E s := by
    unfold tryCompare
    refine wpAny_bind (ifBound_objNe X I hs (wpAny_call (codeAny_call_builtin F.cmp_object.ne.plain F.cmpEntry_ne (PySem.W.check_slot F.cmpKind_ne F.cmpSplit_ne (I.type.andThen (PySem.W.looks_mroIn X hm)) (F.cmpArgs_ne _ _) (entry_ne (A := A.in1) X I he hf hu (wpAny_mono hcall (fun v s' hv => ?_) fun _ _ e => e))))))
    obtain ⟨r, rfl, hq⟩ := hv
    first | exact ⟨r, rfl, wpAny_pure ⟨_, rfl, hq⟩⟩ | exact ⟨r, rfl, ⟨_, rfl, hq⟩⟩
  unfold richCompare
  simp only [oneThing_ref]
  refine wpAny_holding (wpAny_bind (wpAny_cRoomFor (Nat.lt_of_succ_lt hu) ?_))
  refine wpAny_bind (I.type.here (wpAny_bind (hb.here ?_)))
  split
  · rename_i q
    have e : PySem.W.subIn K tb (.ref C) = some false := by
      rcases Bool.or_eq_true_iff.mp hn with e | e
      · rw [beq_iff_eq.mp e] at q; simp at q
      · exact beq_iff_eq.mp e
    refine wpAny_bind ((PySem.W.looks_subIn X e).here ?_)
    simp only [Bool.false_eq_true, if_false]
    refine wpAny_bind (wpAny_mono one (fun r s' z => ?_) fun _ _ e => e)
    obtain ⟨v, rfl, hq⟩ := z
    exact wpAny_pure hq
  · refine wpAny_bind (wpAny_pure ?_)
    simp only [Bool.false_eq_true, if_false]
    refine wpAny_bind (wpAny_mono one (fun r s' z => ?_) fun _ _ e => e)
    obtain ⟨v, rfl, hq⟩ := z
    exact wpAny_pure hq
end
end OwnNe
section
variable {X : Cx} {k : Nat} {C f : Addr} {fd : FuncData} {sp : Sp}
/-- x != y, x of the class C whose __eq__ is f, without an __ne__ of its own -/
def rNeO (K : PySem.W.Frag) (C : Addr) (sp : Sp) : R2 := fun x y H Q => ∃ (a dx : Addr) (fs : List (Str × V)) (tb : Value), x = .ref a ∧ H a = some (.ins C dx fs) ∧ TyX K H y tb ∧ PySem.W.notFirst K C tb = true ∧ sp [.ref a, y] H (fun v H' => ∃ b, v = .bl b ∧ Q (.bl (!b)) H') E0
theorem op_neO (F : FnOk X.prog X.w X.K X.mg X.base CX0 k f fd ["self", "other"] sp) (hr : Room (k + 1) X.A) (hs : PySem.W.findIn X.K (.ref C) "__eq__" = some (some (.ref f))) (hne : PySem.W.findIn X.K (.ref C) "__ne__" = some (some (.builtin "object.__ne__"))) (hm : PySem.W.mroIn X.K C (.type "object") = some true) (hf : PySem.W.isFn X.K (.ref f) = true) (hb : Binds X.K fd ["self", "other"] []) : OpR X (compareOp .NotEq) (rNeO X.K C sp) := by
  rintro pins s σ H x y v u Q I rx ry ⟨a, dx, fs, tb, rfl, ha, ty, hn, h⟩
  cases (show v = Value.ref a from rx)
  show wpAny (model X.prog X.w) X.A (richCompare .NotEq (.ref a) u) (EP X pins σ Q) X.xe s
  obtain ⟨mA, J, _⟩ := ins_get I.hok ha
  obtain ⟨od, J, _⟩ := J.look
  obtain ⟨Pz, Z, p, -⟩ := kit_of I ry ty
  have hu : X.A.units + 1 < cLine := hr.in1.units0
  refine OwnNe.rc_ne (tb := tb) I.kIn J (Z.ty _ _ I.kIn p) hn hne hm hs hf hu ?_
  refine wpAny_call (codeAny_mono (F.run X.A.in1 X.stack s H ⟨[.ref a, u], []⟩ [.ref a, u] [.ref a, y] _ E0 hr.in1 I.env0.in1 (hb s [.ref a, u] I.kIn rfl) (.cons rfl (.cons ry .nil)) h) fun r s' hq => ?_)
  match r, hq with
  | .error e, hq => exact hq.elim
  | .ok .next, hq => exact hq.elim
  | .ok .brk, hq => exact hq.elim
  | .ok .cont, hq => exact hq.elim
  | .ok (.ret z), hq =>
    obtain ⟨v, H2, I2, rv, b, rfl, q2⟩ := I.after hq
    cases rv
    exact ⟨b, rfl, .bl (!b), H2, I2, rfl, q2⟩
end
end Pk
namespace Pk
open PySem L2
/-- a question's parts, as data -/
structure QD where
  nm : Str
  mt : Str
  ws : List Str
  ri : Int
  tl : Int
  ma : Int
  ki : Str
deriving DecidableEq
def QI (CQ : Addr) (H : Hp) (x : Addr) (q : QD) : Prop := ∃ dx a, H x = some (.ins CQ dx (qFs (.str q.nm) (.str q.mt) (.ref a) (.int q.ri) (.int q.tl) (.int q.ma) (.str q.ki))) ∧ H a = some (.tup (q.ws.map V.str)) ∧ q.ws.all PyData.strOk = true
theorem iteF' {p : Prop} [Decidable p] {a b : Prop} (h : ¬ p) (k : b) : if p then a else b := by
  rw [if_neg h]
  exact k
theorem iteT' {p : Prop} [Decidable p] {a b : Prop} (h : p) (k : a) : if p then a else b := by
  rw [if_pos h]
  exact k
theorem strs_dpA {K : PySem.W.Frag} {H : Hp} : ∀ ws : List Str, DpAll K H (ws.map V.str) (ws.map .str)
  | [] => .nil
  | z :: r => .cons (.str z) (strs_dpA r)
theorem strs_eqvA : ∀ ws vs : List Str, PyData.eqvAll (ws.map .str) (vs.map .str) = decide (ws = vs)
  | [], [] => by simp [PyData.eqvAll]
  | [], _ :: _ => by simp [PyData.eqvAll]
  | _ :: _, [] => by simp [PyData.eqvAll]
  | w :: ws, v :: vs => by
    have ih := strs_eqvA ws vs
    simp only [List.map_cons, PyData.eqvAll, PyData.eqv, ih, List.cons.injEq, Bool.decide_and]
    congr 1
theorem strs_depthA : ∀ ws : List Str, PyData.depthAll (ws.map .str) = 0
  | [] => by simp [PyData.depthAll]
  | z :: r => by simp [PyData.depthAll, PyData.depth, strs_depthA r]
theorem strs_shapedT {ws : List Str} (h : ws.all PyData.strOk = true) : SeqAt.shaped (.tuple (ws.map .str)) = true := by
  have e := PyProof.Rows.canLayAll_strs' ws
  rw [h] at e
  simp [SeqAt.shaped, PyData.canLay0, PyData.depth, e, strs_depthA]
def spQEq (K : PySem.W.Frag) (CQ : Addr) : Sp := fun vs H Q _ => ∃ (x : Addr) (y : V) (q1 : QD), vs = [.ref x, y] ∧ QI CQ H x q1 ∧ ((∃ z q2, y = .ref z ∧ QI CQ H z q2 ∧ Q (.bl (decide (q1 = q2))) H) ∨ ∃ tb, TyX K H y tb ∧ PySem.W.kitOne K tb (.ref CQ) = some false ∧ Q (.bl false) H)
def spQLen (CQ : Addr) : Sp := fun vs H Q _ => ∃ (x : Addr) (q1 : QD), vs = [.ref x] ∧ QI CQ H x q1 ∧ Q (.int q1.ws.length) H
section
variable {P : Program} {w : World} {K : PySem.W.Frag} {mg : Str → Option Value} {base : Heap}
theorem scQLen : FnScope ["self"] ["self"] (defScope sQLen) := ⟨rfl, rfl, rfl, by decide +kernel, rfl, by decide +kernel, by decide +kernel⟩
theorem ok_qLen {f CQ : Addr} {fd : FuncData} (F : Fun K "__len__" "Question.__len__" sQLen f fd) (C : QCls K CQ) (ml : mg "len" = none) : FnOk P w K mg base CX0 1 f fd ["self"] (spQLen CQ) := by
  refine F.ok scQLen (fun vs H Q E h => ?_) (fun cdv A outer s H vs Q E hr h => ?_)
  · obtain ⟨x, q1, rfl, _⟩ := h
    rfl
  · obtain ⟨x, q1, rfl, ⟨dx, a, hx, ha, _⟩, q⟩ := h
    refine ⟨_, pss_one (ps_ret (pe_callB call_len_seq (by rfl) ml PySem.boot_len (pa_cons (pe_fld (pv 0) rfl) pa_nil))), ?_⟩
    refine ⟨_, rfl, x, CQ, dx, _, _, rfl, hx, C.cls, C.no _ (by decide), look_answers _ _ _ _ _ _ _, a, _, rfl, .inr (SqT.of ha), ?_⟩
    rw [List.length_map]
    exact q
theorem scQEq : FnScope ["self", "other"] ["self", "other"] (defScope sQEq) := ⟨rfl, rfl, rfl, by decide +kernel, rfl, by decide +kernel, by decide +kernel⟩
theorem ok_qEq {f CQ : Addr} {fd : FuncData} (F : Fun K "__eq__" "Question.__eq__" sQEq f fd) (C : QCls K CQ) (CT : QTy K CQ) (mi : mg "isinstance" = none) (gQ : mg "Question" = some (.ref CQ)) : FnOk P w K mg base CX0 2 f fd ["self", "other"] (spQEq K CQ) := by
  refine F.ok scQEq (fun vs H Q E h => ?_) (fun cdv A outer s H vs Q E hr h => ?_)
  · obtain ⟨x, y, q1, rfl, _⟩ := h
    rfl
  · obtain ⟨x, y, q1, rfl, ⟨dx, a, hx, ha, oa⟩, h⟩ := h
    have hu : _ + 64 < cLine := Nat.lt_of_le_of_lt (Nat.add_le_add_left (by decide) _) (room_show hr)
    refine ⟨_, pss_one (ps_ret (pe_and (pe_callB call_isi (by rfl) mi (by decide +kernel) (pa_cons (pv 1) (pa_cons (pe_glob (v := .ref CQ) (by rfl) gQ rfl (by decide)) pa_nil)))
      (pe_and (pe_cmpR op_eq (pe_fld (pv 0) rfl) (pe_fld (pv 1) rfl) (nomark _)) (pe_and (pe_cmpR op_eq (pe_fld (pv 0) rfl) (pe_fld (pv 1) rfl) (nomark _)) (pe_and (pe_cmpR (op_eqD hu) (pe_fld (pv 0) rfl) (pe_fld (pv 1) rfl) (by rfl))
      (pe_and (pe_cmpR op_eq (pe_fld (pv 0) rfl) (pe_fld (pv 1) rfl) (nomark _)) (pe_and (pe_cmpR op_eq (pe_fld (pv 0) rfl) (pe_fld (pv 1) rfl) (nomark _)) (pe_and (pe_cmpR op_eq (pe_fld (pv 0) rfl) (pe_fld (pv 1) rfl) (nomark _)) (pe_one (pe_cmpR op_eq (pe_fld (pv 0) rfl) (pe_fld (pv 1) rfl) (nomark _))))))))))), ?_⟩
    rcases h with ⟨z, q2, rfl, ⟨dz, b, hz, hb, ob⟩, q⟩ | ⟨tb, ty, kt, q⟩
    · refine ⟨_, rfl, _, _, _, _, true, rfl, .own _, .base (.ins hz C.cls CT.ha CT.hn CT.ht CT.hm), CT.hk, _, rfl, iteT ?_⟩
      have no : ∀ {α : Type} (g : QD → α), g q1 ≠ g q2 → Q (.bl false) H := fun g hg => by
        rw [decide_eq_false (fun e => hg (by rw [e]))] at q
        exact q
      refine ⟨_, rfl, x, CQ, dx, _, _, rfl, hx, C.cls, C.no _ (by decide), look_name _ _ _ _ _ _ _, _, rfl, z, CQ, dz, _, _, rfl, hz, C.cls, C.no _ (by decide), look_name _ _ _ _ _ _ _, rfl, _, rfl, ?_⟩
      by_cases h0 : q1.nm = q2.nm
      case neg => exact iteF' (by simpa using h0) (no QD.nm h0)
      refine iteT' (by simp [h0]) ?_
      refine ⟨_, rfl, x, CQ, dx, _, _, rfl, hx, C.cls, C.no _ (by decide), look_matter _ _ _ _ _ _ _, _, rfl, z, CQ, dz, _, _, rfl, hz, C.cls, C.no _ (by decide), look_matter _ _ _ _ _ _ _, rfl, _, rfl, ?_⟩
      by_cases h1 : q1.mt = q2.mt
      case neg => exact iteF' (by simpa using h1) (no QD.mt h1)
      refine iteT' (by simp [h1]) ?_
      refine ⟨_, rfl, x, CQ, dx, _, _, rfl, hx, C.cls, C.no _ (by decide), look_answers _ _ _ _ _ _ _, _, rfl, z, CQ, dz, _, _, rfl, hz, C.cls, C.no _ (by decide), look_answers _ _ _ _ _ _ _, .tuple (q1.ws.map .str), .tuple (q2.ws.map .str), .tup (SqT.of ha) (strs_dpA _), .tup (SqT.of hb) (strs_dpA _), strs_shapedT oa, strs_shapedT ob, _, rfl, ?_⟩
      have ev : PyData.eqv (.tuple (q1.ws.map .str)) (.tuple (q2.ws.map .str)) = decide (q1.ws = q2.ws) := by
        rw [← strs_eqvA]
        simp [PyData.eqv]
      rw [ev]
      by_cases h2 : q1.ws = q2.ws
      case neg => exact iteF' (by simpa using h2) (no QD.ws h2)
      refine iteT' (by simp [h2]) ?_
      refine ⟨_, rfl, x, CQ, dx, _, _, rfl, hx, C.cls, C.no _ (by decide), look_right _ _ _ _ _ _ _, _, rfl, z, CQ, dz, _, _, rfl, hz, C.cls, C.no _ (by decide), look_right _ _ _ _ _ _ _, rfl, _, rfl, ?_⟩
      by_cases h3 : q1.ri = q2.ri
      case neg => exact iteF' (by simpa using h3) (no QD.ri h3)
      refine iteT' (by simp [h3]) ?_
      refine ⟨_, rfl, x, CQ, dx, _, _, rfl, hx, C.cls, C.no _ (by decide), look_toil _ _ _ _ _ _ _, _, rfl, z, CQ, dz, _, _, rfl, hz, C.cls, C.no _ (by decide), look_toil _ _ _ _ _ _ _, rfl, _, rfl, ?_⟩
      by_cases h4 : q1.tl = q2.tl
      case neg => exact iteF' (by simpa using h4) (no QD.tl h4)
      refine iteT' (by simp [h4]) ?_
      refine ⟨_, rfl, x, CQ, dx, _, _, rfl, hx, C.cls, C.no _ (by decide), look_marks _ _ _ _ _ _ _, _, rfl, z, CQ, dz, _, _, rfl, hz, C.cls, C.no _ (by decide), look_marks _ _ _ _ _ _ _, rfl, _, rfl, ?_⟩
      by_cases h5 : q1.ma = q2.ma
      case neg => exact iteF' (by simpa using h5) (no QD.ma h5)
      refine iteT' (by simp [h5]) ?_
      refine ⟨_, rfl, x, CQ, dx, _, _, rfl, hx, C.cls, C.no _ (by decide), look_kin _ _ _ _ _ _ _, _, rfl, z, CQ, dz, _, _, rfl, hz, C.cls, C.no _ (by decide), look_kin _ _ _ _ _ _ _, rfl, ?_⟩
      have e : decide (q1 = q2) = decide (V.str q1.ki = V.str q2.ki) := by
        obtain ⟨a1, a2, a3, a4, a5, a6, a7⟩ := q1
        obtain ⟨b1, b2, b3, b4, b5, b6, b7⟩ := q2
        dsimp only at h0 h1 h2 h3 h4 h5 ⊢
        subst h0 h1 h2 h3 h4 h5
        simp
      rw [e] at q
      exact q
    · exact ⟨_, rfl, _, _, tb, _, false, rfl, .own _, ty, kt, _, rfl, iteF q⟩
end
end Pk
namespace Pk
open PySem L2
/-! ### tuples of things, shown -/
structure ShowsL (K : PySem.W.Frag) (H : Hp) (L : List V) (ds : List PyData) (n k : Nat) : Prop where
  dp : DpAll K H L ds
  sh : PyData.showableAll ds = true
  de : PyData.depthAll ds ≤ k
  nd : PyData.hasDictAll ds = false
  sz : ((PyData.shownAll ds).map fun t => t.length + 2).sum ≤ n
section
variable {K : PySem.W.Frag} {H : Hp} {L : List V} {ds : List PyData} {n k : Nat}
theorem ShowsL.nil : ShowsL K H [] [] 0 k := ⟨.nil, by simp [PyData.showableAll], by simp [PyData.depthAll], by simp [PyData.hasDictAll], by simp [PyData.shownAll]⟩
theorem ShowsL.str {z : Str} (hl : z.length ≤ 100) (ho : Sgn z) (h : ShowsL K H L ds n k) : ShowsL K H (.str z :: L) (.str z :: ds) (n + 1004) k where
  dp := .cons (.str z) h.dp
  sh := by simp [PyData.showableAll, PyData.showable, h.sh]
  de := by
    have := h.de
    simp [PyData.depthAll, PyData.depth]
    omega
  nd := by simp [PyData.hasDictAll, PyData.hasDict, h.nd]
  sz := by
    have h1 := h.sz
    have h2 := repr_le hl ho
    simp [PyData.shownAll, PyData.shown]
    omega
theorem small_text {i : Int} (h0 : 0 ≤ i) (h9 : i ≤ 9) : (Str.ofString (toString i)).length ≤ 2 := by
  have : i = 0 ∨ i = 1 ∨ i = 2 ∨ i = 3 ∨ i = 4 ∨ i = 5 ∨ i = 6 ∨ i = 7 ∨ i = 8 ∨ i = 9 := by omega
  rcases this with rfl | rfl | rfl | rfl | rfl | rfl | rfl | rfl | rfl | rfl <;> decide +kernel
theorem small_log {i : Int} (h0 : 0 ≤ i) (h9 : i ≤ 9) : i.natAbs.log2 < 1920 := by
  have : i = 0 ∨ i = 1 ∨ i = 2 ∨ i = 3 ∨ i = 4 ∨ i = 5 ∨ i = 6 ∨ i = 7 ∨ i = 8 ∨ i = 9 := by omega
  rcases this with rfl | rfl | rfl | rfl | rfl | rfl | rfl | rfl | rfl | rfl <;> decide +kernel
theorem ShowsL.int {i : Int} (h0 : 0 ≤ i) (h9 : i ≤ 9) (h : ShowsL K H L ds n k) : ShowsL K H (.int i :: L) (.int i :: ds) (n + 4) k where
  dp := .cons (.int i) h.dp
  sh := by
    have e : PyData.showable (.int i) = true := decide_eq_true (small_log h0 h9)
    simp [PyData.showableAll, e, h.sh]
  de := by
    have := h.de
    simp [PyData.depthAll, PyData.depth]
    omega
  nd := by simp [PyData.hasDictAll, PyData.hasDict, h.nd]
  sz := by
    have h1 := h.sz
    have h2 := small_text h0 h9
    have e : (PyData.int i).shown = Str.ofString (toString i) := by simp [PyData.shown]
    have e2 : ((PyData.shownAll (.int i :: ds)).map fun t => t.length + 2).sum = ((PyData.int i).shown.length + 2) + ((PyData.shownAll ds).map fun t => t.length + 2).sum := by simp [PyData.shownAll]
    rw [e2, e]
    omega
theorem join_le : ∀ ts : List Str, (Str.join ", " ts).length ≤ (ts.map fun t => t.length + 2).sum
  | [] => Nat.zero_le _
  | [x] => by
    show x.length ≤ _
    simp
  | x :: y :: r => by
    have ih := join_le (y :: r)
    show (x ++ ", " ++ Str.join ", " (y :: r)).length ≤ _
    rw [app_len, app_len, show ((", " : String) : Str).length = 2 by decide +kernel, List.map_cons, List.sum_cons]
    omega
theorem tup_le (ts : List Str) : (tupleText ts).length ≤ 3 + (ts.map fun t => t.length + 2).sum := by
  unfold tupleText
  have h := join_le ts
  have h2 : (((if ts.length == 1 then ",)" else ")" : String) : Str)).length ≤ 2 := by split <;> decide +kernel
  rw [app_len, app_len, show (("(" : String) : Str).length = 1 by decide +kernel]
  omega
theorem ShowsL.tup {a : Addr} {L2 : List V} {ds2 : List PyData} {n2 k2 : Nat} (ha : H a = some (.tup L2)) (g : ShowsL K H L2 ds2 n2 k2) (hk : k2 + 1 ≤ k) (h : ShowsL K H L ds n k) : ShowsL K H (.ref a :: L) (.tuple ds2 :: ds) (n + n2 + 5) k where
  dp := .cons (.tup (SqT.of ha) g.dp) h.dp
  sh := by simp [PyData.showableAll, PyData.showable, g.sh, h.sh]
  de := by
    have := h.de
    have := g.de
    simp [PyData.depthAll, PyData.depth]
    omega
  nd := by simp [PyData.hasDictAll, PyData.hasDict, g.nd, h.nd]
  sz := by
    have h1 := h.sz
    have h2 := g.sz
    have h3 := tup_le (PyData.shownAll ds2)
    simp [PyData.shownAll, PyData.shown]
    omega
theorem ShowsL.all {t : Addr} (ht : H t = some (.tup L)) (h : ShowsL K H L ds n k) (hn : n ≤ 100000) (hk : k ≤ 60) : Shows K H (.ref t) (.tuple ds) where
  dq := .of (.tup (SqT.of ht) h.dp) (by simp [PyData.hasDict, h.nd])
  sh := by simp [PyData.showable, h.sh]
  dp := by
    have := h.de
    simp [PyData.depth]
    omega
  sz := by
    have h1 := h.sz
    have h3 := tup_le (PyData.shownAll ds)
    have e : (PyData.tuple ds).shown = tupleText (PyData.shownAll ds) := by simp [PyData.shown]
    rw [e, sizeLine_eq]
    omega
/-- texts -/
theorem ShowsL.texts (k : Nat) : ∀ L : List V, L.all textV = true → (∀ v ∈ L, Thg H v) → ∃ ds, ShowsL K H L ds (1004 * L.length) k
  | [], _, _ => ⟨[], .nil⟩
  | v :: L, h, ht => by
    rw [List.all_cons, Bool.and_eq_true] at h
    obtain ⟨ds, g⟩ := ShowsL.texts k L h.2 (fun u hu => ht u (List.mem_cons_of_mem _ hu))
    have hv := ht v List.mem_cons_self
    have h1 := h.1
    cases hv with
    | str z hl ho =>
      have hz : textT z = true := h1
      unfold textT at hz
      simp only [Bool.and_eq_true, decide_eq_true_iff] at hz
      refine ⟨.str z :: ds, ?_⟩
      have e := ShowsL.str (by omega) ho g
      rw [List.length_cons, show 1004 * (L.length + 1) = 1004 * L.length + 1004 by omega]
      exact e
    | _ => cases h1
end
end Pk
namespace Pk
open PySem L2
/-! ### how a question is told -/
structure QB (q : QD) : Prop where
  n1 : q.nm.length ≤ 100
  n2 : q.mt.length ≤ 100
  n3 : q.ki.length ≤ 100
  t0 : 0 ≤ q.tl
  t9 : q.tl ≤ 9
  m0 : 0 ≤ q.ma
  m9 : q.ma ≤ 9
def qText0 (q : QD) : Str := (((((q.nm ++ ": ") ++ q.mt) ++ ", ") ++ Str.ofString (toString q.tl)) ++ ", ") ++ Str.ofString (toString q.ma)
def qText (q : QD) : Str := if q.ki = "" then qText0 q else (qText0 q ++ ", of kin ") ++ q.ki
theorem empty_app5 (x : Str) : Str.empty ++ x = x := TL.ext_tl (by rw [TL.tl_append]; rfl)
def spQStr (CQ : Addr) : Sp := fun vs H Q _ => ∃ (x : Addr) (q : QD), vs = [.ref x] ∧ QI CQ H x q ∧ QB q ∧ Q (.str (qText q)) H
def spQRepr (CQ : Addr) : Sp := fun vs H Q _ => ∃ (x : Addr) (q : QD), vs = [.ref x] ∧ QI CQ H x q ∧ QB q ∧ Q (.str (("Question(" ++ q.nm) ++ ")")) H
section
variable {P : Program} {w : World} {K : PySem.W.Frag} {mg : Str → Option Value} {base : Heap}
theorem scQRepr : FnScope ["self"] ["self"] (defScope sQRepr) := ⟨rfl, rfl, rfl, by decide +kernel, rfl, by decide +kernel, by decide +kernel⟩
theorem ok_qRepr {f CQ : Addr} {fd : FuncData} (F : Fun K "__repr__" "Question.__repr__" sQRepr f fd) (C : QCls K CQ) : FnOk P w K mg base CX0 1 f fd ["self"] (spQRepr CQ) := by
  refine F.ok scQRepr (fun vs H Q E h => ?_) (fun cdv A outer s H vs Q E hr h => ?_)
  · obtain ⟨x, q1, rfl, _⟩ := h
    rfl
  · obtain ⟨x, q1, rfl, ⟨dx, a, hx, ha, _⟩, B, q⟩ := h
    have l0 : Str.empty.length = 0 := by decide +kernel
    have l1 : ((("Question(" : String) : Str)).length = 9 := by decide +kernel
    have l2 : (((")" : String) : Str)).length = 1 := by decide +kernel
    have b1 := B.n1
    refine ⟨_, pss_one (ps_ret (pe_joined (.cons pe_str (.cons (pe_fmt (pe_fld (pv 0) rfl)) (.cons pe_str .nil))))), ?_⟩
    refine ⟨_, rfl, by simp only [app_len, l0, l1, sizeLine_eq]; omega, _, rfl, x, CQ, dx, _, _, rfl, hx, C.cls, C.no _ (by decide), look_name _ _ _ _ _ _ _, .inl ⟨_, rfl, by rw [sizeLine_eq]; omega, _, rfl, by simp only [app_len, l0, l1, sizeLine_eq]; omega, _, rfl, by simp only [app_len, l0, l1, l2, sizeLine_eq]; omega, ?_⟩⟩
    rw [empty_app5]
    exact q
theorem scQStr : FnScope ["self"] ["self"] (defScope sQStr) := ⟨rfl, rfl, rfl, by decide +kernel, rfl, by decide +kernel, by decide +kernel⟩
theorem ok_qStr {f CQ : Addr} {fd : FuncData} (F : Fun K "__str__" "Question.__str__" sQStr f fd) (C : QCls K CQ) : FnOk P w K mg base CX0 1 f fd ["self"] (spQStr CQ) := by
  refine F.ok scQStr (fun vs H Q E h => ?_) (fun cdv A outer s H vs Q E hr h => ?_)
  · obtain ⟨x, q1, rfl, _⟩ := h
    rfl
  · obtain ⟨x, q1, rfl, ⟨dx, a, hx, ha, _⟩, B, q⟩ := h
    have l0 : Str.empty.length = 0 := by decide +kernel
    have l1 : (((": " : String) : Str)).length = 2 := by decide +kernel
    have l2 : (((", " : String) : Str)).length = 2 := by decide +kernel
    have l3 : (((", of kin " : String) : Str)).length = 9 := by decide +kernel
    have b1 := B.n1
    have b2 := B.n2
    have b3 := B.n3
    have b4 := small_text B.t0 B.t9
    have b5 := small_text B.m0 B.m9
    have g4 := small_log B.t0 B.t9
    have g5 := small_log B.m0 B.m9
    refine ⟨_, pss_cons (ps_if (pt_cmpR op_eq (pe_fld (pv 0) rfl) pe_str (nomark _)) (pss_one (ps_ret (pe_joined (.cons (pe_fmt (pe_fld (pv 0) rfl)) (.cons pe_str (.cons (pe_fmt (pe_fld (pv 0) rfl)) (.cons pe_str (.cons (pe_fmt (pe_fld (pv 0) rfl)) (.cons pe_str (.cons (pe_fmt (pe_fld (pv 0) rfl)) .nil)))))))))) pss_nil)
      (pss_one (ps_ret (pe_joined (.cons (pe_fmt (pe_fld (pv 0) rfl)) (.cons pe_str (.cons (pe_fmt (pe_fld (pv 0) rfl)) (.cons pe_str (.cons (pe_fmt (pe_fld (pv 0) rfl)) (.cons pe_str (.cons (pe_fmt (pe_fld (pv 0) rfl)) (.cons pe_str (.cons (pe_fmt (pe_fld (pv 0) rfl)) .nil)))))))))))), ?_⟩
    refine ⟨_, rfl, x, CQ, dx, _, _, rfl, hx, C.cls, C.no _ (by decide), look_kin _ _ _ _ _ _ _, rfl, _, rfl, ?_⟩
    by_cases hk : q1.ki = ""
    · refine iteT' (by simp [hk]) ⟨_, rfl, x, CQ, dx, _, _, rfl, hx, C.cls, C.no _ (by decide), look_name _ _ _ _ _ _ _, .inl ⟨_, rfl, by rw [sizeLine_eq]; omega, _, rfl, by simp only [app_len, l0, l1, l2, l3, sizeLine_eq]; omega, _, rfl, by simp only [app_len, l0, l1, l2, l3, sizeLine_eq]; omega, _, rfl, x, CQ, dx, _, _, rfl, hx, C.cls, C.no _ (by decide), look_matter _ _ _ _ _ _ _, .inl ⟨_, rfl, by rw [sizeLine_eq]; omega, _, rfl, by simp only [app_len, l0, l1, l2, l3, sizeLine_eq]; omega, _, rfl, by simp only [app_len, l0, l1, l2, l3, sizeLine_eq]; omega, _, rfl, x, CQ, dx, _, _, rfl, hx, C.cls, C.no _ (by decide), look_toil _ _ _ _ _ _ _, .inr ⟨_, rfl, g4, _, rfl, by simp only [app_len, l0, l1, l2, l3, sizeLine_eq]; omega, _, rfl, by simp only [app_len, l0, l1, l2, l3, sizeLine_eq]; omega, _, rfl, x, CQ, dx, _, _, rfl, hx, C.cls, C.no _ (by decide), look_marks _ _ _ _ _ _ _, .inr ⟨_, rfl, g5, _, rfl, by simp only [app_len, l0, l1, l2, l3, sizeLine_eq]; omega, ?_⟩⟩⟩⟩⟩
      unfold qText at q
      rw [if_pos hk] at q
      rw [empty_app5]
      exact q
    · refine iteF' (by simpa using hk) ⟨_, rfl, x, CQ, dx, _, _, rfl, hx, C.cls, C.no _ (by decide), look_name _ _ _ _ _ _ _, .inl ⟨_, rfl, by rw [sizeLine_eq]; omega, _, rfl, by simp only [app_len, l0, l1, l2, l3, sizeLine_eq]; omega, _, rfl, by simp only [app_len, l0, l1, l2, l3, sizeLine_eq]; omega, _, rfl, x, CQ, dx, _, _, rfl, hx, C.cls, C.no _ (by decide), look_matter _ _ _ _ _ _ _, .inl ⟨_, rfl, by rw [sizeLine_eq]; omega, _, rfl, by simp only [app_len, l0, l1, l2, l3, sizeLine_eq]; omega, _, rfl, by simp only [app_len, l0, l1, l2, l3, sizeLine_eq]; omega, _, rfl, x, CQ, dx, _, _, rfl, hx, C.cls, C.no _ (by decide), look_toil _ _ _ _ _ _ _, .inr ⟨_, rfl, g4, _, rfl, by simp only [app_len, l0, l1, l2, l3, sizeLine_eq]; omega, _, rfl, by simp only [app_len, l0, l1, l2, l3, sizeLine_eq]; omega, _, rfl, x, CQ, dx, _, _, rfl, hx, C.cls, C.no _ (by decide), look_marks _ _ _ _ _ _ _, .inr ⟨_, rfl, g5, _, rfl, by simp only [app_len, l0, l1, l2, l3, sizeLine_eq]; omega, _, rfl, by simp only [app_len, l0, l1, l2, l3, sizeLine_eq]; omega, _, rfl, x, CQ, dx, _, _, rfl, hx, C.cls, C.no _ (by decide), look_kin _ _ _ _ _ _ _, .inl ⟨_, rfl, by rw [sizeLine_eq]; omega, _, rfl, by simp only [app_len, l0, l1, l2, l3, sizeLine_eq]; omega, ?_⟩⟩⟩⟩⟩⟩
      unfold qText at q
      rw [if_neg hk] at q
      rw [empty_app5]
      exact q
end
end Pk
namespace Pk
open PySem L2
/-! ### t + u and t[a:b], whatever object it is -/
theorem cut_whole {L : List V} {lo hi : Option Int} (h : HT.sIx L.length 0 lo = 0 ∧ HT.sIx L.length L.length hi = L.length) : cutV L lo hi = L := by
  unfold cutV
  rw [h.1, h.2, List.drop_zero, Nat.sub_zero, List.take_length]
section
variable {X : Cx}
def rSlE : V → Option Int → Option Int → Hp → VK → Prop := fun x lo hi H Q => ∃ a xs, x = .ref a ∧ H a = some (.tup xs) ∧ ∀ (p : Addr) (H' : Hp), Same H H' → H' p = some (.tup (cutV xs lo hi)) → Q (.ref p) H'
theorem sl_tupE : SlR X rSlE := by
  intro pins s σ H x v vl vu lo hi sl Q I rx hs pl pu h
  obtain ⟨a, xs, rfl, hx, q⟩ := h
  exact sl_tupA pins s σ H _ v vl vu lo hi sl Q I rx hs pl pu ⟨a, xs, rfl, SqT.of hx, fun w => q a H (Same.refl H) (by rw [cut_whole w]; exact hx), fun _ p n => q p _ (same_upd n) upd_same⟩
def rCatE : R2 := fun x y H Q => ∃ a b xs ys, x = .ref a ∧ y = .ref b ∧ H a = some (.tup xs) ∧ H b = some (.tup ys) ∧ xs.length + ys.length ≤ 1000 ∧ ∀ (p : Addr) (H' : Hp), Same H H' → H' p = some (.tup (xs ++ ys)) → Q (.ref p) H'
theorem op_catE : OpR X (binaryOp .Add) rCatE := by
  intro pins s σ H x y v u Q I rx ry h
  obtain ⟨a, b, xs, ys, rfl, rfl, ha, hb, hz, q⟩ := h
  refine op_catA pins s σ H _ _ v u Q I rx ry ⟨a, b, xs, ys, rfl, rfl, SqT.of ha, SqT.of hb, by rw [sizeLine_eq]; omega, fun e => q b H (Same.refl H) (by rw [e]; exact hb), fun _ e => q a H (Same.refl H) (by rw [e, List.append_nil]; exact ha), fun _ _ p n => q p _ (same_upd n) upd_same⟩
end
theorem cut_neg1 {L : List V} (h : L ≠ []) : cutV L none (some (-1)) = L.dropLast := by
  unfold cutV
  have hl : 0 < L.length := List.length_pos_iff.mpr h
  have e : HT.sIx L.length L.length (some (-1)) = L.length - 1 := by
    show (if (-1 : Int) < 0 then ((-1 : Int) + (L.length : Int)).toNat else min (-1 : Int).toNat L.length) = _
    rw [if_pos (by decide)]
    omega
  rw [e]
  show (L.drop 0).take (L.length - 1 - 0) = _
  rw [List.drop_zero, Nat.sub_zero, List.dropLast_eq_take]
end Pk
namespace Pk
open PySem L2
/-! ### rows of parts, as data -/
def qRow (q : QD) (a : Addr) : List V := [.str q.nm, .str q.mt, .ref a, .int q.ri, .int q.tl, .int q.ma, .str q.ki]
def RowAt (H : Hp) (p : Addr) (q : QD) : Prop := ∃ a, H p = some (.tup (qRow q a)) ∧ H a = some (.tup (q.ws.map V.str))
/-- all can be there, but perhaps alike answers -/
structure QV (q : QD) : Prop where
  nm : nameT q.nm = true
  mt : nameT q.mt = true
  w2 : 2 ≤ q.ws.length
  w6 : q.ws.length ≤ 6
  wt : ∀ w ∈ q.ws, textT w = true
  r0 : 0 ≤ q.ri
  r1 : q.ri < q.ws.length
  t1 : 1 ≤ q.tl
  t9 : q.tl ≤ 9
  m1 : 1 ≤ q.ma
  m9 : q.ma ≤ 9
  ki : nameE (.str q.ki) = true
section
variable {H H' : Hp} {p s : Addr} {q : QD} {t t' : Int}
theorem RowAt.same (h : RowAt H p q) (k : Same H H') : RowAt H' p q := by
  obtain ⟨a, h1, h2⟩ := h
  exact ⟨a, k _ _ h1, k _ _ h2⟩
theorem RowAt.but (h : RowAt H p q) (k : But s H H') (st : StrmAt H s t) : RowAt H' p q := by
  obtain ⟨a, h1, h2⟩ := h
  exact ⟨a, k _ _ (tup_off h1 st) h1, k _ _ (tup_off h2 st) h2⟩
theorem strm_same (h : StrmAt H s t) (k : Same H H') : StrmAt H' s t := by
  obtain ⟨b, c, m, e⟩ := h
  exact ⟨b, c, m, k _ _ e⟩
/-- what parts_by tells, as data -/
theorem row_of {nm mt an ri to ma ki : V} (h7 : L7 H p [nm, mt, an, ri, to, ma, ki]) (hw : wrongP H nm mt an ri to ma ki = "") : ∃ q, RowAt H p q ∧ QV q ∧ unlike q.ws q.ws.length = q.ws.length := by
  obtain ⟨h0, h1, h2, h3, h4, h5, h6⟩ := wr_all hw
  obtain ⟨i3, rfl, a3, b3⟩ := whole_is h3
  obtain ⟨i4, rfl, a4, b4⟩ := whole_is h4
  obtain ⟨i5, rfl, a5, b5⟩ := whole_is h5
  cases nm with
  | str z0 =>
    cases mt with
    | str z1 =>
      cases ki with
      | str z6 =>
        unfold answersV at h2
        unfold manyV at b3
        cases ht : tupV H an with
        | none => rw [ht] at h2; cases h2
        | some ws =>
          rw [ht] at h2 b3
          obtain ⟨a, rfl, ha⟩ := tupV_of ht
          have h2' : (decide (2 ≤ ws.length) && decide (ws.length ≤ 6) && ws.all textV && decide (unlike (ws.map strV) ws.length = ws.length)) = true := h2
          simp only [Bool.and_eq_true, decide_eq_true_iff] at h2'
          obtain ⟨⟨⟨l2, l6⟩, al⟩, un⟩ := h2'
          have e := strs_of al
          have ln : (ws.map strV).length = ws.length := List.length_map _
          refine ⟨⟨z0, z1, ws.map strV, i3, i4, i5, z6⟩, ⟨a, h7.at_, by rw [ha]; exact congrArg (fun l => some (HO.tup l)) e⟩, ?_, by rw [ln]; exact un⟩
          have b3' : i3 ≤ (ws.length : Int) - 1 := b3
          have tx : ∀ w ∈ ws.map strV, textT w = true := fun w hw => by
            obtain ⟨v, hv, rfl⟩ := List.mem_map.mp hw
            have := List.all_eq_true.mp al v hv
            cases v with
            | str z => exact this
            | _ => cases this
          exact ⟨h0, h1, by show 2 ≤ (ws.map strV).length; rw [ln]; exact l2, by show (ws.map strV).length ≤ 6; rw [ln]; exact l6, tx, a3, by show i3 < ((ws.map strV).length : Int); rw [ln]; omega, a4, b4, a5, b5, h6⟩
      | _ => exact absurd h6 (by unfold nameE nameV; simp)
    | _ => cases h1
  | _ => cases h0
theorem row_qok (h : RowAt H p q) (v : QV q) (u : unlike q.ws q.ws.length = q.ws.length) : ∃ a, H p = some (.tup (qRow q a)) ∧ H a = some (.tup (q.ws.map V.str)) ∧ Qok H (.str q.nm) (.str q.mt) (.ref a) (.int q.ri) (.int q.tl) (.int q.ma) (.str q.ki) := by
  obtain ⟨a, h1, h2⟩ := h
  have tv : tupV H (.ref a) = some (q.ws.map V.str) := tupV_at h2
  have sm : (q.ws.map V.str).map strV = q.ws := by
    rw [List.map_map]
    exact List.map_id'' (fun _ => rfl) q.ws
  refine ⟨a, h1, h2, ⟨name_thg v.nm, name_thg v.mt, ⟨.tup h2, fun ws e x hx => ?_⟩, .int _, .int _, .int _, ?_⟩, wr7 v.nm v.mt ?_ ?_ (whole_of v.t1 v.t9) (whole_of v.m1 v.m9) v.ki⟩
  · rw [tv] at e
    cases e
    obtain ⟨w, hw, rfl⟩ := List.mem_map.mp hx
    exact text_thg (v.wt w hw)
  · have := v.ki
    unfold nameE at this
    rcases Bool.or_eq_true_iff.mp this with h | h
    · exact name_thg h
    · rw [of_decide_eq_true h]
      exact thg_empty
  · unfold answersV
    rw [tv]
    show answersL (q.ws.map V.str) = true
    unfold answersL
    rw [sm, List.length_map, u]
    simp only [Bool.and_eq_true, decide_eq_true_iff, List.all_eq_true]
    refine ⟨⟨⟨v.w2, v.w6⟩, fun x hx => ?_⟩, by trivial⟩
    obtain ⟨w, hw, rfl⟩ := List.mem_map.mp hx
    exact v.wt w hw
  · refine whole_of v.r0 ?_
    unfold manyV
    rw [tv]
    show q.ri ≤ (((q.ws.map V.str).length : Nat) : Int) - 1
    rw [List.length_map]
    have := v.r1
    omega
end
/-- a text cut to nine signs and with a mark behind is one -/
theorem cut9_tl (w : Str) : TL.tl (cutS w none (some 9) ++ "!") = (TL.tl w).take 9 ++ [33] := by
  rw [TL.tl_append, show TL.tl ("!" : Str) = [33] from by decide +kernel]
  congr 1
  show ((w.cps.toList.drop (HT.sIx w.length 0 none)).take (HT.sIx w.length w.length (some 9) - HT.sIx w.length 0 none)).toArray.toList = _
  rw [show HT.sIx w.length w.length (some 9) = min 9 w.length from HT.sIx_nat _ _ 9, show HT.sIx w.length 0 none = 0 from rfl, List.drop_zero, Nat.sub_zero]
  show w.cps.toList.take (min 9 w.length) = w.cps.toList.take 9
  rw [List.take_eq_take_iff, ← len_is]
  omega
theorem cut9_text {w : Str} (h : textT w = true) : textT (cutS w none (some 9) ++ "!") = true := by
  have e := cut9_tl w
  generalize cutS w none (some 9) ++ "!" = z at e
  have e : z.cps.toList = w.cps.toList.take 9 ++ [33] := e
  unfold textT at h ⊢
  simp only [Bool.and_eq_true, decide_eq_true_iff, Bool.not_eq_true', decide_eq_false_iff_not, List.all_eq_true] at h ⊢
  obtain ⟨⟨⟨⟨h1, h2⟩, h3⟩, h4⟩, h5⟩ := h
  rw [len_is] at h1 h2 ⊢
  rw [e]
  refine ⟨⟨⟨⟨?_, ?_⟩, ?_⟩, ?_⟩, ?_⟩
  · rw [List.length_append, List.length_singleton]
    omega
  · rw [List.length_append, List.length_singleton, List.length_take]
    omega
  · rw [List.getElem?_append_left (by rw [List.length_take]; omega), List.getElem?_take]
    simpa using h3
  · rw [List.getLast?_append]
    simp
  · intro c hc
    rcases List.mem_append.mp hc with hc | hc
    · exact h5 c (List.mem_of_mem_take hc)
    · rw [List.mem_singleton.mp hc]
      decide
/-! ### near_by -/
theorem cut_len {L : List V} {lo hi : Option Int} : (cutV L lo hi).length ≤ L.length := by
  unfold cutV
  rw [List.length_take, List.length_drop]
  omega
theorem row_lt {q : QD} {a : Addr} {lo hi : Option Int} {y : V} : (cutV (qRow q a) lo hi).length + [y].length ≤ 1000 := by
  have : (cutV (qRow q a) lo hi).length ≤ 7 := cut_len
  show _ + 1 ≤ _
  omega
theorem row_lt2 {q : QD} {a : Addr} {lo hi lo' hi' : Option Int} {y : V} : (cutV (qRow q a) lo hi ++ [y]).length + (cutV (qRow q a) lo' hi').length ≤ 1000 := by
  have h1 : (cutV (qRow q a) lo hi).length ≤ 7 := cut_len
  have h2 : (cutV (qRow q a) lo' hi').length ≤ 7 := cut_len
  rw [List.length_append]
  show _ + 1 + _ ≤ _
  omega
def spNear : Sp := fun vs H Q _ => ∃ (s p : Addr) (t : Int) (q : QD), vs = [.ref s, .ref p] ∧ StrmAt H s t ∧ 0 ≤ t ∧ t ≤ 500 ∧ RowAt H p q ∧ QV q ∧
  ∀ (p' : Addr) (q' : QD) (H' : Hp) (t' : Int), RowAt H' p' q' → QV q' → But s H H' → StrmAt H' s t' → 0 ≤ t' → t' ≤ t + 410 → Q (.ref p') H'
section
variable {P : Program} {w : World} {K : PySem.W.Frag} {mg : Str → Option Value} {base : Heap}
abbrev NNear : List Str := ["_law_stream_here", "_law_parts", "_law_other", "_law_at", "_law_answers", "_law_turned", "_law_some"]
theorem scNear : FnScope NNear ["_law_stream_here", "_law_parts"] (defScope sNearBy) := ⟨rfl, rfl, rfl, by decide +kernel, rfl, by decide +kernel, by decide +kernel⟩
theorem ok_near {f fT fB : Addr} {fd fdT fdB : FuncData} (F : Fun K "_law_near_by" "_law_near_by" sNearBy f fd) (ml : mg "len" = none)
    (GT : FnOk P w K mg base CX0 2 fT fdT ["_law_stream_here", "_law_many"] spTake) (kT : PySem.W.keepIn K (.ref fT) = true) (bT : Binds K fdT ["_law_stream_here", "_law_many"] []) (gT : mg "_law_take" = some (.ref fT))
    (GB : FnOk P w K mg base CX0 5 fB fdB ["_law_stream_here"] spPartsBy) (kB : PySem.W.keepIn K (.ref fB) = true) (bB : Binds K fdB ["_law_stream_here"] []) (gB : mg "_law_parts_by" = some (.ref fB)) :
    FnOk P w K mg base CX0 6 f fd ["_law_stream_here", "_law_parts"] spNear := by
  refine F.ok scNear (fun vs H Q E h => ?_) (fun cdv A outer s H vs Q E hr h => ?_)
  · obtain ⟨a, p, t, q, rfl, _⟩ := h
    rfl
  · obtain ⟨a, p, t, q, rfl, st, t0, t1, ro, qv, fin⟩ := h
    have r2 : Room 2 _ := hr.mono (by decide)
    refine ⟨_, pss_cons (ps_set (i := 2) scNear.nd rfl (.inl rfl) (pe_call GB hr (by rfl) gB kB bB .nil pass0 (pa_cons (pv 0) pa_nil)))
      (pss_cons (ps_set (i := 3) scNear.nd rfl (.inl rfl) (pe_call GT r2 (by rfl) gT kT bT .nil pass0 (pa_cons (pv 0) (pa_cons pe_int pa_nil))))
      (pss_cons (ps_if (pt_cmpR op_eq (pv 3) pe_int (nomark _)) (pss_one (ps_ret (pv 1))) pss_nil)
      (pss_cons (ps_if (pt_cmpR op_eq (pv 3) pe_int (nomark _))
        (pss_cons (ps_set (i := 4) scNear.nd rfl (.inl rfl) (pe_ix ix_tup (pv 1) pe_int (fun _ _ => rfl)))
        (pss_cons (ps_set (i := 5) scNear.nd rfl (.inl rfl) (pe_op op_catE (pe_slice sl_tupE (pv 4) (po_some pe_int) po_none) (pe_slice sl_tupE (pv 4) po_none (po_some pe_int))))
        (pss_cons (ps_set (i := 6) scNear.nd rfl (.inl rfl) (pe_lst (pa_cons (pv 5) (pa_cons (pe_op op_catE (pe_slice sl_tupE (pv 4) po_none (po_some (pe_un un_neg pe_int))) (pe_tup (pa_cons (pe_op op_add_str (pe_slice sl_str (pe_ix ix_tup (pv 4) (pe_un un_neg pe_int) (fun _ _ => rfl)) po_none (po_some pe_int)) pe_str) pa_nil))) pa_nil))))
        (pss_one (ps_ret (pe_op op_catE (pe_op op_catE (pe_slice sl_tupE (pv 1) po_none (po_some pe_int)) (pe_tup (pa_cons (pe_ix ix_list (pv 6) (pe_call GT r2 (by rfl) gT kT bT .nil pass0 (pa_cons (pv 0) (pa_cons pe_int pa_nil))) (fun _ _ => rfl)) pa_nil))) (pe_slice sl_tupE (pv 1) (po_some pe_int) po_none))))))) pss_nil)
      (pss_cons (ps_if (pt_cmpR op_eq (pv 3) pe_int (nomark _))
        (pss_one (ps_ret (pe_op op_catE (pe_op op_catE (pe_slice sl_tupE (pv 1) po_none (po_some pe_int)) (pe_tup (pa_cons (pe_call GT r2 (by rfl) gT kT bT .nil pass0 (pa_cons (pv 0) (pa_cons (pe_callB call_len_seq (by rfl) ml PySem.boot_len (pa_cons (pe_ix ix_tup (pv 1) pe_int (fun _ _ => rfl)) pa_nil)) pa_nil))) pa_nil))) (pe_slice sl_tupE (pv 1) (po_some pe_int) po_none)))) pss_nil)
      (pss_one (ps_ret (pe_op op_catE (pe_op op_catE (pe_slice sl_tupE (pv 1) po_none (po_some (pv 3))) (pe_tup (pa_cons (pe_ix ix_tup (pv 2) (pv 3) (fun _ _ => rfl)) pa_nil))) (pe_slice sl_tupE (pv 1) (po_some (pe_op op_add (pv 3) pe_int)) po_none)))))))), ?_⟩
    refine ⟨_, rfl, a, t, rfl, st, t0, by omega, fun p1 nm mt an ri to ma ki H1 t1' h7 hw u1 st1 t10 t11 => ?_⟩
    obtain ⟨o, ro1, ov, -⟩ := row_of h7 hw
    have r1 := ro.but u1 st
    refine ⟨_, rfl, a, t1', 8, rfl, st1, t10, by omega, by decide, by decide, fun v H2 v0 v8 u2 st2 => ?_⟩
    have r2' := r1.but u2 st1
    have o2 := ro1.but u2 st1
    have u02 := u1.trans u2
    refine ⟨_, rfl, rfl, _, rfl, ?_⟩
    by_cases e7 : v = 7
    · exact iteT' (by simp [e7]) ⟨_, rfl, fin p q H2 (t1' + 1) r2' qv u02 st2 (by omega) (by omega)⟩
    refine iteF' (by simpa using e7) ⟨_, rfl, rfl, _, rfl, ?_⟩
    obtain ⟨aw, hp, ha⟩ := r2'
    have lw : (q.ws.map V.str).length = q.ws.length := List.length_map _
    have w2 := qv.w2
    have w6 := qv.w6
    by_cases e2 : v = 2
    · refine iteT' (by simp [e2]) ?_
      refine ⟨_, rfl, p, _, 2, .ref aw, rfl, rfl, SqT.of hp, rfl, ?_⟩
      refine ⟨_, rfl, 1, rfl, aw, _, rfl, ha, fun c1 H3 s3 h3 => ?_⟩
      refine ⟨_, rfl, 1, rfl, aw, _, rfl, s3 _ _ ha, fun c2 H4 s4 h4 => ?_⟩
      have x1 : cutV (q.ws.map V.str) (some 1) none = (q.ws.drop 1).map V.str := (cut_hi (by decide)).trans List.map_drop.symm
      have x2 : cutV (q.ws.map V.str) none (some 1) = (q.ws.take 1).map V.str := (cut_lo (by decide)).trans List.map_take.symm
      rw [x1] at h3
      rw [x2] at h4
      refine ⟨c1, c2, _, _, rfl, rfl, s4 _ _ h3, h4, by rw [List.length_map, List.length_map, List.length_drop, List.length_take]; omega, fun c5 H5 s5 h5 => ?_⟩
      rw [← List.map_append] at h5
      have ha5 := s5 _ _ (s4 _ _ (s3 _ _ ha))
      have hp5 := s5 _ _ (s4 _ _ (s3 _ _ hp))
      have st5 := strm_same st2 ((s3.trans s4).trans s5)
      have u5 := u02.trans (But.same ((s3.trans s4).trans s5))
      refine ⟨_, rfl, _, rfl, 1, rfl, -1, rfl, aw, _, rfl, ha5, fun c6 H6 s6 h6 => ?_⟩
      have wne : q.ws ≠ [] := fun e => by rw [e] at w2; exact absurd w2 (by decide)
      have x3 : cutV (q.ws.map V.str) none (some (-1)) = q.ws.dropLast.map V.str := (cut_neg1 (by simpa using wne)).trans (List.map_dropLast ..).symm
      rw [x3] at h6
      have tl : textT (q.ws.getLast wne) = true := qv.wt _ (List.getLast_mem wne)
      have at_ : atI (q.ws.map V.str) (-1) = some (V.str (q.ws.getLast wne)) := by
        refine (congrArg (fun l : List Str => atI (l.map V.str) (-1)) (List.dropLast_concat_getLast wne).symm).trans ?_
        show atI ((q.ws.dropLast ++ [q.ws.getLast wne]).map V.str) (-1) = _
        rw [List.map_append]
        exact atI_last _ _
      have ll : (q.ws.getLast wne).length ≤ 30 := by
        unfold textT at tl
        simp only [Bool.and_eq_true, decide_eq_true_iff] at tl
        exact tl.1.1.1.2
      have cl : (cutS (q.ws.getLast wne) none (some 9) ++ ("!" : Str)).length ≤ 10 := by
        rw [len_is]
        have := cut9_tl (q.ws.getLast wne)
        rw [show (cutS (q.ws.getLast wne) none (some 9) ++ ("!" : Str)).cps.toList = _ from this, List.length_append, List.length_take, List.length_singleton]
        omega
      have ct := cut9_text tl
      have cl2 : (cutS (q.ws.getLast wne) none (some 9)).length + ("!" : Str).length ≤ sizeLine := by
        rw [← app_len, sizeLine_eq]
        omega
      refine ⟨_, rfl, 1, rfl, aw, _, -1, V.str (q.ws.getLast wne), rfl, rfl, SqT.of (s6 _ _ ha5), at_, 9, rfl, _, rfl, by rw [sizeLine_eq]; omega, _, _, rfl, rfl, cl2, by show 1 ≤ sizeLine; decide, fun c7 n7 => ?_⟩
      generalize hz : cutS (q.ws.getLast wne) none (some 9) ++ ("!" : Str) = z9 at ct
      have s7 := same_upd (o := .tup [V.str z9]) n7
      refine ⟨c6, c7, _, _, rfl, rfl, s7 _ _ h6, upd_same, by rw [List.length_map, List.length_dropLast]; show _ + 1 ≤ _; omega, fun c8 H8 s8 h8 => ?_⟩
      have h8' : H8 c8 = some (.tup ((q.ws.dropLast ++ [z9]).map V.str)) := by
        rw [List.map_append]
        exact h8
      refine ⟨by show 2 ≤ sizeLine; decide, fun c9 n9 => ?_⟩
      have s9 := same_upd (o := .lst [V.ref c5, V.ref c8]) n9
      have e9 : upd H8 c9 (.lst [V.ref c5, V.ref c8]) c9 = some (.lst [V.ref c5, V.ref c8]) := upd_same
      have sall := ((s6.trans s7).trans s8).trans s9
      have st9 := strm_same st5 sall
      have u9 := u5.trans (But.same sall)
      have h59 := sall _ _ h5
      have h89 := s9 _ _ h8'
      have hp9 := sall _ _ hp5
      generalize upd H8 c9 (.lst [V.ref c5, V.ref c8]) = H9 at s9 e9 sall st9 u9 h59 h89 hp9 ⊢
      refine ⟨_, rfl, 2, rfl, p, _, rfl, hp9, fun d1 G1 g1 k1 => ?_⟩
      refine ⟨_, rfl, _, rfl, a, _, 2, rfl, strm_same st9 g1, by omega, by omega, by decide, by decide, fun x G2 x0 x2 ux stx => ?_⟩
      have of2 : ∀ {b : Addr} {o : HO}, G1 b = some o → (∀ l, o ≠ .lst l) → G2 b = some o := fun {b o} hb no => ux _ _ (fun e => by
        obtain ⟨bb, cc, mm, es⟩ := strm_same st9 g1
        rw [e, es] at hb
        exact no _ (Option.some.inj hb).symm) hb
      have c9a : c9 ≠ a := fun e => by
        obtain ⟨bb, cc, mm, es⟩ := st9
        rw [e, es] at e9
        have e := HO.lst.inj (Option.some.inj e9)
        exact absurd (congrArg List.length e) (by show ¬ (4 = 2); decide)
      have e9' : G2 c9 = some (.lst [V.ref c5, V.ref c8]) := ux _ _ c9a (g1 _ _ e9)
      have k1' : G2 d1 = some (.tup (cutV (qRow q aw) none (some 2))) := of2 k1 (fun l => by simp)
      have hp2 : G2 p = some (.tup (qRow q aw)) := of2 (g1 _ _ hp9) (fun l => by simp)
      -- whichever of the two
      obtain ⟨c, ws', ax, hc, lc, tc⟩ : ∃ (c : Addr) (ws' : List Str), atI [V.ref c5, V.ref c8] x = some (V.ref c) ∧ G2 c = some (.tup (ws'.map V.str)) ∧ ws'.length = q.ws.length ∧ ∀ w ∈ ws', textT w = true := by
        have hx : x = 0 ∨ x = 1 := by omega
        rcases hx with rfl | rfl
        · refine ⟨c5, q.ws.drop 1 ++ q.ws.take 1, rfl, of2 (g1 _ _ h59) (fun l => by simp), by rw [List.length_append, List.length_drop, List.length_take]; omega, fun w hw => ?_⟩
          rcases List.mem_append.mp hw with hw | hw
          · exact qv.wt w (List.mem_of_mem_drop hw)
          · exact qv.wt w (List.mem_of_mem_take hw)
        · refine ⟨c8, q.ws.dropLast ++ [z9], rfl, of2 (g1 _ _ h89) (fun l => by simp), by rw [List.length_append, List.length_dropLast, List.length_singleton]; omega, fun w hw => ?_⟩
          rcases List.mem_append.mp hw with hw | hw
          · exact qv.wt w ((List.dropLast_subset _) hw)
          · rw [List.mem_singleton.mp hw]
            exact ct
      refine ⟨c9, [V.ref c5, V.ref c8], x, V.ref c, rfl, rfl, SqL.of e9', ax, by show 1 ≤ sizeLine; decide, fun d2 n2 => ?_⟩
      have z2 := same_upd (o := .tup [V.ref c]) n2
      refine ⟨d1, d2, _, _, rfl, rfl, z2 _ _ k1', upd_same, row_lt, fun d3 G3 g3 k3 => ?_⟩
      refine ⟨_, rfl, 3, rfl, p, _, rfl, g3 _ _ (z2 _ _ hp2), fun d4 G4 g4 k4 => ?_⟩
      refine ⟨d3, d4, _, _, rfl, rfl, g4 _ _ k3, k4, row_lt2, fun d5 G5 g5 k5 => ?_⟩
      have gs := ((z2.trans g3).trans g4).trans g5
      exact fin d5 { q with ws := ws' } G5 (t1' + 1 + 1) ⟨c, k5, gs _ _ hc⟩ ⟨qv.nm, qv.mt, by show 2 ≤ ws'.length; omega, by show ws'.length ≤ 6; omega, tc, qv.r0, by show q.ri < (ws'.length : Int); rw [lc]; exact qv.r1, qv.t1, qv.t9, qv.m1, qv.m9, qv.ki⟩ (((u9.trans (But.same g1)).trans ux).trans (But.same gs)) (strm_same stx gs) (by omega) (by omega)
    refine iteF' (by simpa using e2) ⟨_, rfl, rfl, _, rfl, ?_⟩
    by_cases e3 : v = 3
    · refine iteT' (by simp [e3]) ?_
      refine ⟨_, rfl, 3, rfl, p, _, rfl, hp, fun d1 G1 g1 k1 => ?_⟩
      have st3 := strm_same st2 g1
      refine ⟨_, rfl, _, rfl, p, _, 2, .ref aw, rfl, rfl, SqT.of (g1 _ _ hp), rfl, aw, _, rfl, .inr (SqT.of (g1 _ _ ha)), a, _, _, rfl, st3, by omega, by omega, by rw [lw]; omega, by rw [lw]; omega, fun x G2 x0 x2 ux stx => ?_⟩
      rw [lw] at x2
      have k1' := ux _ _ (tup_off k1 st3) k1
      have hp2 := ux _ _ (tup_off (g1 _ _ hp) st3) (g1 _ _ hp)
      have ha2 := ux _ _ (tup_off (g1 _ _ ha) st3) (g1 _ _ ha)
      refine ⟨by show 1 ≤ sizeLine; decide, fun d2 n2 => ?_⟩
      have z2 := same_upd (o := .tup [V.int x]) n2
      refine ⟨d1, d2, _, _, rfl, rfl, z2 _ _ k1', upd_same, row_lt, fun d3 G3 g3 k3 => ?_⟩
      refine ⟨_, rfl, 4, rfl, p, _, rfl, g3 _ _ (z2 _ _ hp2), fun d4 G4 g4 k4 => ?_⟩
      refine ⟨d3, d4, _, _, rfl, rfl, g4 _ _ k3, k4, row_lt2, fun d5 G5 g5 k5 => ?_⟩
      have gs := ((z2.trans g3).trans g4).trans g5
      exact fin d5 { q with ri := x } G5 (t1' + 1 + 1) ⟨aw, k5, gs _ _ ha2⟩ ⟨qv.nm, qv.mt, qv.w2, qv.w6, qv.wt, x0, x2, qv.t1, qv.t9, qv.m1, qv.m9, qv.ki⟩ (((u02.trans (But.same g1)).trans ux).trans (But.same gs)) (strm_same stx gs) (by omega) (by omega)
    refine iteF' (by simpa using e3) ?_
    obtain ⟨ao, hpo, hao⟩ := o2
    -- the part that is otherwise
    obtain ⟨y, q', ay, eq, ew, v'⟩ : ∃ (y : V) (q' : QD), atI (qRow o ao) v = some y ∧ (cutV (qRow q aw) none (some v) ++ [y] ++ cutV (qRow q aw) (some (v + 1)) none = qRow q' aw) ∧ q'.ws = q.ws ∧ QV q' := by
      have hv : v = 0 ∨ v = 1 ∨ v = 4 ∨ v = 5 ∨ v = 6 := by omega
      rcases hv with rfl | rfl | rfl | rfl | rfl
      · exact ⟨_, { q with nm := o.nm }, rfl, rfl, rfl, ⟨ov.nm, qv.mt, qv.w2, qv.w6, qv.wt, qv.r0, qv.r1, qv.t1, qv.t9, qv.m1, qv.m9, qv.ki⟩⟩
      · exact ⟨_, { q with mt := o.mt }, rfl, rfl, rfl, ⟨qv.nm, ov.mt, qv.w2, qv.w6, qv.wt, qv.r0, qv.r1, qv.t1, qv.t9, qv.m1, qv.m9, qv.ki⟩⟩
      · exact ⟨_, { q with tl := o.tl }, rfl, rfl, rfl, ⟨qv.nm, qv.mt, qv.w2, qv.w6, qv.wt, qv.r0, qv.r1, ov.t1, ov.t9, qv.m1, qv.m9, qv.ki⟩⟩
      · exact ⟨_, { q with ma := o.ma }, rfl, rfl, rfl, ⟨qv.nm, qv.mt, qv.w2, qv.w6, qv.wt, qv.r0, qv.r1, qv.t1, qv.t9, ov.m1, ov.m9, qv.ki⟩⟩
      · exact ⟨_, { q with ki := o.ki }, rfl, rfl, rfl, ⟨qv.nm, qv.mt, qv.w2, qv.w6, qv.wt, qv.r0, qv.r1, qv.t1, qv.t9, qv.m1, qv.m9, ov.ki⟩⟩
    refine ⟨_, rfl, _, rfl, v, rfl, p, _, rfl, hp, fun d1 G1 g1 k1 => ?_⟩
    refine ⟨_, rfl, _, rfl, p1, _, v, y, rfl, rfl, SqT.of (g1 _ _ hpo), ay, by show 1 ≤ sizeLine; decide, fun d2 n2 => ?_⟩
    have z2 := same_upd (o := .tup [y]) n2
    refine ⟨d1, d2, _, _, rfl, rfl, z2 _ _ k1, upd_same, row_lt, fun d3 G3 g3 k3 => ?_⟩
    refine ⟨_, rfl, _, rfl, v, 1, rfl, rfl, v + 1, rfl, p, _, rfl, g3 _ _ (z2 _ _ (g1 _ _ hp)), fun d4 G4 g4 k4 => ?_⟩
    refine ⟨d3, d4, _, _, rfl, rfl, g4 _ _ k3, k4, row_lt2, fun d5 G5 g5 k5 => ?_⟩
    have gs := (((g1.trans z2).trans g3).trans g4).trans g5
    exact fin d5 q' G5 (t1' + 1) ⟨aw, by rw [k5, eq], by rw [ew]; exact gs _ _ ha⟩ v' (u02.trans (But.same gs)) (strm_same st2 gs) (by omega) (by omega)
end
end Pk
namespace Pk
open PySem PySem.Spec L2
section
variable {X : Cx}
/-- two lists of the same plain things, ==: yes -/
def rEqSame (K : PySem.W.Frag) : R2 := fun x y H Q => ∃ a b xs, x = .ref a ∧ y = .ref b ∧ SqL K H a xs ∧ SqL K H b xs ∧ (∀ v ∈ xs, flatB v = true) ∧ Q (.bl true) H
theorem same_atE {A : Around} {s : Shared} : ∀ {xs : List V} {us ws : List Value}, (∀ v ∈ xs, flatB v = true) → Vals xs us → Vals xs ws → ∀ j (h1 : j < us.length) (h2 : j < ws.length), SeqAt.EqAt A s us[j] ws[j] true
  | [], us, ws, _, r1, _, j, h1, _ => by
    cases r1
    exact absurd h1 (Nat.not_lt_zero j)
  | x :: xs, us, ws, hf, r1, r2, j, h1, h2 => by
    cases r1 with
    | cons a1 b1 =>
      cases r2 with
      | cons a2 b2 =>
        cases j with
        | zero => exact eqAt_same a1 a2 (hf x (List.mem_cons_self ..))
        | succ j => exact same_atE (fun v hv => hf v (List.mem_cons_of_mem _ hv)) b1 b2 j (Nat.lt_of_succ_lt_succ h1) (Nat.lt_of_succ_lt_succ h2)
theorem op_eqSame (hu : X.A.units < cLine) : OpR X (compareOp .Eq) (rEqSame X.K) := by
  rintro pins s σ H x y v u Q I rx ry ⟨a, b, xs, rfl, rfl, ha, hb, hf, q⟩
  cases (show v = Value.ref a from rx)
  cases (show u = Value.ref b from ry)
  obtain ⟨us, r1, p1, _⟩ := I.list ha
  obtain ⟨ws, r2, p2, _⟩ := I.list hb
  have hsz : us.toArray.size = ws.toArray.size := by
    rw [List.size_toArray, List.size_toArray, ← r1.length, ← r2.length]
  refine SeqAt.RcAt.lists (e := fun _ => true) p1.isList p2.isList hsz hu (fun j h1 h2 => ?_) X.prog X.w _ _ ?_
  · have k := same_atE (A := X.A.in1) (s := s) hf r1 r2 j (by simpa using h1) (by simpa using h2)
    simpa using k
  · rw [show ((List.range us.toArray.size).all fun _ => true) = true from List.all_eq_true.mpr fun _ _ => rfl]
    exact ⟨.bl true, H, I, rfl, q⟩
/-- a is b, of truths -/
theorem op_isBl : OpR X (compareOp .Is) (fun x y H Q => ∃ a b, x = .bl a ∧ y = .bl b ∧ Q (.bl (decide (a = b))) H) := by
  rintro pins s σ H x y v u Q I rx ry ⟨a, b, rfl, rfl, q⟩
  cases (show v = Value.bool a from rx)
  cases (show u = Value.bool b from ry)
  by_cases e : a = b
  · subst e
    exact wpAny_is_self rfl ⟨.bl true, H, I, rfl, by simpa using q⟩
  · exact wpAny_is_other rfl (fun z => e (Value.bool.inj z)) ⟨.bl false, H, I, rfl, by simpa [e] using q⟩
end
end Pk
/-! ### in, count, index of lists of instances, by an own == -/
namespace LQ
open PySem PySem.SeqAt GQ
open AutoSeq1 (wpAny_loadPart')
open MeetsSeq MeetsSeq2 MeetsSeq3 SeqRoads2
section
variable {prog : Program} {w : World} {A : Around} {R : Result → Shared → Prop}
/-- the list stands, and each of its items is told equal to x, or not, with the state as good as ahead -/
structure LstJ (prog : Program) (w : World) (A : Around) (E : Value → Shared → Prop) (l : Addr) (as : List Addr) (x : Value) (e : Addr → Bool) (J : Shared → Prop) : Prop where
  at_ : ∀ s, J s → ∃ (n : Nat) (dd : Option Addr) (sl : Array (Option Value)), s.heap.get? l = some { cls := .type "list", dict := dd, data := .seq (as.map Value.ref).toArray n, slots := sl }
  eq_ : ∀ a ∈ as, ∀ s, J s → wpAny (model prog w) A.in1 (eqBool (.ref a) x) (fun r s' => r = e a ∧ J s') E s
theorem count_loopJ (l : Addr) (as : List Addr) (x : Value) (e : Addr → Bool) (J : Shared → Prop) (hJ : LstJ prog w A (fun e s' => R (.error e) s') l as x e J) (k : Nat) :
    ∀ (i : Nat) (found : Int), as.length - i = k → ∀ s, J s → (∀ s', J s' → R (.ok (.ret (.int (found + ((as.drop i).countP e : Nat)) s'.toks))) { s' with toks := s'.toks + 1 }) →
      wpAny (model prog w) A.in1 (Builtin.«list.count.loop» ⟨[.ref l, x, rawInt i, rawInt found], []⟩) (FinOf prog w A R) (fun e s' => R (.error e) s') s := by
  induction k with
  | zero =>
    intro i found hk s h fin
    obtain ⟨n, dd, sl, hl⟩ := hJ.at_ s h
    have h := fin s h
    obtain ⟨hp, g, d, tk, os⟩ := s
    wp_walk using wpAny_loadPart' hl
    have hi : (as.map Value.ref).toArray[((i : Nat) : Int).toNat]? = none := by simp; omega
    have hd : as.drop i = [] := by simp; omega
    rw [hd] at h
    rw [hi]
    wp_walk
    simpa using h
  | succ k ih =>
    intro i found hk s h fin
    obtain ⟨n, dd, sl, hl⟩ := hJ.at_ s h
    have hlt : i < as.length := by omega
    have ht := hJ.eq_ as[i] (List.getElem_mem hlt) s h
    obtain ⟨hp, g, d, tk, os⟩ := s
    wp_walk using wpAny_loadPart' hl
    have hi : (as.map Value.ref).toArray[((i : Nat) : Int).toNat]? = some (Value.ref as[i]) := by simp [hlt]
    have hd : as.drop i = as[i] :: as.drop (i + 1) := List.drop_eq_getElem_cons hlt
    have hc : ((i : Int) + 1) = ((i + 1 : Nat) : Int) := by push_cast; rfl
    rw [hd, List.countP_cons] at fin
    rw [hi]
    refine wpAny_bind (wpAny_mono ht (fun r s2 h2 => ?_) fun _ _ x => x)
    obtain ⟨hr, h2⟩ := h2
    subst hr
    have hrec := ih (i + 1) (if e as[i] = true then found + 1 else found) (by omega) s2 h2 (fun s' h' => by
      have := fin s' h'
      cases hb : e as[i] with
      | false =>
        simp only [hb, Bool.false_eq_true, if_false, Nat.add_zero] at this ⊢
        exact this
      | true =>
        simp only [hb, if_true] at this ⊢
        have e1 : found + 1 + ((List.countP e (List.drop (i + 1) as) : Nat) : Int) = found + ((List.countP e (List.drop (i + 1) as) + 1 : Nat) : Int) := by push_cast; omega
        rw [e1]
        exact this)
    obtain ⟨hp2, g2, d2, tk2, os2⟩ := s2
    wp_walk
    rw [hc]
    exact ⟨plainId_quiet plain_count_loop _, codeAny_builtin entry_count_loop (by
      rw [Around.under_plainId plain_count_loop _]
      exact hrec)⟩
theorem list_countJ (l : Addr) (as : List Addr) (x : Value) (e : Addr → Bool) (J : Shared → Prop) (hJ : LstJ prog w A (fun e s' => R (.error e) s') l as x e J) {s : Shared} (h : J s) (fin : ∀ s', J s' → R (.ok (.ret (.int (as.countP e : Nat) s'.toks))) { s' with toks := s'.toks + 1 }) :
    wpAny (model prog w) A.in1 (Builtin.«list.count» ⟨[.ref l, x], []⟩) (FinOf prog w A R) (fun e s' => R (.error e) s') s := by
  have hrec := count_loopJ (A := A) (R := R) l as x e J hJ _ 0 0 rfl s h (fun s' h' => by simpa using fin s' h')
  obtain ⟨n, dd, sl, hl⟩ := hJ.at_ s h
  obtain ⟨hp, g, d, tk, os⟩ := s
  wp_walk using wpAny_loadPart' hl
  exact ⟨plainId_quiet plain_count_loop _, codeAny_builtin entry_count_loop (by
    rw [Around.under_plainId plain_count_loop _]
    exact hrec)⟩
theorem contains_loopJ (l : Addr) (as : List Addr) (x : Value) (e : Addr → Bool) (J : Shared → Prop) (hJ : LstJ prog w A (fun e s' => R (.error e) s') l as x e J) (k : Nat) :
    ∀ i : Nat, as.length - i = k → ∀ s, J s → (∀ s', J s' → R (.ok (.ret (.bool ((as.drop i).any e)))) s') →
      wpAny (model prog w) A.in1 (Builtin.«list.__contains__.loop» ⟨[.ref l, x, rawInt i], []⟩) (FinOf prog w A R) (fun e s' => R (.error e) s') s := by
  induction k with
  | zero =>
    intro i hk s h fin
    obtain ⟨n, dd, sl, hl⟩ := hJ.at_ s h
    have h := fin s h
    obtain ⟨hp, g, d, tk, os⟩ := s
    wp_walk using wpAny_loadPart' hl
    have hi : (as.map Value.ref).toArray[((i : Nat) : Int).toNat]? = none := by simp; omega
    have hd : as.drop i = [] := by simp; omega
    rw [hd] at h
    rw [hi]
    wp_walk
    exact h
  | succ k ih =>
    intro i hk s h fin
    obtain ⟨n, dd, sl, hl⟩ := hJ.at_ s h
    have hlt : i < as.length := by omega
    have ht := hJ.eq_ as[i] (List.getElem_mem hlt) s h
    obtain ⟨hp, g, d, tk, os⟩ := s
    wp_walk using wpAny_loadPart' hl
    have hi : (as.map Value.ref).toArray[((i : Nat) : Int).toNat]? = some (Value.ref as[i]) := by simp [hlt]
    have hd : as.drop i = as[i] :: as.drop (i + 1) := List.drop_eq_getElem_cons hlt
    have hc : ((i : Int) + 1) = ((i + 1 : Nat) : Int) := by push_cast; rfl
    rw [hd, List.any_cons] at fin
    rw [hi]
    refine wpAny_bind (wpAny_mono ht (fun r s2 h2 => ?_) fun _ _ x => x)
    obtain ⟨hr, h2⟩ := h2
    subst hr
    cases hb : e as[i] with
    | true =>
      rw [hb, Bool.true_or] at fin
      have h3 := fin s2 h2
      obtain ⟨hp2, g2, d2, tk2, os2⟩ := s2
      wp_walk
      exact h3
    | false =>
      rw [hb, Bool.false_or] at fin
      have hrec := ih (i + 1) (by omega) s2 h2 fin
      obtain ⟨hp2, g2, d2, tk2, os2⟩ := s2
      wp_walk
      rw [hc]
      exact ⟨plainId_quiet plain_contains_loop _, codeAny_builtin entry_contains_loop (by
        rw [Around.under_plainId plain_contains_loop _]
        exact hrec)⟩
theorem list_containsJ (l : Addr) (as : List Addr) (x : Value) (e : Addr → Bool) (J : Shared → Prop) (hJ : LstJ prog w A (fun e s' => R (.error e) s') l as x e J) {s : Shared} (h : J s) (fin : ∀ s', J s' → R (.ok (.ret (.bool (as.any e)))) s') :
    wpAny (model prog w) A.in1 (Builtin.«list.__contains__» ⟨[.ref l, x], []⟩) (FinOf prog w A R) (fun e s' => R (.error e) s') s := by
  have hrec := contains_loopJ (A := A) (R := R) l as x e J hJ _ 0 rfl s h (fun s' h' => by simpa using fin s' h')
  obtain ⟨n, dd, sl, hl⟩ := hJ.at_ s h
  obtain ⟨hp, g, d, tk, os⟩ := s
  wp_walk using wpAny_loadPart' hl
  exact ⟨plainId_quiet plain_contains_loop _, codeAny_builtin entry_contains_loop (by
    rw [Around.under_plainId plain_contains_loop _]
    exact hrec)⟩
theorem index_loopJ (l : Addr) (as : List Addr) (x : Value) (e : Addr → Bool) (J : Shared → Prop) (hJ : LstJ prog w A (fun e s' => R (.error e) s') l as x e J) (upto : Int) (j : Nat) (hj : j < as.length) (hupto : (j : Int) < upto) (hit : e as[j] = true)
    (fin : ∀ s', J s' → R (.ok (.ret (.int j s'.toks))) { s' with toks := s'.toks + 1 }) (k : Nat) :
    ∀ i : Nat, j - i = k → i ≤ j → (∀ m (hm : m < as.length), i ≤ m → m < j → e as[m] = false) → ∀ s, J s →
      wpAny (model prog w) A.in1 (Builtin.«list.index.loop» ⟨[.ref l, x, rawInt i, rawInt upto], []⟩) (FinOf prog w A R) (fun e s' => R (.error e) s') s := by
  induction k with
  | zero =>
    intro i hk hij hno s h
    obtain ⟨n, dd, sl, hl⟩ := hJ.at_ s h
    have hij' : i = j := by omega
    subst hij'
    have ht := hJ.eq_ as[i] (List.getElem_mem hj) s h
    obtain ⟨hp, g, d, tk, os⟩ := s
    wp_walk using wpAny_loadPart' hl
    have hi : (if (i : Int) < upto then (as.map Value.ref).toArray[((i : Nat) : Int).toNat]? else none) = some (Value.ref as[i]) := by simp [hupto, hj]
    rw [hi]
    refine wpAny_bind (wpAny_mono ht (fun r s2 h2 => ?_) fun _ _ x => x)
    obtain ⟨hr, h2⟩ := h2
    subst hr
    rw [hit]
    have h3 := fin s2 h2
    obtain ⟨hp2, g2, d2, tk2, os2⟩ := s2
    wp_walk
    exact h3
  | succ k ih =>
    intro i hk hij hno s h
    obtain ⟨n, dd, sl, hl⟩ := hJ.at_ s h
    have hlt : i < as.length := by omega
    have hst : (i : Int) < upto := by omega
    have ht := hJ.eq_ as[i] (List.getElem_mem hlt) s h
    obtain ⟨hp, g, d, tk, os⟩ := s
    wp_walk using wpAny_loadPart' hl
    have hi : (if (i : Int) < upto then (as.map Value.ref).toArray[((i : Nat) : Int).toNat]? else none) = some (Value.ref as[i]) := by simp [hst, hlt]
    have hc : ((i : Int) + 1) = ((i + 1 : Nat) : Int) := by push_cast; rfl
    rw [hi]
    refine wpAny_bind (wpAny_mono ht (fun r s2 h2 => ?_) fun _ _ x => x)
    obtain ⟨hr, h2⟩ := h2
    subst hr
    rw [hno i hlt (Nat.le_refl _) (by omega)]
    have hrec := ih (i + 1) (by omega) (by omega) (fun m hm h1 h2 => hno m hm (by omega) h2) s2 h2
    obtain ⟨hp2, g2, d2, tk2, os2⟩ := s2
    wp_walk
    rw [hc]
    exact ⟨plainId_quiet plain_index_loop _, codeAny_builtin entry_index_loop (by
      rw [Around.under_plainId plain_index_loop _]
      exact hrec)⟩
theorem list_indexJ (l : Addr) (as : List Addr) (x : Value) (e : Addr → Bool) (J : Shared → Prop) (hJ : LstJ prog w A (fun e s' => R (.error e) s') l as x e J) (j : Nat) (hj : j < as.length) (hsmall : (j : Int) < 2 ^ 63 - 1) (hit : e as[j] = true) (hno : ∀ m (hm : m < as.length), m < j → e as[m] = false)
    (fin : ∀ s', J s' → R (.ok (.ret (.int j s'.toks))) { s' with toks := s'.toks + 1 }) {s : Shared} (h : J s) :
    wpAny (model prog w) A.in1 (Builtin.«list.index» ⟨[.ref l, x], []⟩) (FinOf prog w A R) (fun e s' => R (.error e) s') s := by
  have hrec := index_loopJ (A := A) (R := R) l as x e J hJ (2 ^ 63 - 1) j hj hsmall hit fin _ 0 rfl (Nat.zero_le _) (fun m hm _ h2 => hno m hm h2) s h
  obtain ⟨n, dd, sl, hl⟩ := hJ.at_ s h
  obtain ⟨hp, g, d, tk, os⟩ := s
  wp_walk using wpAny_loadPart' hl
  have a1 : ((fun i : Int => if i < 0 then max 0 (i + ((as.map Value.ref).toArray.size : Int)) else i) ((none : Option Int).getD 0)) = ((0 : Nat) : Int) := by simp
  have a2 : ((fun i : Int => if i < 0 then max 0 (i + ((as.map Value.ref).toArray.size : Int)) else i) ((none : Option Int).getD (2 ^ 63 - 1))) = 2 ^ 63 - 1 := by simp
  rw [a1, a2]
  exact ⟨plainId_quiet plain_index_loop _, codeAny_builtin entry_index_loop (by
    rw [Around.under_plainId plain_index_loop _]
    exact hrec)⟩
end
end LQ
namespace Pk
open PySem PySem.Spec L2
open PyProof.Rows (room_in_shaped)
section
variable {X : Cx} {k : Nat} {C f : Addr} {fd : FuncData} {sp : Sp}
theorem refs_of : ∀ {as : List Addr} {its : List Value}, Vals (as.map V.ref) its → its = as.map Value.ref
  | [], [], _ => rfl
  | a :: as, _, .cons r rs => by
    cases r
    rw [refs_of rs]
    rfl
/-- what == tells of two instances of C: the same one, or by the promise of its __eq__ -/
def EqOf (C : Addr) (sp : Sp) (a c : Addr) (H : Hp) (b : Bool) : Prop := (a = c ∧ b = true) ∨ (a ≠ c ∧ (∃ dx fs, H a = some (.ins C dx fs)) ∧ (∃ dy gs, H c = some (.ins C dy gs)) ∧ sp [.ref a, .ref c] H (fun v H' => v = .bl b ∧ H' = H) E0)
theorem eqB_own (F : FnOk X.prog X.w X.K X.mg X.base CX0 k f fd ["self", "other"] sp) (hs : PySem.W.findIn X.K (.ref C) "__eq__" = some (some (.ref f))) (hf : PySem.W.isFn X.K (.ref f) = true) (hb : Binds X.K fd ["self", "other"] [])
    {A : Around} (sb : Sub X k A) {pins : List (Addr × Obj)} {s : Shared} {σ : St} {H : Hp} (I : Inv X pins σ H s) {a c : Addr} {b : Bool} (h : EqOf C sp a c H b) (E : Value → Shared → Prop) :
    wpAny (model X.prog X.w) A (eqBool (.ref a) (.ref c)) (fun r s' => r = b ∧ Inv X pins σ H s') E s := by
  rcases h with ⟨rfl, rfl⟩ | ⟨ne, ⟨dx, fs, ha⟩, ⟨dy, gs, hc⟩, h⟩
  · exact SeqAt.EqAt.same (A := A) (s := s) (.ref a) X.prog X.w E _ ⟨rfl, I⟩
  · refine GQ.eqBool_refG ne ?_
    obtain ⟨mA, J, _⟩ := ins_get I.hok ha
    obtain ⟨od, J, _⟩ := J.look
    obtain ⟨mB, J', _⟩ := ins_get I.hok hc
    obtain ⟨od', J', _⟩ := J'.look
    obtain ⟨m, hF⟩ := I.fr
    have hF' : A.frames = X.A.frames := sb.fr
    have e0 : Env0 X.prog X.w X.K X.mg X.base A X.stack s H := by
      have e := I.env0
      exact ⟨by rw [sb.fr]; exact e.frames, e.mod, e.bs, e.bsz, e.funs, e.frf, e.hok, e.bare⟩
    refine PySem.W.cmp_K (op := .Eq) (tb := .ref C) sb.room.units0 hF I.ok.mod.kin J J'.type (by simp [PySem.W.notFirst]) hs hf ?_
    refine wpAny_call (codeAny_mono (F.run A X.stack s H ⟨[.ref a, .ref c], []⟩ [.ref a, .ref c] [.ref a, .ref c] _ E0 sb.room e0 (hb s [.ref a, .ref c] I.kIn rfl) (.cons rfl (.cons rfl .nil)) h) fun r s' hq => ?_)
    match r, hq with
    | .error e, hq => exact hq.elim
    | .ok .next, hq => exact hq.elim
    | .ok .brk, hq => exact hq.elim
    | .ok .cont, hq => exact hq.elim
    | .ok (.ret z), hq =>
      obtain ⟨v, H2, I2, rv, rfl, rfl⟩ := I.after hq
      cases rv
      exact ⟨b, rfl, rfl, I2⟩
theorem lstJ (F : FnOk X.prog X.w X.K X.mg X.base CX0 k f fd ["self", "other"] sp) (hr : Room (k + 1) X.A) (hs : PySem.W.findIn X.K (.ref C) "__eq__" = some (some (.ref f))) (hf : PySem.W.isFn X.K (.ref f) = true) (hb : Binds X.K fd ["self", "other"] [])
    {pins : List (Addr × Obj)} {σ : St} {H : Hp} {l c : Addr} {as : List Addr} {e : Addr → Bool} (hl : SqL X.K H l (as.map V.ref)) (he : ∀ a ∈ as, EqOf C sp a c H (e a)) (E : Value → Shared → Prop) : LQ.LstJ X.prog X.w X.A E l as (.ref c) e (fun s => Inv X pins σ H s) where
  at_ := fun s I => by
    obtain ⟨its, rv, ⟨⟨cls, dd, data, sl⟩, n, ho, hc, hdn, hd⟩, hlen⟩ := I.list hl
    simp only at hc hd
    subst hc hd
    rw [refs_of rv] at ho
    exact ⟨n, dd, sl, ho⟩
  eq_ := fun a ha s I => eqB_own F hs hf hb (Sub.in1 ⟨hr, rfl⟩) I (he a ha) E
/-- x in l -/
def rInO (K : PySem.W.Frag) (C : Addr) (sp : Sp) : R2 := fun x y H Q => ∃ (c l : Addr) (as : List Addr) (e : Addr → Bool), x = .ref c ∧ y = .ref l ∧ SqL K H l (as.map V.ref) ∧ (∀ a ∈ as, EqOf C sp a c H (e a)) ∧ Q (.bl (as.any e)) H
theorem op_inO (F : FnOk X.prog X.w X.K X.mg X.base CX0 k f fd ["self", "other"] sp) (hr : Room (k + 1) X.A) (hs : PySem.W.findIn X.K (.ref C) "__eq__" = some (some (.ref f))) (hf : PySem.W.isFn X.K (.ref f) = true) (hb : Binds X.K fd ["self", "other"] []) : OpR X (compareOp .In) (rInO X.K C sp) := by
  rintro pins s σ H x y v u Q I rx ry ⟨c, l, as, e, rfl, rfl, hl, he, q⟩
  cases rx
  cases ry
  have J := lstJ F hr hs hf hb (pins := pins) (σ := σ) hl he X.xe
  obtain ⟨n, dd, sl, ho⟩ := J.at_ s I
  show wpAny _ X.A (do return Value.bool (← contains (.ref l) (.ref c))) _ _ s
  refine wpAny_bind (wpAny_contains_slot ⟨_, ho, rfl⟩ PySem.F.slot_list_contains (wpAny_mono (GQ.call_here (Q := fun v s' => ∃ b, v = .bool b ∧ b = as.any e ∧ Inv X pins σ H s') PySem.F.slot_list_contains ⟨_, ho, rfl⟩ PySem.F.entry_list_contains (PySem.F.args_list_contains_2 _ _) (LQ.list_containsJ (R := wants _ _) l as (.ref c) e _ J I (fun s' I' => ⟨_, rfl, rfl, I'⟩))) (fun v s' hv => ?_) fun _ _ e => e))
  obtain ⟨b, rfl, rfl, I'⟩ := hv
  exact wpAny_truthy_bool (wpAny_pure ⟨.bl _, H, I', rfl, q⟩)
/-- l.count(x) -/
def rCountO (K : PySem.W.Frag) (C : Addr) (sp : Sp) : V → List V → Hp → VK → Prop := fun x xs H Q => ∃ (c l : Addr) (as : List Addr) (e : Addr → Bool), x = .ref l ∧ xs = [.ref c] ∧ SqL K H l (as.map V.ref) ∧ (∀ a ∈ as, EqOf C sp a c H (e a)) ∧ Q (.int (as.countP e : Nat)) H
theorem mt_countO (F : FnOk X.prog X.w X.K X.mg X.base CX0 k f fd ["self", "other"] sp) (hr : Room (k + 1) X.A) (hs : PySem.W.findIn X.K (.ref C) "__eq__" = some (some (.ref f))) (hf : PySem.W.isFn X.K (.ref f) = true) (hb : Binds X.K fd ["self", "other"] []) : MtR X "list.count" (rCountO X.K C sp) := by
  rintro pins s σ H x xs v us Q I rx rxs ⟨c, l, as, e, rfl, rfl, hl, he, q⟩
  cases rx
  obtain ⟨u, rfl, ru⟩ := rxs.one
  cases ru
  have J := lstJ F hr hs hf hb (pins := pins) (σ := σ) hl he X.xe
  obtain ⟨n, dd, sl, ho⟩ := J.at_ s I
  exact GQ.call_here PySem.F.slot_list_count ⟨_, ho, rfl⟩ PySem.F.entry_list_count (PySem.F.args_list_count_2 _ _) (LQ.list_countJ (R := wants _ _) l as (.ref c) e _ J I (fun s' I' => ⟨.int (as.countP e : Nat), H, I'.tok _, ⟨s'.toks, rfl⟩, q⟩))
/-- l.index(x): the first place of an equal one -/
def rIndexO (K : PySem.W.Frag) (C : Addr) (sp : Sp) : V → List V → Hp → VK → Prop := fun x xs H Q => ∃ (c l : Addr) (as : List Addr) (e : Addr → Bool) (j a : Nat), x = .ref l ∧ xs = [.ref c] ∧ SqL K H l (as.map V.ref) ∧ (∀ a ∈ as, EqOf C sp a c H (e a)) ∧ as[j]? = some a ∧ e a = true ∧ (∀ m a', m < j → as[m]? = some a' → e a' = false) ∧ Q (.int (j : Nat)) H
theorem mt_indexO (F : FnOk X.prog X.w X.K X.mg X.base CX0 k f fd ["self", "other"] sp) (hr : Room (k + 1) X.A) (hs : PySem.W.findIn X.K (.ref C) "__eq__" = some (some (.ref f))) (hf : PySem.W.isFn X.K (.ref f) = true) (hb : Binds X.K fd ["self", "other"] []) : MtR X "list.index" (rIndexO X.K C sp) := by
  rintro pins s σ H x xs v us Q I rx rxs ⟨c, l, as, e, j, a, rfl, rfl, hl, he, hj, ea, hno, q⟩
  cases rx
  obtain ⟨u, rfl, ru⟩ := rxs.one
  cases ru
  have J := lstJ F hr hs hf hb (pins := pins) (σ := σ) hl he X.xe
  obtain ⟨n, dd, sl, ho⟩ := J.at_ s I
  obtain ⟨hj1, hj2⟩ := List.getElem?_eq_some_iff.mp hj
  have hz : as.length ≤ sizeLine := by
    obtain ⟨its, rv, _, hlen⟩ := I.list hl
    have := rv.length
    rw [List.length_map] at this hlen
    omega
  have hs1 := sizeLine_eq
  exact GQ.call_here PySem.F.slot_list_index ⟨_, ho, rfl⟩ PySem.F.entry_list_index (PySem.F.args_list_index_2 _ _) (LQ.list_indexJ (R := wants _ _) l as (.ref c) e _ J j hj1 (by omega) (by rw [hj2]; exact ea) (fun m hm h => hno m _ h (List.getElem?_eq_getElem hm)) (fun s' I' => ⟨.int (j : Nat), H, I'.tok _, ⟨s'.toks, rfl⟩, q⟩) I)
/-- l.count(x) of data -/
def rCountD (K : PySem.W.Frag) : V → List V → Hp → VK → Prop := fun x xs H Q => ∃ (a : Addr) (y : V) (d : PyData) (ds : List PyData), x = V.ref a ∧ xs = [y] ∧ Dp K H (V.ref a) (.list ds) ∧ Dp K H y d ∧ SeqAt.shaped (.list ds) = true ∧ SeqAt.shaped d = true ∧ Q (.int (ds.countP fun z => PyData.eqv z d : Nat)) H
theorem mt_countD (hu : X.A.units + 65 < cLine) : MtR X "list.count" (rCountD X.K) := by
  intro pins s σ H x xs v us Q I rx rxs h
  obtain ⟨a, y, d, ds, rfl, rfl, hl, hy, sl, sd, q⟩ := h
  cases rx
  cases rxs with
  | cons ry rt =>
    rename_i uy ut
    cases rt
    obtain ⟨bs, r1⟩ := Dp.reads I d y uy hy ry
    have hxs : PyData.canLayAll0 ds = true := SeqAt.canLay_of_shaped sl
    have hroom : X.A.units + 1 + min (PyData.depthAll ds) d.depth < cLine := room_in_shaped sd hu
    cases hl with
    | lst hs ha =>
      obtain ⟨its, rv, ⟨⟨cls, dd, data, sls⟩, n, ho, hc, hdn, hdt⟩, hlen⟩ := I.list hs
      simp only at hc hdt
      subst hc hdt
      obtain ⟨as, h4⟩ := Dp.readsAll I ds _ its ha rv
      have hmap : its.map (SeqAt.readOf s.heap) = ds := SeqAt.readsAll_map ds its as hxs h4
      refine call_meets PySem.F.slot_list_count ⟨_, ho, rfl⟩ PySem.F.entry_list_count (PySem.F.args_list_count_2 _ _)
        (SeqAt.list_countAt a its.toArray n dd sls uy (fun y => PyData.eqv (SeqAt.readOf s.heap y) d)) ⟨ho, SeqAt.items_eqAt h4 r1 hxs (SeqAt.canLay_of_shaped sd) hroom, ?_⟩
      have ec : its.toArray.toList.countP (fun y => PyData.eqv (SeqAt.readOf s.heap y) d) = ds.countP fun z => PyData.eqv z d := by
        rw [← hmap, List.countP_map]
        rfl
      refine ⟨.int (ds.countP fun z => PyData.eqv z d : Nat), H, I.tok _, ⟨s.toks, ?_⟩, q⟩
      show Value.int ((its.toArray.toList.countP (fun y => PyData.eqv (SeqAt.readOf s.heap y) d) : Nat) : Int) s.toks = _
      rw [ec]
end
end Pk
/-! ### len, repr, str of an instance, by the text's own -/
namespace Pk
open PySem PySem.Spec L2
section
variable {X : Cx} {k : Nat} {f C : Addr} {fd : FuncData} {sp : Sp} {e : Expr} {te : TE} {p pos : Pos}
def rLenO (C : Addr) (sp : Sp) : List V → Hp → VK → Prop := fun xs H Q => ∃ (a dx : Addr) (fs : List (Str × V)), xs = [.ref a] ∧ H a = some (.ins C dx fs) ∧ sp [.ref a] H (fun v H' => ∃ n : Int, v = .int n ∧ 0 ≤ n ∧ n < 2 ^ 63 ∧ Q (.int n) H') E0
theorem call_lenO (F : FnOk X.prog X.w X.K X.mg X.base CX0 k f fd ["self"] sp) (hr : Room (k + 1) X.A) (hs : PySem.W.findIn X.K (.ref C) "__len__" = some (some (.ref f))) (hf : PySem.W.isFn X.K (.ref f) = true) (hb : Binds X.K fd ["self"] []) : CallR X (.builtin "len") (rLenO C sp) := by
  rintro pins s σ H xs us Q I rs ⟨a, dx, fs, rfl, ha, h⟩
  obtain ⟨u, rfl, ru⟩ := rs.one
  cases ru
  obtain ⟨mA, J, _⟩ := ins_get I.hok ha
  obtain ⟨od, J, _⟩ := J.look
  obtain ⟨m, hF⟩ := I.fr
  refine PySem.W.len_K hF I.ok.mod.kin J hs hf ?_
  refine wpAny_call (codeAny_mono (F.run X.A.in1 X.stack s H ⟨[.ref a], []⟩ [.ref a] [.ref a] _ E0 hr.in1 I.env0.in1 (hb s [.ref a] I.kIn rfl) (.cons rfl .nil) h) fun r s' hq => ?_)
  match r, hq with
  | .error e, hq => exact hq.elim
  | .ok .next, hq => exact hq.elim
  | .ok .brk, hq => exact hq.elim
  | .ok .cont, hq => exact hq.elim
  | .ok (.ret z), hq =>
    obtain ⟨v, H2, I2, rv, n, rfl, n0, n1, q2⟩ := I.after hq
    obtain ⟨t, rfl⟩ := rv
    exact ⟨⟨n0, n1⟩, .int n, H2, I2.tok _, ⟨_, rfl⟩, q2⟩
def rReprO (C : Addr) (sp : Sp) : List V → Hp → VK → Prop := fun xs H Q => ∃ (a dx : Addr) (fs : List (Str × V)), xs = [.ref a] ∧ H a = some (.ins C dx fs) ∧ sp [.ref a] H (fun v H' => (∃ z, v = .str z) ∧ Q v H') E0
theorem call_reprO (F : FnOk X.prog X.w X.K X.mg X.base CX0 k f fd ["self"] sp) (hr : Room (k + 1) X.A) (hs : PySem.W.findIn X.K (.ref C) "__repr__" = some (some (.ref f))) (hf : PySem.W.isFn X.K (.ref f) = true) (hb : Binds X.K fd ["self"] []) : CallR X (.builtin "repr") (rReprO C sp) := by
  rintro pins s σ H xs us Q I rs ⟨a, dx, fs, rfl, ha, h⟩
  obtain ⟨u, rfl, ru⟩ := rs.one
  cases ru
  obtain ⟨mA, J, _⟩ := ins_get I.hok ha
  obtain ⟨od, J, _⟩ := J.look
  obtain ⟨m, hF⟩ := I.fr
  refine PySem.W.repr_K hr.in1.units0 hF I.ok.mod.kin J hs hf ?_
  refine wpAny_call (codeAny_mono (F.run X.A.in1 X.stack s H ⟨[.ref a], []⟩ [.ref a] [.ref a] _ E0 hr.in1 I.env0.in1 (hb s [.ref a] I.kIn rfl) (.cons rfl .nil) h) fun r s' hq => ?_)
  match r, hq with
  | .error e, hq => exact hq.elim
  | .ok .next, hq => exact hq.elim
  | .ok .brk, hq => exact hq.elim
  | .ok .cont, hq => exact hq.elim
  | .ok (.ret z), hq =>
    obtain ⟨v, H2, I2, rv, ⟨y, rfl⟩, q2⟩ := I.after hq
    obtain ⟨t, rfl⟩ := rv
    exact ⟨.str y, H2, I2, ⟨t, rfl⟩, q2⟩
/-- str(x) -/
def tStrO (C : Addr) (sp : Sp) (te : TE) : TE := fun σ H Q => te σ H fun x H1 => ∃ (a dx : Addr) (fs : List (Str × V)), x = .ref a ∧ H1 a = some (.ins C dx fs) ∧ sp [.ref a] H1 (fun v H2 => (∃ z, v = .str z) ∧ Q v H2) E0
theorem pe_strO (F : FnOk X.prog X.w X.K X.mg X.base CX0 k f fd ["self"] sp) (hr : Room (k + 2) X.A) (hs : PySem.W.findIn X.K (.ref C) "__str__" = some (some (.ref f))) (hf : PySem.W.isFn X.K (.ref f) = true) (hb : Binds X.K fd ["self"] []) (hg : Gl X "str") (hm : X.mg "str" = none) (he : PE X e te)
    (na : starEach [e] X.env = (false, eval e X.env) :: starEach [] X.env := by rfl) : PE X (.Call (.Name "str" p) [e] [] pos) (tStrO C sp te) := by
  constructor
  intro pins s σ H Q I h
  refine PyProof.Rows.Call_ (ld_blt I hg hm PyProof.Rows.boot_str ?_)
  refine PyProof.Rows.callWith_type1 (PyProof.Rows.args_cons (thn (he.run pins s σ H _ I h) ?_) na) na rfl
  rintro v s1 ⟨x, H1, I1, r1, a, dx, fs, rfl, ha, q⟩
  cases (show v = Value.ref a from r1)
  obtain ⟨mA, J, _⟩ := ins_get I1.hok ha
  obtain ⟨od, J, _⟩ := J.look
  refine PyProof.Rows.args_nil (PySem.W.kso_call (by have := hr.un; show X.A.in1.in1.units < cLine; have e1 := (hr.in1.in1).un; omega) I1.kIn J hs hf ?_)
  refine wpAny_call (codeAny_mono (F.run _ X.stack s1 H1 ⟨[.ref a], []⟩ [.ref a] [.ref a] _ E0 hr.in1.in1 I1.env0.in1.in1 (hb s1 [.ref a] I1.kIn rfl) (.cons rfl .nil) q) fun r s' hq => ?_)
  cases r with
  | error e => exact hq.elim
  | ok fl =>
    cases fl with
    | ret u =>
      obtain ⟨v, H2, I2, rv, ⟨z, rfl⟩, q2⟩ := I1.after hq
      obtain ⟨t, rfl⟩ := rv
      exact ⟨.str z, H2, I2, ⟨t, rfl⟩, q2⟩
    | next => exact False.elim hq
    | brk => exact False.elim hq
    | cont => exact False.elim hq
end
end Pk
namespace Pk
open PySem L2
/-! ### questions, as they stand -/
section
variable {H H' : Hp} {CQ x p s : Addr} {q q' : QD} {t : Int}
theorem QI.same (h : QI CQ H x q) (k : Same H H') : QI CQ H' x q := by
  obtain ⟨dx, a, h1, h2, h3⟩ := h
  exact ⟨dx, a, k _ _ h1, k _ _ h2, h3⟩
theorem strs_inj : ∀ {a b : List Str}, a.map V.str = b.map V.str → a = b
  | [], [], _ => rfl
  | [], _ :: _, h => by cases h
  | _ :: _, [], h => by cases h
  | x :: a, y :: b, h => by
    rw [List.map_cons, List.map_cons] at h
    obtain ⟨h1, h2⟩ := List.cons.inj h
    rw [V.str.inj h1, strs_inj h2]
theorem QI.uniq (h : QI CQ H x q) (k : QI CQ H x q') : q = q' := by
  obtain ⟨dx, a, h1, h2, _⟩ := h
  obtain ⟨dy, b, k1, k2, _⟩ := k
  rw [h1] at k1
  have e := Option.some.inj k1
  injection e with e1 e2 e3
  unfold qFs at e3
  simp only [List.cons.injEq, Prod.mk.injEq, V.str.injEq, V.int.injEq, V.ref.injEq, true_and, and_true] at e3
  obtain ⟨n1, n2, n3, n4, n5, n6, n7⟩ := e3
  subst n3
  rw [h2] at k2
  have ew := strs_inj (HO.tup.inj (Option.some.inj k2))
  cases q
  cases q'
  dsimp only at n1 n2 n4 n5 n6 n7 ew
  subst n1 n2 n4 n5 n6 n7 ew
  rfl
theorem text_strOk {w : Str} (h : textT w = true) : PyData.strOk w = true := by
  have e := text_thg (H := fun _ => none) h
  cases e with
  | str z hl ho => exact (sok_iff _).mpr ho.ok
theorem room1 {k : Nat} {A : Around} (hr : Room k A) : A.units < cLine := by
  have := room_show hr
  omega
theorem QV.b (v : QV q) : QB q := by
  have n : ∀ {z : Str}, nameT z = true → z.length ≤ 100 := fun {z} h => by
    unfold nameT at h
    simp only [Bool.and_eq_true, decide_eq_true_iff] at h
    omega
  refine ⟨n v.nm, n v.mt, ?_, by have := v.t1; omega, v.t9, by have := v.m1; omega, v.m9⟩
  have := v.ki
  unfold nameE at this
  rcases Bool.or_eq_true_iff.mp this with h | h
  · exact n h
  · rw [V.str.inj (of_decide_eq_true h)]
    decide +kernel
end
/-! ### the class as the top has left it -/
structure QW (K : PySem.W.Frag) (P : Program) (w : World) (mg : Str → Option Value) (base : Heap) (CQ : Addr) : Prop where
  C : QCls K CQ
  T : QTy K CQ
  ne : PySem.W.findIn K (.ref CQ) "__ne__" = some (some (.builtin "object.__ne__"))
  eq : ∃ (f : Addr) (fd : FuncData), FnOk P w K mg base CX0 2 f fd ["self", "other"] (spQEq K CQ) ∧ PySem.W.findIn K (.ref CQ) "__eq__" = some (some (.ref f)) ∧ PySem.W.isFn K (.ref f) = true ∧ Binds K fd ["self", "other"] []
  len : ∃ (f : Addr) (fd : FuncData), FnOk P w K mg base CX0 1 f fd ["self"] (spQLen CQ) ∧ PySem.W.findIn K (.ref CQ) "__len__" = some (some (.ref f)) ∧ PySem.W.isFn K (.ref f) = true ∧ Binds K fd ["self"] []
  str : ∃ (f : Addr) (fd : FuncData), FnOk P w K mg base CX0 1 f fd ["self"] (spQStr CQ) ∧ PySem.W.findIn K (.ref CQ) "__str__" = some (some (.ref f)) ∧ PySem.W.isFn K (.ref f) = true ∧ Binds K fd ["self"] []
  repr : ∃ (f : Addr) (fd : FuncData), FnOk P w K mg base CX0 1 f fd ["self"] (spQRepr CQ) ∧ PySem.W.findIn K (.ref CQ) "__repr__" = some (some (.ref f)) ∧ PySem.W.isFn K (.ref f) = true ∧ Binds K fd ["self"] []
/-- the lists at the end of shown_right -/
def tShownE (CQ : Addr) : TE := fun σ H Q => ∃ (p x a : Addr) (q : QD), σ = [some (.ref p), some (.ref x), some (.str (qText q))] ∧ H p = some (.tup (qRow q a)) ∧ H a = some (.tup (q.ws.map V.str)) ∧ QB q ∧ q.ws.length ≤ 6 ∧ QI CQ H x q ∧ ∀ H', Same H H' → Q (.bl true) H'
def spShown (CQ : Addr) : Sp := fun vs H Q _ => ∃ (p x : Addr) (q : QD), vs = [.ref p, .ref x] ∧ RowAt H p q ∧ QV q ∧ QI CQ H x q ∧ ∀ H', Same H H' → Q (.bl true) H'
section
variable {P : Program} {w : World} {K : PySem.W.Frag} {mg : Str → Option Value} {base : Heap}
abbrev NShown : List Str := ["_law_parts", "_law_one", "_law_text"]
theorem scShown : FnScope NShown ["_law_parts", "_law_one"] (defScope sShownR) := ⟨rfl, rfl, rfl, by decide +kernel, rfl, by decide +kernel, by decide +kernel⟩
theorem ok_shown {f CQ : Addr} {fd : FuncData} (F : Fun K "_law_shown_right" "_law_shown_right" sShownR f fd) (W : QW K P w mg base CQ) (ml : mg "len" = none) (ms : mg "str" = none) (mr : mg "repr" = none) : FnOk P w K mg base CX0 5 f fd ["_law_parts", "_law_one"] (spShown CQ) := by
  obtain ⟨fL, fdL, GL, nL, iL, bL⟩ := W.len
  obtain ⟨fS, fdS, GS, nS, iS, bS⟩ := W.str
  obtain ⟨fR, fdR, GR, nR, iR, bR⟩ := W.repr
  refine F.ok scShown (fun vs H Q E h => ?_) (fun cdv A outer s H vs Q E hr h => ?_)
  · obtain ⟨p, x, q, rfl, _⟩ := h
    rfl
  · obtain ⟨p, x, q, rfl, ⟨a, hp, ha⟩, qv, qi, fin⟩ := h
    have B := qv.b
    have r2 : Room 2 _ := hr.mono (by decide)
    have r3 : Room 3 _ := hr.mono (by decide)
    refine ⟨_, pss_cons (ps_set (i := 2) scShown.nd rfl (.inl rfl) (pe_op op_add_str (pe_op op_add_str (pe_op op_add_str (pe_op op_add_str (pe_op op_add_str (pe_op op_add_str (pe_ix ix_tup (pv 0) pe_int (fun _ _ => rfl)) pe_str) (pe_ix ix_tup (pv 0) pe_int (fun _ _ => rfl))) pe_str) (pe_callTy call_str_int (by rfl) ms PyProof.Rows.boot_str (pa_cons (pe_ix ix_tup (pv 0) pe_int (fun _ _ => rfl)) pa_nil))) pe_str) (pe_callTy call_str_int (by rfl) ms PyProof.Rows.boot_str (pa_cons (pe_ix ix_tup (pv 0) pe_int (fun _ _ => rfl)) pa_nil))))
      (pss_cons (ps_if (pt_cmpR op_ne (pe_ix ix_tup (pv 0) pe_int (fun _ _ => rfl)) pe_str (nomark _)) (pss_one (ps_set (i := 2) scShown.nd rfl (.inl rfl) (pe_op op_add_str (pe_op op_add_str (pv 2) pe_str) (pe_ix ix_tup (pv 0) pe_int (fun _ _ => rfl))))) pss_nil)
      (pss_one (ps_ret (pe_imp (tShownE CQ) (pe_cmpR (op_eqSame (room1 hr)) (pe_lst (pa_cons (pe_strO GS r3 nS iS bS (by rfl) ms (pv 1)) (pa_cons (pe_callB (call_reprO GR r2 nR iR bR) (by rfl) mr (by decide +kernel) (pa_cons (pv 1) pa_nil)) (pa_cons (pe_callB (call_lenO GL r2 nL iL bL) (by rfl) ml PySem.boot_len (pa_cons (pv 1) pa_nil)) pa_nil))))
        (pe_lst (pa_cons (pv 2) (pa_cons (pe_op op_add_str (pe_op op_add_str pe_str (pe_ix ix_tup (pv 0) pe_int (fun _ _ => rfl))) pe_str) (pa_cons (pe_callB call_len_seq (by rfl) ml PySem.boot_len (pa_cons (pe_ix ix_tup (pv 0) pe_int (fun _ _ => rfl)) pa_nil)) pa_nil)))) (nomark _)) (by
          rintro σ H Q ⟨p, x, a, q, rfl, hp, ha, B, w6, qi, fin⟩
          have sl := sizeLine_eq
          have l4 : ((("Question(" : String) : Str)).length = 9 := by decide +kernel
          have l5 : (((")" : String) : Str)).length = 1 := by decide +kernel
          have b1 := B.n1
          obtain ⟨dx, a', hx, ha', oa⟩ := id qi
          refine ⟨_, rfl, x, dx, _, rfl, hx, x, q, rfl, qi, B, ⟨_, rfl⟩, _, rfl, x, dx, _, rfl, hx, x, q, rfl, qi, B, ⟨_, rfl⟩, _, rfl, x, dx, _, rfl, hx, x, q, rfl, qi, _, rfl, by omega, ?_, by show 3 ≤ sizeLine; decide, fun k1 n1 => ?_⟩
          · omega
          have s1 := same_upd (o := .lst [V.str (qText q), V.str (("Question(" ++ q.nm) ++ ")"), V.int q.ws.length]) n1
          refine ⟨_, rfl, _, rfl, p, _, 0, .str q.nm, rfl, rfl, SqT.of (s1 _ _ hp), rfl, _, _, rfl, rfl, by rw [l4]; omega, _, _, rfl, rfl, by rw [app_len, l4, l5]; omega, _, rfl, p, _, 2, .ref a, rfl, rfl, SqT.of (s1 _ _ hp), rfl, a, _, rfl, .inr (SqT.of (s1 _ _ ha)), by show 3 ≤ sizeLine; decide, fun k2 n2 => ?_⟩
          rw [List.length_map]
          have s2 := same_upd (o := .lst [V.str (qText q), V.str (("Question(" ++ q.nm) ++ ")"), V.int q.ws.length]) n2
          refine ⟨k1, k2, _, rfl, rfl, SqL.of (s2 _ _ upd_same), SqL.of upd_same, fun v hv => ?_, fin _ (s1.trans s2)⟩
          simp only [List.mem_cons, List.not_mem_nil, or_false] at hv
          rcases hv with rfl | rfl | rfl <;> rfl))))), ?_⟩
    have l1 : (((": " : String) : Str)).length = 2 := by decide +kernel
    have l2 : (((", " : String) : Str)).length = 2 := by decide +kernel
    have l3 : (((", of kin " : String) : Str)).length = 9 := by decide +kernel
    have l4 : ((("Question(" : String) : Str)).length = 9 := by decide +kernel
    have l5 : (((")" : String) : Str)).length = 1 := by decide +kernel
    have b1 := B.n1
    have b2 := B.n2
    have b3 := B.n3
    have b4 := small_text B.t0 B.t9
    have b5 := small_text B.m0 B.m9
    have g4 := small_log B.t0 B.t9
    have g5 := small_log B.m0 B.m9
    have sl := sizeLine_eq
    refine ⟨_, rfl, p, _, 0, .str q.nm, rfl, rfl, SqT.of hp, rfl, _, _, rfl, rfl, by rw [l1]; omega, ?_⟩
    refine ⟨_, rfl, p, _, 1, .str q.mt, rfl, rfl, SqT.of hp, rfl, _, _, rfl, rfl, by simp only [app_len, l1]; omega, _, _, rfl, rfl, by simp only [app_len, l1, l2]; omega, ?_⟩
    refine ⟨_, rfl, p, _, 4, .int q.tl, rfl, rfl, SqT.of hp, rfl, q.tl, rfl, g4, _, _, rfl, rfl, by simp only [app_len, l1, l2]; omega, _, _, rfl, rfl, by simp only [app_len, l1, l2]; omega, ?_⟩
    refine ⟨_, rfl, p, _, 5, .int q.ma, rfl, rfl, SqT.of hp, rfl, q.ma, rfl, g5, _, _, rfl, rfl, by simp only [app_len, l1, l2]; omega, ?_⟩
    have e0 : (((((q.nm ++ ": ") ++ q.mt) ++ ", ") ++ Str.ofString (toString q.tl)) ++ ", ") ++ Str.ofString (toString q.ma) = qText0 q := rfl
    rw [e0]
    have lt0 : (qText0 q).length ≤ 300 := by
      unfold qText0
      simp only [app_len, l1, l2]
      omega
    refine ⟨_, rfl, p, _, 6, .str q.ki, rfl, rfl, SqT.of hp, rfl, rfl, _, rfl, ?_⟩
    obtain ⟨dx, a', hx, ha', oa⟩ := id qi
    by_cases hk : q.ki = ""
    · refine iteF' (by simp [hk]) ?_
      have et : qText q = qText0 q := if_pos hk
      exact ⟨p, x, a, q, by rw [et]; rfl, hp, ha, B, qv.w6, qi, fin⟩
    · refine iteT' (by simp [hk]) ?_
      have et : qText q = (qText0 q ++ ", of kin ") ++ q.ki := if_neg hk
      refine ⟨_, rfl, _, _, rfl, rfl, by rw [l3]; omega, _, rfl, p, _, 6, .str q.ki, rfl, rfl, SqT.of hp, rfl, _, _, rfl, rfl, by rw [app_len, l3]; omega, ?_⟩
      exact ⟨p, x, a, q, by rw [et]; rfl, hp, ha, B, qv.w6, qi, fin⟩
end
end Pk
namespace Pk
open PySem PySem.Spec L2
/-! ### y == x, x of an own class, y of a built-in type that declines -/
namespace OwnRev
open PyProof.Rows PySem.SeqAt
section
variable {prog : Program} {w : World} {A : Around} {E : Value → Shared → Prop} {s : Shared} {K : PySem.W.Frag} {x C f : Addr} {ox : Obj} {od : Option Obj} {b tb : Value}
theorem rc_rev {Q : Value → Shared → Prop} (hu : A.units < cLine) (X : K.In s.heap) (I : PySem.W.InstAt s.heap x ox C od) (hb : PySem.W.Looks (model prog w) s.heap (typeOf b) tb) (hne : tb ≠ .ref C) (hsub : PySem.W.subIn K (.ref C) tb = some false) (ho : oneThing? .Eq b (.ref x) = none)
    (dec : wpAny (model prog w) A (tryCompare b "__eq__" (.ref x)) (fun r s' => r = none ∧ s' = s) E s) (he : PySem.W.findIn K (.ref C) "__eq__" = some (some (.ref f))) (hf : PySem.W.isFn K (.ref f) = true)
    (h : wpAny (model prog w) A (call (.ref f) [.ref x, b]) (PySem.W.CmpBack Q) E s) : wpAny (model prog w) A (richCompare .Eq b (.ref x)) Q E s := by
  have two : wpAny (model prog w) A (tryCompare (.ref x) "__eq__" b) (fun r s' => ∃ v, r = some v ∧ Q v s') E s := by
    unfold tryCompare
    refine wpAny_bind (PySem.W.ifBound_K X I he hf (wpAny_mono h (fun v s' hv => ?_) fun _ _ e => e))
    cases v <;> first | exact hv.elim | exact wpAny_pure ⟨_, rfl, hv⟩
  simp only [richCompare, cmpInfo_Eq, ho]
  refine wpAny_holding (wpAny_bind (wpAny_cRoomFor hu ?_))
  refine wpAny_bind (hb.here (wpAny_bind (I.type.here ?_)))
  split
  · refine wpAny_bind ((PySem.W.looks_subIn X hsub).here ?_)
    simp only [Bool.false_eq_true, if_false, Bool.not_false, if_true]
    refine wpAny_bind (m := tryCompare b _ (.ref x)) (wpAny_mono dec (fun r s1 z => ?_) fun _ _ e => e)
    obtain ⟨z1, z2⟩ := z
    subst z1
    subst z2
    refine wpAny_bind (m := tryCompare (.ref x) _ b) (wpAny_mono two (fun r s2 z => ?_) fun _ _ e => e)
    obtain ⟨v, rfl, hq⟩ := z
    exact wpAny_pure hq
  · rename_i q
    exact absurd (by simpa using hne) q
theorem dec_none : wpAny (model prog w) A (tryCompare .none "__eq__" (.ref x)) (fun r s' => r = none ∧ s' = s) E s :=
  wpAny_tryCompare_declines (show s.TypeIs .none "NoneType" from rfl) F.slot_NoneType_eq_refl (call_gives F.slot_NoneType_eq_refl rfl F.entry_NoneType_eq (F.args_NoneType_eq_2 _ _) (NoneType___eq___none_ref_0 x) ⟨rfl, rfl, rfl⟩)
theorem str_ref (a : Str) (t : Tok) {l d : Addr} {M : Model} {R : Fin → Shared → Prop} (hl : s.heap.get? l = some (PySem.W.instObj C d)) (h : R (.done (.ret .notImplemented)) s) : wpAny M A (Builtin.«str.__eq__» ⟨[.str a t, .ref l], []⟩) R E s := by
  unfold Builtin.«str.__eq__»
  wp_walk
  exact h
theorem int_ref (a : Int) (t : Tok) {l d : Addr} {M : Model} {R : Fin → Shared → Prop} (hl : s.heap.get? l = some (PySem.W.instObj C d)) (h : R (.done (.ret .notImplemented)) s) : wpAny M A (Builtin.«int.__eq__» ⟨[.int a t, .ref l], []⟩) R E s := by
  unfold Builtin.«int.__eq__»
  wp_walk
  exact h
theorem bool_ref (a : Bool) {l d : Addr} {M : Model} {R : Fin → Shared → Prop} (hl : s.heap.get? l = some (PySem.W.instObj C d)) (h : R (.done (.ret .notImplemented)) s) : wpAny M A (Builtin.«int.__eq__» ⟨[.bool a, .ref l], []⟩) R E s := by
  unfold Builtin.«int.__eq__»
  wp_walk
  exact h
theorem dec_str {a : Str} {t : Tok} {d : Addr} (hl : s.heap.get? x = some (PySem.W.instObj C d)) : wpAny (model prog w) A (tryCompare (.str a t) "__eq__" (.ref x)) (fun r s' => r = none ∧ s' = s) E s :=
  wpAny_tryCompare_declines (show s.TypeIs (.str a t) "str" from rfl) F.slot_str_eq_refl (wpAny_call (codeAny_call_builtin F.slot_str_eq_refl.plain F.entry_str_eq (F.slot_str_eq_refl.check _ _ _ _ _ _ _ _ (show s.TypeIs (.str a t) "str" from rfl) (F.args_str_eq_2 _ _) (str_ref (C := C) a t hl ⟨rfl, rfl, rfl⟩))))
theorem dec_int {a : Int} {t : Tok} {d : Addr} (hl : s.heap.get? x = some (PySem.W.instObj C d)) : wpAny (model prog w) A (tryCompare (.int a t) "__eq__" (.ref x)) (fun r s' => r = none ∧ s' = s) E s :=
  wpAny_tryCompare_declines (show s.TypeIs (.int a t) "int" from rfl) F.slot_int_eq_refl (wpAny_call (codeAny_call_builtin F.slot_int_eq_refl.plain F.entry_int_eq (F.slot_int_eq_refl.check _ _ _ _ _ _ _ _ (show s.TypeIs (.int a t) "int" from rfl) (F.args_int_eq_2 _ _) (int_ref (C := C) a t hl ⟨rfl, rfl, rfl⟩))))
end
end OwnRev
end Pk
namespace Pk
open PySem PySem.Spec L2
namespace OwnRev
open PyProof.Rows PySem.SeqAt
section
variable {prog : Program} {w : World} {A : Around} {E : Value → Shared → Prop} {s : Shared} {K : PySem.W.Frag} {x C f : Addr} {ox : Obj} {od : Option Obj} {b tb : Value}
theorem dec_bool {a : Bool} {d : Addr} (hl : s.heap.get? x = some (PySem.W.instObj C d)) : wpAny (model prog w) A (tryCompare (.bool a) "__eq__" (.ref x)) (fun r s' => r = none ∧ s' = s) E s :=
  wpAny_tryCompare_declines (show s.TypeIs (.bool a) "bool" from rfl) F.slot_bool_eq_refl (wpAny_call (codeAny_call_builtin F.slot_bool_eq_refl.plain F.entry_int_eq (F.slot_bool_eq_refl.check _ _ _ _ _ _ _ _ (show s.TypeIs (.bool a) "bool" from rfl) (F.args_int_eq_2 _ _) (bool_ref (C := C) a hl ⟨rfl, rfl, rfl⟩))))
theorem tup_ref (X : K.In s.heap) (hsub : PySem.W.subIn K (.ref C) (.type "tuple") = some false) {l y d : Addr} {items : Array Value} {n : Nat} {dd : Option Addr} {sl : Array (Option Value)} {M : Model} {R : Fin → Shared → Prop} (ht : s.heap.get? y = some { cls := .type "tuple", dict := dd, data := .seq items n, slots := sl }) (hl : s.heap.get? l = some (PySem.W.instObj C d)) (h : R (.done (.ret .notImplemented)) s) : wpAny M A (Builtin.«tuple.__eq__» ⟨[.ref y, .ref l], []⟩) R E s := by
  unfold Builtin.«tuple.__eq__»
  wp_walk
  refine (PySem.W.looks_subIn X hsub).here ?_
  wp_walk
  exact h
theorem lst_ref (X : K.In s.heap) (hsub : PySem.W.subIn K (.ref C) (.type "list") = some false) {l y d : Addr} {items : Array Value} {n : Nat} {dd : Option Addr} {sl : Array (Option Value)} {M : Model} {R : Fin → Shared → Prop} (ht : s.heap.get? y = some { cls := .type "list", dict := dd, data := .seq items n, slots := sl }) (hl : s.heap.get? l = some (PySem.W.instObj C d)) (h : R (.done (.ret .notImplemented)) s) : wpAny M A (Builtin.«list.__eq__» ⟨[.ref y, .ref l], []⟩) R E s := by
  unfold Builtin.«list.__eq__»
  wp_walk
  refine (PySem.W.looks_subIn X hsub).here ?_
  wp_walk
  exact h
theorem dct_ref (X : K.In s.heap) (hsub : PySem.W.subIn K (.ref C) (.type "dict") = some false) {l y d : Addr} {oy : Obj} {M : Model} {R : Fin → Shared → Prop} (ht : s.heap.get? y = some oy) (hc : oy.cls = .type "dict") (hl : s.heap.get? l = some (PySem.W.instObj C d)) (h : R (.done (.ret .notImplemented)) s) : wpAny M A (Builtin.«dict.__eq__» ⟨[.ref y, .ref l], []⟩) R E s := by
  unfold Builtin.«dict.__eq__»
  wp_walk
  refine (PySem.W.looks_subIn X hsub).here ?_
  wp_walk
  exact h
theorem dec_tup {y d : Addr} {items : Array Value} {n : Nat} {dd : Option Addr} {sl : Array (Option Value)} (X : K.In s.heap) (hsub : PySem.W.subIn K (.ref C) (.type "tuple") = some false) (ht : s.heap.get? y = some { cls := .type "tuple", dict := dd, data := .seq items n, slots := sl }) (hl : s.heap.get? x = some (PySem.W.instObj C d)) : wpAny (model prog w) A (tryCompare (.ref y) "__eq__" (.ref x)) (fun r s' => r = none ∧ s' = s) E s :=
  wpAny_tryCompare_declines (show s.TypeIs (.ref y) "tuple" from ⟨_, ht, rfl⟩) F.slot_tuple_eq_refl (wpAny_call (codeAny_call_builtin F.slot_tuple_eq_refl.plain F.entry_tuple_eq (F.slot_tuple_eq_refl.check _ _ _ _ _ _ _ _ (show s.TypeIs (.ref y) "tuple" from ⟨_, ht, rfl⟩) (F.args_tuple_eq_2 _ _) (tup_ref X hsub ht hl ⟨rfl, rfl, rfl⟩))))
theorem dec_lst {y d : Addr} {items : Array Value} {n : Nat} {dd : Option Addr} {sl : Array (Option Value)} (X : K.In s.heap) (hsub : PySem.W.subIn K (.ref C) (.type "list") = some false) (ht : s.heap.get? y = some { cls := .type "list", dict := dd, data := .seq items n, slots := sl }) (hl : s.heap.get? x = some (PySem.W.instObj C d)) : wpAny (model prog w) A (tryCompare (.ref y) "__eq__" (.ref x)) (fun r s' => r = none ∧ s' = s) E s :=
  wpAny_tryCompare_declines (show s.TypeIs (.ref y) "list" from ⟨_, ht, rfl⟩) F.slot_list_eq_refl (wpAny_call (codeAny_call_builtin F.slot_list_eq_refl.plain F.entry_list_eq (F.slot_list_eq_refl.check _ _ _ _ _ _ _ _ (show s.TypeIs (.ref y) "list" from ⟨_, ht, rfl⟩) (F.args_list_eq_2 _ _) (lst_ref X hsub ht hl ⟨rfl, rfl, rfl⟩))))
theorem dec_dct {y d : Addr} {oy : Obj} (X : K.In s.heap) (hsub : PySem.W.subIn K (.ref C) (.type "dict") = some false) (ht : s.heap.get? y = some oy) (hc : oy.cls = .type "dict") (hl : s.heap.get? x = some (PySem.W.instObj C d)) : wpAny (model prog w) A (tryCompare (.ref y) "__eq__" (.ref x)) (fun r s' => r = none ∧ s' = s) E s :=
  wpAny_tryCompare_declines (show s.TypeIs (.ref y) "dict" from ⟨_, ht, hc⟩) F.slot_dict_eq_refl (wpAny_call (codeAny_call_builtin F.slot_dict_eq_refl.plain F.entry_dict_eq (F.slot_dict_eq_refl.check _ _ _ _ _ _ _ _ (show s.TypeIs (.ref y) "dict" from ⟨_, ht, hc⟩) (F.args_dict_eq_2 _ _) (dct_ref X hsub ht hc hl ⟨rfl, rfl, rfl⟩))))
end
end OwnRev
end Pk
namespace Pk
open PySem PySem.Spec L2
/-- things whose own == declines an instance -/
inductive Odd (H : Hp) : V → String → Prop
  | non : Odd H .non "NoneType"
  | bl (b : Bool) : Odd H (.bl b) "bool"
  | int (i : Int) : Odd H (.int i) "int"
  | str (z : Str) : Odd H (.str z) "str"
  | tup {a : Addr} {L : List V} (h : H a = some (.tup L)) : Odd H (.ref a) "tuple"
  | lst {a : Addr} {L : List V} (h : H a = some (.lst L)) : Odd H (.ref a) "list"
  | dct {a : Addr} {kvs : List (Key × V)} (h : H a = some (.dK kvs)) : Odd H (.ref a) "dict"
theorem Odd.ty {K : PySem.W.Frag} {H : Hp} {y : V} {T : String} (o : Odd H y T) : TyX K H y (.type T) := by
  cases o with
  | non => exact .base .non
  | bl b => exact .base (.bl b)
  | int i => exact .base (.int i)
  | str z => exact .base (.str z)
  | tup h => exact .base (.tup h)
  | lst h => exact .base (.lst h)
  | dct h => exact .base (.dK h)
section
variable {X : Cx} {k : Nat} {C f : Addr} {fd : FuncData} {sp : Sp}
/-- y == x, x of the class C whose __eq__ is f, y a thing that declines -/
def rEqRev (K : PySem.W.Frag) (C : Addr) (sp : Sp) : R2 := fun y x H Q => ∃ (a dx : Addr) (fs : List (Str × V)) (T : String), x = .ref a ∧ H a = some (.ins C dx fs) ∧ Odd H y T ∧ PySem.W.subIn K (.ref C) (.type T) = some false ∧ sp [.ref a, y] H (fun v H' => (∃ b, v = .bl b) ∧ Q v H') E0
theorem op_eqRev (F : FnOk X.prog X.w X.K X.mg X.base CX0 k f fd ["self", "other"] sp) (hr : Room k X.A) (hs : PySem.W.findIn X.K (.ref C) "__eq__" = some (some (.ref f))) (hf : PySem.W.isFn X.K (.ref f) = true) (hb : Binds X.K fd ["self", "other"] []) : OpR X (compareOp .Eq) (rEqRev X.K C sp) := by
  rintro pins s σ H y x u v Q I ry rx ⟨a, dx, fs, T, rfl, ha, od, hsub, h⟩
  cases (show v = Value.ref a from rx)
  show wpAny (model X.prog X.w) X.A (richCompare .Eq u (.ref a)) (EP X pins σ Q) X.xe s
  obtain ⟨mA, J, _⟩ := ins_get I.hok ha
  obtain ⟨od', J, _⟩ := J.look
  obtain ⟨Pz, Z, p, -⟩ := kit_of I ry (od.ty (K := X.K))
  have hl := J.1
  refine OwnRev.rc_rev (tb := .type T) hr.units0 I.kIn J (Z.ty _ _ I.kIn p) (by intro z; cases z) hsub ?_ ?_ hs hf ?_
  · cases od with
    | non => cases ry; rfl
    | bl b => cases ry; rfl
    | int i => obtain ⟨t, rfl⟩ := ry; rfl
    | str z => obtain ⟨t, rfl⟩ := ry; rfl
    | tup h => cases ry; rfl
    | lst h => cases ry; rfl
    | dct h => cases ry; rfl
  · cases od with
    | non => cases ry; exact OwnRev.dec_none
    | bl b => cases ry; exact OwnRev.dec_bool (C := C) hl
    | int i => obtain ⟨t, rfl⟩ := ry; exact OwnRev.dec_int (C := C) hl
    | str z => obtain ⟨t, rfl⟩ := ry; exact OwnRev.dec_str (C := C) hl
    | @tup b L g =>
      cases (show u = Value.ref b from ry)
      obtain ⟨_, its, rv, o, h1, h2, n, h3⟩ := (show ObjOk X.prog X.w H s.heap b (.tup L) from I.hok b _ g)
      obtain ⟨cls, dd, data, sl⟩ := o
      dsimp only at h2 h3
      subst h2 h3
      exact OwnRev.dec_tup I.kIn hsub h1 hl
    | @lst b L g =>
      cases (show u = Value.ref b from ry)
      obtain ⟨us, r1, p1, _⟩ := I.list (SqL.of g)
      obtain ⟨⟨cls, dd, data, sl⟩, h1, h2, n, h3⟩ := id p1.isList
      dsimp only at h2 h3
      subst h2 h3
      exact OwnRev.dec_lst I.kIn hsub h1 hl
    | @dct b kvs g =>
      cases (show u = Value.ref b from ry)
      obtain ⟨t, t1, t2⟩ : s.TypeIs (.ref b) "dict" := by
        obtain ⟨_, ya, va, ra, da⟩ := (show ObjOk X.prog X.w H s.heap b (.dK kvs) from I.hok b _ g)
        first
          | exact da.typeIs
          | exact da.type
          | (obtain ⟨o, es, ep, n, e1, e2, e3⟩ := da; exact ⟨_, e1, by first | exact e2 | exact rfl⟩)
          | (obtain ⟨o, e1, e2, e3⟩ := da; exact ⟨_, e1, by first | exact e2 | exact rfl⟩)
      exact OwnRev.dec_dct I.kIn hsub t1 t2 hl
  · refine wpAny_call (codeAny_mono (F.run X.A X.stack s H ⟨[.ref a, u], []⟩ [.ref a, u] [.ref a, y] _ E0 hr I.env0 (hb s [.ref a, u] I.kIn rfl) (.cons rfl (.cons ry .nil)) h) fun r s' hq => ?_)
    match r, hq with
    | .error e, hq => exact hq.elim
    | .ok .next, hq => exact hq.elim
    | .ok .brk, hq => exact hq.elim
    | .ok .cont, hq => exact hq.elim
    | .ok (.ret z), hq =>
      obtain ⟨v, H2, I2, rv, ⟨b, rfl⟩, q2⟩ := I.after hq
      cases rv
      exact ⟨.bl b, H2, I2, rfl, q2⟩
end
end Pk
namespace Pk
open PySem L2
/-! ### rows of parts compared -/
def qData (q : QD) : PyData := .tuple [.str q.nm, .str q.mt, .tuple (q.ws.map .str), .int q.ri, .int q.tl, .int q.ma, .str q.ki]
section
variable {K : PySem.W.Frag} {H : Hp} {p : Addr} {q q' : QD}
theorem row_dp (h : RowAt H p q) : Dp K H (.ref p) (qData q) := by
  obtain ⟨a, hp, ha⟩ := h
  exact .tup (SqT.of hp) (.cons (.str _) (.cons (.str _) (.cons (.tup (SqT.of ha) (strs_dpA _)) (.cons (.int _) (.cons (.int _) (.cons (.int _) (.cons (.str _) .nil)))))))
theorem row_eqv (q q' : QD) : PyData.eqv (qData q) (qData q') = decide (q = q') := by
  have e := strs_eqvA q.ws q'.ws
  unfold qData
  simp only [PyData.eqv, PyData.eqvAll, e, Bool.and_true]
  obtain ⟨a1, a2, a3, a4, a5, a6, a7⟩ := q
  obtain ⟨b1, b2, b3, b4, b5, b6, b7⟩ := q'
  rw [Bool.eq_iff_iff]
  simp only [Bool.and_eq_true, decide_eq_true_iff, beq_iff_eq, QD.mk.injEq]
theorem name_strOk {z : Str} (h : nameT z = true) : PyData.strOk z = true := by
  have e := name_thg (H := fun _ => none) h
  cases e with
  | str z hl ho => exact (sok_iff _).mpr ho.ok
theorem kin_strOk {z : Str} (h : nameE (.str z) = true) : PyData.strOk z = true := by
  unfold nameE at h
  rcases Bool.or_eq_true_iff.mp h with h | h
  · exact name_strOk h
  · rw [V.str.inj (of_decide_eq_true h)]
    decide +kernel
theorem ws_strOk (v : QV q) : q.ws.all PyData.strOk = true := List.all_eq_true.mpr fun w hw => text_strOk (v.wt w hw)
theorem row_canLay (v : QV q) : (qData q).canLay0 = true := by
  have e := PyProof.Rows.canLayAll_strs' q.ws
  rw [ws_strOk v] at e
  simp [qData, PyData.canLay0, PyData.canLayAll0, name_strOk v.nm, name_strOk v.mt, kin_strOk v.ki, e]
theorem row_depth : (qData q).depth = 2 := by
  simp [qData, PyData.depth, PyData.depthAll, strs_depthA]
theorem row_shaped (v : QV q) : SeqAt.shaped (qData q) = true := by
  have e := row_canLay v
  have d := row_depth (q := q)
  simp [SeqAt.shaped, e, d]
end
/-! ### alike_right -/
def spAlike (CQ : Addr) : Sp := fun vs H Q _ => ∃ (p p2 x y : Addr) (q q2 : QD), vs = [.ref p, .ref p2, .ref x, .ref y] ∧ RowAt H p q ∧ QV q ∧ RowAt H p2 q2 ∧ QV q2 ∧ QI CQ H x q ∧ QI CQ H y q2 ∧ ∀ H', Same H H' → Q (.bl true) H'
section
variable {K : PySem.W.Frag} {CQ : Addr} {H : Hp} {x y : Addr} {q q2 : QD}
theorem QI.ty (C : QCls K CQ) (CT : QTy K CQ) (h : QI CQ H x q) : TyX K H (.ref x) (.ref CQ) := by
  obtain ⟨dx, a, h1, _⟩ := h
  exact .base (.ins h1 C.cls CT.ha CT.hn CT.ht CT.hm)
theorem QI.eqOf (h : QI CQ H x q) (k : QI CQ H y q2) : EqOf CQ (spQEq K CQ) x y H (decide (q = q2)) := by
  by_cases e : x = y
  · subst e
    exact .inl ⟨rfl, decide_eq_true (h.uniq k)⟩
  · obtain ⟨dx, a, h1, _⟩ := id h
    obtain ⟨dy, b, k1, _⟩ := id k
    exact .inr ⟨e, ⟨_, _, h1⟩, ⟨_, _, k1⟩, x, .ref y, q, rfl, h, .inl ⟨y, q2, rfl, k, rfl, rfl⟩⟩
end
section
variable {P : Program} {w : World} {K : PySem.W.Frag} {mg : Str → Option Value} {base : Heap}
abbrev NAlike : List Str := ["_law_parts", "_law_others", "_law_one", "_law_other", "_law_due"]
theorem scAlike : FnScope NAlike ["_law_parts", "_law_others", "_law_one", "_law_other"] (defScope sAlikeR) := ⟨rfl, rfl, rfl, by decide +kernel, rfl, by decide +kernel, by decide +kernel⟩
theorem ok_alike {f CQ : Addr} {fd : FuncData} (F : Fun K "_law_alike_right" "_law_alike_right" sAlikeR f fd) (W : QW K P w mg base CQ) (mr : mg "repr" = none) : FnG P w K mg base CX0 5 f fd ["_law_parts", "_law_others", "_law_one", "_law_other"] (spAlike CQ) := by
  obtain ⟨fE, fdE, GE, nE, iE, bE⟩ := W.eq
  refine okG F scAlike (fun vs H Q E h => ?_) (fun cdv A calm outer s H vs Q E hr h => ?_)
  · obtain ⟨p, p2, x, y, q, q2, rfl, _⟩ := h
    rfl
  · obtain ⟨p, p2, x, y, q, q2, rfl, ro, qv, ro2, qv2, qi, qi2, fin⟩ := h
    have r2 : Room 2 _ := hr.mono (by decide)
    have r3 : Room 3 _ := hr.mono (by decide)
    have hu : _ + 64 < cLine := Nat.lt_of_le_of_lt (Nat.add_le_add_left (by decide) _) (room_show hr)
    refine ⟨_, pss_cons (ps_set (i := 4) scAlike.nd rfl (.inl rfl) (pe_cmpR (op_eqD hu) (pv 0) (pv 1) (by rfl)))
      (pss_cons (ps_if (pt_cmpR op_ne (pe_callB (call_show (show Calm _ from calm) (room_show hr)) (by rfl) mr (by decide +kernel) (pa_cons (pe_lst (pa_cons (pe_cmpR (op_eqO GE r2 nE iE bE) (pv 2) (pv 3) (by rfl)) (pa_cons (pe_cmpR (op_eqO GE r2 nE iE bE) (pv 3) (pv 2) (by rfl)) (pa_cons (pe_cmpR (op_neO GE r3 nE W.ne W.T.hm iE bE) (pv 2) (pv 3) (by rfl)) pa_nil)))) pa_nil))
          (pe_callB (call_show (show Calm _ from calm) (room_show hr)) (by rfl) mr (by decide +kernel) (pa_cons (pe_lst (pa_cons (pv 4) (pa_cons (pv 4) (pa_cons (pe_not (pv 4)) pa_nil)))) pa_nil)) (nomark _)) (pss_one (ps_ret pe_bl)) pss_nil)
      (pss_one (ps_ret (pe_and (pe_cmpR op_eq (pe_cmpR (op_inO GE r3 nE iE bE) (pv 2) (pe_lst (pa_cons (pv 3) pa_nil)) (by rfl)) (pv 4) (nomark _)) (pe_one (pe_cmpR op_isBl (pe_cmpR (op_eqO GE r2 nE iE bE) (pv 2) (pv 2) (by rfl)) pe_bl (nomark _))))))), ?_⟩
    have nf : PySem.W.notFirst K CQ (.ref CQ) = true := by simp [PySem.W.notFirst]
    obtain ⟨dx, a, hx, _⟩ := id qi
    obtain ⟨dy, b, hy, _⟩ := id qi2
    refine ⟨_, rfl, _, rfl, qData q, qData q2, row_dp ro, row_dp ro2, row_shaped qv, row_shaped qv2, ?_⟩
    rw [row_eqv]
    refine ⟨_, rfl, _, rfl, x, dx, _, _, rfl, hx, qi2.ty W.C W.T, nf, x, .ref y, q, rfl, qi, .inl ⟨y, q2, rfl, qi2, ⟨_, rfl⟩, ?_⟩⟩
    refine ⟨_, rfl, _, rfl, y, dy, _, _, rfl, hy, qi.ty W.C W.T, nf, y, .ref x, q2, rfl, qi2, .inl ⟨x, q, rfl, qi, ⟨_, rfl⟩, ?_⟩⟩
    refine ⟨_, rfl, _, rfl, x, dx, _, _, rfl, hx, qi2.ty W.C W.T, nf, x, .ref y, q, rfl, qi, .inl ⟨y, q2, rfl, qi2, _, rfl, ?_⟩⟩
    have ec : decide (q2 = q) = decide (q = q2) := decide_eq_decide.mpr ⟨Eq.symm, Eq.symm⟩
    rw [ec]
    generalize hd : decide (q = q2) = d
    refine ⟨by show 3 ≤ sizeLine; decide, fun k1 n1 => ?_⟩
    have s1 := same_upd (o := .lst [V.bl d, V.bl d, V.bl !d]) n1
    have sw := shows_bools (K := K) [d, d, !d] (upd_same (H := H) (a := k1) (o := .lst [V.bl d, V.bl d, V.bl !d])) (by show 3 ≤ 100; decide)
    refine ⟨.ref k1, _, rfl, sw.dq, sw.sh, sw.dp, sw.sz, ?_⟩
    refine ⟨_, rfl, _, rfl, _, rfl, _, rfl, by show 3 ≤ sizeLine; decide, fun k2 n2 => ?_⟩
    have s2 := same_upd (o := .lst [V.bl d, V.bl d, V.bl !d]) n2
    have sw2 := shows_bools (K := K) [d, d, !d] (upd_same (H := upd H k1 (.lst [V.bl d, V.bl d, V.bl !d])) (a := k2) (o := .lst [V.bl d, V.bl d, V.bl !d])) (by show 3 ≤ 100; decide)
    refine ⟨.ref k2, _, rfl, sw2.dq, sw2.sh, sw2.dp, sw2.sz, rfl, _, rfl, ?_⟩
    refine iteF' (by simp) ?_
    have s12 := s1.trans s2
    generalize upd (upd H k1 (.lst [V.bl d, V.bl d, V.bl !d])) k2 (.lst [V.bl d, V.bl d, V.bl !d]) = H2 at s12 ⊢
    refine ⟨_, rfl, _, rfl, by show 1 ≤ sizeLine; decide, fun k3 n3 => ?_⟩
    have s3 := same_upd (o := .lst [V.ref y]) n3
    have e3 : upd H2 k3 (.lst [V.ref y]) k3 = some (.lst [V.ref y]) := upd_same
    generalize upd H2 k3 (.lst [V.ref y]) = H3 at s3 e3 ⊢
    have qi3 := qi.same (s12.trans s3)
    have qj3 := qi2.same (s12.trans s3)
    refine ⟨x, k3, [y], fun _ => d, rfl, rfl, SqL.of e3, fun c hc => ?_, ?_⟩
    · rw [List.mem_singleton.mp hc, ← hd, ← ec]
      exact qj3.eqOf qi3
    refine ⟨_, rfl, rfl, _, rfl, ?_⟩
    refine iteT' (by simp) ?_
    obtain ⟨dx3, a3, hx3, _⟩ := id qi3
    refine ⟨_, rfl, _, rfl, x, dx3, _, _, rfl, hx3, qi3.ty W.C W.T, nf, x, .ref x, q, rfl, qi3, .inl ⟨x, q, rfl, qi3, ⟨_, rfl⟩, _, true, rfl, rfl, ?_⟩⟩
    rw [show decide (decide (q = q) = true) = true from by simp]
    exact fin _ (s12.trans s3)
end
end Pk
namespace Pk
open PySem L2
/-! ### the five rows and the five questions -/
structure Lay (CQ : Addr) (H : Hp) (l7 l8 : Addr) (ps xs : List Addr) (qs : List QD) : Prop where
  h7 : H l7 = some (.lst (ps.map V.ref))
  h8 : H l8 = some (.lst (xs.map V.ref))
  lp : ps.length = qs.length
  lx : xs.length = qs.length
  l5 : qs.length = 5
  rows : ∀ (i : Nat) p q, ps[i]? = some p → qs[i]? = some q → RowAt H p q
  qv : ∀ q ∈ qs, QV q
  things : ∀ (i : Nat) x q, xs[i]? = some x → qs[i]? = some q → QI CQ H x q
section
variable {CQ : Addr} {H H' : Hp} {l7 l8 : Addr} {ps xs : List Addr} {qs : List QD} {q : QD}
theorem Lay.same (L : Lay CQ H l7 l8 ps xs qs) (s : Same H H') : Lay CQ H' l7 l8 ps xs qs :=
  ⟨s _ _ L.h7, s _ _ L.h8, L.lp, L.lx, L.l5, fun i p q h1 h2 => (L.rows i p q h1 h2).same s, L.qv, fun i x q h1 h2 => (L.things i x q h1 h2).same s⟩
theorem Lay.at (L : Lay CQ H l7 l8 ps xs qs) {i : Nat} (hi : i < 5) : ∃ x q, atI (xs.map V.ref) (i : Int) = some (.ref x) ∧ xs[i]? = some x ∧ qs[i]? = some q ∧ QI CQ H x q ∧ QV q := by
  have h1 : i < xs.length := by rw [L.lx, L.l5]; exact hi
  have h2 : i < qs.length := by rw [L.l5]; exact hi
  refine ⟨xs[i], qs[i], ?_, List.getElem?_eq_getElem h1, List.getElem?_eq_getElem h2, L.things i _ _ (List.getElem?_eq_getElem h1) (List.getElem?_eq_getElem h2), L.qv _ (List.getElem_mem h2)⟩
  refine atI_nat ?_
  rw [List.getElem?_map, List.getElem?_eq_getElem h1]
  rfl
theorem rows_dp {K : PySem.W.Frag} : ∀ {ps : List Addr} {qs : List QD}, ps.length = qs.length → (∀ (i : Nat) p q, ps[i]? = some p → qs[i]? = some q → RowAt H p q) → DpAll K H (ps.map V.ref) (qs.map qData)
  | [], [], _, _ => .nil
  | p :: ps, q :: qs, l, h => .cons (row_dp (h 0 p q rfl rfl)) (rows_dp (Nat.succ.inj l) fun i p q h1 h2 => h (i + 1) p q h1 h2)
  | [], _ :: _, l, _ => by cases l
  | _ :: _, [], l, _ => by cases l
theorem rows_can : ∀ {qs : List QD}, (∀ q ∈ qs, QV q) → PyData.canLayAll0 (qs.map qData) = true
  | [], _ => by simp [PyData.canLayAll0]
  | q :: qs, h => by
    rw [List.map_cons]
    simp [PyData.canLayAll0, row_canLay (h q List.mem_cons_self), rows_can fun z hz => h z (List.mem_cons_of_mem _ hz)]
theorem rows_depth : ∀ qs : List QD, PyData.depthAll (qs.map qData) ≤ 2
  | [] => by simp [PyData.depthAll]
  | q :: qs => by
    have ih := rows_depth qs
    have e := row_depth (q := q)
    rw [List.map_cons]
    simp only [PyData.depthAll, e]
    omega
theorem rows_shaped (h : ∀ q ∈ qs, QV q) : SeqAt.shaped (.list (qs.map qData)) = true := by
  have e := rows_can h
  have d := rows_depth qs
  simp [SeqAt.shaped, PyData.canLay0, PyData.depth, e]
  omega
theorem cnt_rows : ∀ qs : List QD, (qs.map qData).countP (fun z => PyData.eqv z (qData q)) = qs.countP fun z => decide (z = q)
  | [] => rfl
  | z :: qs => by
    rw [List.map_cons, List.countP_cons, List.countP_cons, cnt_rows qs, row_eqv]
open Classical in
noncomputable def eQ (CQ : Addr) (H : Hp) (q : QD) : Addr → Bool := fun a => decide (QI CQ H a q)
theorem eQ_of {x : Addr} {z : QD} (h : QI CQ H x z) : eQ CQ H q x = decide (z = q) := by
  unfold eQ
  refine decide_eq_decide.mpr ⟨fun k => h.uniq k, fun e => ?_⟩
  rw [← e]
  exact h
theorem cnt_things : ∀ {xs : List Addr} {qs : List QD}, xs.length = qs.length → (∀ (i : Nat) x q, xs[i]? = some x → qs[i]? = some q → QI CQ H x q) → xs.countP (eQ CQ H q) = qs.countP fun z => decide (z = q)
  | [], [], _, _ => rfl
  | x :: xs, z :: qs, l, h => by
    rw [List.countP_cons, List.countP_cons, cnt_things (Nat.succ.inj l) fun i p q h1 h2 => h (i + 1) p q h1 h2, eQ_of (h 0 x z rfl rfl)]
  | [], _ :: _, l, _ => by cases l
  | _ :: _, [], l, _ => by cases l
theorem Lay.eqs {K : PySem.W.Frag} (L : Lay CQ H l7 l8 ps xs qs) {c : Addr} (hc : QI CQ H c q) : ∀ a ∈ xs, EqOf CQ (spQEq K CQ) a c H (eQ CQ H q a) := fun a ha => by
  obtain ⟨i, hi, rfl⟩ := List.mem_iff_getElem.mp ha
  have h2 : i < qs.length := by rw [← L.lx]; exact hi
  have k := L.things i _ _ (List.getElem?_eq_getElem hi) (List.getElem?_eq_getElem h2)
  rw [eQ_of k]
  exact k.eqOf hc
/-- the first place of an equal one -/
theorem Lay.first (L : Lay CQ H l7 l8 ps xs qs) {i : Nat} (hq : qs[i]? = some q) : ∃ j x, xs[j]? = some x ∧ eQ CQ H q x = true ∧ (∀ m a', m < j → xs[m]? = some a' → eQ CQ H q a' = false) ∧ (qs.map qData)[j]? = some (qData q) ∧ ∀ (m : Nat) (z' : PyData), m < j → (qs.map qData)[m]? = some z' → PyData.eqv z' (qData q) = false := by
  have hm : ∃ z ∈ qs, decide (z = q) = true := ⟨q, List.mem_of_getElem? hq, decide_eq_true rfl⟩
  have lt : qs.findIdx (fun z => decide (z = q)) < qs.length := List.findIdx_lt_length_of_exists hm
  have lx : qs.findIdx (fun z => decide (z = q)) < xs.length := by rw [L.lx]; exact lt
  have hit : qs[qs.findIdx (fun z => decide (z = q))] = q := of_decide_eq_true (List.findIdx_getElem (p := fun z => decide (z = q)) (w := lt))
  have no : ∀ m (h : m < qs.findIdx (fun z => decide (z = q))), ¬ (qs[m]'(by omega) = q) := fun m h => by
    have := List.not_of_lt_findIdx h
    simpa using this
  refine ⟨qs.findIdx (fun z => decide (z = q)), xs[qs.findIdx (fun z => decide (z = q))], List.getElem?_eq_getElem lx, ?_, fun m a' hm' ha' => ?_, ?_, fun m z' hm' hz' => ?_⟩
  · rw [eQ_of (L.things _ _ _ (List.getElem?_eq_getElem lx) (List.getElem?_eq_getElem lt)), hit]
    exact decide_eq_true rfl
  · have hm2 : m < qs.length := by omega
    rw [eQ_of (L.things m _ _ ha' (List.getElem?_eq_getElem hm2))]
    exact decide_eq_false (no m hm')
  · rw [List.getElem?_map, List.getElem?_eq_getElem lt, hit]
    rfl
  · have hm2 : m < qs.length := by omega
    rw [List.getElem?_map, List.getElem?_eq_getElem hm2] at hz'
    cases hz'
    rw [row_eqv]
    exact decide_eq_false (no m hm')
end
/-! ### things of other kinds -/
def oddTys : List String := ["NoneType", "bool", "int", "str", "tuple", "list", "dict"]
def oddB (K : PySem.W.Frag) (CQ : Addr) : Bool := oddTys.all fun T => PySem.W.notFirst K CQ (.type T) && (PySem.W.kitOne K (.type T) (.ref CQ) == some false) && (PySem.W.subIn K (.ref CQ) (.type T) == some false)
theorem Odd.mem {H : Hp} {y : V} {T : String} (o : Odd H y T) : T ∈ oddTys := by
  cases o <;> simp [oddTys]
theorem oddB_of {K : PySem.W.Frag} {CQ : Addr} {H : Hp} {y : V} {T : String} (h : oddB K CQ = true) (o : Odd H y T) : PySem.W.notFirst K CQ (.type T) = true ∧ PySem.W.kitOne K (.type T) (.ref CQ) = some false ∧ PySem.W.subIn K (.ref CQ) (.type T) = some false := by
  have := List.all_eq_true.mp h T o.mem
  simp only [Bool.and_eq_true, beq_iff_eq] at this
  exact ⟨this.1.1, this.1.2, this.2⟩
theorem Odd.same {H H' : Hp} {y : V} {T : String} (o : Odd H y T) (s : Same H H') : Odd H' y T := by
  cases o with
  | non => exact .non
  | bl b => exact .bl b
  | int i => exact .int i
  | str z => exact .str z
  | tup h => exact .tup (s _ _ h)
  | lst h => exact .lst (s _ _ h)
  | dct h => exact .dct (s _ _ h)
end Pk
namespace Pk
open PySem L2
abbrev NLaw : List Str := ["_law_script", "_law_k", "_law_cell", "_law_stream_here", "_law_parts", "_law_near", "_law_third", "_law_rows", "_law_things", "_law_at", "_law_row", "_law_place", "_law_other", "_law_odds", "_law_odd"]
theorem pt_imp {X : Cx} {e : Expr} {t : TT} (t' : TT) (h : PT X e t) (k : ∀ σ H Q, t' σ H Q → t σ H Q) : PT X e t' := ⟨fun pins s σ H Q I w => h.run pins s σ H Q I (k σ H Q w)⟩
def spLaw (K : PySem.W.Frag) : Sp := fun vs H Q _ => ∃ (a : Addr) (ns : List Int), vs = [.ref a] ∧ SqL K H a (ns.map V.int) ∧ ns.length ≤ 63 ∧ ∀ H', Q (.bl true) H'
theorem ps_imp {X : Cx} {st : Stmt} {t : TS} (t' : TS) (h : PS X st t) (k : ∀ D σ H, t' D σ H → t D σ H) : PS X st t' := ⟨fun pins s σ H D I w => h.run pins s σ H D I (k D σ H w)⟩
theorem set_same {α : Type} : ∀ {l : List α} {i : Nat} {x : α}, l[i]? = some x → l.set i x = l
  | [], _, _, h => by cases h
  | a :: l, 0, x, h => by
    cases h
    rfl
  | a :: l, i + 1, x, h => by
    rw [List.set_cons_succ, set_same (l := l) h]
/-- near stays, or is parts, where answers are alike -/
def tNear : TS := fun D σ H => ∃ (p pn : Addr) (q qn : QD), σ[4]? = some (some (.ref p)) ∧ σ[5]? = some (some (.ref pn)) ∧ RowAt H p q ∧ QV q ∧ unlike q.ws q.ws.length = q.ws.length ∧ RowAt H pn qn ∧ QV qn ∧ ∀ (pm : Addr) (qm : QD), RowAt H pm qm → QV qm → unlike qm.ws qm.ws.length = qm.ws.length → D.nx (σ.set 5 (some (.ref pm))) H
/-! ### the tests -/
def tT1 (CQ : Addr) : TT := fun σ H Q => ∃ (l7 l8 : Addr) (ps xs : List Addr) (qs : List QD) (i j : Nat) (p p2 : Addr), σ[8]? = some (some (.ref l8)) ∧ σ[9]? = some (some (.int i)) ∧ σ[10]? = some (some (.ref p)) ∧ σ[11]? = some (some (.int j)) ∧ σ[12]? = some (some (.ref p2)) ∧ Lay CQ H l7 l8 ps xs qs ∧ i < 5 ∧ j < 5 ∧ ps[i]? = some p ∧ ps[j]? = some p2 ∧ ∀ H', Same H H' → Q false H'
def tT2 (CQ : Addr) : TT := fun σ H Q => ∃ (l7 l8 : Addr) (ps xs : List Addr) (qs : List QD) (i : Nat) (p : Addr), σ[8]? = some (some (.ref l8)) ∧ σ[9]? = some (some (.int i)) ∧ σ[10]? = some (some (.ref p)) ∧ Lay CQ H l7 l8 ps xs qs ∧ i < 5 ∧ ps[i]? = some p ∧ ∀ H', Same H H' → Q false H'
def tT3 (CQ : Addr) : TT := fun σ H Q => ∃ (l7 l8 : Addr) (ps xs : List Addr) (qs : List QD) (i : Nat) (p : Addr), σ[7]? = some (some (.ref l7)) ∧ σ[8]? = some (some (.ref l8)) ∧ σ[9]? = some (some (.int i)) ∧ σ[10]? = some (some (.ref p)) ∧ Lay CQ H l7 l8 ps xs qs ∧ i < 5 ∧ ps[i]? = some p ∧ Q false H
def tT4 (CQ : Addr) : TT := fun σ H Q => ∃ (l7 l8 : Addr) (ps xs : List Addr) (qs : List QD) (y : V) (T : String), σ[8]? = some (some (.ref l8)) ∧ σ[14]? = some (some y) ∧ Lay CQ H l7 l8 ps xs qs ∧ Odd H y T ∧ ∀ H', Same H H' → Q false H'
section
variable {P : Program} {w : World} {K : PySem.W.Frag} {mg : Str → Option Value} {base : Heap}
theorem scLaw : FnScope NLaw ["_law_script"] (defScope sLaw) := ⟨rfl, rfl, rfl, by decide +kernel, rfl, by decide +kernel, by decide +kernel⟩
theorem ok_law {f fS fP fO fN fW fA CQ : Addr} {fd fdS fdP fdO fdN fdW fdA : FuncData} (F : Fun K "law" "law" sLaw f fd) (W : QW K P w mg base CQ) (ob : oddB K CQ = true) (me : mg "enumerate" = none) (ml : mg "len" = none) (mst : mg "set" = none) (mli : mg "list" = none) (mr : mg "repr" = none)
    (GS : FnOk P w K mg base CX0 2 fS fdS ["_law_cell", "_law_k"] spStream) (kS : PySem.W.keepIn K (.ref fS) = true) (bS : Binds K fdS ["_law_cell", "_law_k"] []) (gS : mg "_law_stream" = some (.ref fS))
    (GP : FnOk P w K mg base CX0 5 fP fdP ["_law_stream_here"] spPartsBy) (kP : PySem.W.keepIn K (.ref fP) = true) (bP : Binds K fdP ["_law_stream_here"] []) (gP : mg "_law_parts_by" = some (.ref fP))
    (GO : FnOk P w K mg base CX0 7 fO fdO ["_law_parts"] (spOf CQ)) (kO : PySem.W.keepIn K (.ref fO) = true) (bO : Binds K fdO ["_law_parts"] []) (gO : mg "_law_of" = some (.ref fO))
    (GN : FnOk P w K mg base CX0 6 fN fdN ["_law_stream_here", "_law_parts"] spNear) (kN : PySem.W.keepIn K (.ref fN) = true) (bN : Binds K fdN ["_law_stream_here", "_law_parts"] []) (gN : mg "_law_near_by" = some (.ref fN))
    (GW : FnOk P w K mg base CX0 5 fW fdW ["_law_parts", "_law_one"] (spShown CQ)) (kW : PySem.W.keepIn K (.ref fW) = true) (bW : Binds K fdW ["_law_parts", "_law_one"] []) (gW : mg "_law_shown_right" = some (.ref fW))
    (GA : FnG P w K mg base CX0 5 fA fdA ["_law_parts", "_law_others", "_law_one", "_law_other"] (spAlike CQ)) (kA : PySem.W.keepIn K (.ref fA) = true) (bA : Binds K fdA ["_law_parts", "_law_others", "_law_one", "_law_other"] []) (gA : mg "_law_alike_right" = some (.ref fA)) :
    FnG P w K mg base CX0 8 f fd ["_law_script"] (spLaw K) := by
  obtain ⟨fE, fdE, GE, nE, iE, bE⟩ := W.eq
  refine okG F scLaw (fun vs H Q E h => ?_) (fun cdv A calm outer s H vs Q E hr h => ?_)
  · obtain ⟨a, ns, rfl, _⟩ := h
    rfl
  · obtain ⟨a, ns, rfl, hS, hlen, q⟩ := h
    have r2 : Room 2 _ := hr.mono (by decide)
    have r3 : Room 3 _ := hr.mono (by decide)
    have r5 : Room 5 _ := hr.mono (by decide)
    have r6 : Room 6 _ := hr.mono (by decide)
    have hu : _ + 65 < cLine := Nat.lt_of_le_of_lt (Nat.add_le_add_left (by decide) _) (room_show hr)
    have hu64 : _ + 64 < cLine := Nat.lt_of_le_of_lt (Nat.add_le_add_left (by decide) _) (room_show hr)
    refine ⟨_, pss_cons (ps_for PassesOwn.never rfl (pi_enum (by rfl) me (pa_cons (pe_slice sl_list (pe_op op_catS (pv 0) (pe_lst (pa_cons pe_int pa_nil))) po_none (po_some pe_int)) pa_nil)) (pg_tup rfl (pgs_cons (pg_name (i := 1) scLaw.nd rfl (.inl rfl)) (pgs_cons (pg_name (i := 2) scLaw.nd rfl (.inl rfl)) pgs_nil)))
        (pss_cons (ps_set (i := 3) scLaw.nd rfl (.inl rfl) (pe_call GS r2 (by rfl) gS kS bS .nil pass0 (pa_cons (pv 2) (pa_cons (pv 1) pa_nil))))
        (pss_cons (ps_set (i := 4) scLaw.nd rfl (.inl rfl) (pe_call GP r5 (by rfl) gP kP bP .nil pass0 (pa_cons (pv 3) pa_nil)))
        (pss_cons (ps_par (i := 5) (j := 6) (by rfl) scLaw.nd rfl rfl (by decide) rfl rfl (pa_cons (pe_call GN r6 (by rfl) gN kN bN .nil pass0 (pa_cons (pv 3) (pa_cons (pv 4) pa_nil))) (pa_cons (pe_call GP r5 (by rfl) gP kP bP .nil pass0 (pa_cons (pv 3) pa_nil)) pa_nil)) (by rfl))
        (pss_cons (ps_imp tNear (ps_if (pt_cmpR op_lt (pe_lenTexts (by rfl) ml (by rfl) mst (pe_ix ix_tup (pv 5) pe_int (fun _ _ => rfl))) (pe_callB call_len_seq (by rfl) ml PySem.boot_len (pa_cons (pe_ix ix_tup (pv 5) pe_int (fun _ _ => rfl)) pa_nil)) (nomark _)) (pss_one (ps_set (i := 5) scLaw.nd rfl (.inl rfl) (pv 4))) pss_nil) (by
            rintro D σ H ⟨p, pn, q, qn, e4, e5, ro, qv, qu, rn, nv, fin⟩
            obtain ⟨an, hn, hw⟩ := id rn
            have w6 := nv.w6
            refine ⟨_, e5, pn, _, 2, .ref an, rfl, rfl, SqT.of hn, rfl, an, qn.ws, rfl, SqT.of hw, by omega, _, e5, pn, _, 2, .ref an, rfl, rfl, SqT.of hn, rfl, an, _, rfl, .inr (SqT.of hw), _, _, rfl, rfl, _, rfl, ?_⟩
            rw [List.length_map]
            by_cases hlt : ((unlike qn.ws qn.ws.length : Nat) : Int) < ((qn.ws.length : Nat) : Int)
            · exact iteT' (by simpa using hlt) ⟨_, e4, fin p q ro qv qu⟩
            · refine iteF' (by simpa using hlt) ?_
              have := fin pn qn rn nv (by have := unlike_le qn.ws qn.ws.length; omega)
              rw [set_same e5] at this
              exact this))
        (pss_cons (ps_set (i := 7) scLaw.nd rfl (.inl rfl) (pe_lst (pa_cons (pv 4) (pa_cons (pv 5) (pa_cons (pv 6) (pa_cons (pv 5) (pa_cons (pv 4) pa_nil)))))))
        (pss_cons (ps_setLc (i := 8) (own := [("_law_row", 10)]) (g := gName 10) rfl scLaw.nd rfl rfl (sw_true rfl rfl rfl (by decide +kernel)) (pi_list (pv 7)) (blkOk_by (N := NLaw) (sc := defScope sLaw) (by decide +kernel))
          (fun _ _ _ _ _ => pg_name (i := 10) scLaw.nd rfl (Or.inl rfl)) (fun _ _ _ _ _ => pts_nil) (fun _ _ _ _ _ => pe_call GO hr (by rfl) gO kO bO .nil pass0 (pa_cons (pv 10) pa_nil)))
        (pss_cons (ps_for PassesOwn.never rfl (pi_enum (by rfl) me (pa_cons (pv 7) pa_nil)) (pg_tup rfl (pgs_cons (pg_name (i := 9) scLaw.nd rfl (.inl rfl)) (pgs_cons (pg_name (i := 10) scLaw.nd rfl (.inl rfl)) pgs_nil)))
          (pss_cons (ps_for PassesOwn.never rfl (pi_enum (by rfl) me (pa_cons (pv 7) pa_nil)) (pg_tup rfl (pgs_cons (pg_name (i := 11) scLaw.nd rfl (.inl rfl)) (pgs_cons (pg_name (i := 12) scLaw.nd rfl (.inl rfl)) pgs_nil)))
            (pss_one (ps_if (pt_imp (tT1 CQ) (pt_not (pt_val (pe_callG GA (show Calm _ from calm) r5 (by rfl) gA kA bA .nil pass0 (pa_cons (pv 10) (pa_cons (pv 12) (pa_cons (pe_ix ix_list (pv 8) (pv 9) (fun _ _ => rfl)) (pa_cons (pe_ix ix_list (pv 8) (pv 11) (fun _ _ => rfl)) pa_nil))))))) (by
              rintro σ H Q ⟨l7, l8, ps, xs, qs, i, j, p, p2, e8, e9, e10, e11, e12, L, hi, hj, hp, hp2, fin⟩
              obtain ⟨x, z, ax, hx, hz, qi, qv⟩ := L.at hi
              obtain ⟨x2, z2, ax2, hx2, hz2, qi2, qv2⟩ := L.at hj
              refine ⟨_, e10, _, e12, _, e8, _, e9, l8, _, _, .ref x, rfl, rfl, SqL.of L.h8, ax, _, e8, _, e11, l8, _, _, .ref x2, rfl, rfl, SqL.of L.h8, ax2, p, p2, x, x2, z, z2, rfl, L.rows i p z hp hz, qv, L.rows j p2 z2 hp2 hz2, qv2, qi, qi2, fun H' s' => ⟨_, rfl, fin H' s'⟩⟩)) (pss_one (ps_ret pe_bl)) pss_nil)))
          (pss_cons (ps_if (pt_imp (tT2 CQ) (pt_not (pt_val (pe_call GW r5 (by rfl) gW kW bW .nil pass0 (pa_cons (pv 10) (pa_cons (pe_ix ix_list (pv 8) (pv 9) (fun _ _ => rfl)) pa_nil))))) (by
              rintro σ H Q ⟨l7, l8, ps, xs, qs, i, p, e8, e9, e10, L, hi, hp, fin⟩
              obtain ⟨x, z, ax, hx, hz, qi, qv⟩ := L.at hi
              exact ⟨_, e10, _, e8, _, e9, l8, _, _, .ref x, rfl, rfl, SqL.of L.h8, ax, p, x, z, rfl, L.rows i p z hp hz, qv, qi, fun H' s' => ⟨_, rfl, fin H' s'⟩⟩)) (pss_one (ps_ret pe_bl)) pss_nil)
          (pss_one (ps_if (pt_imp (tT3 CQ) (PW.pt (pw_or (pt_cmpR op_ne (pe_bm PySem.F.plainAttrs_list PySem.F.slot_list_count PySem.F.type_list_count (mt_countO GE r3 nE iE bE) (pv 8) (pa_cons (pe_ix ix_list (pv 8) (pv 9) (fun _ _ => rfl)) pa_nil)) (pe_bm PySem.F.plainAttrs_list PySem.F.slot_list_count PySem.F.type_list_count (mt_countD hu) (pv 7) (pa_cons (pv 10) pa_nil)) (nomark _))
            (pw_or1 (pt_cmpR op_ne (pe_bm PySem.F.plainAttrs_list PySem.F.slot_list_index PySem.F.type_list_index (mt_indexO GE r3 nE iE bE) (pv 8) (pa_cons (pe_ix ix_list (pv 8) (pv 9) (fun _ _ => rfl)) pa_nil)) (pe_bm PySem.F.plainAttrs_list PySem.F.slot_list_index PySem.F.type_list_index (mt_indexD hu) (pv 7) (pa_cons (pv 10) pa_nil)) (nomark _))))) (by
              rintro σ H Q ⟨l7, l8, ps, xs, qs, i, p, e7, e8, e9, e10, L, hi, hp, fin⟩
              obtain ⟨x, z, ax, hx, hz, qi, qv⟩ := L.at hi
              have dl : Dp K H (.ref l7) (.list (qs.map qData)) := .lst (SqL.of L.h7) (rows_dp L.lp L.rows)
              have dr : Dp K H (.ref p) (qData z) := row_dp (L.rows i p z hp hz)
              have sl := rows_shaped L.qv
              have sz := row_shaped qv
              refine ⟨_, e8, .inl ⟨rfl, _, SqL.of L.h8⟩, _, e8, _, e9, l8, _, _, .ref x, rfl, rfl, SqL.of L.h8, ax, x, l8, xs, eQ CQ H z, rfl, rfl, SqL.of L.h8, L.eqs qi, _, e7, .inl ⟨rfl, _, SqL.of L.h7⟩, _, e10, l7, _, qData z, _, rfl, rfl, dl, dr, sl, sz, ?_⟩
              rw [cnt_rows, cnt_things L.lx L.things]
              refine ⟨rfl, _, rfl, ?_⟩
              refine iteF' (by simp) ?_
              obtain ⟨j, xj, hj, ej, nj, dj, ndj⟩ := L.first hz
              refine ⟨_, e8, .inl ⟨rfl, _, SqL.of L.h8⟩, _, e8, _, e9, l8, _, _, .ref x, rfl, rfl, SqL.of L.h8, ax, x, l8, xs, eQ CQ H z, j, xj, rfl, rfl, SqL.of L.h8, L.eqs qi, hj, ej, nj, _, e7, .inl ⟨rfl, _, SqL.of L.h7⟩, _, e10, l7, _, qData z, _, j, qData z, rfl, rfl, dl, dr, sl, sz, dj, (row_eqv z z).trans (decide_eq_true rfl), ndj, ?_⟩
              refine ⟨rfl, _, rfl, ?_⟩
              simpa using fin)) (pss_one (ps_ret pe_bl)) pss_nil)))))
        (pss_cons (ps_set (i := 13) scLaw.nd rfl (.inl rfl) (pe_lst (pa_cons pe_non (pa_cons (pv 4) (pa_cons (pe_callTy call_list_of (by rfl) mli PyProof.Rows.boot_list (pa_cons (pv 4) pa_nil)) (pa_cons (pe_ix ix_tup (pv 4) pe_int (fun _ _ => rfl)) (pa_cons (pe_op op_add_str (pe_op op_add_str pe_str (pe_ix ix_tup (pv 4) pe_int (fun _ _ => rfl))) pe_str) (pa_cons pe_int (pa_cons pe_bl (pa_cons (pe_lst (pa_cons (pe_ix ix_list (pv 8) pe_int (fun _ _ => rfl)) pa_nil)) (pa_cons pe_dnewK pa_nil)))))))))))
        (pss_one (ps_for PassesOwn.never rfl (pi_list (pv 13)) (pg_name (i := 14) scLaw.nd rfl (Or.inl rfl))
          (pss_one (ps_if (pt_imp (tT4 CQ) (pt_cmpR op_ne (pe_callB (call_show (show Calm _ from calm) (room_show hr)) (by rfl) mr (by decide +kernel) (pa_cons (pe_lst (pa_cons (pe_cmpR (op_eqO GE r2 nE iE bE) (pe_ix ix_list (pv 8) pe_int (fun _ _ => rfl)) (pv 14) (by rfl)) (pa_cons (pe_cmpR (op_eqRev GE r2 nE iE bE) (pv 14) (pe_ix ix_list (pv 8) pe_int (fun _ _ => rfl)) (by rfl)) (pa_cons (pe_cmpR (op_neO GE r3 nE W.ne W.T.hm iE bE) (pe_ix ix_list (pv 8) pe_int (fun _ _ => rfl)) (pv 14) (by rfl)) pa_nil)))) pa_nil))
            (pe_callB (call_show (show Calm _ from calm) (room_show hr)) (by rfl) mr (by decide +kernel) (pa_cons (pe_lst (pa_cons pe_bl (pa_cons pe_bl (pa_cons pe_bl pa_nil)))) pa_nil)) (nomark _)) (by
              rintro σ H Q ⟨l7, l8, ps, xs, qs, y, T, e8, e14, L, od, fin⟩
              obtain ⟨x, z, ax, hx, hz, qi, qv⟩ := L.at (i := 0) (by decide)
              obtain ⟨o1, o2, o3⟩ := oddB_of ob od
              obtain ⟨dx, da, hx0, _⟩ := id qi
              refine ⟨_, e8, l8, _, 0, .ref x, rfl, rfl, SqL.of L.h8, ax, _, e14, x, dx, _, _, rfl, hx0, od.ty, o1, x, y, z, rfl, qi, .inr ⟨_, od.ty, o2, ⟨_, rfl⟩, ?_⟩⟩
              refine ⟨_, e14, _, e8, l8, _, 0, .ref x, rfl, rfl, SqL.of L.h8, ax, x, dx, _, T, rfl, hx0, od, o3, x, y, z, rfl, qi, .inr ⟨_, od.ty, o2, ⟨_, rfl⟩, ?_⟩⟩
              refine ⟨_, e8, l8, _, 0, .ref x, rfl, rfl, SqL.of L.h8, ax, _, e14, x, dx, _, _, rfl, hx0, od.ty, o1, x, y, z, rfl, qi, .inr ⟨_, od.ty, o2, _, rfl, ?_⟩⟩
              refine ⟨by show 3 ≤ sizeLine; decide, fun k1 n1 => ?_⟩
              have s1 := same_upd (o := .lst [V.bl false, V.bl false, V.bl true]) n1
              have sw := shows_bools (K := K) [false, false, true] (upd_same (H := H) (a := k1) (o := .lst [V.bl false, V.bl false, V.bl true])) (by decide)
              refine ⟨.ref k1, _, rfl, sw.dq, sw.sh, sw.dp, sw.sz, ?_⟩
              refine ⟨by show 3 ≤ sizeLine; decide, fun k2 n2 => ?_⟩
              have s2 := same_upd (o := .lst [V.bl false, V.bl false, V.bl true]) n2
              have sw2 := shows_bools (K := K) [false, false, true] (upd_same (H := upd H k1 (.lst [V.bl false, V.bl false, V.bl true])) (a := k2) (o := .lst [V.bl false, V.bl false, V.bl true])) (by decide)
              refine ⟨.ref k2, _, rfl, sw2.dq, sw2.sh, sw2.dp, sw2.sz, rfl, _, rfl, ?_⟩
              simpa using fin _ (s1.trans s2))) (pss_one (ps_ret pe_bl)) pss_nil)))))))))))))
      (pss_one (ps_ret pe_bl)), ?_⟩
    refine ⟨_, rfl, by show 1 ≤ sizeLine; decide, fun l hl => ?_⟩
    have s2 := same_upd (o := .lst [.int 0]) hl
    refine ⟨a, l, ns.map V.int, [.int 0], rfl, rfl, s2.seq hS, SqL.of upd_same, by rw [List.length_map, sizeLine_eq]; show ns.length + 1 ≤ _; omega, fun m hm => ?_⟩
    refine ⟨63, rfl, m, _, rfl, SqL.of upd_same, fun n hn => ?_⟩
    refine ⟨n, _, rfl, SqL.of upd_same, ?_⟩
    generalize hcut : cutV (ns.map V.int ++ [V.int 0]) none (some 63) = cut
    have cutI : ∀ x ∈ cut, ∃ i : Int, x = V.int i := fun x hx => by
      rw [← hcut] at hx
      exact cut_int hx
    have cutL : cut.length ≤ 64 := by
      have h := cutV_length (ns.map V.int ++ [V.int 0]) none (some 63)
      rw [hcut, List.length_append, List.length_map, List.length_singleton] at h
      omega
    refine for_it (walk_enum (K := K) (a := n) (xs := cut)) (fun i σ H' => ∃ v1 v2 v3 v4 v5 v6 v7 v8 v9 v10 v11 v12 v13 v14, σ = [some (.ref a), v1, v2, v3, v4, v5, v6, v7, v8, v9, v10, v11, v12, v13, v14] ∧ H' n = some (.lst cut)) ⟨_, _, _, _, _, _, _, _, _, _, _, _, _, _, rfl, upd_same⟩ (fun i σ H' _ ⟨_, _, _, _, _, _, _, _, _, _, _, _, _, _, _, e⟩ => SqL.of e) ?_ ?_
    · rintro i x σ H3 H4 hi ⟨v1, v2, v3, v4, v5, v6, v7, v8, v9, v10, v11, v12, v13, v14, rfl, en⟩ ⟨T0, x1, x2, rfl, nT, rfl, f1, f2⟩
      dsimp only at f1 f2
      obtain ⟨cell, rfl⟩ := cutI x2 (List.mem_of_getElem? f2)
      obtain rfl := Option.some.inj f1
      have sT := same_upd (o := .tup [.int (i : Nat), .int cell]) nT
      have en4 := sT _ _ en
      refine ⟨T0, _, rfl, SqT.of upd_same, rfl, _, _, rfl, _, _, rfl, rfl, ?_⟩
      generalize upd H3 T0 (.tup [.int (i : Nat), .int cell]) = H4 at sT en4 ⊢
      refine ⟨_, rfl, _, rfl, cell, i, rfl, by omega, by omega, fun ps o hps st5 => ?_⟩
      have s5 := same_upd (o := o) hps
      have en5 := s5 _ _ en4
      have nps : n ≠ ps := ne_of_none en4 hps
      generalize upd H4 ps o = H5 at st5 s5 en5 ⊢
      -- the rows
      refine ⟨_, rfl, ps, 0, rfl, st5, by decide, by decide, fun p nm mt an ri to ma ki H6 t6 l6 w6 u6 st6 t60 t61 => ?_⟩
      have en6 := u6 _ _ nps en5
      obtain ⟨q0, ro6, qv0, qu0⟩ := row_of l6 w6
      refine ⟨_, rfl, _, rfl, ps, p, t6, q0, rfl, st6, t60, by omega, ro6, qv0, fun pn qn H7 t7 rn7 nv u7 st7 t70 t71 => ?_⟩
      have en7 := u7 _ _ nps en6
      refine ⟨_, rfl, ps, t7, rfl, st7, t70, by omega, fun p3 nm3 mt3 an3 ri3 to3 ma3 ki3 H8 t8 l8 w8 u8 st8 t80 t81 => ?_⟩
      have en8 := u8 _ _ nps en7
      obtain ⟨q3, ro3, qv3, qu3⟩ := row_of l8 w8
      have rn8 := rn7.but u8 st7
      have ro8 := (ro6.but u7 st6).but u8 st7
      refine ⟨_, _, rfl, ?_⟩
      refine ⟨p, pn, q0, qn, rfl, rfl, ro8, qv0, qu0, rn8, nv, fun pm qm rm mv mu => ?_⟩
      refine ⟨_, rfl, _, rfl, _, rfl, _, rfl, _, rfl, by show 5 ≤ sizeLine; decide, fun l7 n7 => ?_⟩
      have s9 := same_upd (o := .lst ([p, pm, p3, pm, p].map V.ref)) n7
      have h79 : upd H8 l7 (.lst ([p, pm, p3, pm, p].map V.ref)) l7 = some (.lst ([p, pm, p3, pm, p].map V.ref)) := upd_same
      have all9 : ∀ (i : Nat) p' q', [p, pm, p3, pm, p][i]? = some p' → [q0, qm, q3, qm, q0][i]? = some q' → RowAt (upd H8 l7 (.lst ([p, pm, p3, pm, p].map V.ref))) p' q' ∧ QV q' ∧ unlike q'.ws q'.ws.length = q'.ws.length := by
        intro i p' q' h1 h2
        match i, h1, h2 with
        | 0, h1, h2 => cases h1; cases h2; exact ⟨ro8.same s9, qv0, qu0⟩
        | 1, h1, h2 => cases h1; cases h2; exact ⟨rm.same s9, mv, mu⟩
        | 2, h1, h2 => cases h1; cases h2; exact ⟨ro3.same s9, qv3, qu3⟩
        | 3, h1, h2 => cases h1; cases h2; exact ⟨rm.same s9, mv, mu⟩
        | 4, h1, h2 => cases h1; cases h2; exact ⟨ro8.same s9, qv0, qu0⟩
        | k + 5, h1, h2 => cases h1
      have en9 := s9 _ _ en8
      have ro9 := ro8.same s9
      show tSeq _ _ _ _ (upd H8 l7 (.lst ([p, pm, p3, pm, p].map V.ref)))
      generalize upd H8 l7 (.lst ([p, pm, p3, pm, p].map V.ref)) = H9 at s9 h79 all9 en9 ro9 ⊢
      generalize hP : [p, pm, p3, pm, p] = Ps at h79 all9 ⊢
      generalize hQ : [q0, qm, q3, qm, q0] = Qs at all9 ⊢
      have lP : Ps.length = 5 := by rw [← hP]; rfl
      have lQ : Qs.length = 5 := by rw [← hQ]; rfl
      -- the questions
      refine ⟨_, rfl, l7, rfl, ⟨_, SqL.of h79⟩, fun D hD => ?_⟩
      have nD : ∀ {b : Addr} {o : HO}, H9 b = some o → b ≠ D := fun {b o} e z => by rw [z, hD] at e; cases e
      refine lc_list (K := K) (a := l7) (xs := Ps.map V.ref) (fun j H' => (∀ b o, b ≠ D → H9 b = some o → H' b = some o) ∧ ∃ xs : List Addr, H' D = some (.lst (xs.map V.ref)) ∧ xs.length = j ∧ ∀ (k : Nat) x z, xs[k]? = some x → Qs[k]? = some z → QI CQ H' x z) ⟨fun b o nb e => ?_, [], upd_same, rfl, fun k x z h1 => by simp at h1⟩ ?_ ?_ ?_
      · rw [upd_ne nb]
        exact e
      · exact fun j H' _ h => SqL.of (h.1 _ _ (nD h79) h79)
      · rintro j x H' hj ⟨kp, xs, hDx, lx, qx⟩
        rw [List.getElem?_map] at hj
        obtain ⟨pj, hpj, rfl⟩ : ∃ y, Ps[j]? = some y ∧ x = V.ref y := by
          cases e : Ps[j]? with
          | none => rw [e] at hj; cases hj
          | some y => rw [e] at hj; exact ⟨y, rfl, (Option.some.inj hj).symm⟩
        have j5 : j < 5 := by
          have := (List.getElem?_eq_some_iff.mp hpj).1
          omega
        have hqj : Qs[j]? = some (Qs[j]'(by omega)) := List.getElem?_eq_getElem (by omega)
        generalize Qs[j]'(by omega) = qj at hqj
        obtain ⟨⟨aj, h1, h2⟩, vj, uj⟩ := all9 j pj qj hpj hqj
        have rj : RowAt H' pj qj := ⟨aj, kp _ _ (nD h1) h1, kp _ _ (nD h2) h2⟩
        obtain ⟨aw, hp', ha', qk⟩ := row_qok rj vj uj
        refine ⟨rfl, _, rfl, pj, _, _, _, _, _, _, _, rfl, hp', qk, fun x dx H'' s'' hx => ?_⟩
        have hD'' := s'' _ _ hDx
        refine ⟨_, hD'', by rw [List.length_map, lx, sizeLine_eq]; omega, fun b o nb e => ?_, xs ++ [x], ?_, by rw [List.length_append, lx]; rfl, fun k y z h1 h2 => ?_⟩
        · rw [upd_ne nb]
          exact s'' _ _ (kp b o nb e)
        · rw [upd_same, List.map_append]
          rfl
        · have put : ∀ {y z}, QI CQ H'' y z → QI CQ (upd H'' D (.lst (xs.map V.ref ++ [V.ref x]))) y z := fun {y z} ⟨dy, b, g1, g2, g3⟩ => ⟨dy, b, by rw [upd_ne (fun e => by rw [e, hD''] at g1; cases g1)]; exact g1, by rw [upd_ne (fun e => by rw [e, hD''] at g2; cases g2)]; exact g2, g3⟩
          rcases Nat.lt_or_ge k xs.length with hk | hk
          · rw [List.getElem?_append_left hk] at h1
            exact put ((qx k y z h1 h2).same s'')
          · have hk' : k = xs.length := by
              have := (List.getElem?_eq_some_iff.mp h1).1
              rw [List.length_append, List.length_singleton] at this
              omega
            rw [hk', List.getElem?_append_right (Nat.le_refl _), Nat.sub_self] at h1
            cases h1
            rw [hk', lx, hqj] at h2
            cases h2
            exact put ⟨dx, aw, hx, s'' _ _ ha', ws_strOk vj⟩
      · rintro H' ⟨kp, xs, hDx, lx, qx⟩
        rw [List.length_map, lP] at lx
        have L : Lay CQ H' l7 D Ps xs Qs := ⟨kp _ _ (nD h79) h79, hDx, by omega, by omega, lQ, fun i p' q' h1 h2 => by
          obtain ⟨⟨aj, g1, g2⟩, _, _⟩ := all9 i p' q' h1 h2
          exact ⟨aj, kp _ _ (nD g1) g1, kp _ _ (nD g2) g2⟩, fun z hz => by
          obtain ⟨i, hi', rfl⟩ := List.mem_iff_getElem.mp hz
          exact (all9 i _ _ (List.getElem?_eq_getElem (by omega)) (List.getElem?_eq_getElem hi')).2.1, qx⟩
        have en10 := kp _ _ (nD en9) en9
        have ro10 : RowAt H' p q0 := by
          obtain ⟨aj, g1, g2⟩ := ro9
          exact ⟨aj, kp _ _ (nD g1) g1, kp _ _ (nD g2) g2⟩
        clear kp nD hD all9 h79 en9 ro9
        -- all pairs
        refine ⟨_, rfl, l7, _, rfl, SqL.of L.h7, ?_⟩
        refine for_it (walk_enum (K := K) (a := l7) (xs := Ps.map V.ref)) (fun j σ G => ∃ w9 w10 w11 w12, σ = [some (.ref a), some (.int (i : Nat)), some (.int cell), some (.ref ps), some (.ref p), some (.ref pm), some (.ref p3), some (.ref l7), some (.ref D), w9, w10, w11, w12, v13, v14] ∧ Same H' G) ⟨_, _, _, _, rfl, Same.refl H'⟩ (fun j σ G _ ⟨_, _, _, _, _, e⟩ => SqL.of (e _ _ L.h7)) ?_ ?_
        · rintro j x σ G1 G2 hj ⟨w9, w10, w11, w12, rfl, g1⟩ ⟨T1, y1, y2, rfl, nT1, rfl, e1, e2⟩
          dsimp only at e1 e2
          obtain rfl := Option.some.inj e1
          rw [List.length_map, lP] at hj
          rw [List.getElem?_map] at e2
          obtain ⟨pj, hpj, rfl⟩ : ∃ y, Ps[j]? = some y ∧ y2 = V.ref y := by
            cases e : Ps[j]? with
            | none => rw [e] at e2; cases e2
            | some y => rw [e] at e2; exact ⟨y, rfl, (Option.some.inj e2).symm⟩
          have gT := same_upd (o := .tup [.int (j : Nat), .ref pj]) nT1
          refine ⟨T1, _, rfl, SqT.of upd_same, rfl, _, _, rfl, _, _, rfl, rfl, ?_⟩
          generalize upd G1 T1 (.tup [.int (j : Nat), .ref pj]) = G3 at gT ⊢
          have g3 := g1.trans gT
          have L3 := L.same g3
          refine ⟨_, rfl, l7, _, rfl, SqL.of L3.h7, ?_⟩
          refine for_it (walk_enum (K := K) (a := l7) (xs := Ps.map V.ref)) (fun k σ G => ∃ w11 w12, σ = [some (.ref a), some (.int (i : Nat)), some (.int cell), some (.ref ps), some (.ref p), some (.ref pm), some (.ref p3), some (.ref l7), some (.ref D), some (.int (j : Nat)), some (.ref pj), w11, w12, v13, v14] ∧ Same G3 G) ⟨_, _, rfl, Same.refl G3⟩ (fun k σ G _ ⟨_, _, _, e⟩ => SqL.of (e _ _ L3.h7)) ?_ ?_
          · rintro k x σ G4 G5 hk ⟨w11, w12, rfl, g4⟩ ⟨T2, z1, z2, rfl, nT2, rfl, d1, d2⟩
            dsimp only at d1 d2
            obtain rfl := Option.some.inj d1
            rw [List.length_map, lP] at hk
            rw [List.getElem?_map] at d2
            obtain ⟨pk, hpk, rfl⟩ : ∃ y, Ps[k]? = some y ∧ z2 = V.ref y := by
              cases e : Ps[k]? with
              | none => rw [e] at d2; cases d2
              | some y => rw [e] at d2; exact ⟨y, rfl, (Option.some.inj d2).symm⟩
            have gU := same_upd (o := .tup [.int (k : Nat), .ref pk]) nT2
            refine ⟨T2, _, rfl, SqT.of upd_same, rfl, _, _, rfl, _, _, rfl, rfl, ?_⟩
            generalize upd G4 T2 (.tup [.int (k : Nat), .ref pk]) = G6 at gU ⊢
            have g6 := g4.trans gU
            exact ⟨l7, D, Ps, xs, Qs, j, k, pj, pk, rfl, rfl, rfl, rfl, rfl, L3.same g6, hj, hk, hpj, hpk, fun G7 g7 => iteF ⟨_, _, rfl, g6.trans g7⟩⟩
          · rintro σ G4 ⟨w11, w12, rfl, g4⟩
            refine ⟨l7, D, Ps, xs, Qs, j, pj, rfl, rfl, rfl, L3.same g4, hj, hpj, fun G5 g5 => iteF ?_⟩
            exact ⟨l7, D, Ps, xs, Qs, j, pj, rfl, rfl, rfl, rfl, L3.same (g4.trans g5), hj, hpj, iteF ⟨_, _, _, _, rfl, g3.trans (g4.trans g5)⟩⟩
        · rintro σ G1 ⟨w9, w10, w11, w12, rfl, g1⟩
          have L1 := L.same g1
          obtain ⟨aw, hp1, ha1⟩ := ro10.same g1
          obtain ⟨x0, z0, ax0, hx0, hz0, qi0, _⟩ := L1.at (i := 0) (by decide)
          have b1 := qv0.b.n1
          have sl := sizeLine_eq
          have l4 : ((("Question(" : String) : Str)).length = 9 := by decide +kernel
          have l5 : (((")" : String) : Str)).length = 1 := by decide +kernel
          refine ⟨_, rfl, _, rfl, p, _, rfl, .inr (SqT.of hp1), fun c1 n1 => ?_⟩
          have z1 := same_upd (o := .lst (qRow q0 aw)) n1
          have hc1 : upd G1 c1 (.lst (qRow q0 aw)) c1 = some (.lst (qRow q0 aw)) := upd_same
          generalize upd G1 c1 (.lst (qRow q0 aw)) = G2 at z1 hc1 ⊢
          refine ⟨_, rfl, p, _, 0, .str q0.nm, rfl, rfl, SqT.of (z1 _ _ hp1), rfl, _, rfl, p, _, 0, .str q0.nm, rfl, rfl, SqT.of (z1 _ _ hp1), rfl, _, _, rfl, rfl, by rw [l4]; omega, _, _, rfl, rfl, by rw [app_len, l4, l5]; omega, ?_⟩
          refine ⟨_, rfl, D, _, 0, .ref x0, rfl, rfl, SqL.of (z1 _ _ L1.h8), ax0, by show 1 ≤ sizeLine; decide, fun c2 n2 => ?_⟩
          have z2 := same_upd (o := .lst [.ref x0]) n2
          have hc2 : upd G2 c2 (.lst [.ref x0]) c2 = some (.lst [.ref x0]) := upd_same
          generalize upd G2 c2 (.lst [.ref x0]) = G3 at z2 hc2 ⊢
          refine fun c3 n3 => ?_
          have z3 := same_upd (o := .dK []) n3
          have hc3 : upd G3 c3 (.dK []) c3 = some (.dK []) := upd_same
          generalize upd G3 c3 (.dK []) = G4 at z3 hc3 ⊢
          refine ⟨by show 9 ≤ sizeLine; decide, fun c4 n4 => ?_⟩
          generalize hL : [V.non, .ref p, .ref c1, .str q0.nm, .str (("Question(" ++ q0.nm) ++ ")"), .int 5, .bl true, .ref c2, .ref c3] = Ls
          have z4 := same_upd (o := .lst Ls) n4
          have hc4 : upd G4 c4 (.lst Ls) c4 = some (.lst Ls) := upd_same
          refine ⟨_, rfl, c4, rfl, ⟨_, SqL.of hc4⟩, ?_⟩
          have gz := ((z1.trans z2).trans z3).trans z4
          have L4 := L1.same gz
          have en4' := gz _ _ (g1 _ _ en10)
          have od : ∀ y ∈ Ls, ∃ T, Odd (upd G4 c4 (.lst Ls)) y T := by
            intro y hy
            rw [← hL] at hy
            simp only [List.mem_cons, List.not_mem_nil, or_false] at hy
            rcases hy with rfl | rfl | rfl | rfl | rfl | rfl | rfl | rfl | rfl
            · exact ⟨_, .non⟩
            · exact ⟨_, .tup (gz _ _ hp1)⟩
            · exact ⟨_, .lst (z4 _ _ (z3 _ _ (z2 _ _ hc1)))⟩
            · exact ⟨_, .str _⟩
            · exact ⟨_, .str _⟩
            · exact ⟨_, .int _⟩
            · exact ⟨_, .bl _⟩
            · exact ⟨_, .lst (z4 _ _ (z3 _ _ hc2))⟩
            · exact ⟨_, .dct (z4 _ _ hc3)⟩
          generalize upd G4 c4 (.lst Ls) = G5 at z4 hc4 gz L4 en4' od ⊢
          refine for_it (walk_list (K := K) (a := c4) (xs := Ls)) (fun j σ G => ∃ w14, σ = [some (.ref a), some (.int (i : Nat)), some (.int cell), some (.ref ps), some (.ref p), some (.ref pm), some (.ref p3), some (.ref l7), some (.ref D), w9, w10, w11, w12, some (.ref c4), w14] ∧ Same G5 G) ⟨_, rfl, Same.refl G5⟩ (fun j σ G _ ⟨_, _, e⟩ => SqL.of (e _ _ hc4)) ?_ ?_
          · rintro j y σ G6 G7 hj ⟨w14, rfl, g6⟩ ⟨rfl, fy⟩
            obtain ⟨T, oT⟩ := od y (List.mem_of_getElem? fy)
            exact ⟨l7, D, Ps, xs, Qs, y, T, rfl, rfl, L4.same g6, oT.same g6, fun G8 g8 => iteF ⟨_, rfl, g6.trans g8⟩⟩
          · rintro σ G6 ⟨w14, rfl, g6⟩
            exact ⟨_, _, _, _, _, _, _, _, _, _, _, _, _, _, rfl, g6 _ _ en4'⟩
    · rintro σ H' ⟨v1, v2, v3, v4, v5, v6, v7, v8, v9, v10, v11, v12, v13, v14, rfl, en⟩
      exact q _
end
end Pk
namespace Pk
open PySem L2
/-! ### what the top has left -/
def isNone : Option (Option Value) → Bool
  | some none => true
  | _ => false
theorem isNone_of {x : Option (Option Value)} (h : isNone x = true) : x = some none := by
  cases x with
  | none => cases h
  | some y =>
    cases y with
    | none => rfl
    | some z => cases h
def noneB (K : PySem.W.Frag) (C : Addr) (l : List Str) : Bool := l.all fun f => isNone (PySem.W.findIn K (.ref C) f)
theorem none_of {K : PySem.W.Frag} {C : Addr} {l : List Str} (h : noneB K C l = true) : ∀ f ∈ l, NoAttr K C f := fun f hf => isNone_of (List.all_eq_true.mp h f hf)
theorem va_line : Line VaLine VaLine := ⟨fun _ => rfl, F.store_ValueError.passes, by decide +kernel⟩

theorem all_mk {l : PySem.W.OpenLaw} {w : World} {K : PySem.W.Frag} {h : Heap} {mg : Str → Option Value} {fa c5 fI fW tW CQ fQ tQ fE fL fZ fR f1 f2 f3 f4 f5 f6 f7 f8 f9 f10 f11 f12 f13 f14 f15 f16 f17 : Addr} (X : K.In h) (G : h.Ns mainGlobals mg) (hfa : mg "law" = some (.ref fa))
    {od1 an1 od2 an2 od3 an3 od4 an4 od5 an5 od6 an6 od7 an7 od8 an8 od9 an9 od10 an10 od11 an11 od12 an12 od13 an13 od14 an14 od15 an15 od16 an16 od17 an17 odI anI odW anW odQ anQ odE anE odL anL odZ anZ odR anR odT odU : Option Addr} {sl1 sl2 sl3 sl4 sl5 sl6 sl7 sl8 sl9 sl10 sl11 sl12 sl13 sl14 sl15 sl16 sl17 slI slW slQ slE slL slZ slR slT slU : Array (Option Value)} {oc1 kV1 dc1 pm1 cd1 ct1 oc2 kV2 dc2 pm2 cd2 ct2 oc3 kV3 dc3 pm3 cd3 ct3 oc4 kV4 dc4 pm4 cd4 ct4 oc5 kV5 dc5 pm5 cd5 ct5 oc6 kV6 dc6 pm6 cd6 ct6 oc7 kV7 dc7 pm7 cd7 ct7 oc8 kV8 dc8 pm8 cd8 ct8 oc9 kV9 dc9 pm9 cd9 ct9 oc10 kV10 dc10 pm10 cd10 ct10 oc11 kV11 dc11 pm11 cd11 ct11 oc12 kV12 dc12 pm12 cd12 ct12 oc13 kV13 dc13 pm13 cd13 ct13 oc14 kV14 dc14 pm14 cd14 ct14 oc15 kV15 dc15 pm15 cd15 ct15 oc16 kV16 dc16 pm16 cd16 ct16 oc17 kV17 dc17 pm17 cd17 ct17 ocI dcI pmI cdI ctI ocW kVW dcW pmW cdW ctW ocQ kVQ dcQ pmQ cdQ ctQ ocE kVE dcE pmE cdE ctE ocL kVL dcL pmL cdL ctL ocZ kVZ dcZ pmZ cdZ ctZ ocR kVR dcR pmR cdR ctR ocT ocU : Value}
    {nm q : Str} {N : Addr} {bs : List Value} {sn : List Str} {sub : List Value} {ab : Bool} {col : Option Bool} {dd : Option Addr} {m0 m1 m2 m3 m5 : Option Value} {u0 u1 uM uS uP u2 u6 w0 w1 w2 w3 : Tok} {nT nU : Nat} {zE : Str}
    (g5 : PySem.W.nsIn K mainGlobals "BadQuestion" = some (some (.ref c5)))
    (e1_5 : PySem.W.findIn K (.ref c5) "__getattribute__" = some (some (.builtin "BaseException.__getattribute__")))
    (e2_5 : PySem.W.findIn K (.ref c5) "__getattr__" = some none)
    (e3_5 : PySem.W.subIn K (.ref c5) (.type "BaseException") = some true)
    (e4_5 : PySem.W.hasDictIn K c5 = true)
    (e5_5 : PySem.W.findIn K (.ref c5) "__class__" = some (some (.builtin "object.__class__")))
    (e8_5 : PySem.W.mroIn K c5 (.type "object") = some true)
    (e6 : PySem.W.specialIn K (.builtin "object.__class__") "__get__" = some (some (.builtin "getset_descriptor.__get__")))
    (e7 : PySem.W.takesIn K (.builtin "object.__class__") = some true)
    (xL : K.lookup c5 = some (excClassObj nm q c5 N bs VaLine true sn sub ab col dd m0 m1 m2 m3 m5 "ValueError.__new__"))
    (sa : PySem.W.findIn K (.ref c5) "__setattr__" = some (some (.builtin "object.__setattr__")))
    (nb : PySem.W.findIn K (.ref c5) "part" = some none)
    (aI : PySem.W.findIn K (.ref c5) "__init__" = some (some (.ref fI)))
    (tI : PySem.W.typeIn K (.ref fI) = some (.type "function"))
    (kI : PySem.W.keepIn K (.ref c5) = true)
    (yI : PySem.W.typeIn K (.ref c5) = some (.type "type"))
    (lI : K.lookup fI = some ⟨ocI, odI, .func (PySem.W.fnOf "__init__" "BadQuestion.__init__" (Of_part.iA ⟨7, 17, 7, 21⟩ ⟨7, 23, 7, 27⟩) (Of_part.iB ⟨8, 8, 8, 12⟩ ⟨8, 8, 8, 17⟩ ⟨8, 20, 8, 24⟩ ⟨8, 8, 8, 24⟩) Of_part.iS .none .none dcI pmI anI cdI ctI), slI⟩)
    (qI : PySem.W.codeIn K cdI "BadQuestion.__init__" = true)
    (gQ : PySem.W.nsIn K mainGlobals "Question" = some (some (.ref CQ)))
    (cc1 : PySem.W.findIn K (.ref CQ) "__class__" = some (some (.builtin "object.__class__")))
    (cc2 : PySem.W.mroIn K CQ (.type "object") = some true)
    (cc3 : PySem.W.kitOne K (.ref CQ) (.ref CQ) = some true)
    (aE : PySem.W.findIn K (.ref CQ) "__eq__" = some (some (.ref fE)))
    (hE : PySem.W.isFn K (.ref fE) = true)
    (lE : K.lookup fE = some ⟨ocE, odE, .func (PySem.W.fnOf "__eq__" "Question.__eq__" (defArgs sQEq) (defBody sQEq) (defScope sQEq) .none kVE dcE pmE anE cdE ctE), slE⟩)
    (qE : PySem.W.codeIn K cdE "Question.__eq__" = true)
    (kE : PySem.W.keepIn K (.ref fE) = true)
    (aL : PySem.W.findIn K (.ref CQ) "__len__" = some (some (.ref fL)))
    (hL : PySem.W.isFn K (.ref fL) = true)
    (lL : K.lookup fL = some ⟨ocL, odL, .func (PySem.W.fnOf "__len__" "Question.__len__" (defArgs sQLen) (defBody sQLen) (defScope sQLen) .none kVL dcL pmL anL cdL ctL), slL⟩)
    (qL : PySem.W.codeIn K cdL "Question.__len__" = true)
    (kL : PySem.W.keepIn K (.ref fL) = true)
    (aZ : PySem.W.findIn K (.ref CQ) "__str__" = some (some (.ref fZ)))
    (hZ : PySem.W.isFn K (.ref fZ) = true)
    (lZ : K.lookup fZ = some ⟨ocZ, odZ, .func (PySem.W.fnOf "__str__" "Question.__str__" (defArgs sQStr) (defBody sQStr) (defScope sQStr) .none kVZ dcZ pmZ anZ cdZ ctZ), slZ⟩)
    (qZ : PySem.W.codeIn K cdZ "Question.__str__" = true)
    (kZ : PySem.W.keepIn K (.ref fZ) = true)
    (aR : PySem.W.findIn K (.ref CQ) "__repr__" = some (some (.ref fR)))
    (hR : PySem.W.isFn K (.ref fR) = true)
    (lR : K.lookup fR = some ⟨ocR, odR, .func (PySem.W.fnOf "__repr__" "Question.__repr__" (defArgs sQRepr) (defBody sQRepr) (defScope sQRepr) .none kVR dcR pmR anR cdR ctR), slR⟩)
    (qR : PySem.W.codeIn K cdR "Question.__repr__" = true)
    (kR : PySem.W.keepIn K (.ref fR) = true)
    (neQ : PySem.W.findIn K (.ref CQ) "__ne__" = some (some (.builtin "object.__ne__")))
    (obQ : oddB K CQ = true)
    (p1 : PySem.W.plainGet K CQ Str.empty = true)
    (p2 : PySem.W.hasDictIn K CQ = true)
    (p3 : PySem.W.plainOver K CQ = true)
    (p4 : PySem.W.findIn K (.ref CQ) "__setattr__" = some (some (.builtin "object.__setattr__")))
    (p5 : noneB K CQ ["name", "matter", "answers", "right", "toil", "marks", "kin"] = true)
    (p6 : PySem.W.makesIn K CQ = true)
    (aQ : PySem.W.findIn K (.ref CQ) "__init__" = some (some (.ref fQ)))
    (p7 : PySem.W.isFn K (.ref fQ) = true)
    (p8 : PySem.W.keepIn K (.ref CQ) = true)
    (lQ : K.lookup fQ = some ⟨ocQ, odQ, .func (PySem.W.fnOf "__init__" "Question.__init__" (defArgs sQInit) (defBody sQInit) (defScope sQInit) (.ref tQ) kVQ dcQ pmQ anQ cdQ ctQ), slQ⟩)
    (yQ : kVQ = .none)
    (qQ : PySem.W.codeIn K cdQ "Question.__init__" = true)
    (kQ : PySem.W.keepIn K (.ref fQ) = true)
    (lU : K.lookup tQ = some ⟨ocU, odU, .seq #[.int 0 w0, .int 5 w1, .int 1 w2, .str zE w3] nU, slU⟩)
    (yU : zE = "")
    (z0 : PySem.W.nsIn K mainGlobals "isinstance" = some none)
    (z1 : PySem.W.nsIn K mainGlobals "len" = some none)
    (z2 : PySem.W.nsIn K mainGlobals "str" = some none)
    (z3 : PySem.W.nsIn K mainGlobals "int" = some none)
    (z4 : PySem.W.nsIn K mainGlobals "bool" = some none)
    (z5 : PySem.W.nsIn K mainGlobals "tuple" = some none)
    (z6 : PySem.W.nsIn K mainGlobals "list" = some none)
    (z7 : PySem.W.nsIn K mainGlobals "set" = some none)
    (z8 : PySem.W.nsIn K mainGlobals "range" = some none)
    (z9 : PySem.W.nsIn K mainGlobals "enumerate" = some none)
    (z10 : PySem.W.nsIn K mainGlobals "all" = some none)
    (z11 : PySem.W.nsIn K mainGlobals "ord" = some none)
    (z12 : PySem.W.nsIn K mainGlobals "repr" = some none)
    (yM : PySem.W.nsIn K mainGlobals "MOST_LETTERS" = some (some (.int 8 uM)))
    (yS : PySem.W.nsIn K mainGlobals "MOST_SIGNS" = some (some (.int 30 uS)))
    (yP : PySem.W.nsIn K mainGlobals "PERCENT" = some (some (.int 37 uP)))
    (y2 : PySem.W.nsIn K mainGlobals "LEAST_ANSWERS" = some (some (.int 2 u2)))
    (y6 : PySem.W.nsIn K mainGlobals "MOST_ANSWERS" = some (some (.int 6 u6)))
    (aW : PySem.W.nsIn K mainGlobals "is_whole" = some (some (.ref fW)))
    (lW : K.lookup fW = some ⟨ocW, odW, .func (PySem.W.fnOf "is_whole" "is_whole" (defArgs sIsWhole) (defBody sIsWhole) (defScope sIsWhole) (.ref tW) kVW dcW pmW anW cdW ctW), slW⟩)
    (qW : PySem.W.codeIn K cdW "is_whole" = true)
    (kW : PySem.W.keepIn K (.ref fW) = true)
    (lT : K.lookup tW = some ⟨ocT, odT, .seq #[.int 0 u0, .int 9999 u1] nT, slT⟩)
    (a1 : PySem.W.nsIn K mainGlobals "is_number" = some (some (.ref f1)))
    (l1 : K.lookup f1 = some ⟨oc1, od1, .func (PySem.W.fnOf "is_number" "is_number" (defArgs sIsNumber) (defBody sIsNumber) (defScope sIsNumber) .none kV1 dc1 pm1 an1 cd1 ct1), sl1⟩)
    (q1 : PySem.W.codeIn K cd1 "is_number" = true)
    (k1 : PySem.W.keepIn K (.ref f1) = true)
    (a2 : PySem.W.nsIn K mainGlobals "is_name" = some (some (.ref f2)))
    (l2 : K.lookup f2 = some ⟨oc2, od2, .func (PySem.W.fnOf "is_name" "is_name" (defArgs sIsName) (defBody sIsName) (defScope sIsName) .none kV2 dc2 pm2 an2 cd2 ct2), sl2⟩)
    (q2 : PySem.W.codeIn K cd2 "is_name" = true)
    (k2 : PySem.W.keepIn K (.ref f2) = true)
    (a3 : PySem.W.nsIn K mainGlobals "is_name_or_empty" = some (some (.ref f3)))
    (l3 : K.lookup f3 = some ⟨oc3, od3, .func (PySem.W.fnOf "is_name_or_empty" "is_name_or_empty" (defArgs sIsNameE) (defBody sIsNameE) (defScope sIsNameE) .none kV3 dc3 pm3 an3 cd3 ct3), sl3⟩)
    (q3 : PySem.W.codeIn K cd3 "is_name_or_empty" = true)
    (k3 : PySem.W.keepIn K (.ref f3) = true)
    (a4 : PySem.W.nsIn K mainGlobals "is_text" = some (some (.ref f4)))
    (l4 : K.lookup f4 = some ⟨oc4, od4, .func (PySem.W.fnOf "is_text" "is_text" (defArgs sIsText) (defBody sIsText) (defScope sIsText) .none kV4 dc4 pm4 an4 cd4 ct4), sl4⟩)
    (q4 : PySem.W.codeIn K cd4 "is_text" = true)
    (k4 : PySem.W.keepIn K (.ref f4) = true)
    (a5 : PySem.W.nsIn K mainGlobals "are_answers" = some (some (.ref f5)))
    (l5 : K.lookup f5 = some ⟨oc5, od5, .func (PySem.W.fnOf "are_answers" "are_answers" (defArgs sAreAnswers) (defBody sAreAnswers) (defScope sAreAnswers) .none kV5 dc5 pm5 an5 cd5 ct5), sl5⟩)
    (q5 : PySem.W.codeIn K cd5 "are_answers" = true)
    (k5 : PySem.W.keepIn K (.ref f5) = true)
    (a6 : PySem.W.nsIn K mainGlobals "_law_mixed" = some (some (.ref f6)))
    (l6 : K.lookup f6 = some ⟨oc6, od6, .func (PySem.W.fnOf "_law_mixed" "_law_mixed" (defArgs sMixed) (defBody sMixed) (defScope sMixed) .none kV6 dc6 pm6 an6 cd6 ct6), sl6⟩)
    (q6 : PySem.W.codeIn K cd6 "_law_mixed" = true)
    (k6 : PySem.W.keepIn K (.ref f6) = true)
    (a7 : PySem.W.nsIn K mainGlobals "_law_stream" = some (some (.ref f7)))
    (l7 : K.lookup f7 = some ⟨oc7, od7, .func (PySem.W.fnOf "_law_stream" "_law_stream" (defArgs sStream) (defBody sStream) (defScope sStream) .none kV7 dc7 pm7 an7 cd7 ct7), sl7⟩)
    (q7 : PySem.W.codeIn K cd7 "_law_stream" = true)
    (k7 : PySem.W.keepIn K (.ref f7) = true)
    (a8 : PySem.W.nsIn K mainGlobals "_law_take" = some (some (.ref f8)))
    (l8 : K.lookup f8 = some ⟨oc8, od8, .func (PySem.W.fnOf "_law_take" "_law_take" (defArgs sTake) (defBody sTake) (defScope sTake) .none kV8 dc8 pm8 an8 cd8 ct8), sl8⟩)
    (q8 : PySem.W.codeIn K cd8 "_law_take" = true)
    (k8 : PySem.W.keepIn K (.ref f8) = true)
    (a9 : PySem.W.nsIn K mainGlobals "_law_name_by" = some (some (.ref f9)))
    (l9 : K.lookup f9 = some ⟨oc9, od9, .func (PySem.W.fnOf "_law_name_by" "_law_name_by" (defArgs sNameBy) (defBody sNameBy) (defScope sNameBy) .none kV9 dc9 pm9 an9 cd9 ct9), sl9⟩)
    (q9 : PySem.W.codeIn K cd9 "_law_name_by" = true)
    (k9 : PySem.W.keepIn K (.ref f9) = true)
    (a10 : PySem.W.nsIn K mainGlobals "_law_text_by" = some (some (.ref f10)))
    (l10 : K.lookup f10 = some ⟨oc10, od10, .func (PySem.W.fnOf "_law_text_by" "_law_text_by" (defArgs sTextBy) (defBody sTextBy) (defScope sTextBy) .none kV10 dc10 pm10 an10 cd10 ct10), sl10⟩)
    (q10 : PySem.W.codeIn K cd10 "_law_text_by" = true)
    (k10 : PySem.W.keepIn K (.ref f10) = true)
    (a11 : PySem.W.nsIn K mainGlobals "_law_answers_by" = some (some (.ref f11)))
    (l11 : K.lookup f11 = some ⟨oc11, od11, .func (PySem.W.fnOf "_law_answers_by" "_law_answers_by" (defArgs sAnswersBy) (defBody sAnswersBy) (defScope sAnswersBy) .none kV11 dc11 pm11 an11 cd11 ct11), sl11⟩)
    (q11 : PySem.W.codeIn K cd11 "_law_answers_by" = true)
    (k11 : PySem.W.keepIn K (.ref f11) = true)
    (a12 : PySem.W.nsIn K mainGlobals "_law_parts_by" = some (some (.ref f12)))
    (l12 : K.lookup f12 = some ⟨oc12, od12, .func (PySem.W.fnOf "_law_parts_by" "_law_parts_by" (defArgs sPartsBy) (defBody sPartsBy) (defScope sPartsBy) .none kV12 dc12 pm12 an12 cd12 ct12), sl12⟩)
    (q12 : PySem.W.codeIn K cd12 "_law_parts_by" = true)
    (k12 : PySem.W.keepIn K (.ref f12) = true)
    (a13 : PySem.W.nsIn K mainGlobals "_law_of" = some (some (.ref f13)))
    (l13 : K.lookup f13 = some ⟨oc13, od13, .func (PySem.W.fnOf "_law_of" "_law_of" (defArgs sOf) (defBody sOf) (defScope sOf) .none kV13 dc13 pm13 an13 cd13 ct13), sl13⟩)
    (q13 : PySem.W.codeIn K cd13 "_law_of" = true)
    (k13 : PySem.W.keepIn K (.ref f13) = true)
    (a14 : PySem.W.nsIn K mainGlobals "_law_near_by" = some (some (.ref f14)))
    (l14 : K.lookup f14 = some ⟨oc14, od14, .func (PySem.W.fnOf "_law_near_by" "_law_near_by" (defArgs sNearBy) (defBody sNearBy) (defScope sNearBy) .none kV14 dc14 pm14 an14 cd14 ct14), sl14⟩)
    (q14 : PySem.W.codeIn K cd14 "_law_near_by" = true)
    (k14 : PySem.W.keepIn K (.ref f14) = true)
    (a15 : PySem.W.nsIn K mainGlobals "_law_shown_right" = some (some (.ref f15)))
    (l15 : K.lookup f15 = some ⟨oc15, od15, .func (PySem.W.fnOf "_law_shown_right" "_law_shown_right" (defArgs sShownR) (defBody sShownR) (defScope sShownR) .none kV15 dc15 pm15 an15 cd15 ct15), sl15⟩)
    (q15 : PySem.W.codeIn K cd15 "_law_shown_right" = true)
    (k15 : PySem.W.keepIn K (.ref f15) = true)
    (a16 : PySem.W.nsIn K mainGlobals "_law_alike_right" = some (some (.ref f16)))
    (l16 : K.lookup f16 = some ⟨oc16, od16, .func (PySem.W.fnOf "_law_alike_right" "_law_alike_right" (defArgs sAlikeR) (defBody sAlikeR) (defScope sAlikeR) .none kV16 dc16 pm16 an16 cd16 ct16), sl16⟩)
    (q16 : PySem.W.codeIn K cd16 "_law_alike_right" = true)
    (k16 : PySem.W.keepIn K (.ref f16) = true)
    (a17 : PySem.W.nsIn K mainGlobals "law" = some (some (.ref f17)))
    (l17 : K.lookup f17 = some ⟨oc17, od17, .func (PySem.W.fnOf "law" "law" (defArgs sLaw) (defBody sLaw) (defScope sLaw) .none kV17 dc17 pm17 an17 cd17 ct17), sl17⟩)
    (q17 : PySem.W.codeIn K cd17 "law" = true)
    (k17 : PySem.W.keepIn K (.ref f17) = true) :
    ∃ fd : FuncData, (∀ (s : Shared) (v : Value), BindsTo s fd ⟨[v], []⟩ [("_law_script", v)]) ∧ ∀ base : Heap, K.In base → base.Ns mainGlobals mg → FnG l.prog w K mg base CX0 8 fa fd ["_law_script"] (spLaw K) := by
  have e := hfa.symm.trans (PySem.W.mg_of X G a17)
  cases e
  subst yU yQ
  have F1 := fun_mk (st := sIsNumber) l1 q1 k1
  have b1 := F1.binds (ps := (["thing"] : List Str)) fun _ _ _ _ _ _ us hl => match us, hl with | [_], _ => rfl
  have F2 := fun_mk (st := sIsName) l2 q2 k2
  have b2 := F2.binds (ps := (["thing"] : List Str)) fun _ _ _ _ _ _ us hl => match us, hl with | [_], _ => rfl
  have F3 := fun_mk (st := sIsNameE) l3 q3 k3
  have b3 := F3.binds (ps := (["thing"] : List Str)) fun _ _ _ _ _ _ us hl => match us, hl with | [_], _ => rfl
  have F4 := fun_mk (st := sIsText) l4 q4 k4
  have b4 := F4.binds (ps := (["thing"] : List Str)) fun _ _ _ _ _ _ us hl => match us, hl with | [_], _ => rfl
  have F5 := fun_mk (st := sAreAnswers) l5 q5 k5
  have b5 := F5.binds (ps := (["thing"] : List Str)) fun _ _ _ _ _ _ us hl => match us, hl with | [_], _ => rfl
  have F6 := fun_mk (st := sMixed) l6 q6 k6
  have b6 := F6.binds (ps := (["_law_number", "_law_k"] : List Str)) fun _ _ _ _ _ _ us hl => match us, hl with | [_, _], _ => rfl
  have F7 := fun_mk (st := sStream) l7 q7 k7
  have b7 := F7.binds (ps := (["_law_cell", "_law_k"] : List Str)) fun _ _ _ _ _ _ us hl => match us, hl with | [_, _], _ => rfl
  have F8 := fun_mk (st := sTake) l8 q8 k8
  have b8 := F8.binds (ps := (["_law_stream_here", "_law_many"] : List Str)) fun _ _ _ _ _ _ us hl => match us, hl with | [_, _], _ => rfl
  have F9 := fun_mk (st := sNameBy) l9 q9 k9
  have b9 := F9.binds (ps := (["_law_stream_here"] : List Str)) fun _ _ _ _ _ _ us hl => match us, hl with | [_], _ => rfl
  have F10 := fun_mk (st := sTextBy) l10 q10 k10
  have b10 := F10.binds (ps := (["_law_stream_here"] : List Str)) fun _ _ _ _ _ _ us hl => match us, hl with | [_], _ => rfl
  have F11 := fun_mk (st := sAnswersBy) l11 q11 k11
  have b11 := F11.binds (ps := (["_law_stream_here"] : List Str)) fun _ _ _ _ _ _ us hl => match us, hl with | [_], _ => rfl
  have F12 := fun_mk (st := sPartsBy) l12 q12 k12
  have b12 := F12.binds (ps := (["_law_stream_here"] : List Str)) fun _ _ _ _ _ _ us hl => match us, hl with | [_], _ => rfl
  have F13 := fun_mk (st := sOf) l13 q13 k13
  have b13 := F13.binds (ps := (["_law_parts"] : List Str)) fun _ _ _ _ _ _ us hl => match us, hl with | [_], _ => rfl
  have F14 := fun_mk (st := sNearBy) l14 q14 k14
  have b14 := F14.binds (ps := (["_law_stream_here", "_law_parts"] : List Str)) fun _ _ _ _ _ _ us hl => match us, hl with | [_, _], _ => rfl
  have F15 := fun_mk (st := sShownR) l15 q15 k15
  have b15 := F15.binds (ps := (["_law_parts", "_law_one"] : List Str)) fun _ _ _ _ _ _ us hl => match us, hl with | [_, _], _ => rfl
  have F16 := fun_mk (st := sAlikeR) l16 q16 k16
  have b16 := F16.binds (ps := (["_law_parts", "_law_others", "_law_one", "_law_other"] : List Str)) fun _ _ _ _ _ _ us hl => match us, hl with | [_, _, _, _], _ => rfl
  have F17 := fun_mk (st := sLaw) l17 q17 k17
  have FE := fun_mk (st := sQEq) lE qE kE
  have FL := fun_mk (st := sQLen) lL qL kL
  have FZ := fun_mk (st := sQStr) lZ qZ kZ
  have FR := fun_mk (st := sQRepr) lR qR kR
  have bE := FE.binds (ps := (["self", "other"] : List Str)) fun _ _ _ _ _ _ us hl => match us, hl with | [_, _], _ => rfl
  have bL := FL.binds (ps := (["self"] : List Str)) fun _ _ _ _ _ _ us hl => match us, hl with | [_], _ => rfl
  have bZ := FZ.binds (ps := (["self"] : List Str)) fun _ _ _ _ _ _ us hl => match us, hl with | [_], _ => rfl
  have bR := FR.binds (ps := (["self"] : List Str)) fun _ _ _ _ _ _ us hl => match us, hl with | [_], _ => rfl
  have FW : FunDf K "is_whole" sIsWhole [.int 0, .int 9999] fW _ := ⟨⟨ocW, odW, .ref tW, kVW, dcW, pmW, anW, cdW, ctW, slW, rfl, lW, qW, .inr ⟨(fun z => nomatch z), tW, _, [.int 0 u0, .int 9999 u1], nT, rfl, lT, rfl, .cons ⟨_, rfl⟩ (.cons ⟨_, rfl⟩ .nil)⟩, .inl rfl⟩, kW⟩
  have FQ : FunQ K fQ _ := ⟨⟨ocQ, odQ, .ref tQ, .none, dcQ, pmQ, anQ, cdQ, ctQ, slQ, rfl, lQ, qQ, .inr ⟨(fun z => nomatch z), tQ, _, [.int 0 w0, .int 5 w1, .int 1 w2, .str "" w3], nU, rfl, lU, rfl, .cons ⟨_, rfl⟩ (.cons ⟨_, rfl⟩ (.cons ⟨_, rfl⟩ (.cons ⟨_, rfl⟩ .nil)))⟩, .inl rfl⟩, kQ⟩
  have bW : ∃ ds, Vals ([] : List V) ds ∧ Binds K _ ["thing", "least", "most"] ds := FW.binds1 3 2 (fun z => nomatch z) rfl fun T kV doc pm an cdv ct us its l1 l2 => match us, its, l1, l2 with
    | [_, _, _], [_, _], _, _ => ⟨_, rfl, rfl⟩
  have x5 : ExcC K c5 := ⟨e1_5, e2_5, e3_5, e4_5, e5_5, e6, e7, e8_5⟩
  have bq : Of_part.Tx K mg "BadQuestion" "BadQuestion.__init__" c5 fI "ValueError" "ValueError.__new__" "ValueError.__init__" VaLine :=
    { base := PySem.F.excBase_ValueError, gC := PySem.W.mg_of X G g5, cls := ⟨nm, q, N, bs, _, sn, sub, ab, col, dd, m0, m1, m2, m3, m5, xL, va_line⟩, sa := sa, ex := x5, noN := nb, iC := aI, tC := tI, kC := kI, tyC := yI, fn := ⟨_, _, _, _, _, _, _, _, _, _, _, _, _, _, lI, qI⟩ }
  have CC : QCls K CQ := ⟨⟨p1, p2, p3, p4⟩, fun f hf => none_of p5 _ (List.mem_map_of_mem hf)⟩
  have M : Mk K CQ fQ := ⟨p6, aQ, p7, p8⟩
  refine ⟨PySem.W.fnOf "law" "law" (defArgs sLaw) (defBody sLaw) (defScope sLaw) .none kV17 dc17 pm17 an17 cd17 ct17, fun s v => .of_eq rfl, fun base _ _ => ?_⟩
  have G_is_name : FnOk l.prog w K mg base CX0 1 f2 _ ["thing"] spIsName := ok_isName F2 (PySem.W.mg_none_of X G z0) (PySem.W.mg_none_of X G z2) (PySem.W.mg_none_of X G z1) ⟨_, PySem.W.mg_of X G yM⟩
  have G_is_whole : FnOk l.prog w K mg base CX0 2 fW _ ["thing", "least", "most"] spIsWhole := ok_isWhole FW F1 b1 (PySem.W.mg_of X G a1) (PySem.W.mg_none_of X G z0) (PySem.W.mg_none_of X G z3) (PySem.W.mg_none_of X G z4)
  have G_is_name_or_empty : FnOk l.prog w K mg base CX0 2 f3 _ ["thing"] spIsNameE := ok_isNameE F3 F2 b2 (PySem.W.mg_of X G a2) (PySem.W.mg_none_of X G z0) (PySem.W.mg_none_of X G z2) (PySem.W.mg_none_of X G z1) ⟨_, PySem.W.mg_of X G yM⟩
  have G_is_text : FnOk l.prog w K mg base CX0 2 f4 _ ["thing"] spIsText := ok_isText F4 (PySem.W.mg_none_of X G z0) (PySem.W.mg_none_of X G z2) (PySem.W.mg_none_of X G z1) (PySem.W.mg_none_of X G z10) (PySem.W.mg_none_of X G z11) ⟨_, PySem.W.mg_of X G yP⟩ ⟨_, PySem.W.mg_of X G yS⟩
  have G_are_answers : FnOk l.prog w K mg base CX0 3 f5 _ ["thing"] spAreAnswers := ok_areAnswers F5 G_is_text k4 b4 (PySem.W.mg_of X G a4) (PySem.W.mg_none_of X G z0) (PySem.W.mg_none_of X G z5) (PySem.W.mg_none_of X G z1) (PySem.W.mg_none_of X G z10) (PySem.W.mg_none_of X G z7) ⟨_, PySem.W.mg_of X G y2⟩ ⟨_, PySem.W.mg_of X G y6⟩
  have CT : QTy K CQ := ⟨cc1, e6, e7, cc2, cc3⟩
  have G_init : FnOk l.prog w K mg base (L2.CX l.prog w) 5 fQ _ psQ (spQInit CQ c5) := ok_qInit FQ bq CC G_is_name k2 b2 (PySem.W.mg_of X G a2) G_are_answers k5 b5 (PySem.W.mg_of X G a5) G_is_whole kW bW (PySem.W.mg_of X G aW) G_is_name_or_empty k3 b3 (PySem.W.mg_of X G a3) (PySem.W.mg_none_of X G z1) (PySem.W.mg_none_of X G z5)
  have QQ : QW K l.prog w mg base CQ := ⟨CC, CT, neQ, ⟨fE, _, ok_qEq FE CC CT (PySem.W.mg_none_of X G z0) (PySem.W.mg_of X G gQ), aE, hE, bE⟩, ⟨fL, _, ok_qLen FL CC (PySem.W.mg_none_of X G z1), aL, hL, bL⟩, ⟨fZ, _, ok_qStr FZ CC, aZ, hZ, bZ⟩, ⟨fR, _, ok_qRepr FR CC, aR, hR, bR⟩⟩
  have G__law_of : FnOk l.prog w K mg base CX0 7 f13 _ ["_law_parts"] (spOf CQ) := ok_of F13 FQ G_init M (PySem.W.mg_of X G gQ)
  have G__law_take : FnOk l.prog w K mg base CX0 2 f8 _ ["_law_stream_here", "_law_many"] spTake := ok_take F8 F6 b6 (PySem.W.mg_of X G a6)
  have G__law_stream : FnOk l.prog w K mg base CX0 2 f7 _ ["_law_cell", "_law_k"] spStream := ok_stream F7 F6 b6 (PySem.W.mg_of X G a6)
  have G__law_name_by : FnOk l.prog w K mg base CX0 3 f9 _ ["_law_stream_here"] (spByP (fun z => nameT z = true) 9) := ok_nameBy F9 (PySem.W.mg_none_of X G z8) F8 b8 (PySem.W.mg_of X G a8) F6 b6 (PySem.W.mg_of X G a6)
  have G__law_text_by : FnOk l.prog w K mg base CX0 3 f10 _ ["_law_stream_here"] (spByP (fun z => textT z = true) 33) := ok_textBy F10 (PySem.W.mg_none_of X G z8) (PySem.W.mg_none_of X G z1) F8 b8 (PySem.W.mg_of X G a8) F6 b6 (PySem.W.mg_of X G a6)
  have G__law_answers_by : FnOk l.prog w K mg base CX0 4 f11 _ ["_law_stream_here"] spAnswersBy := ok_answersBy F11 (PySem.W.mg_none_of X G z8) (PySem.W.mg_none_of X G z5) G__law_take k8 b8 (PySem.W.mg_of X G a8) G__law_text_by k10 b10 (PySem.W.mg_of X G a10)
  have G__law_parts_by : FnOk l.prog w K mg base CX0 5 f12 _ ["_law_stream_here"] spPartsBy := ok_partsBy F12 (PySem.W.mg_none_of X G z1) G__law_take k8 b8 (PySem.W.mg_of X G a8) G__law_answers_by k11 b11 (PySem.W.mg_of X G a11) G__law_name_by k9 b9 (PySem.W.mg_of X G a9)
  have G__law_near_by : FnOk l.prog w K mg base CX0 6 f14 _ ["_law_stream_here", "_law_parts"] spNear := ok_near F14 (PySem.W.mg_none_of X G z1) G__law_take k8 b8 (PySem.W.mg_of X G a8) G__law_parts_by k12 b12 (PySem.W.mg_of X G a12)
  have G__law_shown_right : FnOk l.prog w K mg base CX0 5 f15 _ ["_law_parts", "_law_one"] (spShown CQ) := ok_shown F15 QQ (PySem.W.mg_none_of X G z1) (PySem.W.mg_none_of X G z2) (PySem.W.mg_none_of X G z12)
  have G__law_alike_right : FnG l.prog w K mg base CX0 5 f16 _ ["_law_parts", "_law_others", "_law_one", "_law_other"] (spAlike CQ) := ok_alike F16 QQ (PySem.W.mg_none_of X G z12)
  exact ok_law F17 QQ obQ (PySem.W.mg_none_of X G z9) (PySem.W.mg_none_of X G z1) (PySem.W.mg_none_of X G z7) (PySem.W.mg_none_of X G z6) (PySem.W.mg_none_of X G z12) G__law_stream k7 b7 (PySem.W.mg_of X G a7) G__law_parts_by k12 b12 (PySem.W.mg_of X G a12) G__law_of k13 b13 (PySem.W.mg_of X G a13) G__law_near_by k14 b14 (PySem.W.mg_of X G a14) G__law_shown_right k15 b15 (PySem.W.mg_of X G a15) G__law_alike_right k16 b16 (PySem.W.mg_of X G a16)
end Pk
open PySem PySem.W PyProof.Rows
set_option maxRecDepth 100000 in
set_option maxHeartbeats 0 in
theorem PySem.Challenge.cw_paperkin_k05_by_their_own_words_holds : PySem.Challenge.rw_paperkin_k05_by_their_own_words.Holds := by
  w_on; o_law; k_head; (case hw => w_witness2)
  k_fill
  refine Pk.walkG (l := PySem.Challenge.rw_paperkin_k05_by_their_own_words) (n := 63) (k := 8) (x := "_law_script") (sp := Pk.spLaw) rfl (by decide) rfl ⟨rfl, by decide, by decide⟩ (fun w h Y => PySem.W.kIn_of Y) ?F (fun _ _ a ns hl hS => ⟨a, ns, rfl, hS, hl, fun _ => rfl⟩)
  case F =>
    intro w mg fa h KX G hmg
    refine' Pk.all_mk KX G hmg ?pk_g5 ?pk_e1_5 ?pk_e2_5 ?pk_e3_5 ?pk_e4_5 ?pk_e5_5 ?pk_e8_5 ?pk_e6 ?pk_e7 ?pk_xL ?pk_sa ?pk_nb ?pk_aI ?pk_tI ?pk_kI ?pk_yI ?pk_lI ?pk_qI ?pk_gQ ?pk_cc1 ?pk_cc2 ?pk_cc3 ?pk_aE ?pk_hE ?pk_lE ?pk_qE ?pk_kE ?pk_aL ?pk_hL ?pk_lL ?pk_qL ?pk_kL ?pk_aZ ?pk_hZ ?pk_lZ ?pk_qZ ?pk_kZ ?pk_aR ?pk_hR ?pk_lR ?pk_qR ?pk_kR ?pk_neQ ?pk_obQ ?pk_p1 ?pk_p2 ?pk_p3 ?pk_p4 ?pk_p5 ?pk_p6 ?pk_aQ ?pk_p7 ?pk_p8 ?pk_lQ ?pk_yQ ?pk_qQ ?pk_kQ ?pk_lU ?pk_yU ?pk_z0 ?pk_z1 ?pk_z2 ?pk_z3 ?pk_z4 ?pk_z5 ?pk_z6 ?pk_z7 ?pk_z8 ?pk_z9 ?pk_z10 ?pk_z11 ?pk_z12 ?pk_yM ?pk_yS ?pk_yP ?pk_y2 ?pk_y6 ?pk_aW ?pk_lW ?pk_qW ?pk_kW ?pk_lT ?pk_a1 ?pk_l1 ?pk_q1 ?pk_k1 ?pk_a2 ?pk_l2 ?pk_q2 ?pk_k2 ?pk_a3 ?pk_l3 ?pk_q3 ?pk_k3 ?pk_a4 ?pk_l4 ?pk_q4 ?pk_k4 ?pk_a5 ?pk_l5 ?pk_q5 ?pk_k5 ?pk_a6 ?pk_l6 ?pk_q6 ?pk_k6 ?pk_a7 ?pk_l7 ?pk_q7 ?pk_k7 ?pk_a8 ?pk_l8 ?pk_q8 ?pk_k8 ?pk_a9 ?pk_l9 ?pk_q9 ?pk_k9 ?pk_a10 ?pk_l10 ?pk_q10 ?pk_k10 ?pk_a11 ?pk_l11 ?pk_q11 ?pk_k11 ?pk_a12 ?pk_l12 ?pk_q12 ?pk_k12 ?pk_a13 ?pk_l13 ?pk_q13 ?pk_k13 ?pk_a14 ?pk_l14 ?pk_q14 ?pk_k14 ?pk_a15 ?pk_l15 ?pk_q15 ?pk_k15 ?pk_a16 ?pk_l16 ?pk_q16 ?pk_k16 ?pk_a17 ?pk_l17 ?pk_q17 ?pk_k17
    (case pk_g5 => k_is)
    (case pk_e1_5 => k_is)
    (case pk_e2_5 => k_is)
    (case pk_e3_5 => k_is)
    (case pk_e4_5 => k_is)
    (case pk_e5_5 => k_is)
    (case pk_e8_5 => k_is)
    (case pk_e6 => k_is)
    (case pk_e7 => k_is)
    (case pk_xL => k_is)
    (case pk_sa => k_is)
    (case pk_nb => k_is)
    (case pk_aI => k_is)
    (case pk_tI => k_is)
    (case pk_kI => k_is)
    (case pk_yI => k_is)
    (case pk_lI => k_is)
    (case pk_qI => k_is)
    (case pk_gQ => k_is)
    (case pk_cc1 => k_is)
    (case pk_cc2 => k_is)
    (case pk_cc3 => kernel_rfl)
    (case pk_aE => k_is)
    (case pk_hE => k_is)
    (case pk_lE => k_is)
    (case pk_qE => k_is)
    (case pk_kE => k_is)
    (case pk_aL => k_is)
    (case pk_hL => k_is)
    (case pk_lL => k_is)
    (case pk_qL => k_is)
    (case pk_kL => k_is)
    (case pk_aZ => k_is)
    (case pk_hZ => k_is)
    (case pk_lZ => k_is)
    (case pk_qZ => k_is)
    (case pk_kZ => k_is)
    (case pk_aR => k_is)
    (case pk_hR => k_is)
    (case pk_lR => k_is)
    (case pk_qR => k_is)
    (case pk_kR => k_is)
    (case pk_neQ => k_is)
    (case pk_obQ => kernel_rfl)
    (case pk_p1 => k_is)
    (case pk_p2 => k_is)
    (case pk_p3 => k_is)
    (case pk_p4 => k_is)
    (case pk_p5 => kernel_rfl)
    (case pk_p6 => k_is)
    (case pk_aQ => k_is)
    (case pk_p7 => k_is)
    (case pk_p8 => k_is)
    (case pk_lQ => k_is)
    (case pk_yQ => rfl)
    (case pk_qQ => k_is)
    (case pk_kQ => k_is)
    (case pk_lU => k_is)
    (case pk_yU => decide +kernel)
    (case pk_z0 => k_is)
    (case pk_z1 => k_is)
    (case pk_z2 => k_is)
    (case pk_z3 => k_is)
    (case pk_z4 => k_is)
    (case pk_z5 => k_is)
    (case pk_z6 => k_is)
    (case pk_z7 => k_is)
    (case pk_z8 => k_is)
    (case pk_z9 => k_is)
    (case pk_z10 => k_is)
    (case pk_z11 => k_is)
    (case pk_z12 => k_is)
    (case pk_yM => k_is)
    (case pk_yS => k_is)
    (case pk_yP => k_is)
    (case pk_y2 => k_is)
    (case pk_y6 => k_is)
    (case pk_aW => k_is)
    (case pk_lW => k_is)
    (case pk_qW => k_is)
    (case pk_kW => k_is)
    (case pk_lT => k_is)
    (case pk_a1 => k_is)
    (case pk_l1 => k_is)
    (case pk_q1 => k_is)
    (case pk_k1 => k_is)
    (case pk_a2 => k_is)
    (case pk_l2 => k_is)
    (case pk_q2 => k_is)
    (case pk_k2 => k_is)
    (case pk_a3 => k_is)
    (case pk_l3 => k_is)
    (case pk_q3 => k_is)
    (case pk_k3 => k_is)
    (case pk_a4 => k_is)
    (case pk_l4 => k_is)
    (case pk_q4 => k_is)
    (case pk_k4 => k_is)
    (case pk_a5 => k_is)
    (case pk_l5 => k_is)
    (case pk_q5 => k_is)
    (case pk_k5 => k_is)
    (case pk_a6 => k_is)
    (case pk_l6 => k_is)
    (case pk_q6 => k_is)
    (case pk_k6 => k_is)
    (case pk_a7 => k_is)
    (case pk_l7 => k_is)
    (case pk_q7 => k_is)
    (case pk_k7 => k_is)
    (case pk_a8 => k_is)
    (case pk_l8 => k_is)
    (case pk_q8 => k_is)
    (case pk_k8 => k_is)
    (case pk_a9 => k_is)
    (case pk_l9 => k_is)
    (case pk_q9 => k_is)
    (case pk_k9 => k_is)
    (case pk_a10 => k_is)
    (case pk_l10 => k_is)
    (case pk_q10 => k_is)
    (case pk_k10 => k_is)
    (case pk_a11 => k_is)
    (case pk_l11 => k_is)
    (case pk_q11 => k_is)
    (case pk_k11 => k_is)
    (case pk_a12 => k_is)
    (case pk_l12 => k_is)
    (case pk_q12 => k_is)
    (case pk_k12 => k_is)
    (case pk_a13 => k_is)
    (case pk_l13 => k_is)
    (case pk_q13 => k_is)
    (case pk_k13 => k_is)
    (case pk_a14 => k_is)
    (case pk_l14 => k_is)
    (case pk_q14 => k_is)
    (case pk_k14 => k_is)
    (case pk_a15 => k_is)
    (case pk_l15 => k_is)
    (case pk_q15 => k_is)
    (case pk_k15 => k_is)
    (case pk_a16 => k_is)
    (case pk_l16 => k_is)
    (case pk_q16 => k_is)
    (case pk_k16 => k_is)
    (case pk_a17 => k_is)
    (case pk_l17 => k_is)
    (case pk_q17 => k_is)
    (case pk_k17 => k_is)
