import PyProof.Rows.All
import Wide.All
import OpenK.AllK
import Wide.FinOn
import KE.KTryMore
import HandS.Base
import HandS.Call
import HandS.List
import HandS.Exc
import HandS.Text
import HandS.ForMost
import HandS.ForExc
import HandS.Defaults
import KE.KExcInit
import KE.KExcIs
import HandS.ExcIs
import HandS.IsInst
import HandS.Walk
import HandS.Strs
import HandS.StrMore
import PyProof.FString5
import KE.KCallOwn
import HandS.FStr
import HandS.MakeKwOnly
import PyProof.StrLawsRepr
import PyProof.Rows.StrCut
import HandS.TupAny
import HandS.TupMul
import HandS.OwnEq
import HandS.More
import PyProof.InstNe
import PyProof.Rows.SortStrRead
import HandS.Deep
import KE.SortKeyHeap
import HandS.SortKw
import KE.SortCalls
import PyProof.TupleOfSeq
import KE.DataCmp
import PyProof.ReprLen
import PyProof.FitsInt
import PyProof.ReprDict
import PyProof.ReprReads
import PySem.Challenge.RW_paperkin_k07_lists_of_questions
set_option Elab.async false
set_option linter.all false
set_option maxRecDepth 100000
set_option maxHeartbeats 4000000
namespace Pk
open PySem PySem.Spec PyProof.Rows L2
open PySem.W (Looks Frag exmOne exmAny)
/-! ### a text, so many times -/
theorem op_times {X : Cx} : OpR X (binaryOp .Mult) (fun x y H Q => ∃ z n, x = .str z ∧ y = .int n ∧ MulOk z n ∧ Q (.str (Txt.mul z n)) H) := by
  rintro pins s σ H x y v u Q I rx ry ⟨z, n, ex, ey, ok, q⟩
  subst ex ey
  obtain ⟨t1, rfl⟩ := rx
  obtain ⟨t2, rfl⟩ := ry
  exact SB.mul ok fun t3 k => ⟨.str (Txt.mul z n), H, I.tok k, ⟨t3, rfl⟩, q⟩
/-! ### except (A, B, ..): the tuple's classes, one after the other -/
section
variable {M : Model} {K : Frag} {h : Heap}
theorem looks_every {β : Type} {cs : List Value} {b0 : β} {f : Value → β → Sem (ForInStep β)} (hf : ∀ c ∈ cs, Looks M h (f c b0) (.yield b0)) : Looks M h (forIn cs b0 f) b0 := by
  induction cs with
  | nil =>
    rw [List.forIn_nil]
    exact .now
  | cons c r ih =>
    rw [List.forIn_cons]
    exact (hf c List.mem_cons_self).andThen (ih fun d hd => hf d (List.mem_cons_of_mem _ hd))
theorem looks_first {β : Type} {b0 b1 : β} {f : Value → β → Sem (ForInStep β)} {g : Value → Bool} : ∀ {cs : List Value}, (∀ c ∈ cs, Looks M h (f c b0) (if g c = true then .done b1 else .yield b0)) → Looks M h (forIn cs b0 f) (if cs.any g = true then b1 else b0)
  | [], _ => by
    rw [List.forIn_nil]
    exact .now
  | c :: r, hf => by
    rw [List.forIn_cons]
    have h1 := hf c List.mem_cons_self
    have h2 := looks_first (cs := r) fun d hd => hf d (List.mem_cons_of_mem _ hd)
    rw [List.any_cons]
    cases hg : g c with
    | true =>
      rw [hg] at h1
      exact h1.andThen .now
    | false =>
      rw [hg] at h1
      rw [Bool.false_or]
      exact h1.andThen h2
theorem exm_all {cls : Value} : ∀ {cs : List Value} {b : Bool}, exmAny K cls cs = some b → ∀ c ∈ cs, exmOne K cls c = some ((exmOne K cls c).getD false)
  | [], _, _, _, hc => by cases hc
  | d :: r, b, e, c, hc => by
    obtain ⟨b1, d1, x1, y1, _⟩ := PySem.W.exmAny_cons e
    rcases List.mem_cons.mp hc with q | q
    · subst q
      rw [x1]
      rfl
    · exact exm_all y1 c q
theorem exm_any {cls : Value} : ∀ {cs : List Value} {b : Bool}, exmAny K cls cs = some b → b = cs.any fun c => (exmOne K cls c).getD false
  | [], b, e => (Option.some.inj e).symm
  | d :: r, b, e => by
    obtain ⟨b1, d1, x1, y1, z⟩ := PySem.W.exmAny_cons e
    rw [List.any_cons, x1, ← exm_any y1, z]
    rfl
/-- an exception held against a tuple of classes, however many -/
theorem exm_tuple {cls : Value} {cs : List Value} {tp e : Addr} {b : Bool} {n : Nat} {ot : Obj} (X : K.In h) (LT : Looks M h (typeOf (.ref e)) cls) (hp : h.get? tp = some ot) (hc : ot.cls = .type "tuple") (hd : ot.data = .seq cs.toArray n) (hx : exmAny K cls cs = some b) :
    Looks M h (excMatches (.ref e) (.ref tp)) b := by
  have LT0 : Looks M h (isInstance (.ref tp) (.type "tuple")) true := ((Looks.ld hp).andThen (by rw [hc]; exact .now)).andThen (Looks.of_pure isSubtype_tuple_tuple)
  have LS : Looks M h (seqItems? (.ref tp)) (some cs.toArray) := fun A Q E s k q => wpAny_seqItems (k _ _ hp) hd q
  have hall := exm_all hx
  have hany := exm_any hx
  unfold excMatches
  refine LT0.andThen ?_
  dsimp only
  rw [if_pos rfl]
  refine LS.andThen (Looks.andThen (a := cs) (by rw [Option.getD_some, List.toList_toArray]; exact .now) ?_)
  refine (looks_every (b0 := PUnit.unit) fun c hc => ?_).andThen ?_
  · refine (PySem.W.exm_cls X (hall c hc)).1.andThen ?_
    exact .now
  · refine LT.andThen ?_
    refine (looks_first (b0 := ((none, ()) : Option Bool × Unit)) (b1 := (some true, ())) (g := fun c => (exmOne K cls c).getD false) fun c hc => ?_).andThen ?_
    · refine (PySem.W.exm_cls X (hall c hc)).2.andThen ?_
      cases (exmOne K cls c).getD false with
      | true => exact .now
      | false => exact .now
    · rw [← hany]
      cases b with
      | true => exact .now
      | false => exact .now
end

/-! ### a caught exception that is kept -/
/-- an exception that was caught and is held as a value at a: its class, its own dict -/
def ExH (cls : Value) (d : Option Addr) (a : Addr) : HO := .ext fun h => ∃ (oe : Obj) (vs : Array Value), h.get? a = some oe ∧ Zc cls d oe ∧ oe.data = .fields vs
section
variable {X : Cx} {pins : List (Addr × Obj)} {σ : L2.St} {H : Hp} {s : Shared}
theorem held_ok {P : Program} {w : World} {h : Heap} {a : Addr} {cls : Value} {d : Option Addr} {oe : Obj} {vs : Array Value} (e : h.get? a = some oe) (z : Zc cls d oe) (hv : oe.data = .fields vs) : ObjOk P w H h a (ExH cls d a) :=
  ⟨⟨oe, vs, e, z, hv⟩, ⟨oe, e⟩, fun _ _ ⟨o, v, q, r⟩ k => ⟨o, v, k o q, r⟩⟩
/-- what was pinned is tracked -/
theorem inv_hold {a : Addr} {oe : Obj} {vs : Array Value} {cls : Value} {d : Option Addr} (J : Inv X ((a, oe) :: pins) σ H s) (z : Zc cls d oe) (hv : oe.data = .fields vs)
    (n0 : ∀ b o, X.s_0.heap.get? b = some o → b ∉ X.ex → b ≠ a) (nc : ∀ x c, X.env.cells.lookup x = some c → c ≠ a) (np : ∀ p ∈ X.pn ++ pins, p.1 ≠ a) : Inv X pins σ (upd H a (ExH cls d a)) s := by
  obtain ⟨ea, na, aL, aF, _⟩ := J.pin (a, oe) (List.mem_append_right _ List.mem_cons_self)
  have ne : ∀ {b : Addr} {o : HO}, H b = some o → b ≠ a := fun {b o} q => ne_of_none q na
  refine ⟨J.ok, J.os, J.bare, ⟨J.base.keep, J.base.slot, ?_, J.base.there, ?_, ?_, ?_⟩, J.loc, J.cell, ?_, ?_, ?_, ?_, J.len⟩
  · intro b o e n hx
    rw [upd_ne (n0 b o e hx)]
    exact J.base.free b o e n hx
  · intro b xs e
    have q := J.base.tups b xs e
    rw [upd_ne (ne q)]
    exact q
  · intro b o u e
    have q := J.base.frzs b o u e
    rw [upd_ne (ne q)]
    exact q
  · intro b ps e
    obtain ⟨m, q⟩ := J.base.tbls b ps e
    exact ⟨m, by rw [upd_ne (ne q)]; exact q⟩
  · rw [upd_ne (Ne.symm aL)]
    exact J.free
  · intro x c e
    rw [upd_ne (nc x c e)]
    exact J.freeC x c e
  · intro p hp
    have hq : p ∈ X.pn ++ (a, oe) :: pins := by
      rcases List.mem_append.mp hp with q | q
      · exact List.mem_append_left _ q
      · exact List.mem_append_right _ (List.mem_cons_of_mem _ q)
    obtain ⟨e, n, r⟩ := J.pin p hq
    exact ⟨e, by rw [upd_ne (np p hp)]; exact n, r⟩
  · intro b u e
    by_cases hb : b = a
    · subst hb
      rw [upd_same] at e
      cases e
      exact held_ok ea z hv
    · rw [upd_ne hb] at e
      exact (J.hok b u e).stay (fun _ _ _ q => q) (fun c q => by rw [upd_ne (ne q)]; exact q) fun c xs q => by rw [upd_ne (ne q)]; exact q
end
/-- what 'except (A, B, ..) as n: suite' wishes of an exception of the body, where the suite may keep it: behind the suite it is tracked -/
def wHeld (K : Frag) (cs : List Value) (i : Nat) (ts : Addr → Value → Option Addr → TS) (Wout : WX) (D : Ends) : WX := fun cls d σ H =>
  ∃ b, exmAny K cls cs = some b ∧
    (b = true → ∀ a, H a = none → ts a cls d { nx := fun σ' H' => H' a = none → D.nx (σ'.set i none) (upd H' a (ExH cls d a)), rt := fun _ _ => False, bk := fun _ _ => False, ct := fun _ _ => False } (σ.set i (some (.ref a))) H) ∧
    (b = false → Wout cls d σ H)
/-- the names of a written tuple of classes -/
inductive NamesAll (X : Cx) : List Expr → List Value → Prop
  | nil : NamesAll X [] []
  | cons {x : Str} {c : Value} {np : Pos} {es : List Expr} {cs : List Value} (hg : Gl X x) (hd : (x == ("__debug__" : Str)) = false) (hm : X.mg x = some c) (r : NamesAll X es cs) : NamesAll X (.Name x np :: es) (c :: cs)
section
variable {X : Cx} {n : Str} {cs : List Value} {es : List Expr} {i kk : Nat} {body suite : List Stmt} {b₀ : Stmt} {tpos pos pos' : Pos} {tb : WX → TS} {ts : Addr → Value → Option Addr → TS} {Wout : WX}
/-- the tuple of the clause is laid, nothing else is done -/
theorem names_run {a : Addr} {pn : List (Addr × Obj)} {σ : L2.St} {H : Hp} {s : Shared} {pins : List (Addr × Obj)} {E : Value → Shared → Prop} (S : Inv (X.suite a pn) pins σ H s) : ∀ {es : List Expr} {cs : List Value}, NamesAll X es cs → ∀ {Q : List Value → Shared → Prop}, Q cs s →
    wpAny (model X.prog X.w) (X.A.mark (some (.ref a))) (spliced (backTo tpos (starEach es X.env))) Q E s
  | _, _, .nil, Q, q => wpAny_items_nil q
  | _, _, .cons hg hd hm r, Q, q => wpAny_items_cons (ld_glob (X := X.suite a pn) S hg hm (names_run S r q) hd)
theorem names_len : ∀ {es : List Expr} {cs : List Value}, NamesAll X es cs → cs.length = es.length
  | _, _, .nil => rfl
  | _, _, .cons _ _ _ r => by rw [List.length_cons, List.length_cons, names_len r]
theorem flying_more {B : Heap} {l : List Env} {a : Addr} {Z : Obj → Prop} {h h' : Heap} (k : ∀ b o, h.get? b = some o → h'.get? b = some o) (f : HandSPX.FlyingZ B l a Z h) : HandSPX.FlyingZ B l a Z h' := by
  obtain ⟨f1, f2, f3, oe, vs, T, oT, tts, e1, e2, e3, e4, e5, e6, e7, e8⟩ := f
  exact ⟨fun b o q => k b o (f1 b o q), f2, f3.of_keeps fun b o q _ => ⟨o, k b o q, rfl⟩, oe, vs, T, oT, tts, k _ _ e1, e2, e3, e4, e5, e6, k _ _ e7, e8⟩
theorem ps_try_held (hs : X.stack = X.env :: X.outer) (hf : X.env.frame = some X.env.locals) (hN : X.N.Nodup) (hi : X.N[i]? = some n) (hln : X.env.kindOf n = some .local) (hc : NamesAll X es cs) (hz : es.length ≤ 1000) (tk : Takes X Wout)
    (hb : ∀ (W : WX) (pn : List (Addr × Obj)) (xe : Value → Shared → Prop), Takes (X.tr pn xe) W → PassesOwn (model X.prog X.w) X.A X.env xe → PSs (X.tr pn xe) body (tb W))
    (hsu : ∀ (a : Addr) (oe : Obj) (cls : Value) (d : Option Addr) (pn : List (Addr × Obj)), Zc cls d oe → (∃ vs, oe.data = .fields vs) → PSs (X.suite a ((a, oe) :: pn)) (b₀ :: suite) (ts a cls d)) :
    PS X (.Try body [.ExceptHandler (some (.Tuple es kk tpos)) (some n) (b₀ :: suite) pos'] [] [] pos) (fun D σ H => tb (wHeld X.K cs i ts Wout D) D σ H) := by
  constructor
  intro pins s σ H D I h
  have ok := I.ok
  have hfr : X.A.frames = some (X.env :: X.outer) := ok.frames.trans (congrArg some hs)
  refine wpAny_Try_except ?_
  have body_ := hb (wHeld X.K cs i ts Wout D) (X.pn ++ pins) (fun e s₁ => wpAny (model X.prog X.w) X.A (noteFrame e X.env) (fun _ s₂ => wpAny (model X.prog X.w) X.A (setFlight e none)
    (fun _ s₃ => wpAny (model X.prog X.w) X.A (handleBy e X.env [.ExceptHandler (some (.Tuple es kk tpos)) (some n) (b₀ :: suite) pos']) (SP X pins D) X.xe s₃) X.xe s₂) X.xe s₁) ?caught PassesOwn.looking
  refine wpAny_mono (body_.run [] s σ H D (I.toTry _) h) ?through fun e s1 he => he
  case through =>
    intro f s1 hsp
    cases f with
    | next =>
      obtain ⟨σ', H', J', q⟩ := hsp
      exact wpAny_execs_nil ⟨σ', H', J'.ofTry ok, q⟩
    | brk =>
      obtain ⟨σ', H', J', q⟩ := hsp
      exact ⟨σ', H', J'.ofTry ok, q⟩
    | cont =>
      obtain ⟨σ', H', J', q⟩ := hsp
      exact ⟨σ', H', J'.ofTry ok, q⟩
    | ret u =>
      obtain ⟨v, σ', H', J', r, q⟩ := hsp
      exact ⟨v, σ', H', J'.ofTry ok, r, q⟩
  case caught =>
    rintro u s' ⟨a, B, sI, pins', σ', H', cls, d, rfl, J', nb, up, sky, na, os, ag, b, hb1, hyes, hno⟩
    have J : Inv X pins σ' H' sI := J'.ofTry ok
    rw [hs] at sky
    show wpAny (model X.prog X.w) X.A (noteFrame (.ref a) X.env) _ _ _
    refine Sky.land Zc.steady hfr hf sky fun h3 fl3 up3 => ?_
    obtain ⟨oe3, vs3, he3, hz3, hd3⟩ := fl3.there
    -- where the exception stands: in no frame, new
    have nfr : a ∉ frs (X.env :: X.outer) := fun hm => by
      obtain ⟨_, o', e', hnf⟩ := fl3.2.2.1.mem hm
      rw [he3] at e'
      cases e'
      exact hnf _ hd3
    have nL : a ≠ X.env.locals := fun z => nfr (List.mem_filterMap.mpr ⟨X.env, List.mem_cons_self, by rw [hf, z]⟩)
    have nF : a ∉ X.fs := fun hm => by
      obtain ⟨e, he, q⟩ := List.mem_filterMap.mp hm
      exact nfr (List.mem_filterMap.mpr ⟨e, List.mem_cons_of_mem _ he, q⟩)
    have new : sI.heap.get? a = none := by
      cases q : sI.heap.get? a with
      | none => rfl
      | some o =>
        have z := nb a o q (by rw [hs]; exact nfr)
        rw [fl3.2.1] at z
        cases z
    have ne_ : ∀ {b : Addr} {o : Obj}, sI.heap.get? b = some o → b ≠ a := fun {b o} q z => by
      rw [z, new] at q
      cases q
    have n0 : ∀ b o, X.s_0.heap.get? b = some o → b ∉ X.ex → b ≠ a := fun b o e hx => by
      obtain ⟨o', q⟩ := J.base.there b o e hx
      exact ne_ q
    have nc : ∀ x c, X.env.cells.lookup x = some c → c ≠ a := fun x c e => by
      obtain ⟨v, o, q, _⟩ := J.cell x c e
      exact ne_ q
    have np : ∀ p ∈ X.pn ++ pins, p.1 ≠ a := fun p hp => ne_ (J.pin p hp).1
    have J3 : Inv X pins σ' H' { s' with heap := h3 } := J.landed nb fl3.1 (up.trans up3) os ag
    have S3 := J3.suite he3 hd3 na nL nF
    refine wpAny_handleBy_cons (codeAny_handlers_test ?_) (by intro q; cases q)
    -- the tuple
    refine wpAny_Tuple (names_run S3 hc ⟨by rw [names_len hc]; exact Nat.le_trans hz (by decide), ?_⟩)
    have kp : ∀ q o, h3.get? q = some o → (h3.push { cls := .type "tuple", data := .seq cs.toArray }).get? q = some o := fun _ _ z => Heap.get?_push_of_some _ z
    have fl5 := flying_more kp fl3
    have up5 : sI.heap.UpToSlots (h3.push { cls := .type "tuple", data := .seq cs.toArray }) := (up.trans up3).trans (.of_keeps kp)
    generalize hh5 : h3.push { cls := .type "tuple", data := .seq cs.toArray } = h5 at kp fl5 up5
    have htp : h5.get? h3.objs.size = some { cls := .type "tuple", data := .seq cs.toArray } := by
      rw [← hh5]
      exact Heap.get?_push_size h3 rfl
    have J5 : Inv X pins σ' H' { s' with heap := h5 } := J.landed nb fl5.1 up5 os ag
    have LT : Looks (model X.prog X.w) h5 (typeOf (.ref a)) cls := fun A Q E s k q => wpAny_typeOf_ref (k _ _ (kp _ _ he3)) (by rw [hz3.1]; exact q)
    refine (exm_tuple J5.kIn LT htp rfl rfl hb1).here ?_
    cases b with
    | true =>
      refine codeAny_handlers_suite_as ?_
      refine HandSPX.lands_againZ fl5 fun h4 fl4 up4 => ?_
      have J4 : Inv X pins σ' H' { s' with heap := h4 } := J.landed nb fl4.1 (up5.trans up4) os ag
      obtain ⟨oe4, vs4, he4, hz4, hd4⟩ := fl4.there
      have S4 := J4.suite he4 hd4 na nL nF
      refine store_ok (X := X.suite a ((a, oe4) :: (X.pn ++ pins))) (v := .ref a) S4 hN hi (.inl hln) rfl (fun s5 S5 => ?_) (.inr hln)
      refine wpAny_mono ((hsu a oe4 cls d (X.pn ++ pins) hz4 ⟨_, hd4⟩).run [] s5 _ H' _ S5 (hyes rfl a na)) (fun f s6 hsp => ?_) fun _ _ z => False.elim z
      cases f with
      | next =>
        obtain ⟨σ6, H6, S6, q6⟩ := hsp
        have U6 : Inv X ((a, oe4) :: pins) σ6 H6 s6 := ⟨ok, S6.os, S6.bare, S6.base, S6.loc, S6.cell, S6.free, S6.freeC, fun p hp => S6.pin p (by
          rw [List.append_nil]
          rcases List.mem_append.mp hp with q | q
          · exact List.mem_cons_of_mem _ (List.mem_append_left _ q)
          · rcases List.mem_cons.mp q with q | q
            · rw [q]
              exact List.mem_cons_self
            · exact List.mem_cons_of_mem _ (List.mem_append_right _ q)), S6.hok, S6.len⟩
        refine gone_ok U6 hN hi hln fun s7 J7 => ?_
        have na7 := (J7.pin (a, oe4) (List.mem_append_right _ List.mem_cons_self)).2.1
        exact ⟨_, _, inv_hold J7 hz4 hd4 n0 nc np, q6 na7⟩
      | brk =>
        obtain ⟨σ6, H6, S6, q6⟩ := hsp
        exact q6.elim
      | cont =>
        obtain ⟨σ6, H6, S6, q6⟩ := hsp
        exact q6.elim
      | ret u =>
        obtain ⟨v6, σ6, H6, S6, r6, q6⟩ := hsp
        exact q6.elim
    | false =>
      show wpAny _ X.A (handleBy (.ref a) X.env []) _ _ _
      refine wpAny_handleBy_nil ?_
      obtain ⟨k1, k2, k3, oe, vs, T, oT, tts, he, hz, hd, h1, hr⟩ := id fl5
      unfold PySem.passOn
      refine wpAny_bind (wpAny_field he hd h1 ?_)
      rw [if_neg (show ¬ ((Value.ref T == Value.none) = true) from by simp)]
      have fin : wpAny (model X.prog X.w) X.A (setFlight (.ref a) X.env.frame) (fun _ s4 => wpAny (model X.prog X.w) X.A (throw (.ref a) : Sem Flow) (SP X pins D) X.xe s4) X.xe { s' with heap := h5 } := by
        rw [hf]
        refine HandSPX.setFlight_upZ fl5 fun h4 hh4 up4 => wpAny_throw (tk _ _ ?_)
        exact ⟨a, B, sI, pins, σ', H', cls, d, rfl, J, nb, up5.trans up4, .inr (.inr (by rw [hs]; exact hh4)), na, os, ag, hno rfl⟩
      first
        | exact wpAny_bind (wpAny_pure (wpAny_bind fin))
        | exact wpAny_bind fin
end
end Pk
/-! Defs that are called while nothing is being shown (no repr runs around them): for repr of lists. -/
namespace Pk
open PySem PySem.Spec PyProof.Rows L2
/-- nothing is being shown around -/
def Calm (A : Around) : Prop := A.guards = some []
/-- a def's promise, where nothing is being shown around its call -/
structure FnG (P : Program) (w : World) (K : PySem.W.Frag) (mg : Str → Option Value) (base : Heap) (CX : CXT) (k : Nat) (f : Addr) (fd : FuncData) (ps : List Str) (sp : Sp) : Prop where
  size : ∀ vs H Q E, sp vs H Q E → vs.length = ps.length
  go : ∀ (A : Around), Calm A → Room k A → ∀ (outer : List Env) (s : Shared) (H : Hp) (args : Args) (us : List Value) (vs : List V) (Q : VK) (E : XK), Env0 P w K mg base A outer s H →
    BindsTo s fd args (ps.zip us) → Vals vs us → sp vs H Q E → codeAny (model P w) A (.call (.ref f) args) (CR CX outer P w H s Q E) s
section
variable {P : Program} {w : World} {K : PySem.W.Frag} {mg : Str → Option Value} {base : Heap} {CX : CXT} {k : Nat} {f : Addr} {fd : FuncData} {ps : List Str} {sp : Sp}
theorem FnG.of (F : FnOk P w K mg base CX k f fd ps sp) : FnG P w K mg base CX k f fd ps sp := ⟨F.len, fun A _ hr outer s H args us vs Q E e0 hb r h => F.run A outer s H args us vs Q E hr e0 hb r h⟩
/-- a def by its body -/
theorem fnG_of {name qual : Str} {params : Arguments} {body : List Stmt} {scope : Scope} {dV kV doc pm cdv ct oc : Value} {an od : Option Addr} {osl : Array (Option Value)} {N : List Str}
    (lk : K.lookup f = some ⟨oc, od, .func (PySem.W.fnOf name qual params body scope dV kV doc pm an cdv ct), osl⟩) (hcd : PySem.W.codeIn K cdv qual = true) (S : FnScope N ps scope) (size : ∀ vs H Q E, sp vs H Q E → vs.length = ps.length)
    (hbody : ∀ (A : Around), Calm A → ∀ (outer : List Env) (s : Shared) (H : Hp) (vs : List V) (Q : VK) (E : XK), Room k (A.deeper (envOfC qual scope s.heap.objs.size f cdv)) → sp vs H Q E →
      ∃ t, PSs (cxOf CX P w K mg base N qual scope f cdv A outer s H E) body t ∧ t { nx := fun _ H' => Q .non H', rt := Q } (start N vs) H) :
    FnG P w K mg base CX (k + 1) f (PySem.W.fnOf name qual params body scope dV kV doc pm an cdv ct) ps sp := by
  refine ⟨size, ?_⟩
  intro A calm hr outer s H args us vs Q E e0 hb r hsp
  have keep := fun b o e => (e0.bs b o e).1
  have KX := e0.mod.kin.keeps keep
  obtain ⟨t, ht, hq⟩ := hbody A calm outer s H vs Q E (hr.deeper _) hsp
  refine codeAny_call_function hr.depth (KX _ _ lk) rfl S.co S.gen rfl (PySem.W.codeRec_of KX hcd) (hb _ _ _ _ (wpAny_newFunctionEnv_cells S.kind ?kinds ?inside))
  case kinds =>
    rintro ⟨n, v⟩ hy
    rcases S.par n (List.of_mem_zip hy).1 with q | q
    · exact .inl q
    · exact .inr ⟨q, PySem.W.cellsFrom_some _ _ _ (.inl q)⟩
  case inside =>
    rintro env rfl s1 x
    refine ⟨(e0.mod.nolimit.keeps keep).keeps x.toInCall.keep, codeAny_func ?_⟩
    have I := inv_start (CX := CX) (E := E) S hr.hd e0 (size _ _ _ _ hsp) r x
    refine wpAny_mono (ht.run [] s1 (start N vs) H _ I hq) ?_ fun e s' hs => hs
    intro fl s' hs
    cases fl with
    | ret u =>
      obtain ⟨v, σ', H', J, rv, q⟩ := hs
      exact ⟨v, H', J.os, J.bare, J.base, J.hok, rv, q⟩
    | next =>
      obtain ⟨σ', H', J, q⟩ := hs
      exact ⟨.non, H', J.os, J.bare, J.base, J.hok, rfl, q⟩
    | brk =>
      obtain ⟨_, _, _, q⟩ := hs
      exact q.elim
    | cont =>
      obtain ⟨_, _, _, q⟩ := hs
      exact q.elim
/-- as Fun.ok -/
theorem okG {x qual : Str} {st : Stmt} {N : List Str} (F : Fun K x qual st f fd) (S : FnScope N ps (defScope st)) (size : ∀ vs H Q E, sp vs H Q E → vs.length = ps.length)
    (hbody : ∀ (cdv : Value) (A : Around), Calm A → ∀ (outer : List Env) (s : Shared) (H : Hp) (vs : List V) (Q : VK) (E : XK), Room k (A.deeper (envOfC qual (defScope st) s.heap.objs.size f cdv)) → sp vs H Q E →
      ∃ t, PSs (cxOf CX0 P w K mg base N qual (defScope st) f cdv A outer s H E).nox (defBody st) t ∧ t { nx := fun _ H' => Q .non H', rt := Q } (start N vs) H) : FnG P w K mg base CX0 (k + 1) f fd ps sp := by
  obtain ⟨oc, od, kV, doc, pm, an, cdv, ct, osl, rfl, lk, hcd⟩ := F.ex
  refine fnG_of lk hcd S size ?_
  intro A calm outer s H vs Q E hr hsp
  obtain ⟨t, h, q⟩ := hbody cdv A calm outer s H vs Q E hr hsp
  exact ⟨t, h.nox, q⟩
end
/-! ### calls of such defs -/
section
variable {X : Cx} {CX : CXT} {k : Nat} {f : Addr} {fd : FuncData} {ps ks : List Str} {sp : Sp} {E : XK} {x : Str} {p pos : Pos} {e : Expr} {es : List Expr} {t tk : TA} {ds : List Value} {dvs : List V}
theorem runG {pins : List (Addr × Obj)} {σ : L2.St} {H : Hp} {s : Shared} {Q : VK} {us : List Value} {vs : List V} (F : FnG X.prog X.w X.K X.mg X.base CX k f fd ps sp) (calm : Calm X.A) (hr : Room k X.A) (hb : Binds X.K fd ps ds) (hd : Vals dvs ds) (hx : Passes CX X E)
    (I : L2.Inv X pins σ H s) (r : Vals vs us) (h : sp (vs ++ dvs) H Q E) : wpAny (model X.prog X.w) X.A (call (.ref f) us) (EP X pins σ Q) X.xe s := by
  have r2 := r.append hd
  have hl : (us ++ ds).length = ps.length := r2.length.symm.trans (F.size _ _ _ _ h)
  refine wpAny_call (codeAny_mono (F.go X.A calm hr X.stack s H ⟨us, []⟩ (us ++ ds) (vs ++ dvs) Q E I.env0 (hb s us I.kIn hl) r2 h) ?_)
  intro r s' hq
  match r, hq with
  | .error e, hq => exact hx pins σ H s e s' I hq
  | .ok (.ret u), hq => exact I.after hq
  | .ok .next, hq => exact hq.elim
  | .ok .brk, hq => exact hq.elim
  | .ok .cont, hq => exact hq.elim
theorem pe_callG (F : FnG X.prog X.w X.K X.mg X.base CX k f fd ps sp) (calm : Calm X.A) (hr : Room k X.A) (hg : Gl X x) (hm : X.mg x = some (.ref f)) (hk : PySem.W.keepIn X.K (.ref f) = true) (hb : Binds X.K fd ps ds) (hd : Vals dvs ds) (hx : Passes CX X E)
    (ha : PA X (e :: es) t) (hdb : (x == ("__debug__" : Str)) = false := by decide) (he : starEach (e :: es) X.env = (false, eval e X.env) :: starEach es X.env := by rfl) (hpl : (backTo pos (starEach es X.env)).any (·.1) = false := by rfl) :
    PE X (.Call (.Name x p) (e :: es) [] pos) (tCall sp dvs E t) := by
  constructor
  intro pins s σ H Q I h
  refine wpAny_Call_Name_kw (ld_glob I hg hm (PySem.W.callWith_K (h₀ := X.base) I.ok.mod.kin hk (thn (ha.run pos pins s σ H _ I h) ?_) he hpl) hdb)
  rintro us s1 ⟨vs, H1, I1, r, q⟩
  exact ⟨I1.kIn, runG F calm hr hb hd hx I1 r q⟩
theorem pe_call0G (F : FnG X.prog X.w X.K X.mg X.base CX k f fd ps sp) (calm : Calm X.A) (hr : Room k X.A) (hg : Gl X x) (hm : X.mg x = some (.ref f)) (hk : PySem.W.keepIn X.K (.ref f) = true) (hb : Binds X.K fd ps ds) (hd : Vals dvs ds) (hx : Passes CX X E)
    (hdb : (x == ("__debug__" : Str)) = false := by decide) : PE X (.Call (.Name x p) [] [] pos) (tCall sp dvs E tNil) := by
  constructor
  intro pins s σ H Q I h
  refine wpAny_Call_Name_kw (ld_glob I hg hm ?_ hdb)
  exact PySem.W.callWith_K0 I.kIn hk (runG (us := []) (vs := []) F calm hr hb hd hx I .nil h)
end
/-! ### repr -/
section
variable {X : Cx}
/-- data as it is shown: of texts, numbers, truths, None, lists and tuples; or an empty dict -/
inductive Dq (K : PySem.W.Frag) (H : Hp) : V → PyData → Prop
  | of {v : V} {d : PyData} (h : Dp K H v d) (n : d.hasDict = false) : Dq K H v d
  | emp {a : Addr} (h : H a = some (.dK [])) : Dq K H (.ref a) (.dict [])
/-- repr(x) -/
def rShow (K : PySem.W.Frag) : List V → Hp → VK → Prop := fun xs H Q => ∃ x d, xs = [x] ∧ Dq K H x d ∧ d.showable = true ∧ d.depth ≤ 64 ∧ d.shown.length ≤ sizeLine ∧ Q (.str d.shown) H
theorem call_show (calm : Calm X.A) (hu : X.A.units + 70 < cLine) : CallR X (.builtin "repr") (rShow X.K) := by
  rintro pins s σ H xs us Q I r ⟨x, d, rfl, hd, hs, hdep, hsz, q⟩
  obtain ⟨u, rfl, rx⟩ := vals1 r
  have leaf : ∀ {t k : Nat}, EP X pins σ Q (.str d.shown t) { s with toks := k } := fun {t k} => ⟨.str d.shown, H, I.tok _, ⟨_, rfl⟩, q⟩
  have big : ∀ {a : Addr} {as : List Addr}, u = .ref a → Reads s.heap (.ref a) d as → (d.hasDict = true → sysModules ∉ as) → wpAny (model X.prog X.w) X.A (call (.builtin "repr") [u]) (EP X pins σ Q) X.xe s := by
    intro a as e rd nd
    subst e
    exact repr_of_reads' rd hs nd calm (by omega) (fun _ _ z => z) (fun h' t tk keep => ⟨.str d.shown, H, I.kept keep, ⟨_, rfl⟩, q⟩) hsz
  cases hd with
  | of h n =>
    obtain ⟨as, rd⟩ := Dp.reads I d x u h rx
    cases h with
    | non =>
      cases rx
      exact P.repr_of_none leaf
    | bl b =>
      cases rx
      exact P.repr_of_bool leaf
    | int i =>
      obtain ⟨t, rfl⟩ := rx
      exact P.repr_of_int (of_decide_eq_true hs) leaf
    | str y =>
      obtain ⟨t, rfl⟩ := rx
      exact P.repr_of_str leaf hsz
    | lst h1 h2 =>
      cases rx
      exact big rfl rd fun z => by rw [n] at z; cases z
    | tup h1 h2 =>
      cases rx
      exact big rfl rd fun z => by rw [n] at z; cases z
  | @emp a h =>
    cases rx
    obtain ⟨_, ns, vs, kv, o, es, ep, h1, h2, h3, h4⟩ := I.hok a _ h
    cases kv
    have e0 : es.toList = [] := by
      have z := h4.2.1
      cases hes : es.toList with
      | nil => rfl
      | cons e r =>
        rw [hes] at z
        cases z
    have rd : Reads s.heap (.ref a) (.dict []) (a :: [] ++ []) := .dict h1 h2.1 h3 (by rw [e0]; exact .nil) (by rw [e0]; exact .nil)
    refine big rfl rd fun _ hm => ?_
    rw [List.append_nil, List.mem_singleton] at hm
    rw [hm, beq_self_eq_true] at ns
    cases ns
end
/-! ### the end: the law is called while nothing is being shown -/
section
variable {P : Program} {w : World} {K : PySem.W.Frag} {mg mb : Str → Option Value} {k : Nat} {fa a : Addr} {fd : FuncData} {x : Str} {sp : Sp} {s : Shared} {vs : List Value} {ns : List Int}
/-- at the law's call at most the script is tracked -/
theorem lawG_at (H : Hp) (only : Only H) (just : ∀ b, H b ≠ none → b = a) (apart : H a ≠ none → K.lookup a = none) (hok : HOk P w H s.heap) (kin : K.In s.heap) (gl : s.heap.Ns mainGlobals mg) (bl : s.heap.Ns builtinsNs mb) (bb : ∀ x : Str, x ≠ "__name__" → mb x = bootBuiltins x)
    (lim : s.heap.NoLimit) (gens : s.gens = #[]) (obj : s.heap.get? a = some { cls := .type "list", data := .seq vs.toArray }) (room : Room k callerA) (F : ∀ base : Heap, K.In base → base.Ns mainGlobals mg → FnG P w K mg base CX0 k fa fd [x] sp)
    (bind : ∀ (s : Shared) (u : Value), BindsTo s fd ⟨[u], []⟩ [(x, u)]) (hsp : sp [.ref a] H (fun v _ => v = .bl true) fun _ _ _ => False) :
    codeAny (model P w) callerA (.call (.ref fa) ⟨[.ref a], []⟩) (fun r s' => r = .ok (.ret (.bool true)) ∧ OldK s.heap s'.heap ∧ s'.os = s.os ∧ AllBare s'.gens) s := by
  have at_a : ∀ {b : Addr} {u : HO}, H b = some u → b = a := fun {b u} q => just b (by rw [q]; exact fun z => nomatch z)
  have untracked : ∀ {b : Addr} {o : Obj} {es : Array DictEntry} {n : Nat}, s.heap.get? b = some o → o.data = .dict es n → H b = none := by
    intro b o es n e d
    cases q : H b with
    | none => rfl
    | some u =>
      rw [at_a q, obj] at e
      cases e
      cases d
  have names : ∀ {b : Addr} {m : Str → Option Value}, s.heap.Ns b m → (hidT s.heap H).Ns b m := by
    rintro b m ⟨o, es, n, e, d, r⟩
    exact ⟨o, es, n, hidT_get e (untracked e d), d, r⟩
  have kin' : K.In (hidT s.heap H) := by
    intro b o e
    refine hidT_get (kin b o e) ?_
    cases q : H b with
    | none => rfl
    | some u =>
      have z := apart (by rw [← at_a q, q]; exact fun z => nomatch z)
      rw [at_a q, z] at e
      cases e
  obtain ⟨mc, lm, lv⟩ := lim
  have md : Mod K mg (hidT s.heap H) := ⟨kin', names gl, ⟨mb, names bl, bb⟩, ⟨mc, names lm, lv⟩⟩
  have env : Env0 P w K mg (hidT s.heap H) callerA [] s H := ⟨rfl, md, fun b o e => of_hidT e, Nat.le_of_eq (hidT_size _ _), trivial, (fun b hb => by cases hb), hok, AllBare.of_eq gens⟩
  refine codeAny_mono ((F _ kin' (names gl)).go callerA rfl room [] s H ⟨[.ref a], []⟩ [.ref a] [.ref a] _ _ env (bind s (.ref a)) (.cons rfl .nil) hsp) ?_
  intro r s' h
  match r, h with
  | .error e, h => exact h.elim
  | .ok .next, h => exact h.elim
  | .ok .brk, h => exact h.elim
  | .ok .cont, h => exact h.elim
  | .ok (.ret u), ⟨v, H', os, bare, un, hok', rv, q⟩ =>
    have q' : v = .bl true := q
    subst q'
    cases (show u = Value.bool true from rv)
    refine ⟨rfl, OldK.of_keep fun b o e => ?_, os, bare⟩
    rcases only b with z | ⟨ob, xs, z⟩
    · exact un.keep b o e z (fun m => by cases m) (fun m => by cases m)
    · have e1 := (hok b _ z).1
      have e2 := (hok' b _ (un.frzs b ob _ z)).1
      rw [e] at e1
      cases e1
      exact e2
theorem lawG_call (kin : K.In s.heap) (gl : s.heap.Ns mainGlobals mg) (bl : s.heap.Ns builtinsNs mb) (bb : ∀ x : Str, x ≠ "__name__" → mb x = bootBuiltins x) (lim : s.heap.NoLimit) (gens : s.gens = #[]) (obj : s.heap.get? a = some { cls := .type "list", data := .seq vs.toArray })
    (hin : IntsAre vs ns) (short : ns.length ≤ sizeLine) (room : Room k callerA) (F : ∀ base : Heap, K.In base → base.Ns mainGlobals mg → FnG P w K mg base CX0 k fa fd [x] sp) (bind : ∀ (s : Shared) (u : Value), BindsTo s fd ⟨[u], []⟩ [(x, u)])
    (hsp : ∀ H : Hp, SqL K H a (ns.map V.int) → sp [.ref a] H (fun v _ => v = .bl true) fun _ _ _ => False) :
    codeAny (model P w) callerA (.call (.ref fa) ⟨[.ref a], []⟩) (fun r s' => r = .ok (.ret (.bool true)) ∧ OldK s.heap s'.heap ∧ s'.os = s.os ∧ AllBare s'.gens) s := by
  have rv := vals_ints hin
  have len := hin.length
  cases hk : K.lookup a with
  | some o =>
    have e := kin a o hk
    rw [obj] at e
    cases e
    refine lawG_at (fun _ => none) (fun _ => .inl rfl) (fun b z => absurd rfl z) (fun z => absurd rfl z) (fun b u z => by cases z) kin gl bl bb lim gens obj room F bind (hsp _ (.inr ?_))
    exact ⟨_, vs.toArray, _, hk, rfl, rfl, rfl, by rw [List.size_toArray, len]; exact short, by simpa using rv⟩
  | none =>
    let ob : Obj := { cls := .type "list", data := .seq vs.toArray }
    have at_ : ∀ {b : Addr} {u : HO}, upd (fun _ => none) a (.frz ob (.lst (ns.map V.int))) b = some u → b = a ∧ u = .frz ob (.lst (ns.map V.int)) := by
      intro b u e
      by_cases hb : b = a
      · subst hb
        rw [upd_same] at e
        cases e
        exact ⟨rfl, rfl⟩
      · rw [upd_ne hb] at e
        cases e
    refine lawG_at (upd (fun _ => none) a (.frz ob (.lst (ns.map V.int)))) (fun b => ?_) (fun b z => ?_) (fun _ => hk) (fun b u e => ?_) kin gl bl bb lim gens obj room F bind (hsp _ (.inl (.inr ⟨ob, upd_same⟩)))
    · by_cases hb : b = a
      · rw [hb]
        exact .inr ⟨ob, ns.map V.int, upd_same⟩
      · exact .inl (upd_ne hb)
    · cases q : upd (fun _ => none) a (.frz ob (.lst (ns.map V.int))) b with
      | none => exact absurd q z
      | some u => exact (at_ q).1
    · obtain ⟨rfl, rfl⟩ := at_ e
      exact ⟨obj, by rw [List.length_map]; exact short, vs, _, rv, obj⟩
end
theorem walkG {l : PySem.W.OpenLaw} {n k : Nat} {q : Program} {loose : List Str} {XP : (Str → Option Value) → Heap → Prop} {YP : World → Heap → Prop} {d : DefRec} {K : Params → PySem.W.Frag} {sp : PySem.W.Frag → Sp} {x : Str} (hn : l.most = some n) (hn2 : n ≤ sizeLine) (hdf : d.params.defaults = []) (hr : Room k callerA)
    (hY : ∀ (w : World) (h : Heap), YP w h → (K w.params).In h)
    (F : ∀ (w : World) (mg : Str → Option Value) (fa : Addr) (h : Heap), (K w.params).In h → h.Ns mainGlobals mg → mg d.name = some (.ref fa) →
      ∃ fd : FuncData, (∀ (s : Shared) (u : Value), BindsTo s fd ⟨[u], []⟩ [(x, u)]) ∧ ∀ base : Heap, (K w.params).In base → base.Ns mainGlobals mg → FnG l.prog w (K w.params) mg base CX0 k fa fd [x] (sp (K w.params)))
    (hsp : ∀ (K : PySem.W.Frag) (H : Hp) (a : Addr) (ns : List Int), ns.length ≤ n → SqL K H a (ns.map V.int) → sp K [.ref a] H (fun v _ => v = .bl true) fun _ _ _ => False) :
    PySem.W.WalkO q loose XP YP l.row.toRowW d [] (fun f vs => PySem.call f vs) := by
  refine Att.attach_call hn hdf ?_
  intro w s₀ s₁ mg mb fa o pm cd doc a vs ns G Y ho hd hcd hmg hobj hints hlen hg
  obtain ⟨fd, hb, hF⟩ := F w mg fa _ (hY w _ Y) G.T.g hmg
  exact lawG_call (hY w _ Y) G.T.g G.T.b G.T.builtins G.T.nolimit hg hobj hints (Nat.le_trans hlen hn2) hr hF hb fun H hS => hsp _ H a ns hlen hS
end Pk
/-! Own errors that keep what they are made of in one field: made, raised, caught, kept, read. -/
namespace Pk
open PySem PySem.Spec PySem.W PySem.Calls PyProof.Rows PySem.HandSPX
open Builtin Builtin.ObjectAttr
/-- what a class's line of ancestors must bear, so that its errors are made and their fields stored -/
structure Line (bm bmB : List Value) : Prop where
  has : ∀ X : String, bm.contains (.type X) = bmB.contains (.type X)
  pass : ∀ self : Value, refuseLoop self "__setattr__" bm = pure ()
  obj : bmB.contains (.type "object") = true
theorem Line.own {bm bmB : List Value} {c : Addr} (l : Line bm bmB) : Line (.ref c :: bm) bmB where
  has := fun X => by
    rw [List.contains_cons, l.has X]
    rfl
  pass := fun self => by
    rw [refuseLoop_ref]
    exact l.pass self
  obj := l.obj
section
variable {prog : Program} {w : World} {A : Around} {E : Value → Shared → Prop} {R : Result → Shared → Prop} {hp : Heap} {g : Array GenState} {d : Drawn} {t : Nat} {os : OsState}
/-- self.name = v on an error that has no dict yet, whatever its built-in base -/
theorem store_err {K : Frag} {name : Str} {tk : Tok} {v : Value} {x C : Addr} {fv : Array Value} {cd : ClassData} {bmB : List Value} (X : K.In hp) (hx : hp.get? x = some { cls := .ref C, data := .fields fv }) (hcd : clsIn K C = some cd) (ln : Line cd.mro bmB) (ne : cd.mro.isEmpty = false)
    (hh : cd.hasDict = true) (ha : findIn K (.ref C) name = some none)
    (hq : ∀ h' tk' dx, (∀ b o, b ≠ x → hp.get? b = some o → h'.get? b = some o) → hp.objs.size ≤ dx → dx ≠ x → h'.get? x = some { cls := .ref C, dict := some dx, data := .fields fv } → h'.Ns1 dx (fun y => if y = name then some v else none) → R (.ok (.ret .none)) ⟨h', g, d, tk', os⟩) :
    codeAny (model prog w) A (.call (.builtin "object.__setattr__") ⟨[.ref x, .str name tk, v], []⟩) R ⟨hp, g, d, t, os⟩ := by
  have I : InstAt hp x { cls := .ref C, data := .fields fv } C none := ⟨hx, rfl, rfl, trivial⟩
  have hob : cd.mro.contains (.type "object") = true := (ln.has "object").trans ln.obj
  have hxs : x ≠ hp.objs.size := Nat.ne_of_lt (Heap.lt_size hx)
  have mro_ : mroIn K C (.type "object") = some true := by
    unfold mroIn
    rw [hcd, Option.bind_some, if_neg (by rw [ne]; exact Bool.false_ne_true), hob]
  have isObj : Looks (model prog w) hp (isInstance (.ref x) (.type "object")) true := I.type.andThen (looks_mroIn X mro_)
  refine codeAny_call_builtin F.store_object.slot.plain F.store_object.entry (@check_slot (model prog w) _ _ ⟨hp, g, d, t, os⟩ "object.__setattr__" "object" "__setattr__" (.ref x) [.str name tk, v] [] _ F.store_object.kind F.store_object.split isObj (F.store_object.args (.ref x) (.str name tk) v) ?_)
  have Lm : Looks (model prog w) hp (mroOf (.ref C)) cd.mro := (looks_clsIn X hcd).andThen .now
  have Lt : Looks (model prog w) hp (storeTaker? none) none := .now
  have Lc : Looks (model prog w) hp (classData C) cd := looks_clsIn X hcd
  rw [osa_eq, refuse_eq]
  refine wpAny_bind (wpAny_bind (I.type.at (wpAny_bind (Lm.at ?_))))
  rw [ln.pass]
  refine wpAny_pure (wpAny_bind (I.type.at (wpAny_bind ((looks_findIn X ha).at (wpAny_bind (Lt.at ?_))))))
  show wpAny _ _ (storeInOwnDict (.ref x) (.ref C) (.str name tk) name v false) _ _ _
  obtain ⟨nm, bs, mro, ns, qn, hd, sn, sb, ab, col, del⟩ := cd
  dsimp only at hh
  subst hh
  unfold storeInOwnDict ownDictForStores
  repeat (first | with_reducible refine store_in_new ?_ ?_ | with_reducible refine wpAny_loadPart_at hx ?_ | with_reducible refine Lc.at ?_ | wp_step)
  · exact ⟨_, #[], _, (Heap.get?_update_ne _ _ _ _ hxs.symm).trans (Heap.get?_push_at rfl rfl), rfl, fun e he => absurd he (by simp), fun _ => rfl⟩
  · intro h' tk' hn' hs
    refine hq h' tk' hp.objs.size ?_ (Nat.le_refl _) hxs.symm ?_ hn'
    · intro b o hb ho
      exact (hs.2 b (Nat.ne_of_lt (Heap.lt_size ho))).trans ((Heap.get?_update_ne _ _ _ _ hb).trans (Heap.get?_push_of_some _ ho))
    · exact (hs.2 x hxs).trans (Heap.get?_update_self _ (Heap.get?_push_of_some _ hx) rfl)
end
theorem one_size (v : Value) : [v].length ≤ sizeLine := by
  rw [sizeLine_eq]
  exact (by decide : 1 ≤ 16777216)
theorem ldC {M : Model} {s : Shared} {name : Str} {scope : Scope} {L a : Addr} {cd : Value} {m : Str → Option Value} {x : Str} {pos : Pos} {v : Value} {Q : Value → Shared → Prop} {A : Around} {E : Value → Shared → Prop} (hn : s.heap.Ns L m) (hv : m x = some v) (h : Q v s)
    (hk : scope.kind = .function := by rfl) (hl : (envOfC name scope L a cd).kindOf x = some .local := by rfl) (hd : (x == ("__debug__" : Str)) = false := by decide) :
    wpAny M A (eval (.Name x pos) (envOfC name scope L a cd)) Q E s := wpAny_Name (wpAny_loadName_local hk hl hn hv h) hd
end Pk
namespace Pk
open PySem PySem.Spec PyProof.Rows L2
/-! ### isinstance of an error that is kept, with a dict of its own or without -/
/-- where the dict of a kept error is tracked, if it has one -/
def DictOk (H : Hp) (d : Option Addr) : Prop := d = none ∨ ∃ (dd : Addr) (fs : List (Str × V)), d = some dd ∧ H dd = some (.xd fs)
def rIsK (K : PySem.W.Frag) : List V → Hp → VK → Prop := fun xs H Q => ∃ (a D : Addr) (d : Option Addr) (c : V) (cv : Value) (b : Bool), xs = [.ref a, c] ∧ H a = some (ExH (.ref D) d a) ∧ DictOk H d ∧ ExcC K D ∧ ClsV c cv ∧ PySem.W.kitOne K (.ref D) cv = some b ∧ Q (.bl b) H
theorem held_at {X : Cx} {pins : List (Addr × Obj)} {σ : L2.St} {H : Hp} {s : Shared} {a D : Addr} {d : Option Addr} (I : L2.Inv X pins σ H s) (hH : H a = some (ExH (.ref D) d a)) (hd : DictOk H d) : ∃ oe od, PySem.W.InstAt s.heap a oe D od ∧ (∀ dd fs, d = some dd → H dd = some (.xd fs) → ∃ o, od = some o ∧ s.heap.get? dd = some o) := by
  obtain ⟨⟨oe, vs, hget, hz, hv⟩, _, _⟩ := I.hok a _ hH
  obtain ⟨oc, odt, oda, osl⟩ := oe
  obtain ⟨h1, h2⟩ := hz
  dsimp only at h1 h2 hv
  subst h1 h2 hv
  rcases hd with rfl | ⟨dd, fs, rfl, hdd⟩
  · exact ⟨_, none, ⟨hget, rfl, rfl, trivial⟩, fun _ _ z => nomatch z⟩
  · obtain ⟨mA, hns, hr⟩ := I.hok dd _ hdd
    obtain ⟨o, ho, _⟩ := lookIn_ns hns
    refine ⟨_, some o, ⟨hget, rfl, rfl, ho⟩, fun dd' fs' e _ => ?_⟩
    cases e
    exact ⟨o, rfl, ho⟩
theorem call_isK {X : Cx} : CallR X (.builtin "isinstance") (rIsK X.K) := by
  rintro pins s σ H xs us Q I r ⟨a, D, d, c, cv, b, rfl, hH, hd, C, hc, e, q⟩
  obtain ⟨u1, u2, rfl, r1, r2⟩ := vals2 r
  cases (show u1 = Value.ref a from r1)
  have ec := hc.eq r2
  subst ec
  obtain ⟨oe, od, J, _⟩ := held_at I hH hd
  have hcl : (PySem.W.clsIn X.K D).isSome = true := by
    have z := C.hd
    unfold PySem.W.hasDictIn at z
    cases hq : PySem.W.clsIn X.K D with
    | none =>
      rw [hq] at z
      cases z
    | some c => rfl
  exact PySem.W.kia_one (PySem.W.kitx_exc hcl C.hg C.hk C.hs C.ha C.hn C.ht C.hm) I.kIn J e (fun z => nomatch z) fun tk => ⟨.bl b, H, I.tok tk, rfl, q⟩
/-! ### errors of the field part -/
namespace Of_part
open PySem.W PySem.Calls PySem.HandSPX
def iA (p1 p2 : Pos) : Arguments := { posonlyargs := [], args := [{ arg := "self", annotation := none, pos := p1 }, { arg := "part", annotation := none, pos := p2 }], vararg := none, kwonlyargs := [], kw_defaults := [], kwarg := none, defaults := [] }
def iB (q1 q2 q3 q4 : Pos) : List Stmt := [.Assign [.Attribute (.Name "self" q1) "part" q2] (.Name "part" q3) q4]
def iS : Scope := { kind := .function, names := [(PySem.Str.ofString "self", .local), (PySem.Str.ofString "part", .local)], isGenerator := false, isCoroutine := false, more := [] }
/-- the class called nm, at C, and its __init__, at fI, as the top has left them -/
structure Tx (K : Frag) (mg : Str → Option Value) (nm ql : Str) (C fI : Addr) (B newId initId : String) (bmB : List Value) : Prop where
  base : ExcBaseFacts B newId initId bmB
  gC : mg nm = some (.ref C)
  cls : ∃ n1 q N bs bm sn sub ab col dd k0 k1 k2 k3 k5, K.lookup C = some (excClassObj n1 q C N bs bm true sn sub ab col dd k0 k1 k2 k3 k5 newId) ∧ Line bm bmB
  sa : findIn K (.ref C) "__setattr__" = some (some (.builtin "object.__setattr__"))
  ex : ExcC K C
  noN : findIn K (.ref C) "part" = some none
  iC : findIn K (.ref C) "__init__" = some (some (.ref fI))
  tC : typeIn K (.ref fI) = some (.type "function")
  kC : keepIn K (.ref C) = true
  tyC : typeIn K (.ref C) = some (.type "type")
  fn : ∃ (oc : Value) (od : Option Addr) (doc pm : Value) (an : Option Addr) (cdv ct : Value) (osl : Array (Option Value)) (p1 p2 q1 q2 q3 q4 : Pos),
    K.lookup fI = some ⟨oc, od, .func (fnOf "__init__" ql (iA p1 p2) (iB q1 q2 q3 q4) iS .none .none doc pm an cdv ct), osl⟩ ∧ codeIn K cdv ql = true
/-- an error made of v, at e, its own dict at d -/
structure Made (h h' : Heap) (e C d : Addr) (v : Value) : Prop where
  keep : ∀ b o, h.get? b = some o → h'.get? b = some o
  new : h.objs.size ≤ e
  obj : ∃ oe vs, h'.get? e = some oe ∧ oe.cls = .ref C ∧ oe.dict = some d ∧ oe.data = .fields vs ∧ vs[1]? = some .none
  dbig : h.objs.size ≤ d
  dne : d ≠ e
  ns : h'.Ns1 d (fun y => if y = "part" then some v else none)
section
variable {prog : Program} {w : World} {A : Around} {E : Value → Shared → Prop} {R : Result → Shared → Prop} {s : Shared} {K : Frag} {mg : Str → Option Value} {nm ql : Str} {C fI : Addr} {B newId initId : String} {bmB : List Value}
theorem made (T : Tx K mg nm ql C fI B newId initId bmB) {v : Value} (X : K.In s.heap) (hlim : s.heap.NoLimit) (hroom : A.depth + 1 < recursionLimit) (hq : ∀ h' tk e d, Made s.heap h' e C d v → R (.ok (.ret (.ref e))) { s with heap := h', toks := tk }) :
    codeAny (model prog w) A (.call (.ref C) ⟨[v], []⟩) R s := by
  obtain ⟨n1, q, N, bs, bm, sn, sub, ab, col, dd, k0, k1, k2, k3, k5, hC, ln⟩ := T.cls
  obtain ⟨oc, od, doc, pm, an, cdv, ct, osl, p1, p2, q1, q2, q3, q4, ho, hcd⟩ := T.fn
  have hcl : clsIn K C = some { name := n1, bases := bs, mro := .ref C :: bm, ns := N, qualname := q, hasDict := true, slotNames := sn, subclasses := sub, abstract := ab, collection := col, hasDel := false } := by
    unfold clsIn
    rw [hC]
  obtain ⟨hp, g, dr, tk, os⟩ := s
  have k : ∀ b o, hp.get? b = some o → ((hp.push (kdv_tup [v])).push (excO C hp.objs.size)).get? b = some o := fun b o e => Heap.get?_push_of_some _ (Heap.get?_push_of_some _ e)
  have hx : ((hp.push (kdv_tup [v])).push (excO C hp.objs.size)).get? (hp.objs.size + 1) = some (excO C hp.objs.size) := by heap_get
  refine call_own T.base ln.has (X _ _ hC) (looks_findIn X T.iC) (fun self => bind_fn X self T.tC) (one_size v) ?_
  have X1 := X.keeps k
  have lim1 : ((hp.push (kdv_tup [v])).push (excO C hp.objs.size)).NoLimit := hlim.keeps k
  have size1 : ((hp.push (kdv_tup [v])).push (excO C hp.objs.size)).objs.size = hp.objs.size + 1 + 1 := by rw [Heap.size_push, Heap.size_push]
  generalize (hp.push (kdv_tup [v])).push (excO C hp.objs.size) = h1 at k hx X1 lim1 size1 ⊢
  refine Att.call_fn (binds := [("self", .ref (hp.objs.size + 1)), ("part", v)]) X1 lim1 ho hcd hroom (BindsTo.of_eq (by first | rfl | with_unfolding_all rfl)) (by first | rfl | decide | with_unfolding_all rfl) (fun s₁ IC => ?_) rfl rfl rfl
  obtain ⟨h₁, tk₁, rfl⟩ := IC.toInCall.same
  have k1' : ∀ b o, h1.get? b = some o → h₁.get? b = some o := IC.toInCall.keep
  have hn := IC.toInCall.ns
  show wpAny _ _ (execs _ _) _ _ _
  refine wpAny_execs_cons (plainObj_wpAny_Assign_Attribute ?_)
  refine ldC (v := v) hn (by first | rfl | with_unfolding_all rfl | kernel_rfl) (ldC (v := .ref (hp.objs.size + 1)) hn (by first | rfl | with_unfolding_all rfl | kernel_rfl) ?_)
  refine set_plain (X1.keeps k1') (ox := excO C hp.objs.size) (od := none) ⟨k1' _ _ hx, rfl, rfl, trivial⟩ T.sa ?_
  refine store_err (X1.keeps k1') (k1' _ _ hx) hcl (bmB := bmB) ln.own rfl rfl T.noN (fun h₃ tk₃ dx k₃ dn dne hx₃ hn₃ => ?_)
  show wpAny _ _ (execs _ _) _ _ _
  have z : h1.objs.size < h₁.objs.size := hn.lt
  have lt_ : ∀ {b : Addr} {o : Obj}, hp.get? b = some o → b ≠ hp.objs.size + 1 := fun {b o} e => Nat.ne_of_lt (Nat.lt_succ_of_lt (Heap.lt_size e))
  refine wpAny_execs_nil ⟨rfl, hq h₃ tk₃ (hp.objs.size + 1) dx ⟨fun b o e => k₃ b o (lt_ e) (k1' b o (k b o e)), Nat.le_succ _, ⟨_, _, hx₃, rfl, rfl, rfl, rfl⟩, ?_, dne, hn₃⟩⟩
  have dn' : h₁.objs.size ≤ dx := dn
  show hp.objs.size ≤ dx
  omega
end
end Of_part
section
variable {X : Cx} {nm ql : Str} {C fI : Addr} {B newId initId : String} {bmB : List Value}
theorem relO_part {v : V} {v' : Value} (r : RelV v v') (f : Str) : RelO (List.lookup f [(("part" : Str), v)]) (if f = "part" then some v' else none) := by
  by_cases hw : f = "part"
  · subst hw
    rw [if_pos rfl]
    have q : List.lookup ("part" : Str) [(("part" : Str), v)] = some v := by simp [List.lookup]
    rw [q]
    exact r
  · rw [if_neg hw]
    have qw : (f == ("part" : Str)) = false := by simpa using hw
    have q2 : List.lookup f [(("part" : Str), v)] = none := by simp [List.lookup, qw]
    rw [q2]
    trivial
/-- nm(e) -/
def tMk_part (C : Addr) (ta : TA) : L2.St → Hp → XK → Prop := fun σ H Q => ta σ H fun vs H1 => ∃ v, vs = [v] ∧ ∀ d, H1 d = none → Q (.ref C) (some d) (upd H1 d (.xd [(("part" : Str), v)]))
theorem pmk_part {a : Expr} {ta : TA} {p pos : Pos} {k : Nat} (T : Of_part.Tx X.K X.mg nm ql C fI B newId initId bmB) (hr : Room k X.A) (ha : PA X [a] ta) (hg : Gl X nm := by rfl) (hdb : (nm == ("__debug__" : Str)) = false := by decide)
    (he : starEach (a :: []) X.env = (false, eval a X.env) :: starEach [] X.env := by rfl) (hpl : (backTo pos (starEach [] X.env)).any (·.1) = false := by rfl) :
    PMk X (.Call (.Name nm p) [a] [] pos) (tMk_part C ta) := by
  intro pins s σ H Q I h
  refine wpAny_Call_Name_kw (ld_glob I hg T.gC ?_ hdb)
  refine PySem.W.callWith_K (h₀ := X.base) I.ok.mod.kin T.kC (thn (ha.run pos pins s σ H _ I h) fun us s1 hh => ?_) he hpl
  obtain ⟨vs, H1, I1, r1, v, ev, q1⟩ := hh
  subst ev
  refine ⟨I1.kIn, ?_⟩
  cases r1 with
  | cons rv rn =>
    rename_i v' us'
    cases rn
    show wpAny _ _ (call (.ref C) [v']) _ _ _
    have hlim := I1.nolimit
    obtain ⟨hp, g, dr, tk, os⟩ := s1
    refine wpAny_call (Of_part.made T I1.kIn hlim (by have := hr.dp; omega) fun h' tk' e d M => ?_)
    show MkP X pins σ Q (.ref e) ⟨h', g, dr, tk', os⟩
    obtain ⟨oe, fv, hoe, hc, hd, hdat, h1⟩ := M.obj
    have hns := M.ns
    obtain ⟨G', g1, g2⟩ := restrict h' fun b => decide (b ≠ e)
    have gk : ∀ b, b ≠ e → G'.get? b = h'.get? b := fun b hb => g1 b (decide_eq_true hb)
    have ge : G'.get? e = none := g2 e (by simp)
    have old : ∀ b o, hp.get? b = some o → G'.get? b = some o := fun b o q => (gk b (Nat.ne_of_lt (Nat.lt_of_lt_of_le (Heap.lt_size q) M.new))).trans (M.keep b o q)
    have ob : ObjOk X.prog X.w (upd H1 d (.xd [(("part" : Str), v)])) G' d (.xd [(("part" : Str), v)]) :=
      ⟨_, hns.at (fun o q => (gk d M.dne).trans q), fun f => relO_part rv f⟩
    have J : L2.Inv X pins σ (upd H1 d (.xd [(("part" : Str), v)])) ⟨G', g, dr, tk', os⟩ := I1.laid (t' := tk') old M.dbig ob
    refine ⟨e, oe, fv, ⟨G', g, dr, tk', os⟩, _, .ref C, some d, rfl, J, fun b o q => ?_, ge, hoe, ⟨hc, hd⟩, hdat, h1, ?_, rfl, I1.bare, raises_own T.ex.hs T.tyC, q1 d (I1.hok.fresh M.dbig)⟩
    · by_cases hb : b = e
      · have q' : G'.get? b = some o := q
        rw [hb, ge] at q'
        cases q'
      · exact (gk b hb).symm.trans q
    · rw [upd_ne (Ne.symm M.dne)]
      exact I1.hok.fresh M.new
/-- raise nm(e) -/
def tRaise_part (C : Addr) (W : WX) (ta : TA) : TS := fun _ σ H => tMk_part C ta σ H fun cls d H' => W cls d σ H'
theorem ps_raise_part {a : Expr} {ta : TA} {W : WX} {p pos pos2 : Pos} {k : Nat} (hc : X.calm = true) (T : Of_part.Tx X.K X.mg nm ql C fI B newId initId bmB) (hr : Room k X.A) (tk : Takes X W) (ha : PA X [a] ta) (hg : Gl X nm := by rfl) (hdb : (nm == ("__debug__" : Str)) = false := by decide)
    (he : starEach (a :: []) X.env = (false, eval a X.env) :: starEach [] X.env := by rfl) (hpl : (backTo pos (starEach [] X.env)).any (·.1) = false := by rfl) :
    PS X (.Raise (some (.Call (.Name nm p) [a] [] pos)) none pos2) (tRaise_part C W ta) := ps_raise hc tk (pmk_part T hr ha hg hdb he hpl)
/-- e.part, e a kept error -/
def tGet_part (K : PySem.W.Frag) (te : TE) : TE := fun σ H Q => te σ H fun x H1 => ∃ (a C dd : Addr) (v : V), x = .ref a ∧ H1 a = some (ExH (.ref C) (some dd) a) ∧ ExcC K C ∧ PySem.W.findIn K (.ref C) "part" = some none ∧ H1 dd = some (.xd [(("part" : Str), v)]) ∧ Q v H1
theorem pe_get_part {e : Expr} {te : TE} {pos : Pos} (he : PE X e te) (hb : attributeBase e "part" X.env (eval e X.env) = eval e X.env := by rfl) : PE X (.Attribute e "part" pos) (tGet_part X.K te) := by
  constructor
  intro pins s σ H Q I h
  refine attr_of hb (thn (he.run pins s σ H _ I h) ?_)
  rintro u s1 ⟨x, H1, I1, rx, a, C, dd, v, rfl, ha, EC, noN, hdd, q⟩
  cases (show u = Value.ref a from rx)
  obtain ⟨oe, od, J, hod⟩ := held_at I1 ha (.inr ⟨dd, _, rfl, hdd⟩)
  obtain ⟨mA, hns, hr⟩ := I1.hok dd _ hdd
  obtain ⟨o, ho, hl⟩ := lookIn_ns hns
  obtain ⟨o', eo, ho'⟩ := hod dd _ rfl hdd
  rw [ho] at ho'
  cases ho'
  subst eo
  have l : List.lookup ("part" : Str) [(("part" : Str), v)] = some v := by simp [List.lookup]
  obtain ⟨u, hu, ru⟩ := RelO.some_of (v := v) (o := mA "part") (by rw [← l]; exact hr "part")
  exact HandSPX.exc_get I1.kIn J EC.hg EC.hk EC.hs (PySem.W.findObj_own EC.hd noN rfl (by rw [hl, hu])) (handed_of ru) ⟨v, H1, I1.tok _, ru, q⟩
end
/-! ### errors of the field wanted -/
namespace Of_wanted
open PySem.W PySem.Calls PySem.HandSPX
def iA (p1 p2 : Pos) : Arguments := { posonlyargs := [], args := [{ arg := "self", annotation := none, pos := p1 }, { arg := "wanted", annotation := none, pos := p2 }], vararg := none, kwonlyargs := [], kw_defaults := [], kwarg := none, defaults := [] }
def iB (q1 q2 q3 q4 : Pos) : List Stmt := [.Assign [.Attribute (.Name "self" q1) "wanted" q2] (.Name "wanted" q3) q4]
def iS : Scope := { kind := .function, names := [(PySem.Str.ofString "self", .local), (PySem.Str.ofString "wanted", .local)], isGenerator := false, isCoroutine := false, more := [] }
/-- the class called nm, at C, and its __init__, at fI, as the top has left them -/
structure Tx (K : Frag) (mg : Str → Option Value) (nm ql : Str) (C fI : Addr) (B newId initId : String) (bmB : List Value) : Prop where
  base : ExcBaseFacts B newId initId bmB
  gC : mg nm = some (.ref C)
  cls : ∃ n1 q N bs bm sn sub ab col dd k0 k1 k2 k3 k5, K.lookup C = some (excClassObj n1 q C N bs bm true sn sub ab col dd k0 k1 k2 k3 k5 newId) ∧ Line bm bmB
  sa : findIn K (.ref C) "__setattr__" = some (some (.builtin "object.__setattr__"))
  ex : ExcC K C
  noN : findIn K (.ref C) "wanted" = some none
  iC : findIn K (.ref C) "__init__" = some (some (.ref fI))
  tC : typeIn K (.ref fI) = some (.type "function")
  kC : keepIn K (.ref C) = true
  tyC : typeIn K (.ref C) = some (.type "type")
  fn : ∃ (oc : Value) (od : Option Addr) (doc pm : Value) (an : Option Addr) (cdv ct : Value) (osl : Array (Option Value)) (p1 p2 q1 q2 q3 q4 : Pos),
    K.lookup fI = some ⟨oc, od, .func (fnOf "__init__" ql (iA p1 p2) (iB q1 q2 q3 q4) iS .none .none doc pm an cdv ct), osl⟩ ∧ codeIn K cdv ql = true
/-- an error made of v, at e, its own dict at d -/
structure Made (h h' : Heap) (e C d : Addr) (v : Value) : Prop where
  keep : ∀ b o, h.get? b = some o → h'.get? b = some o
  new : h.objs.size ≤ e
  obj : ∃ oe vs, h'.get? e = some oe ∧ oe.cls = .ref C ∧ oe.dict = some d ∧ oe.data = .fields vs ∧ vs[1]? = some .none
  dbig : h.objs.size ≤ d
  dne : d ≠ e
  ns : h'.Ns1 d (fun y => if y = "wanted" then some v else none)
section
variable {prog : Program} {w : World} {A : Around} {E : Value → Shared → Prop} {R : Result → Shared → Prop} {s : Shared} {K : Frag} {mg : Str → Option Value} {nm ql : Str} {C fI : Addr} {B newId initId : String} {bmB : List Value}
theorem made (T : Tx K mg nm ql C fI B newId initId bmB) {v : Value} (X : K.In s.heap) (hlim : s.heap.NoLimit) (hroom : A.depth + 1 < recursionLimit) (hq : ∀ h' tk e d, Made s.heap h' e C d v → R (.ok (.ret (.ref e))) { s with heap := h', toks := tk }) :
    codeAny (model prog w) A (.call (.ref C) ⟨[v], []⟩) R s := by
  obtain ⟨n1, q, N, bs, bm, sn, sub, ab, col, dd, k0, k1, k2, k3, k5, hC, ln⟩ := T.cls
  obtain ⟨oc, od, doc, pm, an, cdv, ct, osl, p1, p2, q1, q2, q3, q4, ho, hcd⟩ := T.fn
  have hcl : clsIn K C = some { name := n1, bases := bs, mro := .ref C :: bm, ns := N, qualname := q, hasDict := true, slotNames := sn, subclasses := sub, abstract := ab, collection := col, hasDel := false } := by
    unfold clsIn
    rw [hC]
  obtain ⟨hp, g, dr, tk, os⟩ := s
  have k : ∀ b o, hp.get? b = some o → ((hp.push (kdv_tup [v])).push (excO C hp.objs.size)).get? b = some o := fun b o e => Heap.get?_push_of_some _ (Heap.get?_push_of_some _ e)
  have hx : ((hp.push (kdv_tup [v])).push (excO C hp.objs.size)).get? (hp.objs.size + 1) = some (excO C hp.objs.size) := by heap_get
  refine call_own T.base ln.has (X _ _ hC) (looks_findIn X T.iC) (fun self => bind_fn X self T.tC) (one_size v) ?_
  have X1 := X.keeps k
  have lim1 : ((hp.push (kdv_tup [v])).push (excO C hp.objs.size)).NoLimit := hlim.keeps k
  have size1 : ((hp.push (kdv_tup [v])).push (excO C hp.objs.size)).objs.size = hp.objs.size + 1 + 1 := by rw [Heap.size_push, Heap.size_push]
  generalize (hp.push (kdv_tup [v])).push (excO C hp.objs.size) = h1 at k hx X1 lim1 size1 ⊢
  refine Att.call_fn (binds := [("self", .ref (hp.objs.size + 1)), ("wanted", v)]) X1 lim1 ho hcd hroom (BindsTo.of_eq (by first | rfl | with_unfolding_all rfl)) (by first | rfl | decide | with_unfolding_all rfl) (fun s₁ IC => ?_) rfl rfl rfl
  obtain ⟨h₁, tk₁, rfl⟩ := IC.toInCall.same
  have k1' : ∀ b o, h1.get? b = some o → h₁.get? b = some o := IC.toInCall.keep
  have hn := IC.toInCall.ns
  show wpAny _ _ (execs _ _) _ _ _
  refine wpAny_execs_cons (plainObj_wpAny_Assign_Attribute ?_)
  refine ldC (v := v) hn (by first | rfl | with_unfolding_all rfl | kernel_rfl) (ldC (v := .ref (hp.objs.size + 1)) hn (by first | rfl | with_unfolding_all rfl | kernel_rfl) ?_)
  refine set_plain (X1.keeps k1') (ox := excO C hp.objs.size) (od := none) ⟨k1' _ _ hx, rfl, rfl, trivial⟩ T.sa ?_
  refine store_err (X1.keeps k1') (k1' _ _ hx) hcl (bmB := bmB) ln.own rfl rfl T.noN (fun h₃ tk₃ dx k₃ dn dne hx₃ hn₃ => ?_)
  show wpAny _ _ (execs _ _) _ _ _
  have z : h1.objs.size < h₁.objs.size := hn.lt
  have lt_ : ∀ {b : Addr} {o : Obj}, hp.get? b = some o → b ≠ hp.objs.size + 1 := fun {b o} e => Nat.ne_of_lt (Nat.lt_succ_of_lt (Heap.lt_size e))
  refine wpAny_execs_nil ⟨rfl, hq h₃ tk₃ (hp.objs.size + 1) dx ⟨fun b o e => k₃ b o (lt_ e) (k1' b o (k b o e)), Nat.le_succ _, ⟨_, _, hx₃, rfl, rfl, rfl, rfl⟩, ?_, dne, hn₃⟩⟩
  have dn' : h₁.objs.size ≤ dx := dn
  show hp.objs.size ≤ dx
  omega
end
end Of_wanted
section
variable {X : Cx} {nm ql : Str} {C fI : Addr} {B newId initId : String} {bmB : List Value}
theorem relO_wanted {v : V} {v' : Value} (r : RelV v v') (f : Str) : RelO (List.lookup f [(("wanted" : Str), v)]) (if f = "wanted" then some v' else none) := by
  by_cases hw : f = "wanted"
  · subst hw
    rw [if_pos rfl]
    have q : List.lookup ("wanted" : Str) [(("wanted" : Str), v)] = some v := by simp [List.lookup]
    rw [q]
    exact r
  · rw [if_neg hw]
    have qw : (f == ("wanted" : Str)) = false := by simpa using hw
    have q2 : List.lookup f [(("wanted" : Str), v)] = none := by simp [List.lookup, qw]
    rw [q2]
    trivial
/-- nm(e) -/
def tMk_wanted (C : Addr) (ta : TA) : L2.St → Hp → XK → Prop := fun σ H Q => ta σ H fun vs H1 => ∃ v, vs = [v] ∧ ∀ d, H1 d = none → Q (.ref C) (some d) (upd H1 d (.xd [(("wanted" : Str), v)]))
theorem pmk_wanted {a : Expr} {ta : TA} {p pos : Pos} {k : Nat} (T : Of_wanted.Tx X.K X.mg nm ql C fI B newId initId bmB) (hr : Room k X.A) (ha : PA X [a] ta) (hg : Gl X nm := by rfl) (hdb : (nm == ("__debug__" : Str)) = false := by decide)
    (he : starEach (a :: []) X.env = (false, eval a X.env) :: starEach [] X.env := by rfl) (hpl : (backTo pos (starEach [] X.env)).any (·.1) = false := by rfl) :
    PMk X (.Call (.Name nm p) [a] [] pos) (tMk_wanted C ta) := by
  intro pins s σ H Q I h
  refine wpAny_Call_Name_kw (ld_glob I hg T.gC ?_ hdb)
  refine PySem.W.callWith_K (h₀ := X.base) I.ok.mod.kin T.kC (thn (ha.run pos pins s σ H _ I h) fun us s1 hh => ?_) he hpl
  obtain ⟨vs, H1, I1, r1, v, ev, q1⟩ := hh
  subst ev
  refine ⟨I1.kIn, ?_⟩
  cases r1 with
  | cons rv rn =>
    rename_i v' us'
    cases rn
    show wpAny _ _ (call (.ref C) [v']) _ _ _
    have hlim := I1.nolimit
    obtain ⟨hp, g, dr, tk, os⟩ := s1
    refine wpAny_call (Of_wanted.made T I1.kIn hlim (by have := hr.dp; omega) fun h' tk' e d M => ?_)
    show MkP X pins σ Q (.ref e) ⟨h', g, dr, tk', os⟩
    obtain ⟨oe, fv, hoe, hc, hd, hdat, h1⟩ := M.obj
    have hns := M.ns
    obtain ⟨G', g1, g2⟩ := restrict h' fun b => decide (b ≠ e)
    have gk : ∀ b, b ≠ e → G'.get? b = h'.get? b := fun b hb => g1 b (decide_eq_true hb)
    have ge : G'.get? e = none := g2 e (by simp)
    have old : ∀ b o, hp.get? b = some o → G'.get? b = some o := fun b o q => (gk b (Nat.ne_of_lt (Nat.lt_of_lt_of_le (Heap.lt_size q) M.new))).trans (M.keep b o q)
    have ob : ObjOk X.prog X.w (upd H1 d (.xd [(("wanted" : Str), v)])) G' d (.xd [(("wanted" : Str), v)]) :=
      ⟨_, hns.at (fun o q => (gk d M.dne).trans q), fun f => relO_wanted rv f⟩
    have J : L2.Inv X pins σ (upd H1 d (.xd [(("wanted" : Str), v)])) ⟨G', g, dr, tk', os⟩ := I1.laid (t' := tk') old M.dbig ob
    refine ⟨e, oe, fv, ⟨G', g, dr, tk', os⟩, _, .ref C, some d, rfl, J, fun b o q => ?_, ge, hoe, ⟨hc, hd⟩, hdat, h1, ?_, rfl, I1.bare, raises_own T.ex.hs T.tyC, q1 d (I1.hok.fresh M.dbig)⟩
    · by_cases hb : b = e
      · have q' : G'.get? b = some o := q
        rw [hb, ge] at q'
        cases q'
      · exact (gk b hb).symm.trans q
    · rw [upd_ne (Ne.symm M.dne)]
      exact I1.hok.fresh M.new
/-- raise nm(e) -/
def tRaise_wanted (C : Addr) (W : WX) (ta : TA) : TS := fun _ σ H => tMk_wanted C ta σ H fun cls d H' => W cls d σ H'
theorem ps_raise_wanted {a : Expr} {ta : TA} {W : WX} {p pos pos2 : Pos} {k : Nat} (hc : X.calm = true) (T : Of_wanted.Tx X.K X.mg nm ql C fI B newId initId bmB) (hr : Room k X.A) (tk : Takes X W) (ha : PA X [a] ta) (hg : Gl X nm := by rfl) (hdb : (nm == ("__debug__" : Str)) = false := by decide)
    (he : starEach (a :: []) X.env = (false, eval a X.env) :: starEach [] X.env := by rfl) (hpl : (backTo pos (starEach [] X.env)).any (·.1) = false := by rfl) :
    PS X (.Raise (some (.Call (.Name nm p) [a] [] pos)) none pos2) (tRaise_wanted C W ta) := ps_raise hc tk (pmk_wanted T hr ha hg hdb he hpl)
/-- e.wanted, e a kept error -/
def tGet_wanted (K : PySem.W.Frag) (te : TE) : TE := fun σ H Q => te σ H fun x H1 => ∃ (a C dd : Addr) (v : V), x = .ref a ∧ H1 a = some (ExH (.ref C) (some dd) a) ∧ ExcC K C ∧ PySem.W.findIn K (.ref C) "wanted" = some none ∧ H1 dd = some (.xd [(("wanted" : Str), v)]) ∧ Q v H1
theorem pe_get_wanted {e : Expr} {te : TE} {pos : Pos} (he : PE X e te) (hb : attributeBase e "wanted" X.env (eval e X.env) = eval e X.env := by rfl) : PE X (.Attribute e "wanted" pos) (tGet_wanted X.K te) := by
  constructor
  intro pins s σ H Q I h
  refine attr_of hb (thn (he.run pins s σ H _ I h) ?_)
  rintro u s1 ⟨x, H1, I1, rx, a, C, dd, v, rfl, ha, EC, noN, hdd, q⟩
  cases (show u = Value.ref a from rx)
  obtain ⟨oe, od, J, hod⟩ := held_at I1 ha (.inr ⟨dd, _, rfl, hdd⟩)
  obtain ⟨mA, hns, hr⟩ := I1.hok dd _ hdd
  obtain ⟨o, ho, hl⟩ := lookIn_ns hns
  obtain ⟨o', eo, ho'⟩ := hod dd _ rfl hdd
  rw [ho] at ho'
  cases ho'
  subst eo
  have l : List.lookup ("wanted" : Str) [(("wanted" : Str), v)] = some v := by simp [List.lookup]
  obtain ⟨u, hu, ru⟩ := RelO.some_of (v := v) (o := mA "wanted") (by rw [← l]; exact hr "wanted")
  exact HandSPX.exc_get I1.kIn J EC.hg EC.hk EC.hs (PySem.W.findObj_own EC.hd noN rfl (by rw [hl, hu])) (handed_of ru) ⟨v, H1, I1.tok _, ru, q⟩
end
/-! ### errors of the field at -/
namespace Of_at
open PySem.W PySem.Calls PySem.HandSPX
def iA (p1 p2 : Pos) : Arguments := { posonlyargs := [], args := [{ arg := "self", annotation := none, pos := p1 }, { arg := "at", annotation := none, pos := p2 }], vararg := none, kwonlyargs := [], kw_defaults := [], kwarg := none, defaults := [] }
def iB (q1 q2 q3 q4 : Pos) : List Stmt := [.Assign [.Attribute (.Name "self" q1) "at" q2] (.Name "at" q3) q4]
def iS : Scope := { kind := .function, names := [(PySem.Str.ofString "self", .local), (PySem.Str.ofString "at", .local)], isGenerator := false, isCoroutine := false, more := [] }
/-- the class called nm, at C, and its __init__, at fI, as the top has left them -/
structure Tx (K : Frag) (mg : Str → Option Value) (nm ql : Str) (C fI : Addr) (B newId initId : String) (bmB : List Value) : Prop where
  base : ExcBaseFacts B newId initId bmB
  gC : mg nm = some (.ref C)
  cls : ∃ n1 q N bs bm sn sub ab col dd k0 k1 k2 k3 k5, K.lookup C = some (excClassObj n1 q C N bs bm true sn sub ab col dd k0 k1 k2 k3 k5 newId) ∧ Line bm bmB
  sa : findIn K (.ref C) "__setattr__" = some (some (.builtin "object.__setattr__"))
  ex : ExcC K C
  noN : findIn K (.ref C) "at" = some none
  iC : findIn K (.ref C) "__init__" = some (some (.ref fI))
  tC : typeIn K (.ref fI) = some (.type "function")
  kC : keepIn K (.ref C) = true
  tyC : typeIn K (.ref C) = some (.type "type")
  fn : ∃ (oc : Value) (od : Option Addr) (doc pm : Value) (an : Option Addr) (cdv ct : Value) (osl : Array (Option Value)) (p1 p2 q1 q2 q3 q4 : Pos),
    K.lookup fI = some ⟨oc, od, .func (fnOf "__init__" ql (iA p1 p2) (iB q1 q2 q3 q4) iS .none .none doc pm an cdv ct), osl⟩ ∧ codeIn K cdv ql = true
/-- an error made of v, at e, its own dict at d -/
structure Made (h h' : Heap) (e C d : Addr) (v : Value) : Prop where
  keep : ∀ b o, h.get? b = some o → h'.get? b = some o
  new : h.objs.size ≤ e
  obj : ∃ oe vs, h'.get? e = some oe ∧ oe.cls = .ref C ∧ oe.dict = some d ∧ oe.data = .fields vs ∧ vs[1]? = some .none
  dbig : h.objs.size ≤ d
  dne : d ≠ e
  ns : h'.Ns1 d (fun y => if y = "at" then some v else none)
section
variable {prog : Program} {w : World} {A : Around} {E : Value → Shared → Prop} {R : Result → Shared → Prop} {s : Shared} {K : Frag} {mg : Str → Option Value} {nm ql : Str} {C fI : Addr} {B newId initId : String} {bmB : List Value}
theorem made (T : Tx K mg nm ql C fI B newId initId bmB) {v : Value} (X : K.In s.heap) (hlim : s.heap.NoLimit) (hroom : A.depth + 1 < recursionLimit) (hq : ∀ h' tk e d, Made s.heap h' e C d v → R (.ok (.ret (.ref e))) { s with heap := h', toks := tk }) :
    codeAny (model prog w) A (.call (.ref C) ⟨[v], []⟩) R s := by
  obtain ⟨n1, q, N, bs, bm, sn, sub, ab, col, dd, k0, k1, k2, k3, k5, hC, ln⟩ := T.cls
  obtain ⟨oc, od, doc, pm, an, cdv, ct, osl, p1, p2, q1, q2, q3, q4, ho, hcd⟩ := T.fn
  have hcl : clsIn K C = some { name := n1, bases := bs, mro := .ref C :: bm, ns := N, qualname := q, hasDict := true, slotNames := sn, subclasses := sub, abstract := ab, collection := col, hasDel := false } := by
    unfold clsIn
    rw [hC]
  obtain ⟨hp, g, dr, tk, os⟩ := s
  have k : ∀ b o, hp.get? b = some o → ((hp.push (kdv_tup [v])).push (excO C hp.objs.size)).get? b = some o := fun b o e => Heap.get?_push_of_some _ (Heap.get?_push_of_some _ e)
  have hx : ((hp.push (kdv_tup [v])).push (excO C hp.objs.size)).get? (hp.objs.size + 1) = some (excO C hp.objs.size) := by heap_get
  refine call_own T.base ln.has (X _ _ hC) (looks_findIn X T.iC) (fun self => bind_fn X self T.tC) (one_size v) ?_
  have X1 := X.keeps k
  have lim1 : ((hp.push (kdv_tup [v])).push (excO C hp.objs.size)).NoLimit := hlim.keeps k
  have size1 : ((hp.push (kdv_tup [v])).push (excO C hp.objs.size)).objs.size = hp.objs.size + 1 + 1 := by rw [Heap.size_push, Heap.size_push]
  generalize (hp.push (kdv_tup [v])).push (excO C hp.objs.size) = h1 at k hx X1 lim1 size1 ⊢
  refine Att.call_fn (binds := [("self", .ref (hp.objs.size + 1)), ("at", v)]) X1 lim1 ho hcd hroom (BindsTo.of_eq (by first | rfl | with_unfolding_all rfl)) (by first | rfl | decide | with_unfolding_all rfl) (fun s₁ IC => ?_) rfl rfl rfl
  obtain ⟨h₁, tk₁, rfl⟩ := IC.toInCall.same
  have k1' : ∀ b o, h1.get? b = some o → h₁.get? b = some o := IC.toInCall.keep
  have hn := IC.toInCall.ns
  show wpAny _ _ (execs _ _) _ _ _
  refine wpAny_execs_cons (plainObj_wpAny_Assign_Attribute ?_)
  refine ldC (v := v) hn (by first | rfl | with_unfolding_all rfl | kernel_rfl) (ldC (v := .ref (hp.objs.size + 1)) hn (by first | rfl | with_unfolding_all rfl | kernel_rfl) ?_)
  refine set_plain (X1.keeps k1') (ox := excO C hp.objs.size) (od := none) ⟨k1' _ _ hx, rfl, rfl, trivial⟩ T.sa ?_
  refine store_err (X1.keeps k1') (k1' _ _ hx) hcl (bmB := bmB) ln.own rfl rfl T.noN (fun h₃ tk₃ dx k₃ dn dne hx₃ hn₃ => ?_)
  show wpAny _ _ (execs _ _) _ _ _
  have z : h1.objs.size < h₁.objs.size := hn.lt
  have lt_ : ∀ {b : Addr} {o : Obj}, hp.get? b = some o → b ≠ hp.objs.size + 1 := fun {b o} e => Nat.ne_of_lt (Nat.lt_succ_of_lt (Heap.lt_size e))
  refine wpAny_execs_nil ⟨rfl, hq h₃ tk₃ (hp.objs.size + 1) dx ⟨fun b o e => k₃ b o (lt_ e) (k1' b o (k b o e)), Nat.le_succ _, ⟨_, _, hx₃, rfl, rfl, rfl, rfl⟩, ?_, dne, hn₃⟩⟩
  have dn' : h₁.objs.size ≤ dx := dn
  show hp.objs.size ≤ dx
  omega
end
end Of_at
section
variable {X : Cx} {nm ql : Str} {C fI : Addr} {B newId initId : String} {bmB : List Value}
theorem relO_at {v : V} {v' : Value} (r : RelV v v') (f : Str) : RelO (List.lookup f [(("at" : Str), v)]) (if f = "at" then some v' else none) := by
  by_cases hw : f = "at"
  · subst hw
    rw [if_pos rfl]
    have q : List.lookup ("at" : Str) [(("at" : Str), v)] = some v := by simp [List.lookup]
    rw [q]
    exact r
  · rw [if_neg hw]
    have qw : (f == ("at" : Str)) = false := by simpa using hw
    have q2 : List.lookup f [(("at" : Str), v)] = none := by simp [List.lookup, qw]
    rw [q2]
    trivial
/-- nm(e) -/
def tMk_at (C : Addr) (ta : TA) : L2.St → Hp → XK → Prop := fun σ H Q => ta σ H fun vs H1 => ∃ v, vs = [v] ∧ ∀ d, H1 d = none → Q (.ref C) (some d) (upd H1 d (.xd [(("at" : Str), v)]))
theorem pmk_at {a : Expr} {ta : TA} {p pos : Pos} {k : Nat} (T : Of_at.Tx X.K X.mg nm ql C fI B newId initId bmB) (hr : Room k X.A) (ha : PA X [a] ta) (hg : Gl X nm := by rfl) (hdb : (nm == ("__debug__" : Str)) = false := by decide)
    (he : starEach (a :: []) X.env = (false, eval a X.env) :: starEach [] X.env := by rfl) (hpl : (backTo pos (starEach [] X.env)).any (·.1) = false := by rfl) :
    PMk X (.Call (.Name nm p) [a] [] pos) (tMk_at C ta) := by
  intro pins s σ H Q I h
  refine wpAny_Call_Name_kw (ld_glob I hg T.gC ?_ hdb)
  refine PySem.W.callWith_K (h₀ := X.base) I.ok.mod.kin T.kC (thn (ha.run pos pins s σ H _ I h) fun us s1 hh => ?_) he hpl
  obtain ⟨vs, H1, I1, r1, v, ev, q1⟩ := hh
  subst ev
  refine ⟨I1.kIn, ?_⟩
  cases r1 with
  | cons rv rn =>
    rename_i v' us'
    cases rn
    show wpAny _ _ (call (.ref C) [v']) _ _ _
    have hlim := I1.nolimit
    obtain ⟨hp, g, dr, tk, os⟩ := s1
    refine wpAny_call (Of_at.made T I1.kIn hlim (by have := hr.dp; omega) fun h' tk' e d M => ?_)
    show MkP X pins σ Q (.ref e) ⟨h', g, dr, tk', os⟩
    obtain ⟨oe, fv, hoe, hc, hd, hdat, h1⟩ := M.obj
    have hns := M.ns
    obtain ⟨G', g1, g2⟩ := restrict h' fun b => decide (b ≠ e)
    have gk : ∀ b, b ≠ e → G'.get? b = h'.get? b := fun b hb => g1 b (decide_eq_true hb)
    have ge : G'.get? e = none := g2 e (by simp)
    have old : ∀ b o, hp.get? b = some o → G'.get? b = some o := fun b o q => (gk b (Nat.ne_of_lt (Nat.lt_of_lt_of_le (Heap.lt_size q) M.new))).trans (M.keep b o q)
    have ob : ObjOk X.prog X.w (upd H1 d (.xd [(("at" : Str), v)])) G' d (.xd [(("at" : Str), v)]) :=
      ⟨_, hns.at (fun o q => (gk d M.dne).trans q), fun f => relO_at rv f⟩
    have J : L2.Inv X pins σ (upd H1 d (.xd [(("at" : Str), v)])) ⟨G', g, dr, tk', os⟩ := I1.laid (t' := tk') old M.dbig ob
    refine ⟨e, oe, fv, ⟨G', g, dr, tk', os⟩, _, .ref C, some d, rfl, J, fun b o q => ?_, ge, hoe, ⟨hc, hd⟩, hdat, h1, ?_, rfl, I1.bare, raises_own T.ex.hs T.tyC, q1 d (I1.hok.fresh M.dbig)⟩
    · by_cases hb : b = e
      · have q' : G'.get? b = some o := q
        rw [hb, ge] at q'
        cases q'
      · exact (gk b hb).symm.trans q
    · rw [upd_ne (Ne.symm M.dne)]
      exact I1.hok.fresh M.new
/-- raise nm(e) -/
def tRaise_at (C : Addr) (W : WX) (ta : TA) : TS := fun _ σ H => tMk_at C ta σ H fun cls d H' => W cls d σ H'
theorem ps_raise_at {a : Expr} {ta : TA} {W : WX} {p pos pos2 : Pos} {k : Nat} (hc : X.calm = true) (T : Of_at.Tx X.K X.mg nm ql C fI B newId initId bmB) (hr : Room k X.A) (tk : Takes X W) (ha : PA X [a] ta) (hg : Gl X nm := by rfl) (hdb : (nm == ("__debug__" : Str)) = false := by decide)
    (he : starEach (a :: []) X.env = (false, eval a X.env) :: starEach [] X.env := by rfl) (hpl : (backTo pos (starEach [] X.env)).any (·.1) = false := by rfl) :
    PS X (.Raise (some (.Call (.Name nm p) [a] [] pos)) none pos2) (tRaise_at C W ta) := ps_raise hc tk (pmk_at T hr ha hg hdb he hpl)
/-- e.at, e a kept error -/
def tGet_at (K : PySem.W.Frag) (te : TE) : TE := fun σ H Q => te σ H fun x H1 => ∃ (a C dd : Addr) (v : V), x = .ref a ∧ H1 a = some (ExH (.ref C) (some dd) a) ∧ ExcC K C ∧ PySem.W.findIn K (.ref C) "at" = some none ∧ H1 dd = some (.xd [(("at" : Str), v)]) ∧ Q v H1
theorem pe_get_at {e : Expr} {te : TE} {pos : Pos} (he : PE X e te) (hb : attributeBase e "at" X.env (eval e X.env) = eval e X.env := by rfl) : PE X (.Attribute e "at" pos) (tGet_at X.K te) := by
  constructor
  intro pins s σ H Q I h
  refine attr_of hb (thn (he.run pins s σ H _ I h) ?_)
  rintro u s1 ⟨x, H1, I1, rx, a, C, dd, v, rfl, ha, EC, noN, hdd, q⟩
  cases (show u = Value.ref a from rx)
  obtain ⟨oe, od, J, hod⟩ := held_at I1 ha (.inr ⟨dd, _, rfl, hdd⟩)
  obtain ⟨mA, hns, hr⟩ := I1.hok dd _ hdd
  obtain ⟨o, ho, hl⟩ := lookIn_ns hns
  obtain ⟨o', eo, ho'⟩ := hod dd _ rfl hdd
  rw [ho] at ho'
  cases ho'
  subst eo
  have l : List.lookup ("at" : Str) [(("at" : Str), v)] = some v := by simp [List.lookup]
  obtain ⟨u, hu, ru⟩ := RelO.some_of (v := v) (o := mA "at") (by rw [← l]; exact hr "at")
  exact HandSPX.exc_get I1.kIn J EC.hg EC.hk EC.hs (PySem.W.findObj_own EC.hd noN rfl (by rw [hl, hu])) (handed_of ru) ⟨v, H1, I1.tok _, ru, q⟩
end
/-! ### errors of the field name -/
namespace Of_name
open PySem.W PySem.Calls PySem.HandSPX
def iA (p1 p2 : Pos) : Arguments := { posonlyargs := [], args := [{ arg := "self", annotation := none, pos := p1 }, { arg := "name", annotation := none, pos := p2 }], vararg := none, kwonlyargs := [], kw_defaults := [], kwarg := none, defaults := [] }
def iB (q1 q2 q3 q4 : Pos) : List Stmt := [.Assign [.Attribute (.Name "self" q1) "name" q2] (.Name "name" q3) q4]
def iS : Scope := { kind := .function, names := [(PySem.Str.ofString "self", .local), (PySem.Str.ofString "name", .local)], isGenerator := false, isCoroutine := false, more := [] }
/-- the class called nm, at C, and its __init__, at fI, as the top has left them -/
structure Tx (K : Frag) (mg : Str → Option Value) (nm ql : Str) (C fI : Addr) (B newId initId : String) (bmB : List Value) : Prop where
  base : ExcBaseFacts B newId initId bmB
  gC : mg nm = some (.ref C)
  cls : ∃ n1 q N bs bm sn sub ab col dd k0 k1 k2 k3 k5, K.lookup C = some (excClassObj n1 q C N bs bm true sn sub ab col dd k0 k1 k2 k3 k5 newId) ∧ Line bm bmB
  sa : findIn K (.ref C) "__setattr__" = some (some (.builtin "object.__setattr__"))
  ex : ExcC K C
  noN : findIn K (.ref C) "name" = some none
  iC : findIn K (.ref C) "__init__" = some (some (.ref fI))
  tC : typeIn K (.ref fI) = some (.type "function")
  kC : keepIn K (.ref C) = true
  tyC : typeIn K (.ref C) = some (.type "type")
  fn : ∃ (oc : Value) (od : Option Addr) (doc pm : Value) (an : Option Addr) (cdv ct : Value) (osl : Array (Option Value)) (p1 p2 q1 q2 q3 q4 : Pos),
    K.lookup fI = some ⟨oc, od, .func (fnOf "__init__" ql (iA p1 p2) (iB q1 q2 q3 q4) iS .none .none doc pm an cdv ct), osl⟩ ∧ codeIn K cdv ql = true
/-- an error made of v, at e, its own dict at d -/
structure Made (h h' : Heap) (e C d : Addr) (v : Value) : Prop where
  keep : ∀ b o, h.get? b = some o → h'.get? b = some o
  new : h.objs.size ≤ e
  obj : ∃ oe vs, h'.get? e = some oe ∧ oe.cls = .ref C ∧ oe.dict = some d ∧ oe.data = .fields vs ∧ vs[1]? = some .none
  dbig : h.objs.size ≤ d
  dne : d ≠ e
  ns : h'.Ns1 d (fun y => if y = "name" then some v else none)
section
variable {prog : Program} {w : World} {A : Around} {E : Value → Shared → Prop} {R : Result → Shared → Prop} {s : Shared} {K : Frag} {mg : Str → Option Value} {nm ql : Str} {C fI : Addr} {B newId initId : String} {bmB : List Value}
theorem made (T : Tx K mg nm ql C fI B newId initId bmB) {v : Value} (X : K.In s.heap) (hlim : s.heap.NoLimit) (hroom : A.depth + 1 < recursionLimit) (hq : ∀ h' tk e d, Made s.heap h' e C d v → R (.ok (.ret (.ref e))) { s with heap := h', toks := tk }) :
    codeAny (model prog w) A (.call (.ref C) ⟨[v], []⟩) R s := by
  obtain ⟨n1, q, N, bs, bm, sn, sub, ab, col, dd, k0, k1, k2, k3, k5, hC, ln⟩ := T.cls
  obtain ⟨oc, od, doc, pm, an, cdv, ct, osl, p1, p2, q1, q2, q3, q4, ho, hcd⟩ := T.fn
  have hcl : clsIn K C = some { name := n1, bases := bs, mro := .ref C :: bm, ns := N, qualname := q, hasDict := true, slotNames := sn, subclasses := sub, abstract := ab, collection := col, hasDel := false } := by
    unfold clsIn
    rw [hC]
  obtain ⟨hp, g, dr, tk, os⟩ := s
  have k : ∀ b o, hp.get? b = some o → ((hp.push (kdv_tup [v])).push (excO C hp.objs.size)).get? b = some o := fun b o e => Heap.get?_push_of_some _ (Heap.get?_push_of_some _ e)
  have hx : ((hp.push (kdv_tup [v])).push (excO C hp.objs.size)).get? (hp.objs.size + 1) = some (excO C hp.objs.size) := by heap_get
  refine call_own T.base ln.has (X _ _ hC) (looks_findIn X T.iC) (fun self => bind_fn X self T.tC) (one_size v) ?_
  have X1 := X.keeps k
  have lim1 : ((hp.push (kdv_tup [v])).push (excO C hp.objs.size)).NoLimit := hlim.keeps k
  have size1 : ((hp.push (kdv_tup [v])).push (excO C hp.objs.size)).objs.size = hp.objs.size + 1 + 1 := by rw [Heap.size_push, Heap.size_push]
  generalize (hp.push (kdv_tup [v])).push (excO C hp.objs.size) = h1 at k hx X1 lim1 size1 ⊢
  refine Att.call_fn (binds := [("self", .ref (hp.objs.size + 1)), ("name", v)]) X1 lim1 ho hcd hroom (BindsTo.of_eq (by first | rfl | with_unfolding_all rfl)) (by first | rfl | decide | with_unfolding_all rfl) (fun s₁ IC => ?_) rfl rfl rfl
  obtain ⟨h₁, tk₁, rfl⟩ := IC.toInCall.same
  have k1' : ∀ b o, h1.get? b = some o → h₁.get? b = some o := IC.toInCall.keep
  have hn := IC.toInCall.ns
  show wpAny _ _ (execs _ _) _ _ _
  refine wpAny_execs_cons (plainObj_wpAny_Assign_Attribute ?_)
  refine ldC (v := v) hn (by first | rfl | with_unfolding_all rfl | kernel_rfl) (ldC (v := .ref (hp.objs.size + 1)) hn (by first | rfl | with_unfolding_all rfl | kernel_rfl) ?_)
  refine set_plain (X1.keeps k1') (ox := excO C hp.objs.size) (od := none) ⟨k1' _ _ hx, rfl, rfl, trivial⟩ T.sa ?_
  refine store_err (X1.keeps k1') (k1' _ _ hx) hcl (bmB := bmB) ln.own rfl rfl T.noN (fun h₃ tk₃ dx k₃ dn dne hx₃ hn₃ => ?_)
  show wpAny _ _ (execs _ _) _ _ _
  have z : h1.objs.size < h₁.objs.size := hn.lt
  have lt_ : ∀ {b : Addr} {o : Obj}, hp.get? b = some o → b ≠ hp.objs.size + 1 := fun {b o} e => Nat.ne_of_lt (Nat.lt_succ_of_lt (Heap.lt_size e))
  refine wpAny_execs_nil ⟨rfl, hq h₃ tk₃ (hp.objs.size + 1) dx ⟨fun b o e => k₃ b o (lt_ e) (k1' b o (k b o e)), Nat.le_succ _, ⟨_, _, hx₃, rfl, rfl, rfl, rfl⟩, ?_, dne, hn₃⟩⟩
  have dn' : h₁.objs.size ≤ dx := dn
  show hp.objs.size ≤ dx
  omega
end
end Of_name
section
variable {X : Cx} {nm ql : Str} {C fI : Addr} {B newId initId : String} {bmB : List Value}
theorem relO_name {v : V} {v' : Value} (r : RelV v v') (f : Str) : RelO (List.lookup f [(("name" : Str), v)]) (if f = "name" then some v' else none) := by
  by_cases hw : f = "name"
  · subst hw
    rw [if_pos rfl]
    have q : List.lookup ("name" : Str) [(("name" : Str), v)] = some v := by simp [List.lookup]
    rw [q]
    exact r
  · rw [if_neg hw]
    have qw : (f == ("name" : Str)) = false := by simpa using hw
    have q2 : List.lookup f [(("name" : Str), v)] = none := by simp [List.lookup, qw]
    rw [q2]
    trivial
/-- nm(e) -/
def tMk_name (C : Addr) (ta : TA) : L2.St → Hp → XK → Prop := fun σ H Q => ta σ H fun vs H1 => ∃ v, vs = [v] ∧ ∀ d, H1 d = none → Q (.ref C) (some d) (upd H1 d (.xd [(("name" : Str), v)]))
theorem pmk_name {a : Expr} {ta : TA} {p pos : Pos} {k : Nat} (T : Of_name.Tx X.K X.mg nm ql C fI B newId initId bmB) (hr : Room k X.A) (ha : PA X [a] ta) (hg : Gl X nm := by rfl) (hdb : (nm == ("__debug__" : Str)) = false := by decide)
    (he : starEach (a :: []) X.env = (false, eval a X.env) :: starEach [] X.env := by rfl) (hpl : (backTo pos (starEach [] X.env)).any (·.1) = false := by rfl) :
    PMk X (.Call (.Name nm p) [a] [] pos) (tMk_name C ta) := by
  intro pins s σ H Q I h
  refine wpAny_Call_Name_kw (ld_glob I hg T.gC ?_ hdb)
  refine PySem.W.callWith_K (h₀ := X.base) I.ok.mod.kin T.kC (thn (ha.run pos pins s σ H _ I h) fun us s1 hh => ?_) he hpl
  obtain ⟨vs, H1, I1, r1, v, ev, q1⟩ := hh
  subst ev
  refine ⟨I1.kIn, ?_⟩
  cases r1 with
  | cons rv rn =>
    rename_i v' us'
    cases rn
    show wpAny _ _ (call (.ref C) [v']) _ _ _
    have hlim := I1.nolimit
    obtain ⟨hp, g, dr, tk, os⟩ := s1
    refine wpAny_call (Of_name.made T I1.kIn hlim (by have := hr.dp; omega) fun h' tk' e d M => ?_)
    show MkP X pins σ Q (.ref e) ⟨h', g, dr, tk', os⟩
    obtain ⟨oe, fv, hoe, hc, hd, hdat, h1⟩ := M.obj
    have hns := M.ns
    obtain ⟨G', g1, g2⟩ := restrict h' fun b => decide (b ≠ e)
    have gk : ∀ b, b ≠ e → G'.get? b = h'.get? b := fun b hb => g1 b (decide_eq_true hb)
    have ge : G'.get? e = none := g2 e (by simp)
    have old : ∀ b o, hp.get? b = some o → G'.get? b = some o := fun b o q => (gk b (Nat.ne_of_lt (Nat.lt_of_lt_of_le (Heap.lt_size q) M.new))).trans (M.keep b o q)
    have ob : ObjOk X.prog X.w (upd H1 d (.xd [(("name" : Str), v)])) G' d (.xd [(("name" : Str), v)]) :=
      ⟨_, hns.at (fun o q => (gk d M.dne).trans q), fun f => relO_name rv f⟩
    have J : L2.Inv X pins σ (upd H1 d (.xd [(("name" : Str), v)])) ⟨G', g, dr, tk', os⟩ := I1.laid (t' := tk') old M.dbig ob
    refine ⟨e, oe, fv, ⟨G', g, dr, tk', os⟩, _, .ref C, some d, rfl, J, fun b o q => ?_, ge, hoe, ⟨hc, hd⟩, hdat, h1, ?_, rfl, I1.bare, raises_own T.ex.hs T.tyC, q1 d (I1.hok.fresh M.dbig)⟩
    · by_cases hb : b = e
      · have q' : G'.get? b = some o := q
        rw [hb, ge] at q'
        cases q'
      · exact (gk b hb).symm.trans q
    · rw [upd_ne (Ne.symm M.dne)]
      exact I1.hok.fresh M.new
/-- raise nm(e) -/
def tRaise_name (C : Addr) (W : WX) (ta : TA) : TS := fun _ σ H => tMk_name C ta σ H fun cls d H' => W cls d σ H'
theorem ps_raise_name {a : Expr} {ta : TA} {W : WX} {p pos pos2 : Pos} {k : Nat} (hc : X.calm = true) (T : Of_name.Tx X.K X.mg nm ql C fI B newId initId bmB) (hr : Room k X.A) (tk : Takes X W) (ha : PA X [a] ta) (hg : Gl X nm := by rfl) (hdb : (nm == ("__debug__" : Str)) = false := by decide)
    (he : starEach (a :: []) X.env = (false, eval a X.env) :: starEach [] X.env := by rfl) (hpl : (backTo pos (starEach [] X.env)).any (·.1) = false := by rfl) :
    PS X (.Raise (some (.Call (.Name nm p) [a] [] pos)) none pos2) (tRaise_name C W ta) := ps_raise hc tk (pmk_name T hr ha hg hdb he hpl)
/-- e.name, e a kept error -/
def tGet_name (K : PySem.W.Frag) (te : TE) : TE := fun σ H Q => te σ H fun x H1 => ∃ (a C dd : Addr) (v : V), x = .ref a ∧ H1 a = some (ExH (.ref C) (some dd) a) ∧ ExcC K C ∧ PySem.W.findIn K (.ref C) "name" = some none ∧ H1 dd = some (.xd [(("name" : Str), v)]) ∧ Q v H1
theorem pe_get_name {e : Expr} {te : TE} {pos : Pos} (he : PE X e te) (hb : attributeBase e "name" X.env (eval e X.env) = eval e X.env := by rfl) : PE X (.Attribute e "name" pos) (tGet_name X.K te) := by
  constructor
  intro pins s σ H Q I h
  refine attr_of hb (thn (he.run pins s σ H _ I h) ?_)
  rintro u s1 ⟨x, H1, I1, rx, a, C, dd, v, rfl, ha, EC, noN, hdd, q⟩
  cases (show u = Value.ref a from rx)
  obtain ⟨oe, od, J, hod⟩ := held_at I1 ha (.inr ⟨dd, _, rfl, hdd⟩)
  obtain ⟨mA, hns, hr⟩ := I1.hok dd _ hdd
  obtain ⟨o, ho, hl⟩ := lookIn_ns hns
  obtain ⟨o', eo, ho'⟩ := hod dd _ rfl hdd
  rw [ho] at ho'
  cases ho'
  subst eo
  have l : List.lookup ("name" : Str) [(("name" : Str), v)] = some v := by simp [List.lookup]
  obtain ⟨u, hu, ru⟩ := RelO.some_of (v := v) (o := mA "name") (by rw [← l]; exact hr "name")
  exact HandSPX.exc_get I1.kIn J EC.hg EC.hk EC.hs (PySem.W.findObj_own EC.hd noN rfl (by rw [hl, hu])) (handed_of ru) ⟨v, H1, I1.tok _, ru, q⟩
end
/-! ### errors of the field most -/
namespace Of_most
open PySem.W PySem.Calls PySem.HandSPX
def iA (p1 p2 : Pos) : Arguments := { posonlyargs := [], args := [{ arg := "self", annotation := none, pos := p1 }, { arg := "most", annotation := none, pos := p2 }], vararg := none, kwonlyargs := [], kw_defaults := [], kwarg := none, defaults := [] }
def iB (q1 q2 q3 q4 : Pos) : List Stmt := [.Assign [.Attribute (.Name "self" q1) "most" q2] (.Name "most" q3) q4]
def iS : Scope := { kind := .function, names := [(PySem.Str.ofString "self", .local), (PySem.Str.ofString "most", .local)], isGenerator := false, isCoroutine := false, more := [] }
/-- the class called nm, at C, and its __init__, at fI, as the top has left them -/
structure Tx (K : Frag) (mg : Str → Option Value) (nm ql : Str) (C fI : Addr) (B newId initId : String) (bmB : List Value) : Prop where
  base : ExcBaseFacts B newId initId bmB
  gC : mg nm = some (.ref C)
  cls : ∃ n1 q N bs bm sn sub ab col dd k0 k1 k2 k3 k5, K.lookup C = some (excClassObj n1 q C N bs bm true sn sub ab col dd k0 k1 k2 k3 k5 newId) ∧ Line bm bmB
  sa : findIn K (.ref C) "__setattr__" = some (some (.builtin "object.__setattr__"))
  ex : ExcC K C
  noN : findIn K (.ref C) "most" = some none
  iC : findIn K (.ref C) "__init__" = some (some (.ref fI))
  tC : typeIn K (.ref fI) = some (.type "function")
  kC : keepIn K (.ref C) = true
  tyC : typeIn K (.ref C) = some (.type "type")
  fn : ∃ (oc : Value) (od : Option Addr) (doc pm : Value) (an : Option Addr) (cdv ct : Value) (osl : Array (Option Value)) (p1 p2 q1 q2 q3 q4 : Pos),
    K.lookup fI = some ⟨oc, od, .func (fnOf "__init__" ql (iA p1 p2) (iB q1 q2 q3 q4) iS .none .none doc pm an cdv ct), osl⟩ ∧ codeIn K cdv ql = true
/-- an error made of v, at e, its own dict at d -/
structure Made (h h' : Heap) (e C d : Addr) (v : Value) : Prop where
  keep : ∀ b o, h.get? b = some o → h'.get? b = some o
  new : h.objs.size ≤ e
  obj : ∃ oe vs, h'.get? e = some oe ∧ oe.cls = .ref C ∧ oe.dict = some d ∧ oe.data = .fields vs ∧ vs[1]? = some .none
  dbig : h.objs.size ≤ d
  dne : d ≠ e
  ns : h'.Ns1 d (fun y => if y = "most" then some v else none)
section
variable {prog : Program} {w : World} {A : Around} {E : Value → Shared → Prop} {R : Result → Shared → Prop} {s : Shared} {K : Frag} {mg : Str → Option Value} {nm ql : Str} {C fI : Addr} {B newId initId : String} {bmB : List Value}
theorem made (T : Tx K mg nm ql C fI B newId initId bmB) {v : Value} (X : K.In s.heap) (hlim : s.heap.NoLimit) (hroom : A.depth + 1 < recursionLimit) (hq : ∀ h' tk e d, Made s.heap h' e C d v → R (.ok (.ret (.ref e))) { s with heap := h', toks := tk }) :
    codeAny (model prog w) A (.call (.ref C) ⟨[v], []⟩) R s := by
  obtain ⟨n1, q, N, bs, bm, sn, sub, ab, col, dd, k0, k1, k2, k3, k5, hC, ln⟩ := T.cls
  obtain ⟨oc, od, doc, pm, an, cdv, ct, osl, p1, p2, q1, q2, q3, q4, ho, hcd⟩ := T.fn
  have hcl : clsIn K C = some { name := n1, bases := bs, mro := .ref C :: bm, ns := N, qualname := q, hasDict := true, slotNames := sn, subclasses := sub, abstract := ab, collection := col, hasDel := false } := by
    unfold clsIn
    rw [hC]
  obtain ⟨hp, g, dr, tk, os⟩ := s
  have k : ∀ b o, hp.get? b = some o → ((hp.push (kdv_tup [v])).push (excO C hp.objs.size)).get? b = some o := fun b o e => Heap.get?_push_of_some _ (Heap.get?_push_of_some _ e)
  have hx : ((hp.push (kdv_tup [v])).push (excO C hp.objs.size)).get? (hp.objs.size + 1) = some (excO C hp.objs.size) := by heap_get
  refine call_own T.base ln.has (X _ _ hC) (looks_findIn X T.iC) (fun self => bind_fn X self T.tC) (one_size v) ?_
  have X1 := X.keeps k
  have lim1 : ((hp.push (kdv_tup [v])).push (excO C hp.objs.size)).NoLimit := hlim.keeps k
  have size1 : ((hp.push (kdv_tup [v])).push (excO C hp.objs.size)).objs.size = hp.objs.size + 1 + 1 := by rw [Heap.size_push, Heap.size_push]
  generalize (hp.push (kdv_tup [v])).push (excO C hp.objs.size) = h1 at k hx X1 lim1 size1 ⊢
  refine Att.call_fn (binds := [("self", .ref (hp.objs.size + 1)), ("most", v)]) X1 lim1 ho hcd hroom (BindsTo.of_eq (by first | rfl | with_unfolding_all rfl)) (by first | rfl | decide | with_unfolding_all rfl) (fun s₁ IC => ?_) rfl rfl rfl
  obtain ⟨h₁, tk₁, rfl⟩ := IC.toInCall.same
  have k1' : ∀ b o, h1.get? b = some o → h₁.get? b = some o := IC.toInCall.keep
  have hn := IC.toInCall.ns
  show wpAny _ _ (execs _ _) _ _ _
  refine wpAny_execs_cons (plainObj_wpAny_Assign_Attribute ?_)
  refine ldC (v := v) hn (by first | rfl | with_unfolding_all rfl | kernel_rfl) (ldC (v := .ref (hp.objs.size + 1)) hn (by first | rfl | with_unfolding_all rfl | kernel_rfl) ?_)
  refine set_plain (X1.keeps k1') (ox := excO C hp.objs.size) (od := none) ⟨k1' _ _ hx, rfl, rfl, trivial⟩ T.sa ?_
  refine store_err (X1.keeps k1') (k1' _ _ hx) hcl (bmB := bmB) ln.own rfl rfl T.noN (fun h₃ tk₃ dx k₃ dn dne hx₃ hn₃ => ?_)
  show wpAny _ _ (execs _ _) _ _ _
  have z : h1.objs.size < h₁.objs.size := hn.lt
  have lt_ : ∀ {b : Addr} {o : Obj}, hp.get? b = some o → b ≠ hp.objs.size + 1 := fun {b o} e => Nat.ne_of_lt (Nat.lt_succ_of_lt (Heap.lt_size e))
  refine wpAny_execs_nil ⟨rfl, hq h₃ tk₃ (hp.objs.size + 1) dx ⟨fun b o e => k₃ b o (lt_ e) (k1' b o (k b o e)), Nat.le_succ _, ⟨_, _, hx₃, rfl, rfl, rfl, rfl⟩, ?_, dne, hn₃⟩⟩
  have dn' : h₁.objs.size ≤ dx := dn
  show hp.objs.size ≤ dx
  omega
end
end Of_most
section
variable {X : Cx} {nm ql : Str} {C fI : Addr} {B newId initId : String} {bmB : List Value}
theorem relO_most {v : V} {v' : Value} (r : RelV v v') (f : Str) : RelO (List.lookup f [(("most" : Str), v)]) (if f = "most" then some v' else none) := by
  by_cases hw : f = "most"
  · subst hw
    rw [if_pos rfl]
    have q : List.lookup ("most" : Str) [(("most" : Str), v)] = some v := by simp [List.lookup]
    rw [q]
    exact r
  · rw [if_neg hw]
    have qw : (f == ("most" : Str)) = false := by simpa using hw
    have q2 : List.lookup f [(("most" : Str), v)] = none := by simp [List.lookup, qw]
    rw [q2]
    trivial
/-- nm(e) -/
def tMk_most (C : Addr) (ta : TA) : L2.St → Hp → XK → Prop := fun σ H Q => ta σ H fun vs H1 => ∃ v, vs = [v] ∧ ∀ d, H1 d = none → Q (.ref C) (some d) (upd H1 d (.xd [(("most" : Str), v)]))
theorem pmk_most {a : Expr} {ta : TA} {p pos : Pos} {k : Nat} (T : Of_most.Tx X.K X.mg nm ql C fI B newId initId bmB) (hr : Room k X.A) (ha : PA X [a] ta) (hg : Gl X nm := by rfl) (hdb : (nm == ("__debug__" : Str)) = false := by decide)
    (he : starEach (a :: []) X.env = (false, eval a X.env) :: starEach [] X.env := by rfl) (hpl : (backTo pos (starEach [] X.env)).any (·.1) = false := by rfl) :
    PMk X (.Call (.Name nm p) [a] [] pos) (tMk_most C ta) := by
  intro pins s σ H Q I h
  refine wpAny_Call_Name_kw (ld_glob I hg T.gC ?_ hdb)
  refine PySem.W.callWith_K (h₀ := X.base) I.ok.mod.kin T.kC (thn (ha.run pos pins s σ H _ I h) fun us s1 hh => ?_) he hpl
  obtain ⟨vs, H1, I1, r1, v, ev, q1⟩ := hh
  subst ev
  refine ⟨I1.kIn, ?_⟩
  cases r1 with
  | cons rv rn =>
    rename_i v' us'
    cases rn
    show wpAny _ _ (call (.ref C) [v']) _ _ _
    have hlim := I1.nolimit
    obtain ⟨hp, g, dr, tk, os⟩ := s1
    refine wpAny_call (Of_most.made T I1.kIn hlim (by have := hr.dp; omega) fun h' tk' e d M => ?_)
    show MkP X pins σ Q (.ref e) ⟨h', g, dr, tk', os⟩
    obtain ⟨oe, fv, hoe, hc, hd, hdat, h1⟩ := M.obj
    have hns := M.ns
    obtain ⟨G', g1, g2⟩ := restrict h' fun b => decide (b ≠ e)
    have gk : ∀ b, b ≠ e → G'.get? b = h'.get? b := fun b hb => g1 b (decide_eq_true hb)
    have ge : G'.get? e = none := g2 e (by simp)
    have old : ∀ b o, hp.get? b = some o → G'.get? b = some o := fun b o q => (gk b (Nat.ne_of_lt (Nat.lt_of_lt_of_le (Heap.lt_size q) M.new))).trans (M.keep b o q)
    have ob : ObjOk X.prog X.w (upd H1 d (.xd [(("most" : Str), v)])) G' d (.xd [(("most" : Str), v)]) :=
      ⟨_, hns.at (fun o q => (gk d M.dne).trans q), fun f => relO_most rv f⟩
    have J : L2.Inv X pins σ (upd H1 d (.xd [(("most" : Str), v)])) ⟨G', g, dr, tk', os⟩ := I1.laid (t' := tk') old M.dbig ob
    refine ⟨e, oe, fv, ⟨G', g, dr, tk', os⟩, _, .ref C, some d, rfl, J, fun b o q => ?_, ge, hoe, ⟨hc, hd⟩, hdat, h1, ?_, rfl, I1.bare, raises_own T.ex.hs T.tyC, q1 d (I1.hok.fresh M.dbig)⟩
    · by_cases hb : b = e
      · have q' : G'.get? b = some o := q
        rw [hb, ge] at q'
        cases q'
      · exact (gk b hb).symm.trans q
    · rw [upd_ne (Ne.symm M.dne)]
      exact I1.hok.fresh M.new
/-- raise nm(e) -/
def tRaise_most (C : Addr) (W : WX) (ta : TA) : TS := fun _ σ H => tMk_most C ta σ H fun cls d H' => W cls d σ H'
theorem ps_raise_most {a : Expr} {ta : TA} {W : WX} {p pos pos2 : Pos} {k : Nat} (hc : X.calm = true) (T : Of_most.Tx X.K X.mg nm ql C fI B newId initId bmB) (hr : Room k X.A) (tk : Takes X W) (ha : PA X [a] ta) (hg : Gl X nm := by rfl) (hdb : (nm == ("__debug__" : Str)) = false := by decide)
    (he : starEach (a :: []) X.env = (false, eval a X.env) :: starEach [] X.env := by rfl) (hpl : (backTo pos (starEach [] X.env)).any (·.1) = false := by rfl) :
    PS X (.Raise (some (.Call (.Name nm p) [a] [] pos)) none pos2) (tRaise_most C W ta) := ps_raise hc tk (pmk_most T hr ha hg hdb he hpl)
/-- e.most, e a kept error -/
def tGet_most (K : PySem.W.Frag) (te : TE) : TE := fun σ H Q => te σ H fun x H1 => ∃ (a C dd : Addr) (v : V), x = .ref a ∧ H1 a = some (ExH (.ref C) (some dd) a) ∧ ExcC K C ∧ PySem.W.findIn K (.ref C) "most" = some none ∧ H1 dd = some (.xd [(("most" : Str), v)]) ∧ Q v H1
theorem pe_get_most {e : Expr} {te : TE} {pos : Pos} (he : PE X e te) (hb : attributeBase e "most" X.env (eval e X.env) = eval e X.env := by rfl) : PE X (.Attribute e "most" pos) (tGet_most X.K te) := by
  constructor
  intro pins s σ H Q I h
  refine attr_of hb (thn (he.run pins s σ H _ I h) ?_)
  rintro u s1 ⟨x, H1, I1, rx, a, C, dd, v, rfl, ha, EC, noN, hdd, q⟩
  cases (show u = Value.ref a from rx)
  obtain ⟨oe, od, J, hod⟩ := held_at I1 ha (.inr ⟨dd, _, rfl, hdd⟩)
  obtain ⟨mA, hns, hr⟩ := I1.hok dd _ hdd
  obtain ⟨o, ho, hl⟩ := lookIn_ns hns
  obtain ⟨o', eo, ho'⟩ := hod dd _ rfl hdd
  rw [ho] at ho'
  cases ho'
  subst eo
  have l : List.lookup ("most" : Str) [(("most" : Str), v)] = some v := by simp [List.lookup]
  obtain ⟨u, hu, ru⟩ := RelO.some_of (v := v) (o := mA "most") (by rw [← l]; exact hr "most")
  exact HandSPX.exc_get I1.kIn J EC.hg EC.hk EC.hs (PySem.W.findObj_own EC.hd noN rfl (by rw [hl, hu])) (handed_of ru) ⟨v, H1, I1.tok _, ru, q⟩
end
end Pk
namespace Pk
open PySem L2
theorem same_upd {H : Hp} {p : Addr} {o : HO} (h : H p = none) : Same H (upd H p o) := fun b x e => by
  rw [upd_ne (ne_of_none e h)]
  exact e
end Pk
namespace Pk
open PySem L2
def top (i : Nat) : Stmt := PySem.Challenge.pw_paperkin_k07_lists_of_questions.main.body.getD i (.Pass ⟨0, 0, 0, 0⟩)
abbrev sIsNumber : Stmt := top 21
abbrev sIsWhole : Stmt := top 22
abbrev sIsName : Stmt := top 23
abbrev sIsNameE : Stmt := top 24
abbrev sIsText : Stmt := top 25
abbrev sAreAnswers : Stmt := top 29
abbrev sNeedQ : Stmt := top 31
abbrev sNeedQs : Stmt := top 32
abbrev sToilOrd : Stmt := top 33
abbrev sByToil : Stmt := top 34
abbrev sToilSum : Stmt := top 35
abbrev sMixed : Stmt := top 37
abbrev sStream : Stmt := top 38
abbrev sTake : Stmt := top 39
abbrev sWord : Stmt := top 40
abbrev sNameBy : Stmt := top 41
abbrev sTextBy : Stmt := top 42
abbrev sAnswersBy : Stmt := top 43
abbrev sPartsBy : Stmt := top 44
abbrev sOf : Stmt := top 45
abbrev sRowsBy : Stmt := top 46
abbrev sParts : Stmt := top 47
abbrev sAsked : Stmt := top 48
abbrev sSaid : Stmt := top 49
abbrev sPut : Stmt := top 50
abbrev sListsR : Stmt := top 51
abbrev sKinR : Stmt := top 52
abbrev sRefusedR : Stmt := top 53
abbrev sLaw : Stmt := top 54
def inCls (st : Stmt) (i : Nat) : Stmt := match st with
  | .ClassDef (body := b) .. => b.getD i (.Pass ⟨0, 0, 0, 0⟩)
  | _ => st
abbrev sQInit : Stmt := inCls (top 30) 0
abbrev sQEq : Stmt := inCls (top 30) 1
abbrev sQLen : Stmt := inCls (top 30) 2
abbrev sQStr : Stmt := inCls (top 30) 3
abbrev sQRepr : Stmt := inCls (top 30) 4
abbrev sQAnswer : Stmt := inCls (top 30) 5
abbrev sQTurned : Stmt := inCls (top 30) 6
abbrev sQChanged : Stmt := inCls (top 30) 7
abbrev sQKin : Stmt := inCls (top 30) 8
/-! ### promises of the law's helpers -/
/-- some number that isn't negative -/
def spMixed : Sp := fun vs H Q _ => ∃ (n k : Int), vs = [.int n, .int k] ∧ 0 ≤ k ∧ k ≤ 100000 ∧ ∀ v : Int, 0 ≤ v → Q (.int v) H
/-- a stream's list, t numbers taken -/
def StrmAt (H : Hp) (s : Addr) (t : Int) : Prop := ∃ (b : Bool) (c m : Int), H s = some (.lst [.bl b, .int c, .int t, .int m])
def spStream : Sp := fun vs H Q _ => ∃ (c k : Int), vs = [.int c, .int k] ∧ 0 ≤ k ∧ k ≤ 100000 ∧ ∀ (p : Addr) (o : HO), H p = none → StrmAt (upd H p o) p 0 → Q (.ref p) (upd H p o)
/-- a number below many; only the stream's own list is otherwise -/
def But (s : Addr) (H H' : Hp) : Prop := ∀ q o, q ≠ s → H q = some o → H' q = some o
theorem But.refl {s : Addr} {H : Hp} : But s H H := fun _ _ _ h => h
theorem But.trans {s : Addr} {H H1 H2 : Hp} (a : But s H H1) (b : But s H1 H2) : But s H H2 := fun q o n h => b q o n (a q o n h)
theorem But.new {s p : Addr} {H : Hp} {o : HO} (h : H p = none) : But s H (upd H p o) := fun q u _ e => by
  rw [upd_ne (ne_of_none e h)]
  exact e
theorem But.at {s : Addr} {H : Hp} {o : HO} : But s H (upd H s o) := fun q u n e => by
  rw [upd_ne n]
  exact e
theorem But.same {s : Addr} {H H' : Hp} (a : Same H H') : But s H H' := fun q o _ e => a q o e
def spTake : Sp := fun vs H Q _ => ∃ (s : Addr) (t many : Int), vs = [.ref s, .int many] ∧ StrmAt H s t ∧ 0 ≤ t ∧ t < 100000 ∧ 0 < many ∧ many < 1000000 ∧
  ∀ (v : Int) (H' : Hp), 0 ≤ v → v < many → But s H H' → StrmAt H' s (t + 1) → Q (.int v) H'
section
variable {P : Program} {w : World} {K : PySem.W.Frag} {mg : Str → Option Value} {base : Heap}
theorem scMixed : FnScope ["_law_number", "_law_k"] ["_law_number", "_law_k"] (defScope sMixed) := ⟨rfl, rfl, rfl, by decide +kernel, rfl, by decide +kernel, by decide +kernel⟩
theorem ok_mixed {f : Addr} {fd : FuncData} (F : Fun K "_law_mixed" "_law_mixed" sMixed f fd) : FnOk P w K mg base CX0 1 f fd ["_law_number", "_law_k"] spMixed := by
  refine F.ok scMixed (fun vs H Q E h => ?_) (fun cdv A outer s H vs Q E hr h => ?_)
  · obtain ⟨n, k, rfl, _⟩ := h
    rfl
  · obtain ⟨n, k, rfl, k0, k1, q⟩ := h
    refine ⟨_, pss_cons (ps_set (i := 0) scMixed.nd rfl (.inl rfl) (pe_op op_mod (pe_op op_pow (pe_op op_add (pe_op op_add (pe_op op_add (pe_op op_mod (pv 0) pe_int) (pe_op op_mul (pe_op op_mul pe_int (pv 1)) (pv 1))) (pe_op op_mul pe_int (pv 1))) pe_int) pe_int) pe_int))
      (pss_one (ps_ret (pe_op op_fdiv (pe_op op_mod (pe_op op_mul (pv 0) (pe_op op_add pe_int (pe_op op_mul pe_int (pv 1)))) pe_int) pe_int))), ?_⟩
    have b1 : n % 2147483647 < 2147483647 := Int.emod_lt_of_pos _ (by decide)
    have b0 : 0 ≤ n % 2147483647 := Int.emod_nonneg _ (by decide)
    have kk : 7919 * k * k ≤ 7919 * 100000 * 100000 := Int.mul_le_mul (by omega) k1 k0 (by decide)
    have kk0 : 0 ≤ 7919 * k * k := Int.mul_nonneg (by omega) k0
    refine ⟨_, rfl, _, _, rfl, rfl, (by show (0 : Int) < 2147483647; decide), _, rfl, _, _, rfl, rfl, .inl ⟨by decide, by decide⟩, _, rfl, _, _, rfl, rfl, .inl ⟨by omega, by omega⟩, _, _, rfl, rfl, _, rfl, _, _, rfl, rfl, .inl ⟨by decide, by decide⟩, _, _, rfl, rfl, _, _, rfl, rfl, _, _, rfl, rfl, ⟨by decide, by decide, by omega⟩, _, _, rfl, rfl, (by show (0 : Int) < 2147483629; decide), ?_⟩
    refine ⟨_, rfl, _, rfl, _, _, rfl, rfl, .inl ⟨by decide, by decide⟩, _, _, rfl, rfl, _, _, rfl, rfl, .inr ⟨by omega, by omega⟩, _, _, rfl, rfl, (by show (0 : Int) < 2147483587; decide), _, _, rfl, rfl, ⟨by decide, by decide⟩, ?_⟩
    exact q _ (Int.ediv_nonneg (Int.emod_nonneg _ (by decide)) (by decide))
theorem scStream : FnScope ["_law_cell", "_law_k"] ["_law_cell", "_law_k"] (defScope sStream) := ⟨rfl, rfl, rfl, by decide +kernel, rfl, by decide +kernel, by decide +kernel⟩
theorem ok_stream {f fM : Addr} {fd fdM : FuncData} (F : Fun K "_law_stream" "_law_stream" sStream f fd) (FM : Fun K "_law_mixed" "_law_mixed" sMixed fM fdM) (bM : Binds K fdM ["_law_number", "_law_k"] []) (gM : mg "_law_mixed" = some (.ref fM)) :
    FnOk P w K mg base CX0 2 f fd ["_law_cell", "_law_k"] spStream := by
  have GM : FnOk P w K mg base CX0 1 fM fdM ["_law_number", "_law_k"] spMixed := ok_mixed FM
  refine F.ok scStream (fun vs H Q E h => ?_) (fun cdv A outer s H vs Q E hr h => ?_)
  · obtain ⟨n, k, rfl, _⟩ := h
    rfl
  · obtain ⟨c, k, rfl, k0, k1, q⟩ := h
    refine ⟨_, pss_one (ps_ret (pe_lst (pa_cons (pe_cmpR op_ge (pv 0) (pe_op op_pow pe_int pe_int) (nomark _)) (pa_cons (pv 0) (pa_cons pe_int (pa_cons (pe_call GM hr (by rfl) gM FM.kp bM .nil pass0 (pa_cons (pv 0) (pa_cons (pv 1) pa_nil))) pa_nil)))))), ?_⟩
    refine ⟨_, rfl, _, _, rfl, rfl, ⟨by decide, by decide, by decide⟩, _, _, rfl, rfl, _, rfl, _, rfl, _, rfl, c, k, rfl, k0, k1, fun v v0 => ?_⟩
    exact ⟨by show 4 ≤ sizeLine; decide, fun p hp => q p _ hp ⟨_, _, _, upd_same⟩⟩
theorem scTake : FnScope ["_law_stream_here", "_law_many", "_law_number"] ["_law_stream_here", "_law_many"] (defScope sTake) := ⟨rfl, rfl, rfl, by decide +kernel, rfl, by decide +kernel, by decide +kernel⟩
theorem upd_upd {H : Hp} {a : Addr} {o o' : HO} : upd (upd H a o) a o' = upd H a o' := by
  funext b
  unfold upd
  by_cases h : b = a
  · rw [if_pos h, if_pos h]
  · rw [if_neg h, if_neg h, if_neg h]
theorem ok_take {f fM : Addr} {fd fdM : FuncData} (F : Fun K "_law_take" "_law_take" sTake f fd) (FM : Fun K "_law_mixed" "_law_mixed" sMixed fM fdM) (bM : Binds K fdM ["_law_number", "_law_k"] []) (gM : mg "_law_mixed" = some (.ref fM)) :
    FnOk P w K mg base CX0 2 f fd ["_law_stream_here", "_law_many"] spTake := by
  have GM : FnOk P w K mg base CX0 1 fM fdM ["_law_number", "_law_k"] spMixed := ok_mixed FM
  refine F.ok scTake (fun vs H Q E h => ?_) (fun cdv A outer s H vs Q E hr h => ?_)
  · obtain ⟨n, k, m, rfl, _⟩ := h
    rfl
  · obtain ⟨a, t, many, rfl, ⟨b, c, m, ha⟩, t0, t1, m0, m1, q⟩ := h
    refine ⟨_, pss_cons (ps_asg (pe_op op_add (pe_ix ix_list (pv 0) pe_int (fun _ _ => rfl)) pe_int) (pg_sub (pv 0) pe_int set_list))
      (pss_cons (ps_if (PW.pt (pw_or (pt_not (pt_val (pe_ix ix_list (pv 0) pe_int (fun _ _ => rfl)))) (pw_or (pt_cmpR op_in_seq (pe_ix ix_list (pv 0) pe_int (fun _ _ => rfl)) (pe_tup (pa_cons pe_int (pa_cons (pe_un un_neg pe_int) pa_nil))) (by rfl))
          (pw_or1 (pt_cmpR op_gt (pe_ix ix_list (pv 0) pe_int (fun _ _ => rfl)) pe_int (nomark _))))))
        (pss_one (ps_ret (pe_op op_mod (pe_op op_fdiv (pe_call GM hr (by rfl) gM FM.kp bM .nil pass0 (pa_cons (pe_op op_add (pe_ix ix_list (pv 0) pe_int (fun _ _ => rfl)) (pe_op op_mul pe_int (pe_ix ix_list (pv 0) pe_int (fun _ _ => rfl)))) (pa_cons (pe_ix ix_list (pv 0) pe_int (fun _ _ => rfl)) pa_nil))) pe_int) (pv 1)))) pss_nil)
      (pss_cons (ps_set (i := 2) scTake.nd rfl (.inl rfl) (pe_op op_mod (pe_ix ix_list (pv 0) pe_int (fun _ _ => rfl)) (pv 1)))
      (pss_cons (ps_asg (pe_op op_fdiv (pe_ix ix_list (pv 0) pe_int (fun _ _ => rfl)) (pv 1)) (pg_sub (pv 0) pe_int set_list))
      (pss_one (ps_ret (pv 2)))))), ?_⟩
    refine ⟨_, rfl, a, _, _, _, rfl, rfl, SqL.of ha, atI_nat (j := 2) rfl, _, _, rfl, rfl, _, rfl, a, _, _, 2, rfl, rfl, ha, rfl, ?_⟩
    have h1 : upd H a (.lst [.bl b, .int c, .int (t + 1), .int m]) a = some (.lst [.bl b, .int c, .int (t + 1), .int m]) := upd_same
    have u1 : But a H (upd H a (.lst [.bl b, .int c, .int (t + 1), .int m])) := But.at
    show tSeq _ _ _ _ (upd H a (.lst [.bl b, .int c, .int (t + 1), .int m]))
    generalize upd H a (.lst [.bl b, .int c, .int (t + 1), .int m]) = H1 at h1 u1
    -- not stream[0]
    refine ⟨_, rfl, a, _, _, _, rfl, rfl, SqL.of h1, atI_nat (j := 0) rfl, _, rfl, ?_⟩
    cases b with
    | false =>
      refine iteT ?_
      have h2 := h1
      have u2 := u1
      refine ⟨_, rfl, a, _, _, _, rfl, rfl, SqL.of h2, atI_nat (j := 3) rfl, _, rfl, a, _, _, _, rfl, rfl, SqL.of h2, atI_nat (j := 2) rfl, _, _, rfl, rfl, .inl ⟨by decide, by decide⟩, _, _, rfl, rfl, _, rfl, a, _, _, _, rfl, rfl, SqL.of h2, atI_nat (j := 2) rfl, _, _, rfl, by omega, by omega, fun v v0 => ?_⟩
      exact ⟨_, _, rfl, rfl, ⟨by decide, by decide⟩, _, rfl, _, _, rfl, rfl, m0, q _ _ (Int.emod_nonneg _ (by omega)) (Int.emod_lt_of_pos _ m0) u2 ⟨_, _, _, h2⟩⟩
    | true =>
      refine iteF ?_
      -- stream[1] in (0, -1)
      refine ⟨_, rfl, a, _, _, _, rfl, rfl, SqL.of h1, atI_nat (j := 1) rfl, _, rfl, by show 2 ≤ sizeLine; decide, fun p hp => ?_⟩
      have h2 : upd H1 p (.tup [.int 0, .int (-1)]) a = some (.lst [.bl true, .int c, .int (t + 1), .int m]) := by
        rw [upd_ne (ne_of_none h1 hp)]
        exact h1
      have u2 : But a H (upd H1 p (.tup [.int 0, .int (-1)])) := u1.trans (But.new hp)
      refine ⟨p, _, rfl, .inr (SqT.of upd_same), rfl, rfl, _, rfl, ?_⟩
      generalize upd H1 p (.tup [.int 0, .int (-1)]) = H2 at h2 u2
      refine ite2 (fun _ => ?_) (fun _ => ?_)
      · refine ⟨_, rfl, a, _, _, _, rfl, rfl, SqL.of h2, atI_nat (j := 3) rfl, _, rfl, a, _, _, _, rfl, rfl, SqL.of h2, atI_nat (j := 2) rfl, _, _, rfl, rfl, .inl ⟨by decide, by decide⟩, _, _, rfl, rfl, _, rfl, a, _, _, _, rfl, rfl, SqL.of h2, atI_nat (j := 2) rfl, _, _, rfl, by omega, by omega, fun v v0 => ?_⟩
        exact ⟨_, _, rfl, rfl, ⟨by decide, by decide⟩, _, rfl, _, _, rfl, rfl, m0, q _ _ (Int.emod_nonneg _ (by omega)) (Int.emod_lt_of_pos _ m0) u2 ⟨_, _, _, h2⟩⟩
      · -- stream[2] > 60
        refine ⟨_, rfl, a, _, _, _, rfl, rfl, SqL.of h2, atI_nat (j := 2) rfl, _, _, rfl, rfl, _, rfl, ?_⟩
        refine ite2 (fun _ => ?_) (fun _ => ?_)
        · refine ⟨_, rfl, a, _, _, _, rfl, rfl, SqL.of h2, atI_nat (j := 3) rfl, _, rfl, a, _, _, _, rfl, rfl, SqL.of h2, atI_nat (j := 2) rfl, _, _, rfl, rfl, .inl ⟨by decide, by decide⟩, _, _, rfl, rfl, _, rfl, a, _, _, _, rfl, rfl, SqL.of h2, atI_nat (j := 2) rfl, _, _, rfl, by omega, by omega, fun v v0 => ?_⟩
          exact ⟨_, _, rfl, rfl, ⟨by decide, by decide⟩, _, rfl, _, _, rfl, rfl, m0, q _ _ (Int.emod_nonneg _ (by omega)) (Int.emod_lt_of_pos _ m0) u2 ⟨_, _, _, h2⟩⟩
        · refine ⟨_, rfl, a, _, _, _, rfl, rfl, SqL.of h2, atI_nat (j := 1) rfl, _, rfl, _, _, rfl, rfl, m0, ?_⟩
          refine ⟨_, rfl, a, _, _, _, rfl, rfl, SqL.of h2, atI_nat (j := 1) rfl, _, rfl, _, _, rfl, rfl, ⟨m0, by omega⟩, _, rfl, a, _, _, 1, rfl, rfl, h2, rfl, ?_⟩
          exact ⟨_, rfl, q _ _ (Int.emod_nonneg _ (by omega)) (Int.emod_lt_of_pos _ m0) (u2.trans But.at) ⟨_, _, _, upd_same⟩⟩
end
/-! ### the word of a refusal -/
def lawWords : List Str := ["wish", "paper", "sheet", "line", "gone", "question", "text", "such", "place", "many", "kind", "unmet", "answers", "twice"]
/-- the words whose class it is -/
def told (bs : List Bool) : List Str := ((lawWords.zip bs).filter (·.2)).map (·.1)
def wordOf (bs : List Bool) : Str := match told bs with
  | [x] => x
  | _ => "another"
/-- the fourteen classes, as the top has left them -/
structure Fourteen (mg : Str → Option Value) (c : Nat → Addr) : Prop where
  g0 : mg "BadWish" = some (.ref (c 0))
  g1 : mg "BadPaper" = some (.ref (c 1))
  g2 : mg "BadSheet" = some (.ref (c 2))
  g3 : mg "BadLine" = some (.ref (c 3))
  g4 : mg "Gone" = some (.ref (c 4))
  g5 : mg "BadQuestion" = some (.ref (c 5))
  g6 : mg "BadText" = some (.ref (c 6))
  g7 : mg "NoSuch" = some (.ref (c 7))
  g8 : mg "NoPlace" = some (.ref (c 8))
  g9 : mg "TooMany" = some (.ref (c 9))
  g10 : mg "BadKind" = some (.ref (c 10))
  g11 : mg "Unmet" = some (.ref (c 11))
  g12 : mg "NoAnswers" = some (.ref (c 12))
  g13 : mg "Twice" = some (.ref (c 13))
/-- which of them the class D is -/
def Kits (K : PySem.W.Frag) (c : Nat → Addr) (D : Addr) (bs : Nat → Bool) : Prop := ∀ i, i < 14 → PySem.W.kitOne K (.ref D) (.ref (c i)) = some (bs i)
def list14 (bs : Nat → Bool) : List Bool := [bs 0, bs 1, bs 2, bs 3, bs 4, bs 5, bs 6, bs 7, bs 8, bs 9, bs 10, bs 11, bs 12, bs 13]
theorem DictOk.same {H H' : Hp} {d : Option Addr} (h : DictOk H d) (s : Same H H') : DictOk H' d := by
  rcases h with h | ⟨dd, fs, e, q⟩
  · exact .inl h
  · exact .inr ⟨dd, fs, e, s _ _ q⟩
def spWord (K : PySem.W.Frag) (c : Nat → Addr) : Sp := fun vs H Q _ => ∃ (a D : Addr) (d : Option Addr) (bs : Nat → Bool), vs = [.ref a] ∧ H a = some (ExH (.ref D) d a) ∧ DictOk H d ∧ ExcC K D ∧ Kits K c D bs ∧ ∀ H' : Hp, Same H H' → Q (.str (wordOf (list14 bs))) H'
section
variable {P : Program} {w : World} {K : PySem.W.Frag} {mg : Str → Option Value} {base : Heap}
theorem scWord : FnScope ["_law_error", "_law_found", "_law_words", "_law_told", "_law_word_here", "_law_good"] ["_law_error"] (defScope sWord) := ⟨rfl, rfl, rfl, by decide +kernel, rfl, by decide +kernel, by decide +kernel⟩
theorem isi {X : Cx} {x : Str} {p p1 p2 pos : Pos} {a : Addr} (mi : X.mg "isinstance" = none) (g : X.mg x = some (.ref a)) (hi : Gl X "isinstance" := by rfl) (hg : Gl X x := by rfl) (hN : X.N[0]? = some ("_law_error" : Str) := by rfl) (hv : Vis X.env.scope "_law_error" := by exact Or.inl rfl) (hd : (x == ("__debug__" : Str)) = false := by decide) :
    PE X (.Call (.Name "isinstance" p) [.Name "_law_error" p1, .Name x p2] [] pos) (tCB (rIsK X.K) (tCons (tVar 0) (tCons (tC (.ref a)) tNil))) :=
  pe_callB call_isK hi mi (by decide +kernel) (pa_cons (pe_var hN hv) (pa_cons (pe_glob (v := .ref a) hg g rfl hd) pa_nil))
theorem ok_word {f : Addr} {fd : FuncData} {c : Nat → Addr} (F : Fun K "_law_word" "_law_word" sWord f fd) (T : Fourteen mg c) (mi : mg "isinstance" = none) (mz : mg "zip" = none) (ml : mg "len" = none) : FnOk P w K mg base CX0 1 f fd ["_law_error"] (spWord K c) := by
  refine F.ok scWord (fun vs H Q E h => ?_) (fun cdv A outer s H vs Q E hr h => ?_)
  · obtain ⟨a, D, d, bs, rfl, _⟩ := h
    rfl
  · obtain ⟨a, D, d, bs, rfl, ha, hdk, XC, kt, q⟩ := h
    refine ⟨_, pss_cons (ps_if (pt_cmpR op_isN (pv 0) pe_non (nomark _)) (pss_one (ps_ret pe_str)) pss_nil)
      (pss_cons (ps_set (i := 1) scWord.nd rfl (.inl rfl) (pe_lst (pa_cons (isi mi T.g0) (pa_cons (isi mi T.g1) (pa_cons (isi mi T.g2) pa_nil)))))
      (pss_cons (ps_set (i := 1) scWord.nd rfl (.inl rfl) (pe_op op_cat (pv 1) (pe_lst (pa_cons (isi mi T.g3) (pa_cons (isi mi T.g4) (pa_cons (isi mi T.g5) pa_nil))))))
      (pss_cons (ps_set (i := 1) scWord.nd rfl (.inl rfl) (pe_op op_cat (pv 1) (pe_lst (pa_cons (isi mi T.g6) (pa_cons (isi mi T.g7) (pa_cons (isi mi T.g8) pa_nil))))))
      (pss_cons (ps_set (i := 1) scWord.nd rfl (.inl rfl) (pe_op op_cat (pv 1) (pe_lst (pa_cons (isi mi T.g9) (pa_cons (isi mi T.g10) (pa_cons (isi mi T.g11) pa_nil))))))
      (pss_cons (ps_set (i := 1) scWord.nd rfl (.inl rfl) (pe_op op_cat (pv 1) (pe_lst (pa_cons (isi mi T.g12) (pa_cons (isi mi T.g13) pa_nil)))))
      (pss_cons (ps_set (i := 2) scWord.nd rfl (.inl rfl) (pe_lst (pa_cons pe_str (pa_cons pe_str (pa_cons pe_str (pa_cons pe_str (pa_cons pe_str (pa_cons pe_str (pa_cons pe_str (pa_cons pe_str (pa_cons pe_str (pa_cons pe_str (pa_cons pe_str pa_nil)))))))))))))
      (pss_cons (ps_setLc (i := 3) (own := [("_law_word_here", 4), ("_law_good", 5)]) (g := gTup K 2 (gCons (gName 4) (gCons (gName 5) gNil))) rfl scWord.nd rfl rfl (sw_true rfl rfl rfl (by decide +kernel)) (pi_zip (by rfl) mz (pa_cons (pe_op op_cat (pv 2) (pe_lst (pa_cons pe_str (pa_cons pe_str (pa_cons pe_str pa_nil))))) (pa_cons (pv 1) pa_nil)))
          (blkOk_by (N := ["_law_error", "_law_found", "_law_words", "_law_told", "_law_word_here", "_law_good"]) (sc := defScope sWord) (by decide +kernel))
          (fun _ _ _ _ _ => by exact pg_tup rfl (pgs_cons (pg_name (i := 4) scWord.nd rfl (.inl rfl)) (pgs_cons (pg_name (i := 5) scWord.nd rfl (.inl rfl)) pgs_nil))) (fun _ _ _ _ _ => pts_one (pt_val (pv 5))) (fun _ _ _ _ _ => pv 4))
      (pss_one (ps_ret (pe_ifExp (pt_cmpR op_eq (pe_callB call_len_seq (by rfl) ml PySem.boot_len (pa_cons (pv 3) pa_nil)) pe_int (nomark _)) (pe_ix ix_list (pv 3) pe_int (fun _ _ => rfl)) pe_str)))))))))), ?_⟩
    refine ⟨_, rfl, rfl, _, rfl, ite2 (fun e => absurd (of_decide_eq_true e) (by intro z; cases z)) (fun _ => ?_)⟩
    refine ⟨_, rfl, a, D, d, _, _, _, rfl, ha, hdk, XC, .own _, kt 0 (by decide), _, rfl, a, D, d, _, _, _, rfl, ha, hdk, XC, .own _, kt 1 (by decide), _, rfl, a, D, d, _, _, _, rfl, ha, hdk, XC, .own _, kt 2 (by decide), by show 3 ≤ sizeLine; decide, fun p1 hp1 => ?_⟩
    have s1 := same_upd (o := .lst [.bl (bs 0), .bl (bs 1), .bl (bs 2)]) hp1
    have l1 : upd H p1 (.lst [.bl (bs 0), .bl (bs 1), .bl (bs 2)]) p1 = some (.lst [.bl (bs 0), .bl (bs 1), .bl (bs 2)]) := upd_same
    generalize upd H p1 (.lst [.bl (bs 0), .bl (bs 1), .bl (bs 2)]) = H1 at s1 l1
    have a1 := s1 _ _ ha
    refine ⟨_, rfl, _, rfl, a, D, d, _, _, _, rfl, a1, (hdk.same s1), XC, .own _, kt 3 (by decide), _, rfl, a, D, d, _, _, _, rfl, a1, (hdk.same s1), XC, .own _, kt 4 (by decide), _, rfl, a, D, d, _, _, _, rfl, a1, (hdk.same s1), XC, .own _, kt 5 (by decide), by show 3 ≤ sizeLine; decide, fun t1 ht1 => ?_⟩
    have v1 := same_upd (o := .lst [.bl (bs 3), .bl (bs 4), .bl (bs 5)]) ht1
    refine ⟨p1, t1, _, _, rfl, rfl, v1 _ _ l1, upd_same, by show 6 ≤ sizeLine; decide, fun p2 hp2 => ?_⟩
    have s2 := (s1.trans v1).trans (same_upd (o := .lst [.bl (bs 0), .bl (bs 1), .bl (bs 2), .bl (bs 3), .bl (bs 4), .bl (bs 5)]) hp2)
    have l2 : upd (upd H1 t1 (.lst [.bl (bs 3), .bl (bs 4), .bl (bs 5)])) p2 (.lst [.bl (bs 0), .bl (bs 1), .bl (bs 2), .bl (bs 3), .bl (bs 4), .bl (bs 5)]) p2 = some (.lst [.bl (bs 0), .bl (bs 1), .bl (bs 2), .bl (bs 3), .bl (bs 4), .bl (bs 5)]) := upd_same
    show tSeq _ _ _ _ (upd (upd H1 t1 (.lst [.bl (bs 3), .bl (bs 4), .bl (bs 5)])) p2 (.lst [.bl (bs 0), .bl (bs 1), .bl (bs 2), .bl (bs 3), .bl (bs 4), .bl (bs 5)]))
    generalize upd (upd H1 t1 (.lst [.bl (bs 3), .bl (bs 4), .bl (bs 5)])) p2 (.lst [.bl (bs 0), .bl (bs 1), .bl (bs 2), .bl (bs 3), .bl (bs 4), .bl (bs 5)]) = H2 at s2 l2
    have a2 := s2 _ _ ha
    refine ⟨_, rfl, _, rfl, a, D, d, _, _, _, rfl, a2, (hdk.same s2), XC, .own _, kt 6 (by decide), _, rfl, a, D, d, _, _, _, rfl, a2, (hdk.same s2), XC, .own _, kt 7 (by decide), _, rfl, a, D, d, _, _, _, rfl, a2, (hdk.same s2), XC, .own _, kt 8 (by decide), by show 3 ≤ sizeLine; decide, fun t2 ht2 => ?_⟩
    have v2 := same_upd (o := .lst [.bl (bs 6), .bl (bs 7), .bl (bs 8)]) ht2
    refine ⟨p2, t2, _, _, rfl, rfl, v2 _ _ l2, upd_same, by show 9 ≤ sizeLine; decide, fun p3 hp3 => ?_⟩
    have s3 := (s2.trans v2).trans (same_upd (o := .lst [.bl (bs 0), .bl (bs 1), .bl (bs 2), .bl (bs 3), .bl (bs 4), .bl (bs 5), .bl (bs 6), .bl (bs 7), .bl (bs 8)]) hp3)
    have l3 : upd (upd H2 t2 (.lst [.bl (bs 6), .bl (bs 7), .bl (bs 8)])) p3 (.lst [.bl (bs 0), .bl (bs 1), .bl (bs 2), .bl (bs 3), .bl (bs 4), .bl (bs 5), .bl (bs 6), .bl (bs 7), .bl (bs 8)]) p3 = some (.lst [.bl (bs 0), .bl (bs 1), .bl (bs 2), .bl (bs 3), .bl (bs 4), .bl (bs 5), .bl (bs 6), .bl (bs 7), .bl (bs 8)]) := upd_same
    show tSeq _ _ _ _ (upd (upd H2 t2 (.lst [.bl (bs 6), .bl (bs 7), .bl (bs 8)])) p3 (.lst [.bl (bs 0), .bl (bs 1), .bl (bs 2), .bl (bs 3), .bl (bs 4), .bl (bs 5), .bl (bs 6), .bl (bs 7), .bl (bs 8)]))
    generalize upd (upd H2 t2 (.lst [.bl (bs 6), .bl (bs 7), .bl (bs 8)])) p3 (.lst [.bl (bs 0), .bl (bs 1), .bl (bs 2), .bl (bs 3), .bl (bs 4), .bl (bs 5), .bl (bs 6), .bl (bs 7), .bl (bs 8)]) = H3 at s3 l3
    have a3 := s3 _ _ ha
    refine ⟨_, rfl, _, rfl, a, D, d, _, _, _, rfl, a3, (hdk.same s3), XC, .own _, kt 9 (by decide), _, rfl, a, D, d, _, _, _, rfl, a3, (hdk.same s3), XC, .own _, kt 10 (by decide), _, rfl, a, D, d, _, _, _, rfl, a3, (hdk.same s3), XC, .own _, kt 11 (by decide), by show 3 ≤ sizeLine; decide, fun t3 ht3 => ?_⟩
    have v3 := same_upd (o := .lst [.bl (bs 9), .bl (bs 10), .bl (bs 11)]) ht3
    refine ⟨p3, t3, _, _, rfl, rfl, v3 _ _ l3, upd_same, by show 12 ≤ sizeLine; decide, fun p4 hp4 => ?_⟩
    have s4 := (s3.trans v3).trans (same_upd (o := .lst [.bl (bs 0), .bl (bs 1), .bl (bs 2), .bl (bs 3), .bl (bs 4), .bl (bs 5), .bl (bs 6), .bl (bs 7), .bl (bs 8), .bl (bs 9), .bl (bs 10), .bl (bs 11)]) hp4)
    have l4 : upd (upd H3 t3 (.lst [.bl (bs 9), .bl (bs 10), .bl (bs 11)])) p4 (.lst [.bl (bs 0), .bl (bs 1), .bl (bs 2), .bl (bs 3), .bl (bs 4), .bl (bs 5), .bl (bs 6), .bl (bs 7), .bl (bs 8), .bl (bs 9), .bl (bs 10), .bl (bs 11)]) p4 = some (.lst [.bl (bs 0), .bl (bs 1), .bl (bs 2), .bl (bs 3), .bl (bs 4), .bl (bs 5), .bl (bs 6), .bl (bs 7), .bl (bs 8), .bl (bs 9), .bl (bs 10), .bl (bs 11)]) := upd_same
    show tSeq _ _ _ _ (upd (upd H3 t3 (.lst [.bl (bs 9), .bl (bs 10), .bl (bs 11)])) p4 (.lst [.bl (bs 0), .bl (bs 1), .bl (bs 2), .bl (bs 3), .bl (bs 4), .bl (bs 5), .bl (bs 6), .bl (bs 7), .bl (bs 8), .bl (bs 9), .bl (bs 10), .bl (bs 11)]))
    generalize upd (upd H3 t3 (.lst [.bl (bs 9), .bl (bs 10), .bl (bs 11)])) p4 (.lst [.bl (bs 0), .bl (bs 1), .bl (bs 2), .bl (bs 3), .bl (bs 4), .bl (bs 5), .bl (bs 6), .bl (bs 7), .bl (bs 8), .bl (bs 9), .bl (bs 10), .bl (bs 11)]) = H4 at s4 l4
    have a4 := s4 _ _ ha
    refine ⟨_, rfl, _, rfl, a, D, d, _, _, _, rfl, a4, (hdk.same s4), XC, .own _, kt 12 (by decide), _, rfl, a, D, d, _, _, _, rfl, a4, (hdk.same s4), XC, .own _, kt 13 (by decide), by show 2 ≤ sizeLine; decide, fun t4 ht4 => ?_⟩
    have v4 := same_upd (o := .lst [.bl (bs 12), .bl (bs 13)]) ht4
    refine ⟨p4, t4, _, _, rfl, rfl, v4 _ _ l4, upd_same, by show 14 ≤ sizeLine; decide, fun p5 hp5 => ?_⟩
    have s5 := (s4.trans v4).trans (same_upd (o := .lst [.bl (bs 0), .bl (bs 1), .bl (bs 2), .bl (bs 3), .bl (bs 4), .bl (bs 5), .bl (bs 6), .bl (bs 7), .bl (bs 8), .bl (bs 9), .bl (bs 10), .bl (bs 11), .bl (bs 12), .bl (bs 13)]) hp5)
    have l5 : upd (upd H4 t4 (.lst [.bl (bs 12), .bl (bs 13)])) p5 (.lst [.bl (bs 0), .bl (bs 1), .bl (bs 2), .bl (bs 3), .bl (bs 4), .bl (bs 5), .bl (bs 6), .bl (bs 7), .bl (bs 8), .bl (bs 9), .bl (bs 10), .bl (bs 11), .bl (bs 12), .bl (bs 13)]) p5 = some (.lst [.bl (bs 0), .bl (bs 1), .bl (bs 2), .bl (bs 3), .bl (bs 4), .bl (bs 5), .bl (bs 6), .bl (bs 7), .bl (bs 8), .bl (bs 9), .bl (bs 10), .bl (bs 11), .bl (bs 12), .bl (bs 13)]) := upd_same
    show tSeq _ _ _ _ (upd (upd H4 t4 (.lst [.bl (bs 12), .bl (bs 13)])) p5 (.lst [.bl (bs 0), .bl (bs 1), .bl (bs 2), .bl (bs 3), .bl (bs 4), .bl (bs 5), .bl (bs 6), .bl (bs 7), .bl (bs 8), .bl (bs 9), .bl (bs 10), .bl (bs 11), .bl (bs 12), .bl (bs 13)]))
    generalize upd (upd H4 t4 (.lst [.bl (bs 12), .bl (bs 13)])) p5 (.lst [.bl (bs 0), .bl (bs 1), .bl (bs 2), .bl (bs 3), .bl (bs 4), .bl (bs 5), .bl (bs 6), .bl (bs 7), .bl (bs 8), .bl (bs 9), .bl (bs 10), .bl (bs 11), .bl (bs 12), .bl (bs 13)]) = H5 at s5 l5
    refine ⟨by show 11 ≤ sizeLine; decide, fun w1 hw1 => ?_⟩
    have z1 := same_upd (o := .lst ((lawWords.take 11).map V.str)) hw1
    have y1 : upd H5 w1 (.lst ((lawWords.take 11).map V.str)) w1 = some (.lst ((lawWords.take 11).map V.str)) := upd_same
    show tSeq _ _ _ _ (upd H5 w1 (.lst ((lawWords.take 11).map V.str)))
    generalize upd H5 w1 (.lst ((lawWords.take 11).map V.str)) = H6 at z1 y1
    refine ⟨_, rfl, by show 3 ≤ sizeLine; decide, fun w2 hw2 => ?_⟩
    have z2 := same_upd (o := .lst ((lawWords.drop 11).map V.str)) hw2
    refine ⟨w1, w2, _, _, rfl, rfl, z2 _ _ y1, upd_same, by show 14 ≤ sizeLine; decide, fun w3 hw3 => ?_⟩
    have l6 := z1 _ _ l5
    have z3 := same_upd (o := .lst (lawWords.map V.str)) hw3
    have l7 := z3 _ _ (z2 _ _ l6)
    refine ⟨_, rfl, w3, p5, lawWords.map V.str, (list14 bs).map V.bl, rfl, SqL.of upd_same, SqL.of l7, fun D hD => ?_⟩
    have s7 := ((s5.trans z1).trans z2).trans z3
    have nD : ∀ {b : Addr} {o : HO}, upd (upd H6 w2 (.lst ((lawWords.drop 11).map V.str))) w3 (.lst (lawWords.map V.str)) b = some o → b ≠ D := fun {b o} e => ne_of_none e hD
    have w3D := nD upd_same
    have p5D := nD l7
    refine lc_it (walk_zip (K := K) (a := w3) (b := p5) (xs := lawWords.map V.str) (ys := (list14 bs).map V.bl) (n := 14) rfl) (fun i H' => (Same H H' ∧ H' w3 = some (.lst (lawWords.map V.str)) ∧ H' p5 = some (.lst ((list14 bs).map V.bl))) ∧ H' D = some (.lst ((((lawWords.zip (list14 bs)).take i).filter (·.2)).map fun x => V.str x.1))) ⟨⟨?_, ?_, ?_⟩, ?_⟩ ?_ ?_ ?_
    · exact fun b o e => by
        rw [upd_ne (nD (s7 b o e))]
        exact s7 b o e
    · rw [upd_ne w3D]
      exact upd_same
    · rw [upd_ne p5D]
      exact l7
    · exact upd_same
    · exact fun i H' _ h => ⟨SqL.of h.1.2.1, SqL.of h.1.2.2⟩
    · rintro i x H' H'' hi ⟨⟨k1, k2, k3⟩, hd⟩ ⟨T, x1, x2, rfl, nT, rfl, f1, f2⟩
      have sT := same_upd (o := .tup [x1, x2]) nT
      dsimp only at f1 f2
      have h1 : i < lawWords.length := hi
      have h2 : i < (list14 bs).length := hi
      have e1 : x1 = V.str lawWords[i] := by
        rw [List.getElem?_map, List.getElem?_eq_getElem h1] at f1
        exact (Option.some.inj f1).symm
      have e2 : x2 = V.bl (list14 bs)[i] := by
        rw [List.getElem?_map, List.getElem?_eq_getElem h2] at f2
        exact (Option.some.inj f2).symm
      subst e1 e2
      have tk : (lawWords.zip (list14 bs)).take (i + 1) = (lawWords.zip (list14 bs)).take i ++ [(lawWords[i], (list14 bs)[i])] := by
        rw [List.take_add_one, List.getElem?_eq_getElem (by rw [List.length_zip]; omega), List.getElem_zip]
        rfl
      refine ⟨T, _, rfl, SqT.of upd_same, rfl, _, _, rfl, _, _, rfl, rfl, rfl, _, rfl, _, rfl, ?_⟩
      have hdT := sT _ _ hd
      have k1T := k1.trans sT
      have k2T := sT _ _ k2
      have k3T := sT _ _ k3
      generalize upd H' T (.tup [V.str lawWords[i], V.bl (list14 bs)[i]]) = H2 at hdT k1T k2T k3T ⊢
      cases hg : (list14 bs)[i] with
      | false =>
        refine iteF ⟨⟨k1T, k2T, k3T⟩, ?_⟩
        rw [tk, hg, List.filter_append]
        show H2 D = some (.lst (List.map _ (List.filter _ _ ++ [])))
        rw [List.append_nil]
        exact hdT
      | true =>
        have off : ∀ {b : Addr} {o o' : HO}, b ≠ D → H2 b = some o → upd H2 D o' b = some o := fun {b o o'} n e => by
          rw [upd_ne n]
          exact e
        refine iteT ⟨_, rfl, _, hdT, ?_, ⟨fun b o e => off (nD (s7 b o e)) (k1T b o e), off w3D k2T, off p5D k3T⟩, ?_⟩
        · rw [List.length_map]
          refine Nat.lt_of_le_of_lt (List.length_filter_le _ _) ?_
          rw [List.length_take, sizeLine_eq]
          omega
        · rw [upd_same, tk, hg, List.filter_append, List.map_append]
          rfl
    · rintro H' ⟨⟨k1, k2, k3⟩, hd⟩
      have hd' : H' D = some (.lst ((told (list14 bs)).map V.str)) := by
        rw [hd]
        unfold told
        rw [List.map_map, List.take_of_length_le (show 14 ≤ 14 from Nat.le_refl _)]
        rfl
      refine ⟨_, rfl, D, _, rfl, .inl (SqL.of hd'), rfl, _, rfl, ?_⟩
      have qq := q H' k1
      unfold wordOf at qq
      revert qq hd'
      generalize told (list14 bs) = ts
      intro hd' qq
      match ts, hd', qq with
      | [], hd', qq => exact iteF qq
      | [x], hd', qq => exact iteT ⟨_, rfl, D, _, _, _, rfl, rfl, SqL.of hd', atI_nat (j := 0) rfl, qq⟩
      | x :: y :: r, hd', qq =>
        refine ite2 (fun e => ?_) (fun _ => qq)
        have e2 := V.int.inj (of_decide_eq_true e)
        rw [List.length_map, List.length_cons, List.length_cons] at e2
        omega
end
end Pk
namespace Pk
open PySem L2
theorem len_is (z : Str) : z.length = z.cps.toList.length := TL.len_tl z
theorem blank_tl : TL.tl (" " : Str) = [32] := by decide +kernel
theorem empty_tl : TL.tl ("" : Str) = [] := by decide +kernel
/-! ### a text so many times -/
theorem mul_ok {z : Str} {n : Int} (hz : z.length ≤ 100000) (n0 : 0 ≤ n) (n1 : n ≤ 100) : MulOk z n := by
  refine ⟨?_, fun h1 _ h3 => ?_, fun h1 _ => ?_⟩
  · rw [Bool.or_eq_false_iff]
    exact ⟨decide_eq_false (by omega), decide_eq_false (by omega)⟩
  · have : (100000 : Int) ≤ (2 ^ 63 - 1 : Int) / n := Int.le_ediv_of_mul_le (by omega) (by omega)
    omega
  · have h : z.length * n.toNat ≤ 100000 * 100 := Nat.mul_le_mul hz (by omega)
    show decide (z.length * n.toNat > sizeLine) = false
    refine decide_eq_false ?_
    rw [sizeLine_eq]
    omega
theorem fold_app : ∀ (n : Nat) (x : Array Nat) (a : Array Nat), ((List.replicate n x).foldl (· ++ ·) a).toList = a.toList ++ (List.replicate n x.toList).flatten
  | 0, x, a => by simp
  | n + 1, x, a => by
    rw [List.replicate_succ, List.foldl_cons, fold_app n x (a ++ x), Array.toList_append, List.replicate_succ, List.flatten_cons, List.append_assoc]
theorem mul_tl (z : Str) {n : Int} (n0 : 0 ≤ n) : TL.tl (Txt.mul z n) = (List.replicate n.toNat (TL.tl z)).flatten := by
  unfold Txt.mul
  by_cases h1 : n < 1
  · have e : n = 0 := by omega
    subst e
    rw [if_pos h1]
    rfl
  · rw [if_neg h1]
    by_cases h2 : n = 1
    · subst h2
      show z.cps.toList = _
      simp
    · by_cases h3 : z.length = 0
      · rw [if_pos (by simp [h3])]
        have e : TL.tl z = [] := List.length_eq_zero_iff.mp (by rw [← TL.len_tl]; exact h3)
        rw [e]
        simp
      · rw [if_neg (by simp [h2, h3])]
        show ((List.replicate n.toNat z.cps).foldl (· ++ ·) #[]).toList = _
        rw [fold_app]
        rfl
theorem mul_len (z : Str) {n : Int} (n0 : 0 ≤ n) : (Txt.mul z n).length = n.toNat * z.length := by
  rw [TL.len_tl, mul_tl z n0, TL.len_tl]
  simp
/-- all signs are code points -/
def SOk (z : Str) : Prop := ∀ c ∈ z.cps.toList, c < 0x110000
theorem sok_iff (z : Str) : PyData.strOk z = true ↔ SOk z := by
  unfold PyData.strOk SOk
  rw [← Array.all_toList, List.all_eq_true]
  exact ⟨fun h c hc => of_decide_eq_true (h c hc), fun h c hc => decide_eq_true (h c hc)⟩
theorem sok_app {x y : Str} (hx : SOk x) (hy : SOk y) : SOk (x ++ y) := fun c hc => by
  rw [show (x ++ y).cps.toList = x.cps.toList ++ y.cps.toList from TL.tl_append x y] at hc
  rcases List.mem_append.mp hc with h | h
  · exact hx c h
  · exact hy c h
theorem sok_mul {x : Str} (hx : SOk x) {n : Int} (n0 : 0 ≤ n) : SOk (Txt.mul x n) := fun c hc => by
  rw [show (Txt.mul x n).cps.toList = _ from mul_tl x n0] at hc
  obtain ⟨l, hl, h⟩ := List.mem_flatten.mp hc
  rw [(List.mem_replicate.mp hl).2] at h
  exact hx c h
theorem joinL_mem {c : Nat} : ∀ l : List (List Nat), c ∈ TL.joinL [] l → ∃ p ∈ l, c ∈ p
  | [], h => by cases h
  | [p], h => ⟨p, List.mem_cons_self, h⟩
  | p :: q :: r, h => by
    have h' : c ∈ p ++ ([] ++ TL.joinL [] (q :: r)) := h
    rcases List.mem_append.mp h' with h | h
    · exact ⟨p, List.mem_cons_self, h⟩
    · obtain ⟨x, hx, hc⟩ := joinL_mem (q :: r) h
      exact ⟨x, List.mem_cons_of_mem _ hx, hc⟩
theorem sok_join {ys : List Str} (h : ∀ y ∈ ys, SOk y) : SOk (Txt.join "" ys) := fun c hc => by
  rw [show (Txt.join "" ys).cps.toList = TL.joinL (TL.tl "") (ys.map TL.tl) from by rw [TL.join_eq]; exact TL.tl_join "" ys, empty_tl] at hc
  obtain ⟨p, hp, hm⟩ := joinL_mem _ hc
  obtain ⟨y, hy, rfl⟩ := List.mem_map.mp hp
  exact h y hy c hm
theorem sok_blank : SOk " " := fun c hc => by
  rw [show (" " : Str).cps.toList = [32] from blank_tl, List.mem_singleton] at hc
  rw [hc]
  decide
theorem at_some {α : Type} {l : List α} {i : Int} (h0 : 0 ≤ i) (h1 : i < l.length) : ∃ c, atI l i = some c ∧ c ∈ l := by
  obtain ⟨j, rfl⟩ := Int.eq_ofNat_of_zero_le h0
  have hj : j < l.length := by omega
  exact ⟨l[j], atI_nat (List.getElem?_eq_getElem hj), List.getElem_mem hj⟩
theorem joinL_len : ∀ l : List (List Nat), (TL.joinL [] l).length = (l.map List.length).sum
  | [] => rfl
  | [p] => by simp [TL.joinL]
  | p :: q :: r => by
    have ih := joinL_len (q :: r)
    show (p ++ ([] ++ TL.joinL [] (q :: r))).length = _
    rw [List.nil_append, List.length_append, ih]
    simp
theorem join0_len (ys : List Str) : (Txt.join "" ys).length = (ys.map (·.length)).sum := by
  rw [TL.len_tl, TL.join_eq, TL.tl_join, empty_tl, joinL_len, List.map_map]
  exact congrArg List.sum (List.map_congr_left fun p _ => (TL.len_tl p).symm)
theorem app_len (x y : Str) : (x ++ y).length = x.length + y.length := by
  rw [TL.len_tl, TL.tl_append, List.length_append, ← TL.len_tl, ← TL.len_tl]
def S (l : List Nat) : Str := ⟨l.toArray⟩
theorem S_tl (l : List Nat) : TL.tl (S l) = l := rfl
theorem S_len (l : List Nat) : (S l).length = l.length := TL.len_tl _
end Pk
namespace Pk
open PySem L2
/-! ### things that are handed in -/
/-- signs that the texts have: from the blank to ~ but the percent sign, and line ends -/
def Sgn (z : Str) : Prop := ∀ c ∈ z.cps.toList, (32 ≤ c ∧ c ≤ 126 ∧ c ≠ 37) ∨ c = 10
theorem Sgn.ok {z : Str} (h : Sgn z) : SOk z := fun c hc => by
  rcases h c hc with q | q
  · omega
  · rw [q]
    decide
inductive Itm (H : Hp) : V → Prop
  | non : Itm H .non
  | bl (b : Bool) : Itm H (.bl b)
  | int (i : Int) (h : i.natAbs.log2 < 300) : Itm H (.int i)
  | str (z : Str) (hl : z.length ≤ 100) (ho : Sgn z) : Itm H (.str z)
  | lst {a : Addr} {v : V} (h : H a = some (.lst [v])) (hv : v = .int 1 ∨ ∃ z, v = .str z ∧ z.length ≤ 100 ∧ Sgn z) : Itm H (.ref a)
  | tup {a : Addr} (h : H a = some (.tup [.int 1])) : Itm H (.ref a)
  | dct {a : Addr} (h : H a = some (.dK [])) : Itm H (.ref a)
theorem Itm.same {H H' : Hp} {x : V} (h : Itm H x) (s : Same H H') : Itm H' x := by
  cases h with
  | non => exact .non
  | bl b => exact .bl b
  | int i h => exact .int i h
  | str z hl ho => exact .str z hl ho
  | lst h hv => exact .lst (s _ _ h) hv
  | tup h => exact .tup (s _ _ h)
  | dct h => exact .dct (s _ _ h)
def vInt : V → Bool
  | .int _ => true
  | _ => false
def vBool : V → Bool
  | .bl _ => true
  | _ => false
def vStr : V → Bool
  | .str _ => true
  | _ => false
theorem Itm.ty {K : PySem.W.Frag} {H : Hp} {x : V} (h : Itm H x) : ∃ t : String, TyX K H x (.type t) ∧ kitB t "int" = some (vInt x || vBool x) ∧ kitB t "bool" = some (vBool x) ∧ kitB t "str" = some (vStr x) := by
  cases h with
  | non => exact ⟨_, .base .non, by decide +kernel, by decide +kernel, by decide +kernel⟩
  | bl b => exact ⟨_, .base (.bl b), (by decide +kernel : kitB "bool" "int" = some true), (by decide +kernel : kitB "bool" "bool" = some true), (by decide +kernel : kitB "bool" "str" = some false)⟩
  | int i h => exact ⟨_, .base (.int i), (by decide +kernel : kitB "int" "int" = some true), (by decide +kernel : kitB "int" "bool" = some false), (by decide +kernel : kitB "int" "str" = some false)⟩
  | str z hl ho => exact ⟨_, .base (.str z), (by decide +kernel : kitB "str" "int" = some false), (by decide +kernel : kitB "str" "bool" = some false), (by decide +kernel : kitB "str" "str" = some true)⟩
  | lst h hv => exact ⟨_, .base (.lst h), (by decide +kernel : kitB "list" "int" = some false), (by decide +kernel : kitB "list" "bool" = some false), (by decide +kernel : kitB "list" "str" = some false)⟩
  | tup h => exact ⟨_, .base (.tup h), (by decide +kernel : kitB "tuple" "int" = some false), (by decide +kernel : kitB "tuple" "bool" = some false), (by decide +kernel : kitB "tuple" "str" = some false)⟩
  | dct h => exact ⟨_, .base (.dK h), (by decide +kernel : kitB "dict" "int" = some false), (by decide +kernel : kitB "dict" "bool" = some false), (by decide +kernel : kitB "dict" "str" = some false)⟩
/-- whether it is a whole number from lo to hi -/
def whole (x : V) (lo hi : Int) : Bool := match x with
  | .int i => decide (lo ≤ i) && decide (i ≤ hi)
  | _ => false
def letters : Str := "abcdefghijklmnopqrstuvwxyz"
def nameT (z : Str) : Bool := decide (1 ≤ z.length) && decide (z.length ≤ 8) && z.cps.toList.all fun c => decide (c ∈ letters.cps.toList)
def nameV : V → Bool
  | .str z => nameT z
  | _ => false
def signOk (c : Nat) : Bool := decide (32 ≤ c) && decide (c ≤ 126) && !decide (c = 37)
def textT (z : Str) : Bool := decide (1 ≤ z.length) && decide (z.length ≤ 30) && !decide (z.cps.toList[0]? = some 32) && !decide (z.cps.toList.getLast? = some 32) && z.cps.toList.all signOk
def textV : V → Bool
  | .str z => textT z
  | _ => false
end Pk
/-! ### how many texts of a tuple are unlike: len(set(texts)) -/
namespace Pk
open PySem PyProof.Rows
/-- which of the first i there are, and how many unlike ones -/
def seen (zs : List Str) (i : Nat) (k : Str) : Bool := (zs.take i).any (· == k)
def unlike (zs : List Str) : Nat → Nat
  | 0 => 0
  | i + 1 => if seen zs i (zs.getD i Str.empty) = true then unlike zs i else unlike zs i + 1
theorem unlike_le (zs : List Str) : ∀ i, unlike zs i ≤ i
  | 0 => Nat.le_refl _
  | i + 1 => by
    have := unlike_le zs i
    unfold unlike
    split <;> omega
theorem seen_next {zs : List Str} {i : Nat} (h : i < zs.length) (k : Str) : (seen zs i k || decide (k = zs.getD i Str.empty)) = seen zs (i + 1) k := by
  unfold seen
  have e1 : zs.getD i Str.empty = zs[i] := by rw [List.getD_eq_getElem?_getD, List.getElem?_eq_getElem h]; rfl
  rw [List.take_add_one, List.getElem?_eq_getElem h, List.any_append, e1]
  show _ = (_ || ((zs[i] == k) || false))
  rw [Bool.or_false]
  congr 1
  by_cases e : k = zs[i]
  · rw [decide_eq_true e, e]
    exact (beq_self_eq_true _).symm
  · rw [decide_eq_false e]
    exact (beq_eq_false_iff_ne.mpr (fun q => e q.symm)).symm
section
variable {prog : Program} {w : World} {A : Around} {R : Result → Shared → Prop} {it : Addr} {fp wr : List Addr} {G : Array GenState → Array GenState → Prop} {n : Nat} {Pv : Nat → Value → Prop} {St : Nat → Shared → Prop}
theorem fill_texts (W : WalksS prog w A.in1 it fp wr G n Pv St) (b : Addr) (hb : b ∉ fp) (zs : List Str) (hz : zs.length = n) (room : n + 1 < scanBound)
    (hv : ∀ i v, Pv i v → ∃ t, v = .str (zs.getD i Str.empty) t) :
    ∀ (m i : Nat) (s : Shared), n - i = m → i ≤ n → St i s → s.heap.SetOf (PySem.strKind prog w) b (seen zs i) (unlike zs i) →
      (∀ s', Moved (b :: wr) G s s' → s'.heap.SetOf (PySem.strKind prog w) b (seen zs n) (unlike zs n) → R (.ok (.ret .none)) s') →
      codeAny (model prog w) A (.builtin "set.update.loop" ⟨[.ref b, .ref it], []⟩) R s := by
  have nw : b ∉ wr := fun h => hb (W.sub _ h)
  have up : ∀ c ∈ wr, c ∈ b :: wr := fun c hc => List.mem_cons_of_mem _ hc
  have keepS : ∀ {s s' : Shared} {i : Nat}, Moved wr G s s' → s.heap.SetOf (PySem.strKind prog w) b (seen zs i) (unlike zs i) → s'.heap.SetOf (PySem.strKind prog w) b (seen zs i) (unlike zs i) := fun mv hS => by
    obtain ⟨o, es, ep, t, ho, rest⟩ := hS
    exact ⟨o, es, ep, t, mv.heap b _ nw ho, rest⟩
  intro m
  induction m with
  | zero =>
    intro i s e1 e2 e3 e4 e5
    have e6 : i = n := by omega
    subst e6
    refine codeAny_builtin F.entry_set_update_loop ?_
    rw [Around.under_plainId F.plain_set_update_loop _]
    show wpAny _ A.in1 (pyNext (.ref it) >>= _) _ _ s
    refine wpAny_bind (W.done s _ _ e3 fun s' mv => ?_)
    show wpAny _ A.in1 (ret Value.none) _ _ s'
    exact wpAny_pure (e5 s' (mv.mono up) (keepS mv e4))
  | succ m ih =>
    intro i s e1 e2 e3 e4 e5
    have lt : i < n := by omega
    have li := unlike_le zs i
    refine codeAny_builtin F.entry_set_update_loop ?_
    rw [Around.under_plainId F.plain_set_update_loop _]
    show wpAny _ A.in1 (pyNext (.ref it) >>= _) _ _ s
    refine wpAny_bind (W.item i s _ _ lt e3 fun v s' pv st' mv => ?_)
    obtain ⟨t, rfl⟩ := hv i v pv
    have e7 : s'.heap.SetOf (PySem.strKind prog w) b (seen zs i) (unlike zs i) := keepS mv e4
    show wpAny _ A.in1 (holding [Value.str (zs.getD i Str.empty) t] (setAdd b (.str (zs.getD i Str.empty) t)) >>= _) _ _ s'
    refine wpAny_bind (wpAny_holding ?_)
    unfold setAdd
    refine wpAny_holding (wpAny_bind ((PySem.strKind prog w).pyHash (k := zs.getD i Str.empty) (strKind_is _ _ _ _) ?_))
    refine wpAny_setAddHashed_of (knd := PySem.strKind prog w) (s := { s' with toks := s'.toks + 1 }) (strKind_is _ _ _ _) rfl e7 (by omega) fun h' hsb hS2 => ?_
    have hSi : h'.SetOf (PySem.strKind prog w) b (seen zs (i + 1)) (unlike zs (i + 1)) :=
      SetOf_congr hS2 (fun k => seen_next (by omega) k) rfl
    refine wpAny_pure ⟨plainId_quiet F.plain_set_update_loop _, ih (i + 1) _ (by omega) lt (W.frame _ s' _ _ st' (Nat.le_succ _) fun c hc o e => ?_) hSi fun s'' mv2 hS3 => ?_⟩
    · rw [hsb.2 c (fun h : c = b => hb (h ▸ hc))]
      exact e
    · refine e5 s'' (Moved.trans W.gtrans ((mv.mono up).then_heap (Nat.le_succ _) fun c o hc e => ?_) mv2) hS3
      rw [hsb.2 c (fun h : c = b => hc (by rw [h]; exact List.mem_cons_self))]
      exact e
end

section
variable {prog : Program} {w : World} {A : Around} {E : Value → Shared → Prop} {s : Shared}
abbrev bare (d : Bool) : Obj := { cls := .type "set", dict := none, data := .set #[] 0 (.fresh 0 0 d) }
/-- set(texts), of a tuple of texts -/
theorem set_of_texts {l : Addr} {its : Array Value} {zs : List Str} {Q : Value → Shared → Prop} (hh : A.handled = none) (hl : s.heap.IsTuple l its) (hi : StrsAre its.toList zs) (room : zs.length + 1 < scanBound)
    (h : ∀ (h' : Heap) (tk : Nat), h'.SetOf (PySem.strKind prog w) s.heap.objs.size (seen zs zs.length) (unlike zs zs.length) →
      (∀ c o, c < s.heap.objs.size → s.heap.get? c = some o → h'.get? c = some o) → Q (.ref s.heap.objs.size) { s with heap := h', toks := tk }) :
    wpAny (model prog w) A (call (.type "set") [.ref l]) Q E s := by
  have hsz : zs.length = its.size := by rw [← StrsAre.len_eq hi, Array.length_toList]
  obtain ⟨c0, tl0, m0⟩ := PySem.F.called_set.mro
  have m1 := PySem.F.called_set.made
  have m2 := PySem.F.called_set.sub
  refine wpAny_call (codeAny_of_tree ?_)
  show wpAny _ _ (callAny (.type "set") _) _ _ _
  refine wpAny_pure ⟨Code.quiet_builtin _ (by decide +kernel), codeAny_builtin PySem.F.entry_type_call ?_⟩
  rw [Around.under_plain (weight_type_call_type "set" [.ref l] []) rfl]
  have m3 := PySem.F.called_set.notType
  have m4 := PySem.F.called_set.canCreate
  have m5 := PySem.F.typeCall_set_1 (.ref l)
  repeat (any_goals (first | assumption | wp_step))
  refine codeAny_mono (code_set_new_1 (.ref l) (E := E) (Q₁ := fun x s₁ => ∃ d : Bool, x = .ref s.heap.objs.size ∧ s₁ = { s with heap := s.heap.push (bare d) }) fun d => ⟨d, rfl, rfl⟩) fun r s₁ hr => ?_
  cases r with
  | error e => exact hr
  | ok fl =>
    cases fl with
    | ret x =>
      obtain ⟨d, rfl, rfl⟩ := hr
      have n1 : (s.heap.push (bare d)).get? s.heap.objs.size = some (bare d) := Heap.get?_push_size _ rfl
      have n2 : Shared.TypeIs { s with heap := s.heap.push (bare d) } (.ref s.heap.objs.size) "set" := ⟨_, n1, rfl⟩
      have n3 := PySem.F.called_set.init.lookup
      have n4 := PySem.F.called_set.init.bind (.ref s.heap.objs.size)
      repeat (any_goals (first | assumption | wp_step))
      refine codeAny_mono (codeAny_call_builtin (R := wants (fun r s₂ => r = .none ∧ ∃ h' tk, s₂ = { s with heap := h', toks := tk } ∧
          h'.SetOf (PySem.strKind prog w) s.heap.objs.size (seen zs zs.length) (unlike zs zs.length) ∧
          (∀ c o, c < s.heap.objs.size → s.heap.get? c = some o → h'.get? c = some o)) E) PySem.F.called_set.init.plain PySem.F.entry_set_init (check_set_init_1 n2 ?_)) fun r₂ s₂ hr₂ => ?_
      · obtain ⟨⟨oc, od, odt, osl⟩, hol, hcl, nl, hdl⟩ := hl
        simp only at hcl hdl
        subst hcl; subst hdl
        have k1 : (s.heap.push (bare d)).get? l = some { cls := .type "tuple", dict := od, data := .seq its nl, slots := osl } := Heap.get?_push_of_some _ hol
        have k2 := PySem.F.sub_tuple_set
        have k3 := PySem.F.sub_tuple_frozenset
        have k4 : (Value.type "tuple" == Value.type "dict") = false := by decide
        have k5 : (s.heap.push (bare d)).IsTuple l its := ⟨_, k1, rfl, nl, rfl⟩
        have k6 : l < s.heap.objs.size := Heap.lt_size hol
        unfold Builtin.«set.__init__» noKeywords Builtin.Frozenset.updateFrom
        generalize hPI : pyIter = PI
        wp_walk
        subst hPI
        refine wpAny_pyIter_tuple k5 ?_
        refine wpAny_bind (wpAny_runValue ?_)
        have k7 : l ≠ (s.heap.push (bare d)).objs.size := by
          rw [Heap.size_push]
          exact Nat.ne_of_lt (Nat.lt_succ_of_lt k6)
        have k8 : s.heap.objs.size ∉ [(s.heap.push (bare d)).objs.size, l] := by
          rw [Heap.size_push]
          intro q
          rcases List.mem_cons.mp q with q | q
          · exact absurd q (Nat.ne_of_lt (Nat.lt_succ_self _))
          · exact absurd (List.mem_singleton.mp q) (Nat.ne_of_gt k6)
        refine fill_texts ((Walks.tuple (by simp [hh]) _ l k7 its).toS) s.heap.objs.size k8 zs hsz (by omega)
          (fun i v hv => SS.strs_at hi i v (by rw [Array.getElem?_toList]; exact hv)) (its.size - 0) 0 _ (by omega) (Nat.zero_le _)
          ⟨⟨_, Heap.get?_push_size _ rfl, rfl, rfl⟩, k5.push _⟩ ?pk_s0 ?pk_s1
        case pk_s0 =>
          exact SetOf_congr ((setObjOf_fresh (knd := PySem.strKind prog w) d).setOf (Heap.get?_push_of_some _ n1) (by unfold scanBound; omega)) (fun _ => rfl) rfl
        case pk_s1 =>
          rintro ⟨h', g', d', tk', os'⟩ mv hS'
          obtain rfl : g' = s.gens := mv.gens
          obtain rfl : d' = s.drawn := mv.drawn
          obtain rfl : os' = s.os := mv.os
          show wpAny _ _ _ _ _ _
          refine wpAny_pure ?_
          show wpAny _ _ (ret Value.none) _ _ _
          refine wpAny_pure ⟨rfl, h', tk', rfl, by rw [hsz]; exact hS', fun c o hc e => ?_⟩
          refine mv.heap c o (fun q => ?_) (Heap.get?_push_of_some _ (Heap.get?_push_of_some _ e))
          rw [Heap.size_push] at q
          rcases List.mem_cons.mp q with q | q
          · exact absurd q (Nat.ne_of_lt hc)
          · exact absurd (List.mem_singleton.mp q) (Nat.ne_of_lt (Nat.lt_succ_of_lt hc))
      · cases r₂ with
        | error e => exact hr₂
        | ok fl₂ =>
          cases fl₂ with
          | ret r =>
            obtain ⟨rfl, h', tk, rfl, hS', hk'⟩ := hr₂
            repeat (any_goals (first | assumption | wp_step))
            exact h _ _ hS' hk'
          | _ => exact hr₂.elim
    | _ => exact hr.elim
end
end Pk
namespace Pk
open PySem PySem.Spec L2
/-- len(set(texts)) -/
def tLenTexts (K : PySem.W.Frag) (ta : TE) : TE := fun σ H Q => ta σ H fun x H1 => ∃ (l : Addr) (zs : List Str), x = .ref l ∧ SqT K H1 l (zs.map V.str) ∧ zs.length ≤ 1000 ∧ Q (.int (unlike zs zs.length : Nat)) H1
theorem pe_lenTexts {X : Cx} {a : Expr} {ta : TE} {p p2 q pos : Pos} (hg : Gl X "len") (hm : X.mg "len" = none) (hg2 : Gl X "set") (hm2 : X.mg "set" = none) (ha : PE X a ta) (hc : X.calm = true := by rfl)
    (na : starEach [a] X.env = (false, eval a X.env) :: starEach [] X.env := by rfl) : PE X (.Call (.Name "len" p) [.Call (.Name "set" p2) [a] [] q] [] pos) (tLenTexts X.K ta) := by
  constructor
  intro pins s σ H Q I h
  refine PyProof.Rows.Call_ (ld_blt I hg hm boot_len (PyProof.Rows.callWith_builtin1 (PyProof.Rows.args_cons ?_ rfl) rfl rfl))
  refine PyProof.Rows.Call_ (ld_blt I hg2 hm2 PyProof.Rows.boot_set ?_)
  refine PyProof.Rows.callWith_type1 (PyProof.Rows.args_cons (thn (ha.run pins s σ H _ I h) ?_) na) na rfl
  rintro v s1 ⟨x, H1, I1, r1, l, zs, rfl, hq, hl, q1⟩
  cases r1
  obtain ⟨its, r, pl, hz⟩ := I1.tuple hq
  refine PyProof.Rows.args_nil (set_of_texts (I1.ok.hd hc) pl (by simpa using strsAre_of r) (by unfold scanBound; omega) fun h' tk hS hk => PyProof.Rows.args_nil ?_)
  obtain ⟨o, es, ep, t, ho, hex, hd, _, _, _, hf, hn⟩ := hS
  have hu := unlike_le zs zs.length
  refine call_len_set ho hex hd hf (by rw [hn]; omega) ⟨.int (unlike zs zs.length : Nat), H1, (I1.kept fun c o e => hk c o (Heap.lt_size e) e).tok _, ⟨_, by rw [hn]⟩, q1⟩
end Pk
namespace Pk
open PySem L2
/-! ### things of any of the plain kinds -/
inductive Thg (H : Hp) : V → Prop
  | non : Thg H .non
  | bl (b : Bool) : Thg H (.bl b)
  | int (i : Int) : Thg H (.int i)
  | str (z : Str) (hl : z.length ≤ 1000) (ho : Sgn z) : Thg H (.str z)
  | lst {a : Addr} {vs : List V} (h : H a = some (.lst vs)) : Thg H (.ref a)
  | tup {a : Addr} {vs : List V} (h : H a = some (.tup vs)) : Thg H (.ref a)
  | dct {a : Addr} {kvs : List (Key × V)} (h : H a = some (.dK kvs)) : Thg H (.ref a)
theorem Thg.same {H H' : Hp} {x : V} (h : Thg H x) (s : Same H H') : Thg H' x := by
  cases h with
  | non => exact .non
  | bl b => exact .bl b
  | int i => exact .int i
  | str z hl ho => exact .str z hl ho
  | lst h => exact .lst (s _ _ h)
  | tup h => exact .tup (s _ _ h)
  | dct h => exact .dct (s _ _ h)
/-- the things of a tuple -/
def tupO : Option HO → Option (List V)
  | some (.tup vs) => some vs
  | _ => none
def tupV (H : Hp) : V → Option (List V)
  | .ref a => tupO (H a)
  | _ => none
theorem tupV_ref (H : Hp) (a : Addr) : tupV H (.ref a) = tupO (H a) := rfl
theorem tupV_at {H : Hp} {a : Addr} {vs : List V} (h : H a = some (.tup vs)) : tupV H (.ref a) = some vs := by
  rw [tupV_ref, h]
  rfl
theorem tupV_of {H : Hp} {x : V} {vs : List V} (h : tupV H x = some vs) : ∃ a, x = .ref a ∧ H a = some (.tup vs) := by
  cases x with
  | ref a =>
    rw [tupV_ref] at h
    refine ⟨a, rfl, ?_⟩
    generalize H a = o at h
    cases o with
    | none => cases h
    | some o =>
      cases o with
      | tup ws =>
        cases h
        rfl
      | _ => cases h
  | _ => cases h
theorem Thg.tupS {H H' : Hp} {x : V} (h : Thg H x) (s : Same H H') : tupV H' x = tupV H x := by
  cases h with
  | non => rfl
  | bl b => rfl
  | int i => rfl
  | str z hl ho => rfl
  | lst h =>
    have e := s _ _ h
    rw [tupV_ref, tupV_ref, h, e]
  | tup h => rw [tupV_at h, tupV_at (s _ _ h)]
  | dct h =>
    have e := s _ _ h
    rw [tupV_ref, tupV_ref, h, e]
theorem Thg.ty {K : PySem.W.Frag} {H : Hp} {x : V} (h : Thg H x) : ∃ t : String, TyX K H x (.type t) ∧ kitB t "int" = some (vInt x || vBool x) ∧ kitB t "bool" = some (vBool x) ∧ kitB t "str" = some (vStr x) ∧ kitB t "tuple" = some (tupV H x).isSome := by
  cases h with
  | non => exact ⟨_, .base .non, by decide +kernel, by decide +kernel, by decide +kernel, (by decide +kernel : kitB "NoneType" "tuple" = some false)⟩
  | bl b => exact ⟨_, .base (.bl b), (by decide +kernel : kitB "bool" "int" = some true), (by decide +kernel : kitB "bool" "bool" = some true), (by decide +kernel : kitB "bool" "str" = some false), (by decide +kernel : kitB "bool" "tuple" = some false)⟩
  | int i => exact ⟨_, .base (.int i), (by decide +kernel : kitB "int" "int" = some true), (by decide +kernel : kitB "int" "bool" = some false), (by decide +kernel : kitB "int" "str" = some false), (by decide +kernel : kitB "int" "tuple" = some false)⟩
  | str z hl ho => exact ⟨_, .base (.str z), (by decide +kernel : kitB "str" "int" = some false), (by decide +kernel : kitB "str" "bool" = some false), (by decide +kernel : kitB "str" "str" = some true), (by decide +kernel : kitB "str" "tuple" = some false)⟩
  | lst h =>
    refine ⟨_, .base (.lst h), (by decide +kernel : kitB "list" "int" = some false), (by decide +kernel : kitB "list" "bool" = some false), (by decide +kernel : kitB "list" "str" = some false), ?_⟩
    rw [tupV_ref, h]
    exact (by decide +kernel : kitB "list" "tuple" = some false)
  | tup h =>
    refine ⟨_, .base (.tup h), (by decide +kernel : kitB "tuple" "int" = some false), (by decide +kernel : kitB "tuple" "bool" = some false), (by decide +kernel : kitB "tuple" "str" = some false), ?_⟩
    rw [tupV_at h]
    exact (by decide +kernel : kitB "tuple" "tuple" = some true)
  | dct h =>
    refine ⟨_, .base (.dK h), (by decide +kernel : kitB "dict" "int" = some false), (by decide +kernel : kitB "dict" "bool" = some false), (by decide +kernel : kitB "dict" "str" = some false), ?_⟩
    rw [tupV_ref, h]
    exact (by decide +kernel : kitB "dict" "tuple" = some false)
def nameE (x : V) : Bool := nameV x || decide (x = .str "")
def strV : V → Str
  | .str z => z
  | _ => ""
/-- whether these things are two to six unlike texts -/
def answersL (vs : List V) : Bool := decide (2 ≤ vs.length) && decide (vs.length ≤ 6) && vs.all textV && decide (unlike (vs.map strV) vs.length = vs.length)
def answersV (H : Hp) (x : V) : Bool := match tupV H x with
  | some vs => answersL vs
  | none => false
theorem strs_of : ∀ {vs : List V}, vs.all textV = true → vs = (vs.map strV).map V.str
  | [], _ => rfl
  | v :: vs, h => by
    rw [List.all_cons, Bool.and_eq_true] at h
    obtain ⟨h1, h2⟩ := h
    rw [List.map_cons, List.map_cons, ← strs_of h2]
    congr 1
    cases v with
    | str z => rfl
    | _ => cases h1
end Pk
namespace Pk
open PySem L2
/-! ### signs of names and texts, by str's own looks -/
theorem low_alpha : ∀ c < 128, (Unicode.isAlpha c && !(Unicode.isUpper c || Unicode.isTitle c)) = decide (c ∈ letters.cps.toList) := by decide +kernel
theorem low_lower : ∀ c < 128, decide (c ∈ letters.cps.toList) = Unicode.isLower c := by decide +kernel
theorem low_print : ∀ c < 128, (Unicode.isPrintable c && !decide (c = 37)) = signOk c := by decide +kernel
theorem letters_low : ∀ c ∈ letters.cps.toList, c < 128 := by decide +kernel
theorem name_signs (z : Str) (h : 1 ≤ z.length) : (Txt.isascii z && (Txt.isalpha z && Txt.islower z)) = z.cps.toList.all fun c => decide (c ∈ letters.cps.toList) := by
  unfold Txt.isascii Txt.isalpha Txt.islower
  rw [← Array.all_toList, ← Array.all_toList, ← Array.any_toList, ← Array.any_toList]
  have hl : z.cps.toList.length = z.length := rfl
  rw [show decide (z.length > 0) = true from decide_eq_true h, Bool.true_and]
  generalize z.cps.toList = l at hl ⊢
  rw [← hl] at h
  rw [Bool.eq_iff_iff]
  simp only [Bool.and_eq_true, List.all_eq_true, List.any_eq_true, Bool.not_eq_true', decide_eq_true_eq]
  constructor
  · rintro ⟨h1, h2, _, h4⟩ c hc
    have e := low_alpha c (h1 c hc)
    rw [h2 c hc, Bool.true_and] at e
    have n : (Unicode.isUpper c || Unicode.isTitle c) = false := by
      cases hh : (Unicode.isUpper c || Unicode.isTitle c) with
      | false => rfl
      | true => exact absurd (List.any_eq_true.mpr ⟨c, hc, hh⟩) (by rw [h4]; exact Bool.false_ne_true)
    rw [n] at e
    exact of_decide_eq_true e.symm
  · intro hh
    have lo : ∀ c ∈ l, c < 128 := fun c hc => letters_low c (hh c hc)
    have e : ∀ c ∈ l, (Unicode.isAlpha c && !(Unicode.isUpper c || Unicode.isTitle c)) = true := fun c hc => (low_alpha c (lo c hc)).trans (decide_eq_true (hh c hc))
    refine ⟨lo, fun c hc => (Bool.and_eq_true_iff.mp (e c hc)).1, ?_, ?_⟩
    · cases l with
      | nil => exact absurd h (by decide)
      | cons c r => exact ⟨c, List.mem_cons_self, (low_lower c (lo c List.mem_cons_self)).symm.trans (decide_eq_true (hh c List.mem_cons_self))⟩
    · rw [Bool.eq_false_iff]
      intro a
      obtain ⟨c, hc, a⟩ := List.any_eq_true.mp a
      have := (Bool.and_eq_true_iff.mp (e c hc)).2
      rw [a] at this
      exact absurd this (by decide)
theorem text_signs (z : Str) : (Txt.isascii z && (Txt.isprintable z && z.cps.toList.all fun c => !decide (c = 37))) = z.cps.toList.all signOk := by
  unfold Txt.isascii Txt.isprintable
  rw [← Array.all_toList, ← Array.all_toList]
  generalize z.cps.toList = l
  rw [Bool.eq_iff_iff]
  simp only [Bool.and_eq_true, List.all_eq_true, decide_eq_true_eq]
  constructor
  · rintro ⟨h1, h2, h3⟩ c hc
    rw [← low_print c (h1 c hc), h2 c hc, h3 c hc]
    rfl
  · intro hh
    have lo : ∀ c ∈ l, c < 128 := fun c hc => by
      have := hh c hc
      unfold signOk at this
      rw [Bool.and_eq_true, Bool.and_eq_true] at this
      have := of_decide_eq_true this.1.2
      omega
    have e : ∀ c ∈ l, (Unicode.isPrintable c && !decide (c = 37)) = true := fun c hc => (low_print c (lo c hc)).trans (hh c hc)
    exact ⟨lo, fun c hc => (Bool.and_eq_true_iff.mp (e c hc)).1, fun c hc => (Bool.and_eq_true_iff.mp (e c hc)).2⟩
end Pk
namespace Pk
open PySem L2
/-! ### words.py -/
def spIsNumber : Sp := fun vs H Q _ => ∃ x, vs = [x] ∧ Thg H x ∧ Q (.bl (vInt x)) H
def spIsWhole : Sp := fun vs H Q _ => ∃ (x : V) (lo hi : Int), vs = [x, .int lo, .int hi] ∧ Thg H x ∧ Q (.bl (whole x lo hi)) H
def spIsName : Sp := fun vs H Q _ => ∃ x, vs = [x] ∧ Thg H x ∧ ∀ H', Same H H' → Q (.bl (nameV x)) H'
def spIsText : Sp := fun vs H Q _ => ∃ x, vs = [x] ∧ Thg H x ∧ ∀ H', Same H H' → Q (.bl (textV x)) H'
section
variable {P : Program} {w : World} {K : PySem.W.Frag} {mg : Str → Option Value} {base : Heap}
theorem isb {X : Cx} {i : Nat} {v : Str} {y : Str} {T : String} {p p1 p2 pos : Pos} (mi : X.mg "isinstance" = none) (my : X.mg y = none) (by_ : bootBuiltins y = some (.type T)) (hi : Gl X "isinstance" := by rfl) (hg : Gl X y := by rfl) (hN : X.N[i]? = some v := by rfl) (hv : Vis X.env.scope v := by first | exact Or.inl rfl | exact Or.inr (Or.inl rfl)) (hd : (y == ("__debug__" : Str)) = false := by decide) (hd2 : (v == ("__debug__" : Str)) = false := by decide) (hd3 : (v == ("__classdict__" : Str)) = false := by decide) (hn : y ≠ "__name__" := by decide) :
    PE X (.Call (.Name "isinstance" p) [.Name v p1, .Name y p2] [] pos) (tCB (rIsi X.K) (tCons (tVar i) (tCons (tC (.ty T)) tNil))) :=
  pe_callB call_isi hi mi (by decide +kernel) (pa_cons (pe_var hN hv hd2 hd3) (pa_cons (pe_bltn (v := .ty T) hg my by_ rfl hn hd) pa_nil))
theorem scIsNumber : FnScope ["thing"] ["thing"] (defScope sIsNumber) := ⟨rfl, rfl, rfl, by decide +kernel, rfl, by decide +kernel, by decide +kernel⟩
theorem ok_isNumber {f : Addr} {fd : FuncData} (F : Fun K "is_number" "is_number" sIsNumber f fd) (mi : mg "isinstance" = none) (mn : mg "int" = none) (mb : mg "bool" = none) : FnOk P w K mg base CX0 1 f fd ["thing"] spIsNumber := by
  refine F.ok scIsNumber (fun vs H Q E h => ?_) (fun cdv A outer s H vs Q E hr h => ?_)
  · obtain ⟨x, rfl, _⟩ := h
    rfl
  · obtain ⟨x, rfl, hx, q⟩ := h
    obtain ⟨t, ty, k1, k2, _, _⟩ := hx.ty (K := K)
    refine ⟨_, pss_one (ps_ret (pe_and (isb (i := 0) mi mn PyProof.Rows.boot_int) (pe_one (pe_not (isb (i := 0) (T := "bool") mi mb (by decide +kernel)))))), ?_⟩
    refine ⟨_, rfl, _, _, _, _, _, rfl, .ty "int", ty, kit_ty k1, _, rfl, ?_⟩
    cases hv : vInt x with
    | true =>
      rw [hv] at q
      refine iteT ⟨_, rfl, _, _, _, _, _, rfl, .ty "bool", ty, kit_ty k2, _, rfl, ?_⟩
      have : vBool x = false := by
        cases x <;> first | rfl | cases hv
      rw [this]
      exact q
    | false =>
      rw [hv] at q
      cases hb : vBool x with
      | true =>
        rw [hb] at k2
        exact iteT ⟨_, rfl, _, _, _, _, _, rfl, .ty "bool", ty, kit_ty k2, _, rfl, q⟩
      | false => exact iteF q
theorem scIsWhole : FnScope ["thing", "least", "most"] ["thing", "least", "most"] (defScope sIsWhole) := ⟨rfl, rfl, rfl, by decide +kernel, rfl, by decide +kernel, by decide +kernel⟩
abbrev FunDf (K : PySem.W.Frag) (x : Str) (st : Stmt) (dvs : List V) (f : Addr) (fd : FuncData) : Prop := FunD K x x (defArgs st) (defBody st) (defScope st) dvs [] f fd
theorem ok_isWhole {f fN : Addr} {fd fdN : FuncData} (F : FunDf K "is_whole" sIsWhole [.int 0, .int 9999] f fd) (FN : Fun K "is_number" "is_number" sIsNumber fN fdN) (bN : Binds K fdN ["thing"] []) (gN : mg "is_number" = some (.ref fN))
    (mi : mg "isinstance" = none) (mn : mg "int" = none) (mb : mg "bool" = none) : FnOk P w K mg base CX0 2 f fd ["thing", "least", "most"] spIsWhole := by
  have GN : FnOk P w K mg base CX0 1 fN fdN ["thing"] spIsNumber := ok_isNumber FN mi mn mb
  refine F.ok scIsWhole (fun vs H Q E h => ?_) (fun cdv A outer s H vs Q E hr h => ?_)
  · obtain ⟨x, lo, hi, rfl, _⟩ := h
    rfl
  · obtain ⟨x, lo, hi, rfl, hx, q⟩ := h
    refine ⟨_, pss_one (ps_ret (pe_and (pe_call GN hr (by rfl) gN FN.kp bN .nil pass0 (pa_cons (pv 0) pa_nil)) (pe_one (pe_chain op_le op_le (pv 1) (pv 0) (pv 2))))), ?_⟩
    refine ⟨_, rfl, x, rfl, hx, _, rfl, ?_⟩
    cases hx with
    | int i =>
      have q' : Q (.bl (decide (lo ≤ i) && decide (i ≤ hi))) H := q
      refine iteT ⟨_, rfl, _, rfl, _, _, rfl, rfl, _, rfl, ?_⟩
      cases hd : decide (lo ≤ i) with
      | true =>
        rw [hd, Bool.true_and] at q'
        exact iteT ⟨_, rfl, _, _, rfl, rfl, q'⟩
      | false =>
        rw [hd, Bool.false_and] at q'
        exact iteF q'
    | non => exact iteF q
    | bl b => exact iteF q
    | str z hl ho => exact iteF q
    | lst h => exact iteF q
    | tup h => exact iteF q
    | dct h => exact iteF q
theorem scIsName : FnScope ["thing"] ["thing"] (defScope sIsName) := ⟨rfl, rfl, rfl, by decide +kernel, rfl, by decide +kernel, by decide +kernel⟩
theorem ok_isName {f : Addr} {fd : FuncData} (F : Fun K "is_name" "is_name" sIsName f fd) (mi : mg "isinstance" = none) (ms : mg "str" = none) (ml : mg "len" = none) (gM : ∃ t, mg "MOST_LETTERS" = some (.int 8 t)) :
    FnOk P w K mg base CX0 1 f fd ["thing"] spIsName := by
  obtain ⟨tM, gM⟩ := gM
  refine F.ok scIsName (fun vs H Q E h => ?_) (fun cdv A outer s H vs Q E hr h => ?_)
  · obtain ⟨x, rfl, _⟩ := h
    rfl
  · obtain ⟨x, rfl, hx, q⟩ := h
    obtain ⟨t, ty, _, _, k3, _⟩ := hx.ty (K := K)
    refine ⟨_, pss_cons (ps_if (PW.pt (pw_or (pt_not (pt_val (isb (i := 0) mi ms PyProof.Rows.boot_str))) (pw_or1 (pt_not (pt_chain op_le op_le pe_int (pe_callB call_len_str (by rfl) ml PySem.boot_len (pa_cons (pv 0) pa_nil)) (pe_glob (v := .int 8) (by rfl) gM ⟨_, rfl⟩)))))) (pss_one (ps_ret pe_bl)) pss_nil)
      (pss_one (ps_ret (pe_and (pe_m0 PySem.F.slot_str_isascii PySem.F.type_str_isascii mt_isascii (pv 0)) (pe_and (pe_m0 PySem.F.slot_str_isalpha PySem.F.type_str_isalpha mt_isalpha (pv 0)) (pe_one (pe_m0 PySem.F.slot_str_islower PySem.F.type_str_islower mt_islower (pv 0))))))), ?_⟩
    refine ⟨_, rfl, _, _, _, _, _, rfl, .ty "str", ty, kit_ty k3, _, rfl, ?_⟩
    have q := q H (Same.refl H)
    cases hx with
    | non => exact iteT q
    | bl b => exact iteT q
    | int i => exact iteT q
    | lst h => exact iteT q
    | tup h => exact iteT q
    | dct h => exact iteT q
    | str z hl ho =>
      refine iteF ⟨_, rfl, z, rfl, by rw [sizeLine_eq]; omega, _, _, rfl, rfl, _, rfl, ?_⟩
      have q' : Q (.bl (decide (1 ≤ z.length) && decide (z.length ≤ 8) && z.cps.toList.all fun c => decide (c ∈ letters.cps.toList))) H := q
      cases h1 : decide (1 ≤ z.length) with
      | false =>
        rw [h1, Bool.false_and, Bool.false_and] at q'
        have e1 : decide ((1 : Int) ≤ z.length) = false := by
          have := of_decide_eq_false h1
          exact decide_eq_false (by omega)
        rw [e1]
        exact iteF ⟨_, rfl, iteT q'⟩
      | true =>
        have e1 : decide ((1 : Int) ≤ z.length) = true := by
          have := of_decide_eq_true h1
          exact decide_eq_true (by omega)
        rw [e1]
        refine iteT ⟨_, _, rfl, rfl, _, rfl, ?_⟩
        cases h2 : decide (z.length ≤ 8) with
        | false =>
          rw [h1, h2, Bool.and_false, Bool.false_and] at q'
          have e2 : decide ((z.length : Int) ≤ 8) = false := by
            have := of_decide_eq_false h2
            exact decide_eq_false (by omega)
          rw [e2]
          exact iteT q'
        | true =>
          rw [h1, h2, Bool.and_true, Bool.true_and, ← name_signs z (of_decide_eq_true h1)] at q'
          have e2 : decide ((z.length : Int) ≤ 8) = true := by
            have := of_decide_eq_true h2
            exact decide_eq_true (by omega)
          rw [e2]
          refine iteF ⟨_, rfl, ⟨z, rfl⟩, z, rfl, rfl, trivial, _, rfl, ?_⟩
          cases h3 : Txt.isascii z with
          | false =>
            rw [h3, Bool.false_and] at q'
            exact iteF q'
          | true =>
            rw [h3, Bool.true_and] at q'
            refine iteT ⟨_, rfl, ⟨z, rfl⟩, z, rfl, rfl, trivial, _, rfl, ?_⟩
            cases h4 : Txt.isalpha z with
            | false =>
              rw [h4, Bool.false_and] at q'
              exact iteF q'
            | true =>
              rw [h4, Bool.true_and] at q'
              exact iteT ⟨_, rfl, ⟨z, rfl⟩, z, rfl, rfl, trivial, q'⟩
end
section
variable {P : Program} {w : World} {K : PySem.W.Frag} {mg : Str → Option Value} {base : Heap}
theorem at_last {l : List Nat} (h : l ≠ []) : atI l (-1) = some (l.getLast h) :=
  (congrArg (fun x => atI x (-1)) (List.dropLast_concat_getLast h).symm).trans (atI_last _ _)
theorem scIsText : FnScope ["thing", "sign"] ["thing"] (defScope sIsText) := ⟨rfl, rfl, rfl, by decide +kernel, rfl, by decide +kernel, by decide +kernel⟩
theorem ok_isText {f : Addr} {fd : FuncData} (F : Fun K "is_text" "is_text" sIsText f fd) (mi : mg "isinstance" = none) (ms : mg "str" = none) (ml : mg "len" = none) (ma : mg "all" = none) (mo : mg "ord" = none)
    (gP : ∃ t, mg "PERCENT" = some (.int 37 t)) (gM : ∃ t, mg "MOST_SIGNS" = some (.int 30 t)) : FnOk P w K mg base CX0 2 f fd ["thing"] spIsText := by
  obtain ⟨tP, gP⟩ := gP
  obtain ⟨tM, gM⟩ := gM
  refine F.ok scIsText (fun vs H Q E h => ?_) (fun cdv A outer s H vs Q E hr h => ?_)
  · obtain ⟨x, rfl, _⟩ := h
    rfl
  · obtain ⟨x, rfl, hx, q⟩ := h
    obtain ⟨t, ty, _, _, k3, _⟩ := hx.ty (K := K)
    refine ⟨_, pss_cons (ps_if (PW.pt (pw_or (pt_not (pt_val (isb (i := 0) mi ms PyProof.Rows.boot_str))) (pw_or1 (pt_not (pt_chain op_le op_le pe_int (pe_callB call_len_str (by rfl) ml PySem.boot_len (pa_cons (pv 0) pa_nil)) (pe_glob (v := .int 30) (by rfl) gM ⟨_, rfl⟩)))))) (pss_one (ps_ret pe_bl)) pss_nil)
      (pss_cons (ps_if (PW.pt (pw_or (pt_cmpR op_eq (pe_ix ix_str (pv 0) pe_int (fun _ _ => rfl)) pe_str (nomark _)) (pw_or1 (pt_cmpR op_eq (pe_ix ix_str (pv 0) (pe_un un_neg pe_int) (fun _ _ => rfl)) pe_str (nomark _))))) (pss_one (ps_ret pe_bl)) pss_nil)
      (pss_one (ps_ret (pe_and (pe_m0 PySem.F.slot_str_isascii PySem.F.type_str_isascii mt_isascii (pv 0)) (pe_and (pe_m0 PySem.F.slot_str_isprintable PySem.F.type_str_isprintable mt_isprintable (pv 0)) (pe_one (pe_callB (cr_all rfl) (by rfl) ma (by decide +kernel) (pa_cons (pe_lc (own := [("sign", 1)]) (g := gName 1) rfl scIsText.nd (pi_str (pv 0)) (blkOk_by (N := ["thing", "sign"]) (sc := defScope sIsText) (by decide +kernel))
        (fun _ _ _ _ _ => pg_name (i := 1) scIsText.nd rfl (Or.inl rfl)) (fun _ _ _ _ _ => pts_nil) (fun _ _ _ _ _ => pe_cmpR op_ne (pe_callB call_ord (by rfl) mo (by decide +kernel) (pa_cons (pv 1) pa_nil)) (pe_glob (v := .int 37) (by rfl) gP ⟨_, rfl⟩) (nomark _))) pa_nil)))))))), ?_⟩
    refine ⟨_, rfl, _, _, _, _, _, rfl, .ty "str", ty, kit_ty k3, _, rfl, ?_⟩
    cases hx with
    | non => exact iteT (q H (Same.refl H))
    | bl b => exact iteT (q H (Same.refl H))
    | int i => exact iteT (q H (Same.refl H))
    | lst h => exact iteT (q H (Same.refl H))
    | tup h => exact iteT (q H (Same.refl H))
    | dct h => exact iteT (q H (Same.refl H))
    | str z hl ho =>
      refine iteF ⟨_, rfl, z, rfl, by rw [sizeLine_eq]; omega, _, _, rfl, rfl, _, rfl, ?_⟩
      have q' : ∀ H', Same H H' → Q (.bl (decide (1 ≤ z.length) && decide (z.length ≤ 30) && !decide (z.cps.toList[0]? = some 32) && !decide (z.cps.toList.getLast? = some 32) && z.cps.toList.all signOk)) H' := q
      cases h1 : decide (1 ≤ z.length) with
      | false =>
        rw [h1, Bool.false_and, Bool.false_and, Bool.false_and, Bool.false_and] at q'
        have e1 : decide ((1 : Int) ≤ z.length) = false := by
          have := of_decide_eq_false h1
          exact decide_eq_false (by omega)
        rw [e1]
        exact iteF ⟨_, rfl, iteT (q' H (Same.refl H))⟩
      | true =>
        have p1 : 1 ≤ z.length := of_decide_eq_true h1
        have e1 : decide ((1 : Int) ≤ z.length) = true := decide_eq_true (by omega)
        rw [e1]
        refine iteT ⟨_, _, rfl, rfl, _, rfl, ?_⟩
        cases h2 : decide (z.length ≤ 30) with
        | false =>
          rw [h1, h2, Bool.and_false, Bool.false_and, Bool.false_and, Bool.false_and] at q'
          have e2 : decide ((z.length : Int) ≤ 30) = false := by
            have := of_decide_eq_false h2
            exact decide_eq_false (by omega)
          rw [e2]
          exact iteT (q' H (Same.refl H))
        | true =>
          rw [h1, h2, Bool.and_true, Bool.true_and] at q'
          have e2 : decide ((z.length : Int) ≤ 30) = true := by
            have := of_decide_eq_true h2
            exact decide_eq_true (by omega)
          rw [e2]
          refine iteF ?_
          -- the first and the last sign
          have ln : z.cps.toList.length = z.length := (len_is z).symm
          have g0 : z.cps.toList[0]? = some (z.cps.toList[0]'(by omega)) := List.getElem?_eq_getElem (by omega)
          have hne : z.cps.toList ≠ [] := fun e => by rw [e] at ln; simp at ln; omega
          have gl : z.cps.toList.getLast? = some (z.cps.toList.getLast hne) := List.getLast?_eq_getLast hne
          generalize hc0 : z.cps.toList[0]'(by omega) = c0 at g0
          generalize hcl : z.cps.toList.getLast hne = cl at gl
          have al : atI z.cps.toList (-1) = some cl := by
            rw [← hcl]
            exact at_last hne
          have one_eq : ∀ c : Nat, decide (V.str ⟨#[c]⟩ = V.str " ") = decide (c = 32) := fun c => decide_eq_decide.mpr ⟨fun z => by
            have e := congrArg TL.tl (V.str.inj z)
            rw [blank_tl] at e
            exact (List.cons.inj e).1, fun z => by rw [z]; exact congrArg V.str (by decide +kernel)⟩
          refine ⟨_, rfl, z, 0, c0, rfl, rfl, by rw [sizeLine_eq]; omega, atI_nat (j := 0) g0, rfl, _, rfl, ?_⟩
          rw [one_eq]
          cases h3 : decide (c0 = 32) with
          | true =>
            have e3 : decide (z.cps.toList[0]? = some 32) = true := decide_eq_true (by rw [g0, of_decide_eq_true h3])
            rw [e3, Bool.not_true, Bool.false_and, Bool.false_and] at q'
            exact iteT (q' H (Same.refl H))
          | false =>
            have e3 : decide (z.cps.toList[0]? = some 32) = false := decide_eq_false (by rw [g0]; exact fun e => of_decide_eq_false h3 (Option.some.inj e))
            rw [e3, Bool.not_false, Bool.true_and] at q'
            refine iteF ⟨_, rfl, _, rfl, z, _, cl, rfl, rfl, by rw [sizeLine_eq]; omega, al, rfl, _, rfl, ?_⟩
            rw [one_eq]
            cases h4 : decide (cl = 32) with
            | true =>
              have e4 : decide (z.cps.toList.getLast? = some 32) = true := decide_eq_true (by rw [gl, of_decide_eq_true h4])
              rw [e4, Bool.not_true, Bool.false_and] at q'
              exact iteT (q' H (Same.refl H))
            | false =>
              have e4 : decide (z.cps.toList.getLast? = some 32) = false := decide_eq_false (by rw [gl]; exact fun e => of_decide_eq_false h4 (Option.some.inj e))
              rw [e4, Bool.not_false, Bool.true_and] at q'
              rw [← text_signs z] at q'
              refine iteF ⟨_, rfl, ⟨z, rfl⟩, z, rfl, rfl, trivial, _, rfl, ?_⟩
              cases h5 : Txt.isascii z with
              | false =>
                rw [h5, Bool.false_and] at q'
                exact iteF (q' H (Same.refl H))
              | true =>
                rw [h5, Bool.true_and] at q'
                refine iteT ⟨_, rfl, ⟨z, rfl⟩, z, rfl, rfl, trivial, _, rfl, ?_⟩
                cases h6 : Txt.isprintable z with
                | false =>
                  rw [h6, Bool.false_and] at q'
                  exact iteF (q' H (Same.refl H))
                | true =>
                  rw [h6, Bool.true_and] at q'
                  refine iteT ⟨_, rfl, z, rfl, fun D hD => ?_⟩
                  refine lc_it walk_str (fun i H' => (∀ b o, b ≠ D → H b = some o → H' b = some o) ∧ H' D = some (.lst (((z.cps.toList.take i).map fun c => !decide (c = 37)).map V.bl))) ⟨fun b o n e => ?_, upd_same⟩ (fun _ _ _ _ => trivial) ?_ ?_
                  · rw [upd_ne n]
                    exact e
                  · rintro i x H1 H2 hi ⟨k, hd⟩ ⟨rfl, c, hc, rfl⟩
                    have hc' : z.cps.toList[i]? = some c := by rw [Array.getElem?_toList]; exact hc
                    have e3 : decide (V.int ((⟨#[c]⟩ : Str).cps.getD 0 0 : Nat) = V.int 37) = decide (c = 37) := decide_eq_decide.mpr ⟨fun z => by
                      have := V.int.inj z
                      have e : ((⟨#[c]⟩ : Str).cps.getD 0 0) = c := rfl
                      rw [e] at this
                      omega, fun z => by rw [z]; rfl⟩
                    refine ⟨rfl, _, rfl, _, rfl, rfl, rfl, _, hd, ?_, fun b o n e => ?_, ?_⟩
                    · rw [List.length_map, List.length_map, List.length_take, sizeLine_eq, ← len_is]
                      omega
                    · rw [upd_ne n]
                      exact k b o n e
                    · rw [upd_same, List.take_add_one, hc', List.map_append, List.map_append]
                      show some (HO.lst (_ ++ [V.bl (!decide (V.int ((⟨#[c]⟩ : Str).cps.getD 0 0 : Nat) = V.int 37))])) = _
                      rw [e3]
                      rfl
                  · rintro H1 ⟨k, hd⟩
                    rw [List.take_of_length_le (by rw [Array.length_toList]; exact Nat.le_refl _)] at hd
                    refine ⟨D, _, rfl, SqL.of hd, ?_⟩
                    have e5 : ((z.cps.toList.map fun c => !decide (c = 37)).all id) = z.cps.toList.all fun c => !decide (c = 37) := by
                      rw [List.all_map]
                      rfl
                    rw [e5]
                    exact q' H1 fun b o e => k b o (fun z => by rw [z, hD] at e; cases e) e
end
end Pk
namespace Pk
open PySem L2
def spIsNameE : Sp := fun vs H Q _ => ∃ x, vs = [x] ∧ Thg H x ∧ ∀ H', Same H H' → Q (.bl (nameE x)) H'
def spAreAnswers : Sp := fun vs H Q _ => ∃ x, vs = [x] ∧ Thg H x ∧ (∀ ws, tupV H x = some ws → ∀ v ∈ ws, Thg H v) ∧ ∀ H', Same H H' → Q (.bl (answersV H x)) H'
section
variable {P : Program} {w : World} {K : PySem.W.Frag} {mg : Str → Option Value} {base : Heap}
theorem scIsNameE : FnScope ["thing"] ["thing"] (defScope sIsNameE) := ⟨rfl, rfl, rfl, by decide +kernel, rfl, by decide +kernel, by decide +kernel⟩
theorem ok_isNameE {f fN : Addr} {fd fdN : FuncData} (F : Fun K "is_name_or_empty" "is_name_or_empty" sIsNameE f fd) (FN : Fun K "is_name" "is_name" sIsName fN fdN) (bN : Binds K fdN ["thing"] []) (gN : mg "is_name" = some (.ref fN))
    (mi : mg "isinstance" = none) (ms : mg "str" = none) (ml : mg "len" = none) (gM : ∃ t, mg "MOST_LETTERS" = some (.int 8 t)) : FnOk P w K mg base CX0 2 f fd ["thing"] spIsNameE := by
  have GN : FnOk P w K mg base CX0 1 fN fdN ["thing"] spIsName := ok_isName FN mi ms ml gM
  refine F.ok scIsNameE (fun vs H Q E h => ?_) (fun cdv A outer s H vs Q E hr h => ?_)
  · obtain ⟨x, rfl, _⟩ := h
    rfl
  · obtain ⟨x, rfl, hx, q⟩ := h
    refine ⟨_, pss_one (ps_ret (pe_or (pe_call GN hr (by rfl) gN FN.kp bN .nil pass0 (pa_cons (pv 0) pa_nil)) (pe_one (pe_and (isb (i := 0) mi ms PyProof.Rows.boot_str) (pe_one (pe_cmpR op_eq (pv 0) pe_str (nomark _))))))), ?_⟩
    refine ⟨_, rfl, x, rfl, hx, fun H1 s1 => ⟨_, rfl, ?_⟩⟩
    obtain ⟨t, ty, _, _, k3, _⟩ := (hx.same s1).ty (K := K)
    have q1 := q H1 s1
    unfold nameE at q1
    cases hn : nameV x with
    | true =>
      rw [hn, Bool.true_or] at q1
      exact iteT q1
    | false =>
      rw [hn, Bool.false_or] at q1
      refine iteF ⟨_, rfl, _, _, _, _, _, rfl, .ty "str", ty, kit_ty k3, _, rfl, ?_⟩
      cases hx with
      | str z hl ho => exact iteT ⟨_, rfl, rfl, q1⟩
      | _ => exact iteF q1
theorem scAreAnswers : FnScope ["thing", "each"] ["thing"] (defScope sAreAnswers) := ⟨rfl, rfl, rfl, by decide +kernel, rfl, by decide +kernel, by decide +kernel⟩
theorem ok_areAnswers {f fT : Addr} {fd fdT : FuncData} (F : Fun K "are_answers" "are_answers" sAreAnswers f fd) (GT : FnOk P w K mg base CX0 2 fT fdT ["thing"] spIsText) (kT : PySem.W.keepIn K (.ref fT) = true) (bT : Binds K fdT ["thing"] []) (gT : mg "is_text" = some (.ref fT))
    (mi : mg "isinstance" = none) (mt : mg "tuple" = none) (ml : mg "len" = none) (ma : mg "all" = none) (mst : mg "set" = none) (g2 : ∃ t, mg "LEAST_ANSWERS" = some (.int 2 t)) (g6 : ∃ t, mg "MOST_ANSWERS" = some (.int 6 t)) : FnOk P w K mg base CX0 3 f fd ["thing"] spAreAnswers := by
  obtain ⟨t2, g2⟩ := g2
  obtain ⟨t6, g6⟩ := g6
  refine F.ok scAreAnswers (fun vs H Q E h => ?_) (fun cdv A outer s H vs Q E hr h => ?_)
  · obtain ⟨x, rfl, _⟩ := h
    rfl
  · obtain ⟨x, rfl, hx, hw, q⟩ := h
    obtain ⟨t, ty, _, _, _, k4⟩ := hx.ty (K := K)
    refine ⟨_, pss_cons (ps_if (PW.pt (pw_or (pt_not (pt_val (isb (i := 0) mi mt PyProof.Rows.boot_tuple))) (pw_or1 (pt_not (pt_chain op_le op_le (pe_glob (v := .int 2) (by rfl) g2 ⟨_, rfl⟩) (pe_callB call_len_seq (by rfl) ml PySem.boot_len (pa_cons (pv 0) pa_nil)) (pe_glob (v := .int 6) (by rfl) g6 ⟨_, rfl⟩)))))) (pss_one (ps_ret pe_bl)) pss_nil)
      (pss_one (ps_ret (pe_and (pe_callB (cr_all rfl) (by rfl) ma (by decide +kernel) (pa_cons (pe_lc (own := [("each", 1)]) (g := gName 1) rfl scAreAnswers.nd (pi_tup (pv 0)) (blkOk_by (N := ["thing", "each"]) (sc := defScope sAreAnswers) (by decide +kernel))
        (fun _ _ _ _ _ => pg_name (i := 1) scAreAnswers.nd rfl (Or.inl rfl)) (fun _ _ _ _ _ => pts_nil) (fun _ _ _ _ _ => pe_call GT hr (by rfl) gT kT bT .nil pass0 (pa_cons (pv 1) pa_nil))) pa_nil))
        (pe_one (pe_cmpR op_eq (pe_lenTexts (by rfl) ml (by rfl) mst (pv 0)) (pe_callB call_len_seq (by rfl) ml PySem.boot_len (pa_cons (pv 0) pa_nil)) (nomark _)))))), ?_⟩
    refine ⟨_, rfl, _, _, _, _, _, rfl, .ty "tuple", ty, kit_ty k4, _, rfl, ?_⟩
    unfold answersV at q
    cases ht : tupV H x with
    | none =>
      rw [ht] at q
      exact iteT (q H (Same.refl H))
    | some ws =>
      rw [ht] at q
      obtain ⟨a, rfl, ha⟩ := tupV_of ht
      have hw' := hw ws ht
      refine iteF ⟨_, rfl, a, ws, rfl, .inr (SqT.of ha), _, _, rfl, rfl, _, rfl, ?_⟩
      have q' : ∀ H', Same H H' → Q (.bl (decide (2 ≤ ws.length) && decide (ws.length ≤ 6) && ws.all textV && decide (unlike (ws.map strV) ws.length = ws.length))) H' := q
      cases h1 : decide (2 ≤ ws.length) with
      | false =>
        rw [h1, Bool.false_and, Bool.false_and, Bool.false_and] at q'
        have e1 : decide ((2 : Int) ≤ ws.length) = false := by
          have := of_decide_eq_false h1
          exact decide_eq_false (by omega)
        rw [e1]
        exact iteF ⟨_, rfl, iteT (q' H (Same.refl H))⟩
      | true =>
        have e1 : decide ((2 : Int) ≤ ws.length) = true := by
          have := of_decide_eq_true h1
          exact decide_eq_true (by omega)
        rw [e1]
        refine iteT ⟨_, _, rfl, rfl, _, rfl, ?_⟩
        cases h2 : decide (ws.length ≤ 6) with
        | false =>
          rw [h1, h2, Bool.and_false, Bool.false_and, Bool.false_and] at q'
          have e2 : decide ((ws.length : Int) ≤ 6) = false := by
            have := of_decide_eq_false h2
            exact decide_eq_false (by omega)
          rw [e2]
          exact iteT (q' H (Same.refl H))
        | true =>
          rw [h1, h2, Bool.and_true, Bool.true_and] at q'
          have l6 : ws.length ≤ 6 := of_decide_eq_true h2
          have e2 : decide ((ws.length : Int) ≤ 6) = true := decide_eq_true (by omega)
          rw [e2]
          refine iteF ⟨_, rfl, a, rfl, ⟨ws, SqT.of ha⟩, fun D hD => ?_⟩
          refine lc_it (walk_tup (xs := ws)) (fun i H' => (∀ b o, b ≠ D → H b = some o → H' b = some o) ∧ H' D = some (.lst (((ws.take i).map textV).map V.bl))) ⟨fun b o n e => ?_, upd_same⟩ (fun i H' _ h => SqT.of (h.1 a _ (fun z => by rw [z, hD] at ha; cases ha) ha)) ?_ ?_
          · rw [upd_ne n]
            exact e
          · rintro i x H1 H2 hi ⟨k, hd⟩ ⟨rfl, hc⟩
            have aD : ∀ {b : Addr} {o : HO}, H b = some o → b ≠ D := fun {b o} e z => by rw [z, hD] at e; cases e
            have sm : Same H H2 := fun b o e => k b o (aD e) e
            refine ⟨rfl, _, rfl, x, rfl, (hw' x (List.mem_of_getElem? hc)).same sm, fun H3 s3 => ⟨_, s3 _ _ hd, ?_, fun b o n e => ?_, ?_⟩⟩
            · rw [List.length_map, List.length_map, List.length_take, sizeLine_eq]
              omega
            · rw [upd_ne n]
              exact s3 _ _ (k b o n e)
            · rw [upd_same, List.take_add_one, hc, List.map_append, List.map_append]
              rfl
          · rintro H1 ⟨k, hd⟩
            have sm : Same H H1 := fun b o e => k b o (fun z => by rw [z, hD] at e; cases e) e
            rw [List.take_of_length_le (Nat.le_refl _)] at hd
            refine ⟨D, _, rfl, SqL.of hd, _, rfl, ?_⟩
            have e5 : ((ws.map textV).all id) = ws.all textV := by
              rw [List.all_map]
              rfl
            rw [e5]
            cases h3 : ws.all textV with
            | false =>
              rw [h3, Bool.false_and] at q'
              exact iteF (q' H1 sm)
            | true =>
              rw [h3, Bool.true_and] at q'
              have ha1 := sm _ _ ha
              refine iteT ⟨_, rfl, a, ws.map strV, rfl, ?_, by rw [List.length_map]; omega, _, rfl, a, ws, rfl, .inr (SqT.of ha1), rfl, ?_⟩
              · rw [← strs_of h3]
                exact SqT.of ha1
              · have e6 : decide (V.int ((unlike (ws.map strV) (ws.map strV).length : Nat) : Int) = V.int ((ws.length : Nat) : Int)) = decide (unlike (ws.map strV) ws.length = ws.length) := by
                  rw [List.length_map]
                  exact decide_eq_decide.mpr ⟨fun z => Int.ofNat.inj (V.int.inj z), fun z => by rw [z]⟩
                rw [e6]
                exact q' H1 sm
end
end Pk
/-! ### what own errors say of themselves: str(e), and {x!s} -/
namespace Pk
open PySem PySem.Spec L2
section
variable {X : Cx}
/-- {x!s} of a text -/
def tFmtS (te : TE) : TE := fun σ H Q => te σ H fun x H1 => ∃ y : Str, x = .str y ∧ y.length ≤ sizeLine ∧ Q (.str y) H1
theorem pe_fmtS {e : Expr} {te : TE} {pos : Pos} (he : PE X e te) : PE X (.FormattedValue e 115 none pos) (tFmtS te) := by
  constructor
  intro pins s σ H Q I h
  refine wpAny_FormattedValue_s (thn (he.run pins s σ H _ I h) ?_)
  rintro v s1 ⟨x, H1, I1, r1, y, rfl, hz, q⟩
  obtain ⟨t, rfl⟩ := r1
  have fin : ∀ (t' : Tok) (tk : Nat), wpAny (model X.prog X.w) X.A (formatField (.str y t') Str.empty) (EP X pins σ Q) X.xe { s1 with toks := tk } := fun t' tk =>
    wpAny_formatField_str (s := { s1 with toks := tk }) ⟨.str y, H1, I1.tok _, ⟨_, rfl⟩, q⟩ ⟨.str y, H1, I1.tok _, ⟨_, rfl⟩, q⟩ hz
  refine wpAny_habitSame_str (fin t s1.toks) (fin _ _)
variable {k : Nat} {f C : Addr} {fd : FuncData} {sp : Sp} {e : Expr} {te : TE} {p pos : Pos}
/-- str(e), e a kept error whose class says how it is told -/
def tStrErr (C : Addr) (sp : Sp) (te : TE) : TE := fun σ H Q => te σ H fun x H1 => ∃ (a : Addr) (d : Option Addr), x = .ref a ∧ H1 a = some (ExH (.ref C) d a) ∧ DictOk H1 d ∧ sp [.ref a] H1 (fun v H2 => (∃ z, v = .str z) ∧ Q v H2) E0
theorem pe_strErr (F : FnOk X.prog X.w X.K X.mg X.base CX0 k f fd ["self"] sp) (hr : Room (k + 2) X.A) (hs : PySem.W.findIn X.K (.ref C) "__str__" = some (some (.ref f))) (hf : PySem.W.isFn X.K (.ref f) = true) (hb : Binds X.K fd ["self"] []) (hg : Gl X "str") (hm : X.mg "str" = none) (he : PE X e te)
    (na : starEach [e] X.env = (false, eval e X.env) :: starEach [] X.env := by rfl) : PE X (.Call (.Name "str" p) [e] [] pos) (tStrErr C sp te) := by
  constructor
  intro pins s σ H Q I h
  refine PyProof.Rows.Call_ (ld_blt I hg hm PyProof.Rows.boot_str ?_)
  refine PyProof.Rows.callWith_type1 (PyProof.Rows.args_cons (thn (he.run pins s σ H _ I h) ?_) na) na rfl
  rintro v s1 ⟨x, H1, I1, r1, a, d, rfl, ha, hd, q⟩
  cases (show v = Value.ref a from r1)
  obtain ⟨oe, od, J, -⟩ := held_at I1 ha hd
  refine PyProof.Rows.args_nil (PySem.W.kso_call (by have := hr.un; show X.A.in1.in1.units < cLine; have e1 := (hr.in1.in1).un; omega) I1.kIn J hs hf ?_)
  refine wpAny_call (codeAny_mono (F.run _ X.stack s1 H1 ⟨[.ref a], []⟩ [.ref a] [.ref a] _ E0 hr.in1.in1 I1.env0.in1.in1 (hb s1 [.ref a] I1.kIn rfl) (.cons rfl .nil) q) fun r s' hq => ?_)
  cases r with
  | error e => exact hq.elim
  | ok fl =>
    cases fl with
    | ret u =>
      obtain ⟨v, H2, I2, rv, ⟨z, rfl⟩, q2⟩ := I1.after hq
      obtain ⟨t, rfl⟩ := rv
      exact ⟨.str z, H2, I2, ⟨t, rfl⟩, q2⟩
    | next => exact False.elim hq
    | brk => exact False.elim hq
    | cont => exact False.elim hq
end
end Pk
namespace Pk
open PySem L2
/-! ### calls with keywords, of defs with defaults -/
section
variable {K : PySem.W.Frag} {x qual : Str} {params : Arguments} {body : List Stmt} {scope : Scope} {dvs : List V} {f : Addr} {fd : FuncData} {ps : List Str}
theorem kbnD (F : FunD K x qual params body scope dvs [] f fd) (n : Nat) (ks : List Str) (g : {α : Type} → List α → List α → List α → List α) (hd : dvs ≠ [])
    (hrel : ∀ {vs ds zs : List V} {us its ws : List Value}, Vals vs us → Vals ds its → Vals zs ws → Vals (g vs ds zs) (g us its ws))
    (h : ∀ (T : Addr) (kV doc pm : Value) (an : Option Addr) (cdv ct : Value) (us its ws : List Value), us.length = n → its.length = dvs.length → ws.length = ks.length →
      ∃ k, bindArgs (PySem.W.fnOf x qual params body scope (.ref T) kV doc pm an cdv ct) ⟨us, ks.zip ws⟩ = seqItems? (.ref T) >>= k ∧ k (some its.toArray) = pure (ps.zip (g us its ws))) :
    ∃ its : List Value, KBn K fd ps n ks (fun us ws => g us its ws) (fun vs zs => g vs dvs zs) := by
  obtain ⟨oc, od, dV, kV, doc, pm, an, cdv, ct, osl, rfl, lk, hcd, hD, hK⟩ := F.ex
  rcases hD with ⟨e, _⟩ | ⟨_, T, o, its, m, rfl, lT, oT, rT⟩
  · exact absurd e hd
  · refine ⟨its, ⟨fun s us ws X l1 l2 => ?_, fun r1 r2 => hrel r1 rT r2⟩⟩
    obtain ⟨k, e1, e2⟩ := h T kV doc pm an cdv ct us its ws l1 rT.length.symm l2
    refine BindsTo.of_looks fun M => ?_
    rw [e1]
    exact looks_items X lT oT (.of_pure e2)
end
section
variable {X : Cx} {CX : CXT} {k : Nat} {f : Addr} {fd : FuncData} {ps ks : List Str} {sp : Sp} {E : XK} {x : Str} {p pos : Pos} {kws : List Keyword} {tk : TA} {g : List Value → List Value → List Value} {gV : List V → List V → List V}
theorem pe_callN0 (F : FnOk X.prog X.w X.K X.mg X.base CX k f fd ps sp) (hr : Room k X.A) (hg : Gl X x) (hm : X.mg x = some (.ref f)) (hk : PySem.W.keepIn X.K (.ref f) = true) (hb : KBn X.K fd ps 0 ks g gV) (hx : Passes CX X E)
    (hkw : PK X kws tk) (hall : (backToKw pos (keywordEach kws X.env)).all (·.1.isSome) = true := by rfl) (hks : (backToKw pos (keywordEach kws X.env)).filterMap (·.1) = ks := by rfl) (hdb : (x == ("__debug__" : Str)) = false := by decide)
    (hpl : ((backTo pos (starEach [] X.env)).any (·.1) || (backToKw pos (keywordEach kws X.env)).any (·.1.isNone)) = false := by rfl) :
    PE X (.Call (.Name x p) [] kws pos) (tCallN 0 ks.length sp gV E tNil tk) := by
  constructor
  intro pins s σ H Q I h
  refine wpAny_Call_Name_kw (ld_glob I hg hm ?_ hdb)
  refine PySem.W.callWith_KW0 (h₀ := X.base) I.ok.mod.kin hk hall (thn (hkw.run pos pins s σ H _ I h) ?_) hpl
  rintro ws s2 ⟨zs, H2, I2, rz, l1, l2, q2⟩
  refine ⟨I2.kIn, ?_⟩
  rw [hks]
  exact run_fnN (us := []) (vs := []) F hr hb hx I2 .nil rz l1 l2 q2
theorem pe_callK0 (F : FnOk X.prog X.w X.K X.mg X.base CX k f fd ps sp) (hr : Room k X.A) (hg : Gl X x) (hm : X.mg x = some (.ref f)) (hk : PySem.W.keepIn X.K (.ref f) = true) (hb : KBinds X.K fd ps ks g gV) (hx : Passes CX X E)
    (hkw : PK X kws tk) (hall : (backToKw pos (keywordEach kws X.env)).all (·.1.isSome) = true := by rfl) (hks : (backToKw pos (keywordEach kws X.env)).filterMap (·.1) = ks := by rfl) (hdb : (x == ("__debug__" : Str)) = false := by decide)
    (hpl : ((backTo pos (starEach [] X.env)).any (·.1) || (backToKw pos (keywordEach kws X.env)).any (·.1.isNone)) = false := by rfl) :
    PE X (.Call (.Name x p) [] kws pos) (tCallK sp gV E tNil tk) := by
  constructor
  intro pins s σ H Q I h
  refine wpAny_Call_Name_kw (ld_glob I hg hm ?_ hdb)
  refine PySem.W.callWith_KW0 (h₀ := X.base) I.ok.mod.kin hk hall (thn (hkw.run pos pins s σ H _ I h) ?_) hpl
  rintro ws s2 ⟨zs, H2, I2, rz, q2⟩
  refine ⟨I2.kIn, ?_⟩
  rw [hks]
  exact run_fnk (us := []) (vs := []) F hr hb hx I2 .nil rz q2
/-- a def of one parameter, called by its name or by place -/
theorem kbinds_one {K : PySem.W.Frag} {nm ql pr : Str} {st : Stmt} {f : Addr} {fd : FuncData} (F : Fun K nm ql st f fd)
    (h1 : ∀ (kV doc pm : Value) (an : Option Addr) (cdv ct u : Value), bindArgs (PySem.W.fnOf nm ql (defArgs st) (defBody st) (defScope st) .none kV doc pm an cdv ct) ⟨[], [(pr, u)]⟩ = pure [(pr, u)])
    (h2 : ∀ (kV doc pm : Value) (an : Option Addr) (cdv ct u : Value), bindArgs (PySem.W.fnOf nm ql (defArgs st) (defBody st) (defScope st) .none kV doc pm an cdv ct) ⟨[u], []⟩ = pure [(pr, u)]) :
    KBinds K fd [pr] [pr] (fun us ws => us ++ ws) (fun vs zs => vs ++ zs) := by
  obtain ⟨oc, od, kV, doc, pm, an, cdv, ct, osl, rfl, lk, hcd⟩ := F.ex
  exact ⟨fun s us ws _ hl => match us, ws, hl with
    | [], [u], _ => .of_eq (h1 kV doc pm an cdv ct u)
    | [u], [], _ => .of_eq (h2 kV doc pm an cdv ct u), fun r1 r2 => r1.append r2⟩
end
end Pk
namespace Pk
open PySem L2
/-! ### questions.py: a question made -/
def manyV (H : Hp) (an : V) : Int := (((tupV H an).getD []).length : Nat)
/-- the first part that can't be there -/
def wrongP (H : Hp) (nm mt an ri to ma ki : V) : Str :=
  if nameV nm = false then "name" else if nameV mt = false then "matter" else if answersV H an = false then "answers" else if whole ri 0 (manyV H an - 1) = false then "right" else if whole to 1 9 = false then "toil" else if whole ma 1 9 = false then "marks" else if nameE ki = false then "kin" else ""
def qFs (nm mt an ri to ma ki : V) : List (Str × V) := [("name", nm), ("matter", mt), ("answers", an), ("right", ri), ("toil", to), ("marks", ma), ("kin", ki)]
theorem qFs_put (nm mt an ri to ma ki : V) : putF "kin" ki (putF "marks" ma (putF "toil" to (putF "right" ri (putF "answers" an (putF "matter" mt (putF "name" nm [])))))) = qFs nm mt an ri to ma ki := by kernel_rfl
theorem put_le {f : Str} {v : V} {fs : List (Str × V)} {n : Nat} (h : fs.length ≤ n) : (putF f v fs).length ≤ n + 1 := by
  have := length_putF f v fs
  omega
/-- a thing, and, of a tuple, the things in it -/
def Thgs (H : Hp) (x : V) : Prop := Thg H x ∧ ∀ ws, tupV H x = some ws → ∀ v ∈ ws, Thg H v
theorem Thgs.same {H H' : Hp} {x : V} (h : Thgs H x) (s : Same H H') : Thgs H' x := ⟨h.1.same s, fun ws e v hv => (h.2 ws ((h.1.tupS s).symm.trans e) v hv).same s⟩
structure Parts (H : Hp) (nm mt an ri to ma ki : V) : Prop where
  nm : Thg H nm
  mt : Thg H mt
  an : Thgs H an
  ri : Thg H ri
  to : Thg H to
  ma : Thg H ma
  ki : Thg H ki
theorem Parts.same {H H' : Hp} {nm mt an ri to ma ki : V} (h : Parts H nm mt an ri to ma ki) (s : Same H H') : Parts H' nm mt an ri to ma ki := ⟨h.nm.same s, h.mt.same s, h.an.same s, h.ri.same s, h.to.same s, h.ma.same s, h.ki.same s⟩
theorem Parts.wrong {H H' : Hp} {nm mt an ri to ma ki : V} (h : Parts H nm mt an ri to ma ki) (s : Same H H') : wrongP H' nm mt an ri to ma ki = wrongP H nm mt an ri to ma ki := by
  have e := h.an.1.tupS s
  unfold wrongP answersV manyV
  rw [e]
def spQInit (CQ cE : Addr) : Sp := fun vs H Q E => ∃ (x dx : Addr) (nm mt an ri to ma ki : V), vs = [.ref x, nm, mt, an, ri, to, ma, ki] ∧ H x = some (.ins CQ dx []) ∧ Parts H nm mt an ri to ma ki ∧
  ∀ H', Same H H' → (wrongP H nm mt an ri to ma ki = "" → Q .non (upd H' x (.ins CQ dx (qFs nm mt an ri to ma ki)))) ∧
    (wrongP H nm mt an ri to ma ki ≠ "" → ∀ d, H' d = none → E (.ref cE) (some d) (upd H' d (.xd [(("part" : Str), .str (wrongP H nm mt an ri to ma ki))])))
abbrev VaLine : List Value := [.type "ValueError", .type "Exception", .type "BaseException", .type "object"]
abbrev psQ : List Str := ["self", "name", "matter", "answers", "right", "toil", "marks", "kin"]
abbrev dvQ : List V := [.int 0, .int 5, .int 1, .str ""]
structure QCls (K : PySem.W.Frag) (CQ : Addr) : Prop where
  cls : Cls K CQ
  no : ∀ f ∈ ["name", "matter", "answers", "right", "toil", "marks", "kin"], NoAttr K CQ f
section
variable {P : Program} {w : World} {K : PySem.W.Frag} {mg : Str → Option Value} {base : Heap}
theorem scQInit : FnScope psQ psQ (defScope sQInit) := ⟨rfl, rfl, rfl, by decide +kernel, rfl, by decide +kernel, by decide +kernel⟩
theorem ok_qInit {f fN fW fA fE CQ cE fI : Addr} {fd fdN fdW fdA fdE : FuncData} (F : FunD K "__init__" "Question.__init__" (defArgs sQInit) (defBody sQInit) (defScope sQInit) dvQ [] f fd)
    (T : Of_part.Tx K mg "BadQuestion" "BadQuestion.__init__" cE fI "ValueError" "ValueError.__new__" "ValueError.__init__" VaLine) (C : QCls K CQ)
    (GN : FnOk P w K mg base CX0 1 fN fdN ["thing"] spIsName) (kN : PySem.W.keepIn K (.ref fN) = true) (bN : Binds K fdN ["thing"] []) (gN : mg "is_name" = some (.ref fN))
    (GA : FnOk P w K mg base CX0 3 fA fdA ["thing"] spAreAnswers) (kA : PySem.W.keepIn K (.ref fA) = true) (bA : Binds K fdA ["thing"] []) (gA : mg "are_answers" = some (.ref fA))
    (GW : FnOk P w K mg base CX0 2 fW fdW ["thing", "least", "most"] spIsWhole) (kW : PySem.W.keepIn K (.ref fW) = true) (bW : ∃ ds, Vals ([] : List V) ds ∧ Binds K fdW ["thing", "least", "most"] ds) (gW : mg "is_whole" = some (.ref fW))
    (GE : FnOk P w K mg base CX0 2 fE fdE ["thing"] spIsNameE) (kE : PySem.W.keepIn K (.ref fE) = true) (bE : Binds K fdE ["thing"] []) (gE : mg "is_name_or_empty" = some (.ref fE))
    (ml : mg "len" = none) (mt : mg "tuple" = none) : FnOk P w K mg base (L2.CX P w) 5 f fd psQ (spQInit CQ cE) := by
  obtain ⟨ds, hds, bW⟩ := bW
  refine F.ok scQInit (fun vs H Q E h => ?_) (fun cdv A outer s H vs Q E hr h => ?_)
  · obtain ⟨x, dx, nm, mt, an, ri, to, ma, ki, rfl, _⟩ := h
    rfl
  · obtain ⟨x, dx, nm, mtr, an, ri, to, ma, ki, rfl, hx, hp, q⟩ := h
    have r1 : Room 1 _ := hr.mono (by decide)
    have r2 : Room 2 _ := hr.mono (by decide)
    have r3 : Room 3 _ := hr.mono (by decide)
    refine ⟨_, pss_cons (ps_if (pt_not (pt_val (pe_call GN r1 (by rfl) gN kN bN .nil pass0 (pa_cons (pv 1) pa_nil)))) (pss_one (ps_raise_part rfl T hr (takes_of rfl rfl rfl rfl) (by exact (pa_cons pe_str pa_nil)))) pss_nil)
      (pss_cons (ps_if (pt_not (pt_val (pe_call GN r1 (by rfl) gN kN bN .nil pass0 (pa_cons (pv 2) pa_nil)))) (pss_one (ps_raise_part rfl T hr (takes_of rfl rfl rfl rfl) (by exact (pa_cons pe_str pa_nil)))) pss_nil)
      (pss_cons (ps_if (pt_not (pt_val (pe_call GA r3 (by rfl) gA kA bA .nil pass0 (pa_cons (pv 3) pa_nil)))) (pss_one (ps_raise_part rfl T hr (takes_of rfl rfl rfl rfl) (by exact (pa_cons pe_str pa_nil)))) pss_nil)
      (pss_cons (ps_if (pt_not (pt_val (pe_call GW r2 (by rfl) gW kW bW hds pass0 (pa_cons (pv 4) (pa_cons pe_int (pa_cons (pe_op op_sub (pe_callB call_len_seq (by rfl) ml PySem.boot_len (pa_cons (pv 3) pa_nil)) pe_int) pa_nil)))))) (pss_one (ps_raise_part rfl T hr (takes_of rfl rfl rfl rfl) (by exact (pa_cons pe_str pa_nil)))) pss_nil)
      (pss_cons (ps_if (pt_not (pt_val (pe_call GW r2 (by rfl) gW kW bW hds pass0 (pa_cons (pv 5) (pa_cons pe_int (pa_cons pe_int pa_nil)))))) (pss_one (ps_raise_part rfl T hr (takes_of rfl rfl rfl rfl) (by exact (pa_cons pe_str pa_nil)))) pss_nil)
      (pss_cons (ps_if (pt_not (pt_val (pe_call GW r2 (by rfl) gW kW bW hds pass0 (pa_cons (pv 6) (pa_cons pe_int (pa_cons pe_int pa_nil)))))) (pss_one (ps_raise_part rfl T hr (takes_of rfl rfl rfl rfl) (by exact (pa_cons pe_str pa_nil)))) pss_nil)
      (pss_cons (ps_if (pt_not (pt_val (pe_call GE r2 (by rfl) gE kE bE .nil pass0 (pa_cons (pv 7) pa_nil)))) (pss_one (ps_raise_part rfl T hr (takes_of rfl rfl rfl rfl) (by exact (pa_cons pe_str pa_nil)))) pss_nil)
      (pss_cons (ps_fld (pv 0) (pv 1) rfl)
      (pss_cons (ps_fld (pv 0) (pv 2) rfl)
      (pss_cons (ps_fld (pv 0) (pe_callTy call_tupleT (by rfl) mt PyProof.Rows.boot_tuple (pa_cons (pv 3) pa_nil)) rfl)
      (pss_cons (ps_fld (pv 0) (pv 4) rfl)
      (pss_cons (ps_fld (pv 0) (pv 5) rfl)
      (pss_cons (ps_fld (pv 0) (pv 6) rfl)
      (pss_one (ps_fld (pv 0) (pv 7) rfl)))))))))))))), ?_⟩
    have bad : ∀ {wd : Str}, wrongP H nm mtr an ri to ma ki = wd → wd ≠ "" → ∀ {H' : Hp}, Same H H' → ∀ d, H' d = none → E (.ref cE) (some d) (upd H' d (.xd [(("part" : Str), .str wd)])) := fun {wd} e n {H'} s' d hd => by
      have := (q H' s').2 (by rw [e]; exact n) d hd
      rw [e] at this
      exact this
    refine ⟨_, rfl, nm, rfl, hp.nm, fun H1 s1 => ⟨_, rfl, ?_⟩⟩
    cases h1 : nameV nm with
    | false => exact iteT ⟨_, rfl, fun d hd => bad (by unfold wrongP; rw [if_pos h1]) (by decide) s1 d hd⟩
    | true =>
    refine iteF ⟨_, rfl, mtr, rfl, hp.mt.same s1, fun H2 s2 => ⟨_, rfl, ?_⟩⟩
    have s12 : Same H H2 := s1.trans s2
    cases h2 : nameV mtr with
    | false => exact iteT ⟨_, rfl, fun d hd => bad (by unfold wrongP; rw [if_neg (by rw [h1]; decide), if_pos h2]) (by decide) s12 d hd⟩
    | true =>
    refine iteF ⟨_, rfl, an, rfl, (hp.an.same s12).1, (hp.an.same s12).2, fun H3 s3 => ⟨_, rfl, ?_⟩⟩
    have s13 : Same H H3 := s12.trans s3
    have e3 : answersV H2 an = answersV H an := by
      unfold answersV
      rw [hp.an.1.tupS s12]
    rw [e3]
    cases h3 : answersV H an with
    | false => exact iteT ⟨_, rfl, fun d hd => bad (by unfold wrongP; rw [if_neg (by rw [h1]; decide), if_neg (by rw [h2]; decide), if_pos h3]) (by decide) s13 d hd⟩
    | true =>
    have ht : ∃ ws, tupV H an = some ws := by
      unfold answersV at h3
      cases e : tupV H an with
      | none => rw [e] at h3; cases h3
      | some ws => exact ⟨ws, rfl⟩
    obtain ⟨ws, ht⟩ := ht
    obtain ⟨a, rfl, ha⟩ := tupV_of ht
    have hm : manyV H (.ref a) = (ws.length : Int) := by
      unfold manyV
      rw [ht]
      rfl
    refine iteF ⟨_, rfl, _, rfl, a, ws, rfl, .inr (SqT.of (s13 _ _ ha)), _, _, rfl, rfl, ri, 0, _, rfl, hp.ri.same s13, _, rfl, ?_⟩
    cases h4 : whole ri 0 (manyV H (.ref a) - 1) with
    | false =>
      rw [hm] at h4
      rw [h4]
      exact iteT ⟨_, rfl, fun d hd => bad (by unfold wrongP; rw [if_neg (by rw [h1]; decide), if_neg (by rw [h2]; decide), if_neg (by rw [h3]; decide), if_pos (by rw [hm]; exact h4)]) (by decide) s13 d hd⟩
    | true =>
    have h4' := h4
    rw [hm] at h4'
    rw [h4']
    refine iteF ⟨_, rfl, to, 1, 9, rfl, hp.to.same s13, _, rfl, ?_⟩
    cases h5 : whole to 1 9 with
    | false => exact iteT ⟨_, rfl, fun d hd => bad (by unfold wrongP; rw [if_neg (by rw [h1]; decide), if_neg (by rw [h2]; decide), if_neg (by rw [h3]; decide), if_neg (by rw [h4]; decide), if_pos h5]) (by decide) s13 d hd⟩
    | true =>
    refine iteF ⟨_, rfl, ma, 1, 9, rfl, hp.ma.same s13, _, rfl, ?_⟩
    cases h6 : whole ma 1 9 with
    | false => exact iteT ⟨_, rfl, fun d hd => bad (by unfold wrongP; rw [if_neg (by rw [h1]; decide), if_neg (by rw [h2]; decide), if_neg (by rw [h3]; decide), if_neg (by rw [h4]; decide), if_neg (by rw [h5]; decide), if_pos h6]) (by decide) s13 d hd⟩
    | true =>
    refine iteF ⟨_, rfl, ki, rfl, hp.ki.same s13, fun H4 s4 => ⟨_, rfl, ?_⟩⟩
    have s14 : Same H H4 := s13.trans s4
    cases h7 : nameE ki with
    | false => exact iteT ⟨_, rfl, fun d hd => bad (by unfold wrongP; rw [if_neg (by rw [h1]; decide), if_neg (by rw [h2]; decide), if_neg (by rw [h3]; decide), if_neg (by rw [h4]; decide), if_neg (by rw [h5]; decide), if_neg (by rw [h6]; decide), if_pos h7]) (by decide) s14 d hd⟩
    | true =>
    have good := (q H4 s14).1 (by unfold wrongP; rw [if_neg (by rw [h1]; decide), if_neg (by rw [h2]; decide), if_neg (by rw [h3]; decide), if_neg (by rw [h4]; decide), if_neg (by rw [h5]; decide), if_neg (by rw [h6]; decide), if_neg (by rw [h7]; decide)])
    have ax : a ≠ x := fun e => by
      rw [e, hx] at ha
      cases ha
    have ha4 := s14 _ _ ha
    rw [← qFs_put] at good
    refine iteF ⟨_, rfl, _, rfl, x, CQ, dx, _, rfl, s14 _ _ hx, C.cls, C.no _ (by decide), by decide, ?_⟩
    refine ⟨_, rfl, _, rfl, x, CQ, dx, _, rfl, upd_same, C.cls, C.no _ (by decide), Nat.lt_of_le_of_lt (put_le (Nat.le_refl 0)) (by decide), ?_⟩
    refine ⟨_, rfl, a, ws, rfl, ?_, _, rfl, x, CQ, dx, _, rfl, upd_same, C.cls, C.no _ (by decide), Nat.lt_of_le_of_lt (put_le (put_le (Nat.le_refl 0))) (by decide), ?_⟩
    · exact SqT.of (by rw [upd_ne ax, upd_ne ax]; exact ha4)
    refine ⟨_, rfl, _, rfl, x, CQ, dx, _, rfl, upd_same, C.cls, C.no _ (by decide), Nat.lt_of_le_of_lt (put_le (put_le (put_le (Nat.le_refl 0)))) (by decide), ?_⟩
    refine ⟨_, rfl, _, rfl, x, CQ, dx, _, rfl, upd_same, C.cls, C.no _ (by decide), Nat.lt_of_le_of_lt (put_le (put_le (put_le (put_le (Nat.le_refl 0))))) (by decide), ?_⟩
    refine ⟨_, rfl, _, rfl, x, CQ, dx, _, rfl, upd_same, C.cls, C.no _ (by decide), Nat.lt_of_le_of_lt (put_le (put_le (put_le (put_le (put_le (Nat.le_refl 0)))))) (by decide), ?_⟩
    refine ⟨_, rfl, _, rfl, x, CQ, dx, _, rfl, upd_same, C.cls, C.no _ (by decide), Nat.lt_of_le_of_lt (put_le (put_le (put_le (put_le (put_le (put_le (Nat.le_refl 0))))))) (by decide), ?_⟩
    rw [upd_upd, upd_upd, upd_upd, upd_upd, upd_upd, upd_upd]
    exact good
end
end Pk
namespace Pk
open PySem L2
/-! ### how a question's parts come in -/
abbrev FunQ (K : PySem.W.Frag) (f : Addr) (fd : FuncData) : Prop := FunD K "__init__" "Question.__init__" (defArgs sQInit) (defBody sQInit) (defScope sQInit) dvQ [] f fd
section
variable {K : PySem.W.Frag} {f : Addr} {fd : FuncData}
theorem bQ7 (F : FunQ K f fd) : ∃ ds, Vals ([] : List V) ds ∧ Binds K fd psQ ds :=
  F.binds1 8 4 (fun z => nomatch z) rfl fun T kV doc pm an cdv ct us its l1 l2 => match us, its, l1, l2 with
    | [_, _, _, _, _, _, _, _], [_, _, _, _], _, _ => ⟨_, rfl, rfl⟩
theorem bQ3 (F : FunQ K f fd) : ∃ ds, Vals dvQ ds ∧ Binds K fd psQ ds :=
  F.binds1 4 0 (fun z => nomatch z) rfl fun T kV doc pm an cdv ct us its l1 l2 => match us, its, l1, l2 with
    | [_, _, _, _], [_, _, _, _], _, _ => ⟨_, rfl, rfl⟩
abbrev ksQ : List Str := ["kin", "toil", "name", "marks", "answers", "right", "matter"]
def gQ7 {α : Type} (us _its ws : List α) : List α := us ++ ((ws.drop 2).take 1 ++ ((ws.drop 6).take 1 ++ ((ws.drop 4).take 1 ++ ((ws.drop 5).take 1 ++ ((ws.drop 1).take 1 ++ ((ws.drop 3).take 1 ++ ws.take 1))))))
def gQ1 {α : Type} (us its ws : List α) : List α := us ++ (its.take 1 ++ (ws.take 1 ++ its.drop 2))
theorem kQ7 (F : FunQ K f fd) : ∃ its : List Value, KBn K fd psQ 1 ksQ (fun us ws => gQ7 us its ws) (fun vs zs => gQ7 vs dvQ zs) :=
  kbnD F 1 ksQ gQ7 (fun z => nomatch z) (fun r1 _ r3 => r1.append (((r3.drop 2).take 1).append (((r3.drop 6).take 1).append (((r3.drop 4).take 1).append (((r3.drop 5).take 1).append (((r3.drop 1).take 1).append (((r3.drop 3).take 1).append (r3.take 1))))))))
    fun T kV doc pm an cdv ct us its ws l1 l2 l3 => match us, its, ws, l1, l2, l3 with
    | [_], [_, _, _, _], [_, _, _, _, _, _, _], _, _, _ => ⟨_, rfl, rfl⟩
theorem kQ1 (F : FunQ K f fd) : ∃ its : List Value, KBn K fd psQ 4 ["toil"] (fun us ws => gQ1 us its ws) (fun vs zs => gQ1 vs dvQ zs) :=
  kbnD F 4 ["toil"] gQ1 (fun z => nomatch z) (fun r1 r2 r3 => r1.append ((r2.take 1).append ((r3.take 1).append (r2.drop 2))))
    fun T kV doc pm an cdv ct us its ws l1 l2 l3 => match us, its, ws, l1, l2, l3 with
    | [_, _, _, _], [_, _, _, _], [_], _, _, _ => ⟨_, rfl, rfl⟩
end
/-! ### what a bad question says -/
/-! ### the law's own making -/
def someP (i : Int) (ri to ma ki : V) : V × V × V × V := if i = 2 then (.int 0, to, .int 1, .str "") else if i = 3 then (.int 0, .int 5, .int 1, .str "") else (ri, to, ma, ki)
def wrongI (H : Hp) (i : Int) (nm mt an ri to ma ki : V) : Str := match someP i ri to ma ki with
  | (r, t, m, k) => wrongP H nm mt an r t m k
def qFsI (i : Int) (nm mt an ri to ma ki : V) : List (Str × V) := match someP i ri to ma ki with
  | (r, t, m, k) => qFs nm mt an r t m k
def PAt (H : Hp) (p : Addr) (nm mt an ri to ma ki : V) : Prop := H p = some (.tup [nm, mt, an, ri, to, ma, ki]) ∧ Parts H nm mt an ri to ma ki
def spMade (CQ cE : Addr) : Sp := fun vs H Q E => ∃ (i : Int) (p : Addr) (nm mt an ri to ma ki : V), vs = [.int i, .ref p] ∧ 0 ≤ i ∧ i ≤ 3 ∧ PAt H p nm mt an ri to ma ki ∧
  (∀ (x dx : Addr) (H' : Hp), Same H H' → wrongI H i nm mt an ri to ma ki = "" → H' x = some (.ins CQ dx (qFsI i nm mt an ri to ma ki)) → Q (.ref x) H') ∧
  (∀ (d : Addr) (H' : Hp), Same H H' → wrongI H i nm mt an ri to ma ki ≠ "" → H' d = some (.xd [(("part" : Str), .str (wrongI H i nm mt an ri to ma ki))]) → E (.ref cE) (some d) H')
section
variable {P : Program} {w : World} {K : PySem.W.Frag} {mg : Str → Option Value} {base : Heap}
theorem thg_empty {H : Hp} : Thg H (.str "") := .str _ (by decide) fun c hc => by
  rw [show ("" : Str).cps.toList = [] from empty_tl] at hc
  cases hc
theorem made_fin {H : Hp} {CQ cE : Addr} {Q : VK} {E : XK} {nm mt an r t m k : V} (hp : Parts H nm mt an r t m k)
    (q1 : ∀ (x dx : Addr) (H' : Hp), Same H H' → wrongP H nm mt an r t m k = "" → H' x = some (.ins CQ dx (qFs nm mt an r t m k)) → Q (.ref x) H')
    (q2 : ∀ (d : Addr) (H' : Hp), Same H H' → wrongP H nm mt an r t m k ≠ "" → H' d = some (.xd [(("part" : Str), .str (wrongP H nm mt an r t m k))]) → E (.ref cE) (some d) H') :
    ∀ x dx, H x = none → H dx = none → dx ≠ x → spQInit CQ cE [.ref x, nm, mt, an, r, t, m, k] (upd (upd H dx (.own x)) x (.ins CQ dx [])) (fun v H2 => v = .non ∧ Q (.ref x) H2) E := fun x dx hx hdx ne => by
  have s0 : Same H (upd (upd H dx (.own x)) x (.ins CQ dx [])) := fun b o e => by
    rw [upd_ne (ne_of_none e hx), upd_ne (ne_of_none e hdx)]
    exact e
  have ew := hp.wrong s0
  refine ⟨x, dx, nm, mt, an, r, t, m, k, rfl, upd_same, hp.same s0, fun H' s' => ⟨fun e => ⟨rfl, ?_⟩, fun n d hd => ?_⟩⟩
  · rw [ew] at e
    exact q1 x dx _ (fun b o e => by rw [upd_ne (ne_of_none e hx)]; exact s' b o (s0 b o e)) e upd_same
  · rw [ew] at n ⊢
    refine q2 d _ (fun b o e => ?_) n upd_same
    have := s' b o (s0 b o e)
    rw [upd_ne (ne_of_none this hd)]
    exact this
end
end Pk
namespace Pk
open PySem L2
def caughtBy (cB : Addr) (c : Nat → Addr) : List Value := [.ref cB, .ref (c 5), .ref (c 6), .ref (c 7), .ref (c 8), .ref (c 9), .ref (c 10), .ref (c 11), .ref (c 12), .ref (c 13)]
theorem names10 {X : Cx} {cB : Addr} {c : Nat → Addr} {p0 p1 p2 p3 p4 p5 p6 p7 p8 p9 : Pos} (gB : X.mg "BankError" = some (.ref cB)) (T : Fourteen X.mg c) (h0 : Gl X "BankError") (h5 : Gl X "BadQuestion") (h6 : Gl X "BadText") (h7 : Gl X "NoSuch") (h8 : Gl X "NoPlace") (h9 : Gl X "TooMany") (h10 : Gl X "BadKind") (h11 : Gl X "Unmet") (h12 : Gl X "NoAnswers") (h13 : Gl X "Twice") :
    NamesAll X [.Name "BankError" p0, .Name "BadQuestion" p1, .Name "BadText" p2, .Name "NoSuch" p3, .Name "NoPlace" p4, .Name "TooMany" p5, .Name "BadKind" p6, .Name "Unmet" p7, .Name "NoAnswers" p8, .Name "Twice" p9] (caughtBy cB c) :=
  .cons h0 (by decide) gB (.cons h5 (by decide) T.g5 (.cons h6 (by decide) T.g6 (.cons h7 (by decide) T.g7 (.cons h8 (by decide) T.g8 (.cons h9 (by decide) T.g9 (.cons h10 (by decide) T.g10 (.cons h11 (by decide) T.g11 (.cons h12 (by decide) T.g12 (.cons h13 (by decide) T.g13 .nil)))))))))

/-- the classes, the names of the built-ins and of the module, as the top has left them -/
structure Txq (K : PySem.W.Frag) (mg : Str → Option Value) (cB fI : Addr) (c : Nat → Addr) : Prop where
  gB : mg "BankError" = some (.ref cB)
  cl : Fourteen mg c
  bq : Of_part.Tx K mg "BadQuestion" "BadQuestion.__init__" (c 5) fI "ValueError" "ValueError.__new__" "ValueError.__init__" VaLine
  kt : Kits K c (c 5) (fun i => decide (i = 5))
  ca : PySem.W.exmAny K (.ref (c 5)) (caughtBy cB c) = some true
  kv : PySem.W.kitOne K (.ref (c 5)) (.type "ValueError") = some true
  isi : mg "isinstance" = none
  val : mg "ValueError" = none
  zip : mg "zip" = none
  len : mg "len" = none
  str : mg "str" = none
  int : mg "int" = none
  bool : mg "bool" = none
  tuple : mg "tuple" = none
  list : mg "list" = none
  set : mg "set" = none
  range : mg "range" = none
  enum : mg "enumerate" = none
  all : mg "all" = none
  ord : mg "ord" = none
  repr : mg "repr" = none
  gM : ∃ t, mg "MOST_LETTERS" = some (.int 8 t)
  gS : ∃ t, mg "MOST_SIGNS" = some (.int 30 t)
  gP : ∃ t, mg "PERCENT" = some (.int 37 t)
  g2 : ∃ t, mg "LEAST_ANSWERS" = some (.int 2 t)
  g6 : ∃ t, mg "MOST_ANSWERS" = some (.int 6 t)
/-- what is said of a making -/
def valsI (i : Int) (nm mt an ri to ma ki : V) : List V := match someP i ri to ma ki with
  | (r, t, m, k) => [nm, mt, an, r, t, m, k]
def saidQ (H : Hp) (i : Int) (nm mt an ri to ma ki : V) : List V := if wrongI H i nm mt an ri to ma ki = "" then .str "told" :: valsI i nm mt an ri to ma ki else [.str "question", .str (wrongI H i nm mt an ri to ma ki), .str ("bad " ++ wrongI H i nm mt an ri to ma ki)]
def spSaidX : Sp := fun vs H Q _ => ∃ (i : Int) (p : Addr) (nm mt an ri to ma ki : V), vs = [.int i, .ref p] ∧ 0 ≤ i ∧ i ≤ 3 ∧ PAt H p nm mt an ri to ma ki ∧
  ∀ (t : Addr) (H' : Hp), Same H H' → H' t = some (.tup (saidQ H i nm mt an ri to ma ki)) → Q (.ref t) H'
theorem look_name (nm mt an r t m k : V) : (qFs nm mt an r t m k).lookup ("name" : Str) = some nm := by kernel_rfl
theorem look_matter (nm mt an r t m k : V) : (qFs nm mt an r t m k).lookup ("matter" : Str) = some mt := by kernel_rfl
theorem look_answers (nm mt an r t m k : V) : (qFs nm mt an r t m k).lookup ("answers" : Str) = some an := by kernel_rfl
theorem look_right (nm mt an r t m k : V) : (qFs nm mt an r t m k).lookup ("right" : Str) = some r := by kernel_rfl
theorem look_toil (nm mt an r t m k : V) : (qFs nm mt an r t m k).lookup ("toil" : Str) = some t := by kernel_rfl
theorem look_marks (nm mt an r t m k : V) : (qFs nm mt an r t m k).lookup ("marks" : Str) = some m := by kernel_rfl
theorem look_kin (nm mt an r t m k : V) : (qFs nm mt an r t m k).lookup ("kin" : Str) = some k := by kernel_rfl
theorem word5 : wordOf (list14 fun i => decide (i = 5)) = "question" := by decide +kernel
theorem wrong_len (H : Hp) (nm mt an r t m k : V) : (wrongP H nm mt an r t m k).length ≤ 10 := by
  unfold wrongP
  repeat' split
  all_goals decide +kernel
section
variable {P : Program} {w : World} {K : PySem.W.Frag} {mg : Str → Option Value} {base : Heap} {cB fI : Addr} {c : Nat → Addr}
end
end Pk
namespace Pk
open PySem L2
/-! ### answers that go round -/
def rotL {α : Type} (l : List α) (k : Nat) : List α := l.drop k ++ l.take k
theorem rot_zero {α : Type} (l : List α) : rotL l 0 = l := by
  unfold rotL
  rw [List.drop_zero, List.take_zero, List.append_nil]
theorem rot_len {α : Type} (l : List α) (k : Nat) : (rotL l k).length = l.length := by
  unfold rotL
  rw [List.length_append, List.length_drop, List.length_take]
  omega
theorem rot_step {α : Type} {l : List α} {k : Nat} (h : k < l.length) : (rotL l k).drop 1 ++ (rotL l k).take 1 = rotL l (k + 1) := by
  unfold rotL
  rw [List.drop_eq_getElem_cons h, List.cons_append, List.drop_succ_cons, List.drop_zero, List.take_succ_cons, List.take_zero, List.append_assoc, List.take_append_getElem]
theorem rot_perm {α : Type} (l : List α) (k : Nat) : (rotL l k).Perm l := by
  unfold rotL
  exact List.perm_append_comm.trans (by rw [List.take_append_drop])
theorem rot_map {α β : Type} (f : α → β) (l : List α) (k : Nat) : (rotL l k).map f = rotL (l.map f) k := by
  unfold rotL
  rw [List.map_append, List.map_drop, List.map_take]
theorem rot_mem {α : Type} {l : List α} {k : Nat} {x : α} (h : x ∈ rotL l k) : x ∈ l := (rot_perm l k).mem_iff.mp h
theorem unlike_nodup {zs : List Str} (nd : zs.Nodup) : ∀ i, i ≤ zs.length → unlike zs i = i
  | 0, _ => rfl
  | i + 1, h => by
    have hi : i < zs.length := h
    have e1 : zs.getD i Str.empty = zs[i] := by rw [List.getD_eq_getElem?_getD, List.getElem?_eq_getElem hi]; rfl
    have no : seen zs i (zs.getD i Str.empty) = false := by
      unfold seen
      rw [e1, Bool.eq_false_iff]
      intro z
      obtain ⟨y, hy, e⟩ := List.any_eq_true.mp z
      have e' : y = zs[i] := eq_of_beq e
      subst e'
      obtain ⟨j, hj, ej⟩ := List.mem_take_iff_getElem.mp hy
      have hj' : j < i := by omega
      exact List.pairwise_iff_getElem.mp nd j i (by omega) hi hj' ej
    unfold unlike
    rw [no, unlike_nodup nd i (by omega)]
    rfl
theorem nodup_take {zs : List Str} : ∀ i, i ≤ zs.length → unlike zs i = i → (zs.take i).Nodup
  | 0, _, _ => by rw [List.take_zero]; exact List.nodup_nil
  | i + 1, h, e => by
    have hi : i < zs.length := h
    have e1 : zs.getD i Str.empty = zs[i] := by rw [List.getD_eq_getElem?_getD, List.getElem?_eq_getElem hi]; rfl
    have le := unlike_le zs i
    unfold unlike at e
    cases hs : seen zs i (zs.getD i Str.empty) with
    | true =>
      rw [hs, if_pos rfl] at e
      omega
    | false =>
      rw [hs, if_neg (by decide)] at e
      have ih := nodup_take (zs := zs) i (by omega) (by omega)
      rw [List.take_add_one, List.getElem?_eq_getElem hi, List.nodup_append]
      refine ⟨ih, List.pairwise_singleton _ _, fun x hx y hy z => ?_⟩
      have hy' : y = zs[i] := List.mem_singleton.mp hy
      unfold seen at hs
      rw [e1, Bool.eq_false_iff] at hs
      exact hs (List.any_eq_true.mpr ⟨x, hx, by rw [z, hy']; exact beq_self_eq_true _⟩)
theorem nodup_of_unlike {zs : List Str} (e : unlike zs zs.length = zs.length) : zs.Nodup := by
  have := nodup_take zs.length (Nat.le_refl _) e
  rwa [List.take_length] at this
theorem answers_is {ws : List V} (h : answersL ws = true) : 2 ≤ ws.length ∧ ws.length ≤ 6 ∧ ws.all textV = true ∧ (ws.map strV).Nodup := by
  unfold answersL at h
  simp only [Bool.and_eq_true, decide_eq_true_iff] at h
  refine ⟨h.1.1.1, h.1.1.2, h.1.2, nodup_of_unlike ?_⟩
  rw [List.length_map]
  exact h.2
theorem answers_of {ws : List V} (h2 : 2 ≤ ws.length) (h6 : ws.length ≤ 6) (ht : ws.all textV = true) (nd : (ws.map strV).Nodup) : answersL ws = true := by
  unfold answersL
  have e := unlike_nodup nd ws.length (by rw [List.length_map]; exact Nat.le_refl _)
  rw [decide_eq_true h2, decide_eq_true h6, ht, decide_eq_true e]
  rfl
theorem answers_rot {ws : List V} (h : answersL ws = true) (k : Nat) : answersL (rotL ws k) = true := by
  obtain ⟨h2, h6, ht, nd⟩ := answers_is h
  refine answers_of (by rw [rot_len]; exact h2) (by rw [rot_len]; exact h6) (List.all_eq_true.mpr fun v hv => List.all_eq_true.mp ht v (rot_mem hv)) ?_
  rw [rot_map]
  exact (rot_perm _ _).nodup_iff.mpr nd
/-- the place of the right one, one step on -/
theorem place_step {r n : Int} (k : Nat) (n0 : 0 < n) : (if 0 < (r - k) % n then (r - k) % n - 1 else n - 1) = (r - ((k + 1 : Nat) : Int)) % n := by
  have b0 := Int.emod_nonneg (r - k) (show n ≠ 0 by omega)
  have b1 := Int.emod_lt_of_pos (r - k) n0
  have e : (r - ((k + 1 : Nat) : Int)) % n = ((r - k) % n - 1) % n := by
    rw [show r - ((k + 1 : Nat) : Int) = (r - k) - 1 by omega]
    exact (Int.emod_sub_emod (r - k) n 1).symm
  rw [e]
  generalize (r - (k : Int)) % n = x at b0 b1 ⊢
  by_cases h : 0 < x
  · rw [if_pos h, Int.emod_eq_of_lt (by omega) (by omega)]
  · rw [if_neg h, show x = 0 by omega, show (0 - 1 : Int) = (n - 1) + n * (-1) by omega, Int.add_mul_emod_self_left, Int.emod_eq_of_lt (by omega) (by omega)]
end Pk
namespace Pk
open PySem L2
/-! ### how things are shown -/
theorem from_le : ∀ (ts : List Str) (k : Nat) (acc : Str), (textFrom k acc ts).length ≤ acc.length + (ts.map fun t => t.length + 2).sum
  | [], k, acc => by
    show acc.length ≤ _
    omega
  | t :: r, k, acc => by
    have h := from_le r (k + 1) (acc ++ (if k > 0 then ", " else "" : String) ++ t)
    rw [app_len, app_len] at h
    have h2 : ((if k > 0 then ", " else "" : String) : Str).length ≤ 2 := by
      split <;> decide +kernel
    rw [List.map_cons, List.sum_cons]
    have h3 : textFrom k acc (t :: r) = textFrom (k + 1) (acc ++ (if k > 0 then ", " else "" : String) ++ t) r := rfl
    rw [h3]
    omega
theorem list_le (ts : List Str) : (listText ts).length ≤ 2 + (ts.map fun t => t.length + 2).sum := by
  unfold listText
  rw [app_len, show ("]" : Str).length = 1 by decide +kernel]
  have := from_le ts 0 "["
  rw [show ("[" : Str).length = 1 by decide +kernel] at this
  omega
/-- fit to be shown -/
structure Shows (K : PySem.W.Frag) (H : Hp) (x : V) (d : PyData) : Prop where
  dq : Dq K H x d
  sh : d.showable = true
  dp : d.depth ≤ 64
  sz : d.shown.length ≤ sizeLine
theorem repr_le {z : Str} (hl : z.length ≤ 100) (ho : Sgn z) : (reprText z).length ≤ 1002 := by
  have h := StrLaws.reprText_len z fun c hc => by
    have := ho.ok c hc
    omega
  omega
theorem bools_le : ∀ bs : List Bool, ((PyData.shownAll (bs.map .bool)).map fun t => t.length + 2).sum ≤ 7 * bs.length
  | [] => Nat.le_refl _
  | b :: r => by
    have ih := bools_le r
    show ((PyData.shown (.bool b)).length + 2) + ((PyData.shownAll (r.map .bool)).map fun t => t.length + 2).sum ≤ 7 * (r.length + 1)
    have : (PyData.shown (.bool b)).length ≤ 5 := by
      cases b <;> decide +kernel
    omega
theorem bools_show : ∀ bs : List Bool, PyData.showableAll (bs.map .bool) = true
  | [] => by simp [PyData.showableAll]
  | b :: r => by simp [PyData.showableAll, PyData.showable, bools_show r]
theorem bools_depth : ∀ bs : List Bool, PyData.depthAll (bs.map .bool) = 0
  | [] => by simp [PyData.depthAll]
  | b :: r => by simp [PyData.depthAll, PyData.depth, bools_depth r]
theorem bools_dict : ∀ bs : List Bool, PyData.hasDictAll (bs.map .bool) = false
  | [] => by simp [PyData.hasDictAll]
  | b :: r => by simp [PyData.hasDictAll, PyData.hasDict, bools_dict r]
theorem bools_dp {K : PySem.W.Frag} {H : Hp} : ∀ bs : List Bool, DpAll K H (bs.map V.bl) (bs.map .bool)
  | [] => .nil
  | b :: r => .cons (.bl b) (bools_dp r)
/-- a list of truths -/
theorem shows_bools {K : PySem.W.Frag} {H : Hp} {p : Addr} (bs : List Bool) (h : H p = some (.lst (bs.map V.bl))) (n : bs.length ≤ 100) : Shows K H (.ref p) (.list (bs.map .bool)) where
  dq := .of (.lst (SqL.of h) (bools_dp bs)) (by simp [PyData.hasDict, bools_dict])
  sh := by simp [PyData.showable, bools_show]
  dp := by simp [PyData.depth, bools_depth]
  sz := by
    have h1 := list_le (PyData.shownAll (bs.map .bool))
    have h2 := bools_le bs
    have e : (PyData.list (bs.map .bool)).shown = listText (PyData.shownAll (bs.map .bool)) := by simp [PyData.shown]
    rw [e, sizeLine_eq]
    omega
theorem Itm.shows {K : PySem.W.Frag} {H : Hp} {x : V} (h : Itm H x) : ∃ d, Shows K H x d := by
  cases h with
  | non => exact ⟨.none, .of .non rfl, rfl, by decide, by decide +kernel⟩
  | bl b => exact ⟨.bool b, .of (.bl b) (by simp [PyData.hasDict]), by simp [PyData.showable], by simp [PyData.depth], by cases b <;> decide +kernel⟩
  | int i h =>
    refine ⟨.int i, .of (.int i) (by simp [PyData.hasDict]), decide_eq_true (by omega), by simp [PyData.depth], ?_⟩
    have e : (PyData.int i).shown = Str.ofString (toString i) := by simp [PyData.shown]
    rw [e]
    exact int_text_fits (by omega)
  | str z hl ho =>
    refine ⟨.str z, .of (.str z) (by simp [PyData.hasDict]), by simp [PyData.showable], by simp [PyData.depth], ?_⟩
    have e : (PyData.str z).shown = reprText z := by simp [PyData.shown]
    have := repr_le hl ho
    rw [e, sizeLine_eq]
    omega
  | @lst a v h hv =>
    rcases hv with rfl | ⟨z, rfl, hl, ho⟩
    · refine ⟨.list [.int 1], .of (.lst (SqL.of h) (.cons (.int 1) .nil)) (by simp [PyData.hasDict, PyData.hasDictAll]), by decide +kernel, by decide +kernel, by decide +kernel⟩
    · refine ⟨.list [.str z], .of (.lst (SqL.of h) (.cons (.str z) .nil)) (by simp [PyData.hasDict, PyData.hasDictAll]), by simp [PyData.showable, PyData.showableAll], by simp [PyData.depth, PyData.depthAll], ?_⟩
      have e : (PyData.list [.str z]).shown = listText [reprText z] := by simp [PyData.shown, PyData.shownAll]
      have h1 := list_le [reprText z]
      have h2 := repr_le hl ho
      rw [e, sizeLine_eq]
      simp at h1
      omega
  | tup h => exact ⟨.tuple [.int 1], .of (.tup (SqT.of h) (.cons (.int 1) .nil)) (by simp [PyData.hasDict, PyData.hasDictAll]), by decide +kernel, by decide +kernel, by decide +kernel⟩
  | dct h => exact ⟨.dict [], .emp h, by decide +kernel, by decide +kernel, by decide +kernel⟩
theorem Dq.same {K : PySem.W.Frag} {H H' : Hp} {x : V} {d : PyData} (s : Same H H') (h : Itm H x) (g : Shows K H x d) : True := trivial
end Pk
namespace Pk
open PySem L2
theorem room_show {k : Nat} {A : Around} (hr : Room k A) : A.units + 70 < cLine := by
  have := hr.un
  omega
/-- a reading that asks for more -/
theorem pe_imp {X : Cx} {e : Expr} {t : TE} (t' : TE) (h : PE X e t) (k : ∀ σ H Q, t' σ H Q → t σ H Q) : PE X e t' := ⟨fun pins s σ H Q I w => h.run pins s σ H Q I (k σ H Q w)⟩
/-- signs as texts -/
def sgnD (l : List Nat) : PyData := .list (l.map fun c => .str ⟨#[c]⟩)
theorem sgn_lay : ∀ l : List Nat, (∀ c ∈ l, c < 0x110000) → PyData.canLayAll0 (l.map fun c => .str ⟨#[c]⟩) = true
  | [], _ => by simp [PyData.canLayAll0]
  | c :: r, h => by
    have h1 : PyData.strOk ⟨#[c]⟩ = true := (sok_iff _).mpr fun d hd => by
      rw [List.mem_singleton.mp hd]
      exact h c List.mem_cons_self
    have h2 := sgn_lay r fun d hd => h d (List.mem_cons_of_mem _ hd)
    simp [PyData.canLayAll0, PyData.canLay0, h1, h2]
theorem sgn_depth : ∀ l : List Nat, PyData.depthAll (l.map fun c => .str ⟨#[c]⟩) = 0
  | [] => by simp [PyData.depthAll]
  | c :: r => by simp [PyData.depthAll, PyData.depth, sgn_depth r]
theorem sgn_shaped (l : List Nat) (h : ∀ c ∈ l, c < 0x110000) : SeqAt.shaped (sgnD l) = true := by
  unfold sgnD
  simp [SeqAt.shaped, PyData.canLay0, PyData.depth, sgn_lay l h, sgn_depth]
theorem sgn_dp {K : PySem.W.Frag} {H : Hp} {p : Addr} {l : List Nat} (h : H p = some (.lst (l.map fun c => V.str ⟨#[c]⟩))) : Dp K H (.ref p) (sgnD l) := by
  refine .lst (SqL.of h) ?_
  clear h
  induction l with
  | nil => exact .nil
  | cons c r ih => exact .cons (.str _) ih
theorem sgn_nil (l : List Nat) : PyData.eqv (sgnD l) (sgnD []) = decide (l = []) := by
  cases l with
  | nil => simp [sgnD, PyData.eqv, PyData.eqvAll]
  | cons c r => simp [sgnD, PyData.eqv, PyData.eqvAll]
theorem name_filter (z : Str) : nameT z = (decide (0 < z.length) && (decide (z.length < 9) && decide (z.cps.toList.filter (fun c => !decide (c ∈ letters.cps.toList)) = []))) := by
  unfold nameT
  have e : (z.cps.toList.all fun c => decide (c ∈ letters.cps.toList)) = decide (z.cps.toList.filter (fun c => !decide (c ∈ letters.cps.toList)) = []) := by
    rw [Bool.eq_iff_iff, List.all_eq_true, decide_eq_true_iff, List.filter_eq_nil_iff]
    constructor
    · intro h c hc
      rw [h c hc]
      decide
    · intro h c hc
      have := h c hc
      simpa using this
  rw [e]
  have e1 : decide (1 ≤ z.length) = decide (0 < z.length) := decide_eq_decide.mpr (by omega)
  have e2 : decide (z.length ≤ 8) = decide (z.length < 9) := decide_eq_decide.mpr (by omega)
  rw [e1, e2, Bool.and_assoc]
theorem sign_ten {z : Str} (ho : Sgn z) : z.cps.toList.all signOk = !decide (10 ∈ z.cps.toList) := by
  rw [Bool.eq_iff_iff, List.all_eq_true]
  constructor
  · intro h
    have : ¬ (10 ∈ z.cps.toList) := fun hm => by
      have := h 10 hm
      revert this
      decide
    rw [decide_eq_false this]
    rfl
  · intro h c hc
    have hn : ¬ (10 ∈ z.cps.toList) := by
      intro hm
      rw [decide_eq_true hm] at h
      cases h
    rcases ho c hc with q | q
    · unfold signOk
      rw [decide_eq_true q.1, decide_eq_true q.2.1, decide_eq_false q.2.2]
      rfl
    · rw [q] at hc
      exact absurd hc hn
theorem text_law {z : Str} (ho : Sgn z) : textT z = ((decide (0 < z.length) && (decide (z.length < 31) && !decide (10 ∈ z.cps.toList))) && (!decide (z.cps.toList[0]? = some 32) && !decide (z.cps.toList.getLast? = some 32))) := by
  unfold textT
  rw [sign_ten ho]
  have e1 : decide (1 ≤ z.length) = decide (0 < z.length) := decide_eq_decide.mpr (by omega)
  have e2 : decide (z.length ≤ 30) = decide (z.length < 31) := decide_eq_decide.mpr (by omega)
  rw [e1, e2]
  cases decide (0 < z.length) <;> cases decide (z.length < 31) <;> cases decide (10 ∈ z.cps.toList) <;> cases decide (z.cps.toList[0]? = some 32) <;> cases decide (z.cps.toList.getLast? = some 32) <;> rfl

theorem one_blank (c : Nat) : decide (V.str ⟨#[c]⟩ = V.str " ") = decide (c = 32) := decide_eq_decide.mpr ⟨fun z => by
  have e := congrArg TL.tl (V.str.inj z)
  rw [blank_tl] at e
  exact (List.cons.inj e).1, fun z => by rw [z]; exact congrArg V.str (by decide +kernel)⟩
theorem last_at {l : List Nat} (h : l ≠ []) : atI l (-1) = some (l.getLast h) :=
  (congrArg (fun x => atI x (-1)) (List.dropLast_concat_getLast h).symm).trans (atI_last _ _)
end Pk
namespace Pk
open PySem L2
/-! ### methods called by keywords alone; calls that let nothing out -/
section
variable {X : Cx} {CX : CXT} {k : Nat} {f C : Addr} {fd : FuncData} {ps ks : List Str} {sp : Sp} {E : XK} {m : Str} {p pos apos : Pos} {o : Expr} {ta : TE} {kws : List Keyword} {tk : TA} {g : List Value → List Value → List Value} {gV : List V → List V → List V}
theorem pass_no : Passes (L2.CX X.prog X.w) X E0 := fun _ _ _ _ _ _ _ ⟨_, _, _, _, _, _, _, _, _, _, _, _, h⟩ => h.elim
def tMethN (C : Addr) (m : Str) (nk : Nat) (sp : Sp) (gV : List V → List V → List V) (E : XK) (ta : TE) (tk : TA) : TE := fun σ H Q => ta σ H fun x H1 => ∃ a dx fs, x = .ref a ∧ H1 a = some (.ins C dx fs) ∧ fs.lookup m = none ∧ tk σ H1 fun zs H2 => zs.length = nk ∧ sp (gV [x] zs) H2 Q E
theorem pe_methN0 {pl : Sem Bool} (he : PE X o ta) (c : Cls X.K C) (hm : Meth X.K C m f) (F : FnOk X.prog X.w X.K X.mg X.base CX k f fd ps sp) (hr : Room k X.A) (hb : KBn X.K fd ps 1 ks g gV) (hx : Passes CX X E)
    (hkw : PK X kws tk) (hall : (backToKw pos (keywordEach kws X.env)).all (·.1.isSome) = true := by rfl) (hks : (backToKw pos (keywordEach kws X.env)).filterMap (·.1) = ks := by rfl)
    (hpl : ((backTo pos (starEach [] X.env)).any (·.1) || (backToKw pos (keywordEach kws X.env)).any (·.1.isNone)) = false := by rfl)
    (ht : eval (.Call (.Attribute o m apos) [] kws pos) X.env = (do
      let ov ← eval o X.env
      standAt apos.atName
      let (f, first) ← holding [ov] (getMethod ov m pl)
      callWith pos f first (backTo pos (starEach [] X.env)) (backToKw pos (keywordEach kws X.env))) := by rfl) :
    PE X (.Call (.Attribute o m apos) [] kws pos) (tMethN C m ks.length sp gV E ta tk) := by
  refine ⟨fun pins s σ H Q I h => ?_⟩
  refine PySem.W.methodCall_KW (pl := pl) (thn (he.run pins s σ H _ I h) fun u s1 ⟨x, H1, I1, rx, a, dx, fs, ex, ea, l, q⟩ => ?_) ht
  subst ex
  obtain rfl : u = Value.ref a := rx
  refine getmeth_ok I1 ea c hm l ?_
  refine PySem.W.callWith_KW0 (first := [.ref a]) (h₀ := X.base) I.ok.mod.kin hm.kp hall (thn (hkw.run pos pins s1 σ H1 _ I1 q) ?_) hpl
  rintro ws s2 ⟨zs, H2, I2, rz, l2, q2⟩
  refine ⟨I2.kIn, ?_⟩
  rw [hks]
  exact run_fnN (us := [.ref a]) (vs := [.ref a]) F hr hb hx I2 (.cons rfl .nil) rz rfl l2 q2
end
end Pk
namespace Pk
open PySem L2
/-! ### a text without blanks at its ends -/
theorem strip_is (x : Str) : ∃ lo hi, lo ≤ hi ∧ hi ≤ x.length ∧ (Txt.stripChars x " ").cps.toList = (x.cps.toList.drop lo).take (hi - lo) ∧ (lo = hi ∨ (x.cps.getD lo 0 ≠ 32 ∧ x.cps.getD (hi - 1) 0 ≠ 32)) := by
  have e : Txt.stripChars x " " = Txt.stripBy (" " : Str).cps.contains true true x := rfl
  obtain ⟨a1, a2, a3⟩ := PyProof.Rows.lo_facts (" " : Str).cps.contains x
  obtain ⟨b1, b2, b3, b4⟩ := PyProof.Rows.hi_facts (" " : Str).cps.contains x _ a1
  have no : ∀ c : Nat, (" " : Str).cps.contains c = false → c ≠ 32 := fun c h z => by
    rw [z] at h
    revert h
    decide +kernel
  rw [PyProof.Rows.stripBy_eq] at e
  refine ⟨_, _, b1, b2, ?_, ?_⟩
  · rw [e]
    show (x.cps.extract _ _).toList = _
    rw [Array.toList_extract]
  · rcases b4 with h | h
    · exact .inl h.symm
    · rcases a3 with g | g
      · exact .inl (by omega)
      · exact .inr ⟨no _ g, no _ h⟩
theorem getD_at {x : Str} {k : Nat} (h : k < x.length) : x.cps.toList[k]? = some (x.cps.getD k 0) := by
  have h' : k < x.cps.toList.length := by rw [← len_is]; exact h
  rw [← PyProof.Rows.getD_list, List.getD_eq_getElem?_getD, List.getElem?_eq_getElem h']
  rfl
/-- such a text of good signs is a TEXT, unless nothing is left -/
theorem strip_text {x : Str} (hl : x.length ≤ 30) (hs : ∀ c ∈ x.cps.toList, signOk c = true) (hn : Txt.stripChars x " " ≠ "") : textT (Txt.stripChars x " ") = true := by
  obtain ⟨lo, hi, h1, h2, e, h3⟩ := strip_is x
  have ll : x.cps.toList.length = x.length := (len_is x).symm
  have hlen : (Txt.stripChars x " ").length = hi - lo := by
    rw [len_is, e, List.length_take, List.length_drop, ll]
    omega
  have ne : lo ≠ hi := fun z => hn (TL.ext_tl (by
    rw [empty_tl]
    show (Txt.stripChars x " ").cps.toList = []
    rw [e, z, Nat.sub_self, List.take_zero]))
  obtain ⟨c1, c2⟩ := h3.resolve_left ne
  have g0 : (Txt.stripChars x " ").cps.toList[0]? = some (x.cps.getD lo 0) := by
    rw [e, List.getElem?_take, if_pos (by omega), List.getElem?_drop, Nat.add_zero]
    exact getD_at (by omega)
  have gl : (Txt.stripChars x " ").cps.toList.getLast? = some (x.cps.getD (hi - 1) 0) := by
    rw [List.getLast?_eq_getElem?, ← len_is, hlen, e, List.getElem?_take, if_pos (by omega), List.getElem?_drop, show lo + (hi - lo - 1) = hi - 1 by omega]
    exact getD_at (by omega)
  have al : (Txt.stripChars x " ").cps.toList.all signOk = true := List.all_eq_true.mpr fun c hc => by
    rw [e] at hc
    exact hs c (List.mem_of_mem_drop (List.mem_of_mem_take hc))
  unfold textT
  rw [g0, gl, al, hlen, decide_eq_true (show 1 ≤ hi - lo by omega), decide_eq_true (show hi - lo ≤ 30 by omega), decide_eq_false (fun z => c1 (Option.some.inj z)), decide_eq_false (fun z => c2 (Option.some.inj z))]
  rfl
/-- signs one by one, put together -/
theorem joins_of {p : Nat → Prop} {ys : List Str} (h : ∀ y ∈ ys, ∃ c, y = ⟨#[c]⟩ ∧ p c) : (Txt.join "" ys).length = ys.length ∧ ∀ c ∈ (Txt.join "" ys).cps.toList, p c := by
  constructor
  · rw [join0_len]
    induction ys with
    | nil => rfl
    | cons y r ih =>
      obtain ⟨c, rfl, _⟩ := h y List.mem_cons_self
      rw [List.map_cons, List.sum_cons, ih fun x hx => h x (List.mem_cons_of_mem _ hx), List.length_cons]
      show 1 + _ = _
      omega
  · intro c hc
    rw [show (Txt.join "" ys).cps.toList = TL.joinL (TL.tl "") (ys.map TL.tl) from by rw [TL.join_eq]; exact TL.tl_join "" ys, empty_tl] at hc
    obtain ⟨q, hq, hm⟩ := joinL_mem _ hc
    obtain ⟨y, hy, rfl⟩ := List.mem_map.mp hq
    obtain ⟨d, rfl, hd⟩ := h y hy
    have : c = d := List.mem_singleton.mp hm
    rw [this]
    exact hd
end Pk
namespace Pk
open PySem L2
/-! ### list + list, whatever they are read from -/
def rCatS (K : PySem.W.Frag) : R2 := fun x y H Q => ∃ l b xs zs, x = .ref l ∧ y = .ref b ∧ SqL K H l xs ∧ SqL K H b zs ∧ xs.length + zs.length ≤ sizeLine ∧ ∀ p, H p = none → Q (.ref p) (upd H p (.lst (xs ++ zs)))
theorem op_catS {X : Cx} : OpR X (binaryOp .Add) (rCatS X.K) := by
  rintro pins s σ H x y v u Q I rx ry ⟨l, b, xs, zs, ex, ey, hl, hb, hz, q⟩
  subst ex ey
  cases rx
  cases ry
  obtain ⟨its, r, ⟨⟨c1, d1, dt1, sl1⟩, n1, e1, ec1, ed1, et1⟩, _⟩ := I.list hl
  obtain ⟨its2, r2, ⟨⟨c2, d2, dt2, sl2⟩, n2, e2, ec2, ed2, et2⟩, _⟩ := I.list hb
  dsimp only at ec1 ed1 et1 ec2 ed2 et2
  subst ec1 ed1 et1 ec2 ed2 et2
  have k1 := r.length
  have k2 := r2.length
  refine concat_meets ⟨_, e1, rfl⟩ ⟨_, e2, rfl⟩ noFill_list_add seq_list_add PySem.F.slot_list_add PySem.F.entry_list_add (PySem.F.args_list_add_2 _ _)
    (PyProof.Rows.list_addW l b its.toArray its2.toArray n1 n2 none none sl1 sl2 (by rw [List.size_toArray, List.size_toArray]; omega)) ⟨e1, e2, ?_⟩
  rw [show its.toArray ++ its2.toArray = (its ++ its2).toArray by simp]
  exact ⟨.ref _, _, I.lnew (t' := s.toks) (r.append r2) (by rw [List.length_append]; omega), rfl, q _ I.fresh⟩
theorem cut_int {ns : List Int} {lo hi : Option Int} {x : V} (h : x ∈ cutV (ns.map V.int ++ [V.int 0]) lo hi) : ∃ i : Int, x = V.int i := by
  unfold cutV at h
  have h2 := List.mem_of_mem_drop (List.mem_of_mem_take h)
  rcases List.mem_append.mp h2 with h | h
  · obtain ⟨i, _, rfl⟩ := List.mem_map.mp h
    exact ⟨i, rfl⟩
  · exact ⟨0, List.mem_singleton.mp h⟩
end Pk
namespace Pk
open PySem L2
theorem cut_lo {L : List V} {i : Int} (i0 : 0 ≤ i) : cutV L none (some i) = L.take i.toNat := by
  obtain ⟨k, rfl⟩ := Int.eq_ofNat_of_zero_le i0
  unfold cutV
  rw [show HT.sIx L.length L.length (some (k : Int)) = min k L.length from HT.sIx_nat _ _ _]
  show (L.drop 0).take (min k L.length - 0) = _
  rw [List.drop_zero, Nat.sub_zero, Int.toNat_natCast, List.take_eq_take_iff]
  omega
theorem cut_hi {L : List V} {i : Int} (i0 : 0 ≤ i) : cutV L (some i) none = L.drop i.toNat := by
  obtain ⟨k, rfl⟩ := Int.eq_ofNat_of_zero_le i0
  unfold cutV
  rw [show HT.sIx L.length 0 (some (k : Int)) = min k L.length from HT.sIx_nat _ _ _]
  show (L.drop (min k L.length)).take (L.length - min k L.length) = _
  rw [List.take_of_length_le (by rw [List.length_drop]; omega), Int.toNat_natCast]
  by_cases h : k ≤ L.length
  · rw [Nat.min_eq_left h]
  · rw [Nat.min_eq_right (by omega), List.drop_of_length_le (Nat.le_refl _), List.drop_of_length_le (by omega)]
end Pk
namespace Pk
open PySem L2
/-! ### questions that can be there -/
structure Qok (H : Hp) (nm mt an ri to ma ki : V) : Prop where
  pa : Parts H nm mt an ri to ma ki
  ok : wrongP H nm mt an ri to ma ki = ""
section
variable {H H' : Hp} {nm mt an ri to ma ki : V}
theorem wr_all (hw : wrongP H nm mt an ri to ma ki = "") : nameV nm = true ∧ nameV mt = true ∧ answersV H an = true ∧ whole ri 0 (manyV H an - 1) = true ∧ whole to 1 9 = true ∧ whole ma 1 9 = true ∧ nameE ki = true := by
  unfold wrongP at hw
  cases h0 : nameV nm with
  | false => rw [h0, if_pos rfl] at hw; exact absurd hw (by decide)
  | true =>
  rw [h0, if_neg (by decide)] at hw
  cases h1 : nameV mt with
  | false => rw [h1, if_pos rfl] at hw; exact absurd hw (by decide)
  | true =>
  rw [h1, if_neg (by decide)] at hw
  cases h2 : answersV H an with
  | false => rw [h2, if_pos rfl] at hw; exact absurd hw (by decide)
  | true =>
  rw [h2, if_neg (by decide)] at hw
  cases h3 : whole ri 0 (manyV H an - 1) with
  | false => rw [h3, if_pos rfl] at hw; exact absurd hw (by decide)
  | true =>
  rw [h3, if_neg (by decide)] at hw
  cases h4 : whole to 1 9 with
  | false => rw [h4, if_pos rfl] at hw; exact absurd hw (by decide)
  | true =>
  rw [h4, if_neg (by decide)] at hw
  cases h5 : whole ma 1 9 with
  | false => rw [h5, if_pos rfl] at hw; exact absurd hw (by decide)
  | true =>
  rw [h5, if_neg (by decide)] at hw
  cases h6 : nameE ki with
  | false => rw [h6, if_pos rfl] at hw; exact absurd hw (by decide)
  | true => exact ⟨rfl, rfl, rfl, rfl, rfl, rfl, rfl⟩
theorem wr7 (h0 : nameV nm = true) (h1 : nameV mt = true) (h2 : answersV H an = true) (h3 : whole ri 0 (manyV H an - 1) = true) (h4 : whole to 1 9 = true) (h5 : whole ma 1 9 = true) (h6 : nameE ki = true) : wrongP H nm mt an ri to ma ki = "" := by
  unfold wrongP
  rw [h0, h1, h2, h3, h4, h5, h6]
  rfl
theorem whole_is {x : V} {lo hi : Int} (h : whole x lo hi = true) : ∃ i : Int, x = .int i ∧ lo ≤ i ∧ i ≤ hi := by
  cases x with
  | int i =>
    have h' : (decide (lo ≤ i) && decide (i ≤ hi)) = true := h
    rw [Bool.and_eq_true, decide_eq_true_iff, decide_eq_true_iff] at h'
    exact ⟨i, rfl, h'.1, h'.2⟩
  | _ => cases h
theorem whole_of {i lo hi : Int} (h1 : lo ≤ i) (h2 : i ≤ hi) : whole (.int i) lo hi = true := by
  show (decide (lo ≤ i) && decide (i ≤ hi)) = true
  rw [decide_eq_true h1, decide_eq_true h2]
  rfl
theorem Qok.same (q : Qok H nm mt an ri to ma ki) (s : Same H H') : Qok H' nm mt an ri to ma ki := ⟨q.pa.same s, (q.pa.wrong s).trans q.ok⟩
theorem manyV_at {a : Addr} {ws : List V} (h : H a = some (.tup ws)) : manyV H (.ref a) = (ws.length : Int) := by
  unfold manyV
  rw [tupV_at h]
  rfl
theorem answersV_at {a : Addr} {ws : List V} (h : H a = some (.tup ws)) : answersV H (.ref a) = answersL ws := by
  unfold answersV
  rw [tupV_at h]
/-- its answers and its right one -/
theorem Qok.ans (q : Qok H nm mt an ri to ma ki) : ∃ (a : Addr) (ws : List V) (r : Int), an = .ref a ∧ H a = some (.tup ws) ∧ answersL ws = true ∧ ri = .int r ∧ 0 ≤ r ∧ r < ws.length := by
  obtain ⟨_, _, h2, h3, _⟩ := wr_all q.ok
  obtain ⟨ws, hws⟩ : ∃ ws, tupV H an = some ws := by
    unfold answersV at h2
    cases e : tupV H an with
    | none => rw [e] at h2; cases h2
    | some ws => exact ⟨ws, rfl⟩
  obtain ⟨a, rfl, ha⟩ := tupV_of hws
  rw [answersV_at ha] at h2
  rw [manyV_at ha] at h3
  obtain ⟨r, rfl, r0, r1⟩ := whole_is h3
  exact ⟨a, ws, r, rfl, ha, h2, rfl, r0, by omega⟩
/-- other answers, another right one -/
theorem Qok.with (q : Qok H nm mt an ri to ma ki) (s : Same H H') {b : Addr} {vs : List V} {r : Int} (hb : H' b = some (.tup vs)) (ha : answersL vs = true) (ht : ∀ v ∈ vs, Thg H' v) (r0 : 0 ≤ r) (r1 : r < vs.length) : Qok H' nm mt (.ref b) (.int r) to ma ki := by
  obtain ⟨h0, h1, _, _, h4, h5, h6⟩ := wr_all q.ok
  refine ⟨⟨q.pa.nm.same s, q.pa.mt.same s, ⟨.tup hb, fun ws e => ?_⟩, .int r, q.pa.to.same s, q.pa.ma.same s, q.pa.ki.same s⟩, wr7 h0 h1 (by rw [answersV_at hb]; exact ha) (by rw [manyV_at hb]; exact whole_of r0 (by omega)) h4 h5 h6⟩
  rw [tupV_at hb] at e
  cases e
  exact ht
end
/-! ### what comes of turning and changing -/
inductive Out where
  | new (ws : List V) (r t m k : V)
  | part (z : Str)
  | kind
def OutK (CQ c5 c10 : Addr) (nm mt : V) (H : Hp) (Q : VK) (E : XK) : Out → Prop
  | .new ws r t m k => ∀ (y dy b : Addr) (H' : Hp), Same H H' → H' y = some (.ins CQ dy (qFs nm mt (.ref b) r t m k)) → H' b = some (.tup ws) → Qok H' nm mt (.ref b) r t m k → Q (.ref y) H'
  | .part z => ∀ (d : Addr) (H' : Hp), Same H H' → H' d = some (.xd [(("part" : Str), .str z)]) → E (.ref c5) (some d) H'
  | .kind => ∀ (d : Addr) (H' : Hp), Same H H' → H' d = some (.xd [(("wanted" : Str), .str "number")]) → E (.ref c10) (some d) H'
theorem OutK.same {CQ c5 c10 : Addr} {nm mt : V} {H H1 : Hp} {Q : VK} {E : XK} {o : Out} (h : OutK CQ c5 c10 nm mt H Q E o) (s : Same H H1) : OutK CQ c5 c10 nm mt H1 Q E o := by
  cases o with
  | new ws r t m k => exact fun y dy b H' s' => h y dy b H' (s.trans s')
  | part z => exact fun d H' s' => h d H' (s.trans s')
  | kind => exact fun d H' s' => h d H' (s.trans s')
def outTurned (ws : List V) (r : Int) (to ma ki th : V) : Out := match th with
  | .int i => .new (rotL ws (i % ws.length).toNat) (.int ((r - i % ws.length) % ws.length)) to ma ki
  | _ => .kind
def orV (x y : V) : V := if x = .non then y else x
def outChanged (H : Hp) (nm mt an ri to ma ki a b c d : V) : Out :=
  if wrongP H nm mt an (orV a ri) (orV b to) (orV c ma) (orV d ki) = "" then .new ((tupV H an).getD []) (orV a ri) (orV b to) (orV c ma) (orV d ki) else .part (wrongP H nm mt an (orV a ri) (orV b to) (orV c ma) (orV d ki))
abbrev TyLine : List Value := [.type "TypeError", .type "Exception", .type "BaseException", .type "object"]
def spTurned (CQ c5 c10 : Addr) : Sp := fun vs H Q E => ∃ (x dx a : Addr) (ws : List V) (r : Int) (nm mt to ma ki th : V), vs = [.ref x, th] ∧ H x = some (.ins CQ dx (qFs nm mt (.ref a) (.int r) to ma ki)) ∧ Qok H nm mt (.ref a) (.int r) to ma ki ∧ H a = some (.tup ws) ∧ Thg H th ∧ OutK CQ c5 c10 nm mt H Q E (outTurned ws r to ma ki th)
def spChanged (CQ c5 c10 : Addr) : Sp := fun vs H Q E => ∃ (x dx : Addr) (nm mt an ri to ma ki a b c d : V), vs = [.ref x, a, b, c, d] ∧ H x = some (.ins CQ dx (qFs nm mt an ri to ma ki)) ∧ Qok H nm mt an ri to ma ki ∧ Thg H a ∧ Thg H b ∧ Thg H c ∧ Thg H d ∧ OutK CQ c5 c10 nm mt H Q E (outChanged H nm mt an ri to ma ki a b c d)
def spAnswer (CQ : Addr) : Sp := fun vs H Q _ => ∃ (x dx a : Addr) (ws : List V) (r : Int) (v : V) (nm mt to ma ki : V), vs = [.ref x] ∧ H x = some (.ins CQ dx (qFs nm mt (.ref a) (.int r) to ma ki)) ∧ H a = some (.tup ws) ∧ 0 ≤ r ∧ ws[r.toNat]? = some v ∧ Q v H
/-- t[k:] + t[:k], t the answers -/
def tRot (CQ : Addr) : TE := fun σ H Q => ∃ (a : Addr) (ws : List V) (k : Nat) (x dx : Addr) (nm mt ri to ma ki : V), σ[0]? = some (some (.ref x)) ∧ H x = some (.ins CQ dx (qFs nm mt (.ref a) ri to ma ki)) ∧ σ[3]? = some (some (.int k)) ∧ H a = some (.tup ws) ∧ k < ws.length ∧ ws.length ≤ 6 ∧ (∀ (b : Addr) (H' : Hp), Same H H' → H' b = some (.tup (rotL ws k)) → Q (.ref b) H')
section
variable {P : Program} {w : World} {K : PySem.W.Frag} {mg : Str → Option Value} {base : Heap}
abbrev NTurned : List Str := ["self", "by", "many", "first", "answers", "right"]
/-! ### changed -/
abbrev NChanged : List Str := ["self", "right", "toil", "marks", "kin"]
/-- a field, or what was handed in in its place -/
def tOrF (CQ : Addr) (j : Nat) (f : Str) : TE := fun σ H Q => ∃ (x dx : Addr) (fs : List (Str × V)) (v y : V), σ[0]? = some (some (.ref x)) ∧ H x = some (.ins CQ dx fs) ∧ fs.lookup f = some y ∧ σ[j]? = some (some v) ∧ Q (orV v y) H
theorem pe_orF {X : Cx} {CQ : Addr} {e : Expr} {j : Nat} {f : Str} (C : Cls X.K CQ) (no : NoAttr X.K CQ f) (h : PE X e (tIf (tTest (tOp (fun x y H Q => y = .non ∧ Q (.bl (decide (x = .non))) H) (tVar j) (tC .non))) (tFld X.K (tVar 0) f) (tVar j))) : PE X e (tOrF CQ j f) := pe_imp _ h (by
  rintro σ H Q ⟨x, dx, fs, v, y, h0, hx, hf, hj, q⟩
  refine ⟨_, hj, rfl, _, rfl, ?_⟩
  unfold orV at q
  by_cases hv : v = .non
  · rw [if_pos hv] at q
    rw [decide_eq_true hv]
    exact iteT ⟨_, h0, x, CQ, dx, fs, y, rfl, hx, C, no, hf, q⟩
  · rw [if_neg hv] at q
    rw [decide_eq_false hv]
    exact iteF ⟨_, hj, q⟩)
end
end Pk
namespace Pk
open PySem L2
def spOf (CQ : Addr) : Sp := fun vs H Q _ => ∃ (p : Addr) (nm mt an ri to ma ki : V), vs = [.ref p] ∧ H p = some (.tup [nm, mt, an, ri, to, ma, ki]) ∧ Qok H nm mt an ri to ma ki ∧ ∀ (x dx : Addr) (H' : Hp), Same H H' → H' x = some (.ins CQ dx (qFs nm mt an ri to ma ki)) → Q (.ref x) H'
def spParts (CQ : Addr) : Sp := fun vs H Q _ => ∃ (x dx : Addr) (nm mt an ri to ma ki : V), vs = [.ref x] ∧ H x = some (.ins CQ dx (qFs nm mt an ri to ma ki)) ∧ ∀ (t : Addr) (H' : Hp), Same H H' → H' t = some (.tup [nm, mt, an, ri, to, ma, ki]) → Q (.ref t) H'
inductive Ask (H : Hp) (nm mt : V) (a : Addr) (ws : List V) (r : Int) (to ma ki : V) : Int → V → Out → Prop
  | turned {th : V} (ht : Thg H th) : Ask H nm mt a ws r to ma ki 0 th (outTurned ws r to ma ki th)
  | changed {i : Int} (hi : i = 1 ∨ i = 2) {p : Addr} {x1 x2 x3 x4 : V} (hp : H p = some (.tup [x1, x2, x3, x4])) (t1 : Thg H x1) (t2 : Thg H x2) (t3 : Thg H x3) (t4 : Thg H x4) : Ask H nm mt a ws r to ma ki i (.ref p) (outChanged H nm mt (.ref a) (.int r) to ma ki x1 x2 x3 x4)
  | marks {p : Addr} {x1 x2 x3 x4 : V} (hp : H p = some (.tup [x1, x2, x3, x4])) (t3 : Thg H x3) : Ask H nm mt a ws r to ma ki 3 (.ref p) (outChanged H nm mt (.ref a) (.int r) to ma ki .non .non x3 .non)
/-- more of the classes -/
structure Txk (K : PySem.W.Frag) (mg : Str → Option Value) (cB fK : Addr) (c : Nat → Addr) : Prop where
  bk : Of_wanted.Tx K mg "BadKind" "BadKind.__init__" (c 10) fK "TypeError" "TypeError.__new__" "TypeError.__init__" TyLine
  kt : Kits K c (c 10) (fun i => decide (i = 10))
  ca : PySem.W.exmAny K (.ref (c 10)) (caughtBy cB c) = some true
structure QTy (K : PySem.W.Frag) (CQ : Addr) : Prop where
  ha : PySem.W.findIn K (.ref CQ) "__class__" = some (some (.builtin "object.__class__"))
  hn : PySem.W.specialIn K (.builtin "object.__class__") "__get__" = some (some (.builtin "getset_descriptor.__get__"))
  ht : PySem.W.takesIn K (.builtin "object.__class__") = some true
  hm : PySem.W.mroIn K CQ (.type "object") = some true
  hk : PySem.W.kitOne K (.ref CQ) (.ref CQ) = some true
theorem word10 : wordOf (list14 fun i => decide (i = 10)) = "kind" := by decide +kernel
section
variable {nm mt an r t m k : V}
theorem look_turned : (qFs nm mt an r t m k).lookup ("turned" : Str) = none := by kernel_rfl
theorem look_changed : (qFs nm mt an r t m k).lookup ("changed" : Str) = none := by kernel_rfl
theorem look_answer : (qFs nm mt an r t m k).lookup ("answer" : Str) = none := by kernel_rfl
end
section
variable {K : PySem.W.Frag} {f : Addr} {fd : FuncData}
def gC4 {α : Type} (us _its ws : List α) : List α := us ++ ((ws.drop 2).take 1 ++ ((ws.drop 3).take 1 ++ ((ws.drop 1).take 1 ++ ws.take 1)))
def gC1 {α : Type} (us its ws : List α) : List α := us ++ (its.take 2 ++ (ws.take 1 ++ its.drop 3))
end
section
variable {P : Program} {w : World} {K : PySem.W.Frag} {mg : Str → Option Value} {base : Heap} {cB fI fK : Addr} {c : Nat → Addr}
theorem scOf : FnScope ["_law_parts_here"] ["_law_parts_here"] (defScope sOf) := ⟨rfl, rfl, rfl, by decide +kernel, rfl, by decide +kernel, by decide +kernel⟩
theorem ok_of {f CQ c5 : Addr} {fd fdI : FuncData} (F : Fun K "_law_of" "_law_of" sOf f fd) (FI : FunQ K fI fdI) (GI : FnOk P w K mg base (L2.CX P w) 5 fI fdI psQ (spQInit CQ c5)) (M : Mk K CQ fI) (gQ : mg "Question" = some (.ref CQ)) : FnOk P w K mg base CX0 7 f fd ["_law_parts_here"] (spOf CQ) := by
  obtain ⟨d7, hd7, b7⟩ := bQ7 FI
  refine F.ok scOf (fun vs H Q E h => ?_) (fun cdv A outer s H vs Q E hr h => ?_)
  · obtain ⟨p, nm, mt, an, ri, to, ma, ki, rfl, _⟩ := h
    rfl
  · obtain ⟨p, nm, mt, an, ri, to, ma, ki, rfl, hp, hq, q⟩ := h
    refine ⟨_, pss_one (ps_ret (pe_make (E := E0) M GI hr (by rfl) gQ b7 hd7 pass_no (pa_cons (pe_ix ix_tup (pv 0) pe_int (fun _ _ => rfl)) (pa_cons (pe_ix ix_tup (pv 0) pe_int (fun _ _ => rfl)) (pa_cons (pe_ix ix_tup (pv 0) pe_int (fun _ _ => rfl)) (pa_cons (pe_ix ix_tup (pv 0) pe_int (fun _ _ => rfl)) (pa_cons (pe_ix ix_tup (pv 0) pe_int (fun _ _ => rfl)) (pa_cons (pe_ix ix_tup (pv 0) pe_int (fun _ _ => rfl)) (pa_cons (pe_ix ix_tup (pv 0) pe_int (fun _ _ => rfl)) pa_nil))))))))), ?_⟩
    refine ⟨_, rfl, p, _, 0, nm, rfl, rfl, SqT.of hp, rfl, _, rfl, p, _, 1, mt, rfl, rfl, SqT.of hp, rfl, _, rfl, p, _, 2, an, rfl, rfl, SqT.of hp, rfl, _, rfl, p, _, 3, ri, rfl, rfl, SqT.of hp, rfl, _, rfl, p, _, 4, to, rfl, rfl, SqT.of hp, rfl, _, rfl, p, _, 5, ma, rfl, rfl, SqT.of hp, rfl, _, rfl, p, _, 6, ki, rfl, rfl, SqT.of hp, rfl, ?_⟩
    exact made_fin hq.pa (fun x dx H' s' _ hx => q x dx H' s' hx) (fun d H' _ n => absurd hq.ok n)
theorem scParts : FnScope ["_law_one"] ["_law_one"] (defScope sParts) := ⟨rfl, rfl, rfl, by decide +kernel, rfl, by decide +kernel, by decide +kernel⟩
theorem ok_parts {f CQ : Addr} {fd : FuncData} (F : Fun K "_law_parts" "_law_parts" sParts f fd) (C : QCls K CQ) : FnOk P w K mg base CX0 1 f fd ["_law_one"] (spParts CQ) := by
  refine F.ok scParts (fun vs H Q E h => ?_) (fun cdv A outer s H vs Q E hr h => ?_)
  · obtain ⟨x, dx, nm, mt, an, ri, to, ma, ki, rfl, _⟩ := h
    rfl
  · obtain ⟨x, dx, nm, mt, an, ri, to, ma, ki, rfl, hx, q⟩ := h
    refine ⟨_, pss_one (ps_ret (pe_tup (pa_cons (pe_fld (pv 0) rfl) (pa_cons (pe_fld (pv 0) rfl) (pa_cons (pe_fld (pv 0) rfl) (pa_cons (pe_fld (pv 0) rfl) (pa_cons (pe_fld (pv 0) rfl) (pa_cons (pe_fld (pv 0) rfl) (pa_cons (pe_fld (pv 0) rfl) pa_nil))))))))), ?_⟩
    refine ⟨_, rfl, x, CQ, dx, _, _, rfl, hx, C.cls, C.no _ (by decide), look_name _ _ _ _ _ _ _, _, rfl, x, CQ, dx, _, _, rfl, hx, C.cls, C.no _ (by decide), look_matter _ _ _ _ _ _ _, _, rfl, x, CQ, dx, _, _, rfl, hx, C.cls, C.no _ (by decide), look_answers _ _ _ _ _ _ _, _, rfl, x, CQ, dx, _, _, rfl, hx, C.cls, C.no _ (by decide), look_right _ _ _ _ _ _ _, _, rfl, x, CQ, dx, _, _, rfl, hx, C.cls, C.no _ (by decide), look_toil _ _ _ _ _ _ _, _, rfl, x, CQ, dx, _, _, rfl, hx, C.cls, C.no _ (by decide), look_marks _ _ _ _ _ _ _, _, rfl, x, CQ, dx, _, _, rfl, hx, C.cls, C.no _ (by decide), look_kin _ _ _ _ _ _ _, by show 7 ≤ sizeLine; decide, fun t ht => ?_⟩
    exact q t _ (same_upd ht) upd_same
end
end Pk
namespace Pk
open PySem L2
theorem sgn_dec {z : Str} (h : (z.cps.toList.all fun c => decide ((32 ≤ c ∧ c ≤ 126 ∧ c ≠ 37) ∨ c = 10)) = true) : Sgn z := fun c hc => of_decide_eq_true (List.all_eq_true.mp h c hc)
/-- some text that is so, so many numbers taken at most -/
def spByP (p : Str → Prop) (m : Int) : Sp := fun vs H Q _ => ∃ (s : Addr) (t : Int), vs = [.ref s] ∧ StrmAt H s t ∧ 0 ≤ t ∧ t ≤ 20000 ∧
  ∀ (z : Str) (H' : Hp) (t' : Int), p z → But s H H' → StrmAt H' s t' → 0 ≤ t' → t' ≤ t + m → Q (.str z) H'
theorem letters_len : letters.cps.toList.length = 26 := by decide +kernel
theorem letters_sign : ∀ c ∈ letters.cps.toList, signOk c = true := fun c hc => List.all_eq_true.mp (by decide +kernel : letters.cps.toList.all signOk = true) c hc
theorem sign_sgn {c : Nat} (h : signOk c = true) : 32 ≤ c ∧ c ≤ 126 ∧ c ≠ 37 := by
  unfold signOk at h
  simp at h
  omega
theorem name_thg {H : Hp} {z : Str} (h : nameT z = true) : Thg H (.str z) := by
  unfold nameT at h
  simp only [Bool.and_eq_true, decide_eq_true_iff, List.all_eq_true] at h
  exact .str z (by omega) fun c hc => .inl (sign_sgn (letters_sign c (h.2 c hc)))
theorem text_thg {H : Hp} {z : Str} (h : textT z = true) : Thg H (.str z) := by
  unfold textT at h
  simp only [Bool.and_eq_true, decide_eq_true_iff, List.all_eq_true] at h
  exact .str z (by omega) fun c hc => .inl (sign_sgn (h.2 c hc))
theorem name_join {ys : List Str} (h : ∀ y ∈ ys, ∃ c, y = ⟨#[c]⟩ ∧ c ∈ letters.cps.toList) (h1 : 1 ≤ ys.length) (h8 : ys.length ≤ 8) : nameT (Txt.join "" ys) = true := by
  obtain ⟨e, a⟩ := joins_of h
  unfold nameT
  rw [e]
  simp only [Bool.and_eq_true, decide_eq_true_iff, List.all_eq_true]
  exact ⟨⟨h1, h8⟩, a⟩
def someT : Str := " !\"#$&'()*+,-./0123456789:;<=>?@ABCDEFGHIJKLMNOPQRSTUVWXYZ[\\]^_`abcdefghijklmnopqrstuvwxyz{|}~"
theorem someT_len : someT.length = 94 := by decide +kernel
section
variable {P : Program} {w : World} {K : PySem.W.Frag} {mg : Str → Option Value} {base : Heap} {cB fI : Addr} {c : Nat → Addr}
abbrev NNameBy : List Str := ["_law_stream_here", "_law_letters", "_law_turn"]
theorem scNameBy : FnScope NNameBy ["_law_stream_here"] (defScope sNameBy) := ⟨rfl, rfl, rfl, by decide +kernel, rfl, by decide +kernel, by decide +kernel⟩
theorem ok_nameBy {f fT fM : Addr} {fd fdT fdM : FuncData} (F : Fun K "_law_name_by" "_law_name_by" sNameBy f fd) (mr : mg "range" = none) (FT : Fun K "_law_take" "_law_take" sTake fT fdT) (bT : Binds K fdT ["_law_stream_here", "_law_many"] []) (gT : mg "_law_take" = some (.ref fT))
    (FM : Fun K "_law_mixed" "_law_mixed" sMixed fM fdM) (bM : Binds K fdM ["_law_number", "_law_k"] []) (gM : mg "_law_mixed" = some (.ref fM)) : FnOk P w K mg base CX0 3 f fd ["_law_stream_here"] (spByP (fun z => nameT z = true) 9) := by
  have GT : FnOk P w K mg base CX0 2 fT fdT ["_law_stream_here", "_law_many"] spTake := ok_take FT FM bM gM
  refine F.ok scNameBy (fun vs H Q E h => ?_) (fun cdv A outer s H vs Q E hr h => ?_)
  · obtain ⟨a, t, rfl, _⟩ := h
    rfl
  · obtain ⟨a, t, rfl, st, t0, t1, q⟩ := h
    refine ⟨_, pss_cons (ps_set (i := 1) scNameBy.nd rfl (.inr rfl) pe_str)
      (pss_one (ps_ret (pe_join pe_str (pe_lc (own := [("_law_turn", 2)]) (g := gName 2) rfl scNameBy.nd
            (pi_range1 (by rfl) mr (pa_cons (pe_op op_add pe_int (pe_call GT hr (by rfl) gT FT.kp bT .nil pass0 (pa_cons (pv 0) (pa_cons pe_int pa_nil)))) pa_nil)) (blkOk_by (N := NNameBy) (sc := defScope sNameBy) (by decide +kernel))
            (fun _ _ _ _ _ => pg_name (i := 2) scNameBy.nd rfl (Or.inl rfl)) (fun _ _ _ _ _ => pts_nil) (fun _ _ _ _ _ => pe_ix ix_str (pv 1) (pe_call GT hr (by rfl) gT FT.kp bT .nil pass0 (pa_cons (pv 0) (pa_cons pe_int pa_nil))) (fun _ _ => rfl)))))), ?_⟩
    refine ⟨⟨_, rfl⟩, _, rfl, a, t, 8, rfl, st, t0, by omega, by decide, by decide, fun v2 H4 w0 w4 u4 st4 => ?_⟩
    refine ⟨1, v2, rfl, rfl, _, rfl, by omega, by omega, fun D hD => ?_⟩
    obtain ⟨b4, c4, m4, e4⟩ := id st4
    have aD : a ≠ D := ne_of_none e4 hD
    refine lc_it walk_range (fun j H' => (∀ b o, b ≠ a → b ≠ D → H4 b = some o → H' b = some o) ∧ StrmAt H' a (t + 1 + j) ∧ ∃ ys : List Str, ys.length = j ∧ (∀ y ∈ ys, ∃ c, y = ⟨#[c]⟩ ∧ c ∈ letters.cps.toList) ∧ H' D = some (.lst (ys.map V.str))) ⟨fun b o n1 n2 e => ?_, ⟨b4, c4, m4, ?_⟩, [], rfl, (fun _ h => by cases h), upd_same⟩ (fun _ _ _ _ => trivial) ?_ ?_
    · rw [upd_ne n2]
      exact e
    · rw [upd_ne aD, e4]
      simp
    · rintro j x H5 H6 hj ⟨k5, st5, ys, ly, oy, hd⟩ ⟨rfl, rfl⟩
      refine ⟨rfl, _, rfl, _, rfl, a, _, 26, rfl, st5, by omega, by omega, by decide, by decide, fun v3 H6 x0 x9 u6 st6 => ?_⟩
      obtain ⟨c6, hc6, mc6⟩ := at_some (l := letters.cps.toList) x0 (by rw [letters_len]; exact x9)
      refine ⟨_, v3, c6, rfl, rfl, by decide +kernel, hc6, _, u6 _ _ (Ne.symm aD) hd, ?_, fun b o n1 n2 e => ?_, ?_, ys ++ [⟨#[c6]⟩], ?_, ?_, ?_⟩
      · rw [List.length_map, sizeLine_eq]
        omega
      · rw [upd_ne n2]
        exact u6 b o n1 (k5 b o n1 n2 e)
      · obtain ⟨b6, c7, m6, e6⟩ := st6
        refine ⟨b6, c7, m6, ?_⟩
        rw [upd_ne aD, e6]
        simp
        omega
      · rw [List.length_append, ly]
        rfl
      · intro y hy
        rcases List.mem_append.mp hy with h | h
        · exact oy y h
        · rw [List.mem_singleton.mp h]
          exact ⟨c6, rfl, mc6⟩
      · rw [upd_same, List.map_append]
        rfl
    · rintro H5 ⟨k5, st5, ys, ly, oy, hd⟩
      have sm : (ys.map (·.length)).sum = ys.length := (join0_len ys).symm.trans (joins_of oy).1
      have l4 : ys.length ≤ 8 := by omega
      refine ⟨_, D, ys, rfl, rfl, .inl (SqL.of hd), by rw [sm, show ("" : Str).length = 0 by decide +kernel]; omega, ?_⟩
      refine q _ H5 _ (name_join oy (by omega) l4) (fun b o n e => ?_) st5 (by omega) (by omega)
      have e4' := u4 b o n e
      exact k5 b o n (ne_of_none e4' hD) e4'
abbrev NTextBy : List Str := ["_law_stream_here", "_law_some", "_law_signs", "_law_size", "_law_text", "_law_turn"]
theorem scTextBy : FnScope NTextBy ["_law_stream_here"] (defScope sTextBy) := ⟨rfl, rfl, rfl, by decide +kernel, rfl, by decide +kernel, by decide +kernel⟩
theorem ok_textBy {f fT fM : Addr} {fd fdT fdM : FuncData} (F : Fun K "_law_text_by" "_law_text_by" sTextBy f fd) (mr : mg "range" = none) (ml : mg "len" = none) (FT : Fun K "_law_take" "_law_take" sTake fT fdT) (bT : Binds K fdT ["_law_stream_here", "_law_many"] []) (gT : mg "_law_take" = some (.ref fT))
    (FM : Fun K "_law_mixed" "_law_mixed" sMixed fM fdM) (bM : Binds K fdM ["_law_number", "_law_k"] []) (gM : mg "_law_mixed" = some (.ref fM)) : FnOk P w K mg base CX0 3 f fd ["_law_stream_here"] (spByP (fun z => textT z = true) 33) := by
  have GT : FnOk P w K mg base CX0 2 fT fdT ["_law_stream_here", "_law_many"] spTake := ok_take FT FM bM gM
  refine F.ok scTextBy (fun vs H Q E h => ?_) (fun cdv A outer s H vs Q E hr h => ?_)
  · obtain ⟨a, t, rfl, _⟩ := h
    rfl
  · obtain ⟨a, t, rfl, st, t0, t1, q⟩ := h
    refine ⟨_, pss_cons (ps_set (i := 1) scTextBy.nd rfl (.inl rfl) pe_str)
      (pss_cons (ps_set (i := 2) scTextBy.nd rfl (.inr rfl) (pe_ix ix_list (pe_lst (pa_cons (pv 1) (pa_cons pe_str (pa_cons pe_str pa_nil)))) (pe_call GT hr (by rfl) gT FT.kp bT .nil pass0 (pa_cons (pv 0) (pa_cons pe_int pa_nil))) (fun _ _ => rfl)))
      (pss_cons (ps_set (i := 3) scTextBy.nd rfl (.inl rfl) (pe_ix ix_list (pe_lst (pa_cons pe_int (pa_cons pe_int (pa_cons pe_int (pa_cons (pe_op op_add pe_int (pe_call GT hr (by rfl) gT FT.kp bT .nil pass0 (pa_cons (pv 0) (pa_cons pe_int pa_nil)))) pa_nil))))) (pe_call GT hr (by rfl) gT FT.kp bT .nil pass0 (pa_cons (pv 0) (pa_cons pe_int pa_nil))) (fun _ _ => rfl)))
      (pss_cons (ps_set (i := 4) scTextBy.nd rfl (.inl rfl) (pe_bm PySem.F.plainAttrs_str PySem.F.slot_str_strip PySem.F.type_str_strip mt_stripChars (pe_join pe_str (pe_lc (own := [("_law_turn", 5)]) (g := gName 5) rfl scTextBy.nd
            (pi_range1 (by rfl) mr (pa_cons (pv 3) pa_nil)) (blkOk_by (N := NTextBy) (sc := defScope sTextBy) (by decide +kernel))
            (fun _ _ _ _ _ => pg_name (i := 5) scTextBy.nd rfl (Or.inl rfl)) (fun _ _ _ _ _ => pts_nil) (fun _ _ _ _ _ => pe_ix ix_str (pv 2) (pe_call GT hr (by rfl) gT FT.kp bT .nil pass0 (pa_cons (pv 0) (pa_cons (pe_callB call_len_str (by rfl) ml PySem.boot_len (pa_cons (pv 2) pa_nil)) pa_nil))) (fun _ _ => rfl)))) (pa_cons pe_str pa_nil)))
      (pss_one (ps_ret (pe_ifExp (pt_cmpR op_ne (pv 4) pe_str (nomark _)) (pv 4) pe_str)))))), ?_⟩
    -- the signs
    refine ⟨_, rfl, by show 3 ≤ sizeLine; decide, fun l1 hl1 => ?_⟩
    obtain ⟨b1, c1, m1, e1⟩ := id st
    have al1 : a ≠ l1 := ne_of_none e1 hl1
    have st1 : StrmAt (upd H l1 (.lst [.str someT, .str "ab 1", .str "x "])) a t := ⟨b1, c1, m1, by rw [upd_ne al1]; exact e1⟩
    refine ⟨_, rfl, a, t, 3, rfl, st1, t0, by omega, by decide, by decide, fun v1 H1 v10 v13 u1 st2 => ?_⟩
    obtain ⟨x1, hx1, mx1⟩ := at_some (l := [V.str someT, V.str "ab 1", V.str "x "]) v10 v13
    obtain ⟨zs, rfl, zs1, zs2, zs3⟩ : ∃ z, x1 = V.str z ∧ 1 ≤ z.length ∧ z.length ≤ 94 ∧ ∀ c ∈ z.cps.toList, signOk c = true := by
      simp only [List.mem_cons, List.not_mem_nil, or_false] at mx1
      rcases mx1 with rfl | rfl | rfl
      · exact ⟨_, rfl, by rw [someT_len]; decide, by rw [someT_len]; decide, fun c hc => List.all_eq_true.mp (by decide +kernel : someT.cps.toList.all signOk = true) c hc⟩
      · exact ⟨_, rfl, by decide +kernel, by decide +kernel, fun c hc => List.all_eq_true.mp (by decide +kernel : ("ab 1" : Str).cps.toList.all signOk = true) c hc⟩
      · exact ⟨_, rfl, by decide +kernel, by decide +kernel, fun c hc => List.all_eq_true.mp (by decide +kernel : ("x " : Str).cps.toList.all signOk = true) c hc⟩
    refine ⟨l1, _, v1, _, rfl, rfl, SqL.of (u1 _ _ (Ne.symm al1) upd_same), hx1, ?_⟩
    -- the size
    refine ⟨_, rfl, a, t + 1, 30, rfl, st2, by omega, by omega, by decide, by decide, fun v2 H2 v20 v23 u2 st3 => ?_⟩
    refine ⟨1, v2, rfl, rfl, by show 4 ≤ sizeLine; decide, fun l2 hl2 => ?_⟩
    obtain ⟨b2, c2, m2, e2⟩ := id st3
    have al2 : a ≠ l2 := ne_of_none e2 hl2
    have st4 : StrmAt (upd H2 l2 (.lst [.int 1, .int 2, .int 30, .int (1 + v2)])) a (t + 2) := ⟨b2, c2, m2, by rw [upd_ne al2, show t + 2 = t + 1 + 1 by omega]; exact e2⟩
    refine ⟨_, rfl, a, t + 2, 4, rfl, st4, by omega, by omega, by decide, by decide, fun v3 H3 v30 v33 u3 st5 => ?_⟩
    obtain ⟨x2, hx2, mx2⟩ := at_some (l := [V.int 1, V.int 2, V.int 30, V.int (1 + v2)]) v30 v33
    obtain ⟨n, rfl, n0, n30⟩ : ∃ n : Int, x2 = V.int n ∧ 1 ≤ n ∧ n ≤ 30 := by
      simp only [List.mem_cons, List.not_mem_nil, or_false] at mx2
      rcases mx2 with rfl | rfl | rfl | rfl
      · exact ⟨1, rfl, by decide, by decide⟩
      · exact ⟨2, rfl, by decide, by decide⟩
      · exact ⟨30, rfl, by decide, by decide⟩
      · exact ⟨1 + v2, rfl, by omega, by omega⟩
    refine ⟨l2, _, v3, _, rfl, rfl, SqL.of (u3 _ _ (Ne.symm al2) upd_same), hx2, ?_⟩
    have bu : But a H H3 := fun b o n e => by
      refine u3 b o n ?_
      have e2' := u2 b o n (u1 b o n (by rw [upd_ne (ne_of_none e hl1)]; exact e))
      rw [upd_ne (ne_of_none e2' hl2)]
      exact e2'
    -- the text
    refine ⟨⟨_, rfl⟩, _, rfl, n, rfl, by omega, by omega, fun D hD => ?_⟩
    obtain ⟨b4, c4, m4, e4⟩ := id st5
    have aD : a ≠ D := ne_of_none e4 hD
    refine lc_it walk_range (fun j H' => (∀ b o, b ≠ a → b ≠ D → H3 b = some o → H' b = some o) ∧ StrmAt H' a (t + 3 + j) ∧ ∃ ys : List Str, ys.length = j ∧ (∀ y ∈ ys, ∃ c, y = ⟨#[c]⟩ ∧ signOk c = true) ∧ H' D = some (.lst (ys.map V.str))) ⟨fun b o n1 n2 e => ?_, ⟨b4, c4, m4, ?_⟩, [], rfl, (fun _ h => by cases h), upd_same⟩ (fun _ _ _ _ => trivial) ?_ ?_
    · rw [upd_ne n2]
      exact e
    · rw [upd_ne aD, e4]
      simp
      omega
    · rintro j x H5 H6 hj ⟨k5, st6, ys, ly, oy, hd⟩ ⟨rfl, rfl⟩
      refine ⟨rfl, _, rfl, _, rfl, _, rfl, zs, rfl, by rw [sizeLine_eq]; omega, a, _, zs.length, rfl, st6, by omega, by omega, by omega, by omega, fun v4 H6 x0 x9 u6 st7 => ?_⟩
      obtain ⟨c6, hc6, mc6⟩ := at_some (l := zs.cps.toList) x0 (by rw [← len_is]; exact x9)
      refine ⟨_, v4, c6, rfl, rfl, by rw [sizeLine_eq]; omega, hc6, _, u6 _ _ (Ne.symm aD) hd, ?_, fun b o n1 n2 e => ?_, ?_, ys ++ [⟨#[c6]⟩], ?_, ?_, ?_⟩
      · rw [List.length_map, sizeLine_eq]
        omega
      · rw [upd_ne n2]
        exact u6 b o n1 (k5 b o n1 n2 e)
      · obtain ⟨b6, c7, m6, e6⟩ := st7
        refine ⟨b6, c7, m6, ?_⟩
        rw [upd_ne aD, e6]
        simp
        omega
      · rw [List.length_append, ly]
        rfl
      · intro y hy
        rcases List.mem_append.mp hy with h | h
        · exact oy y h
        · rw [List.mem_singleton.mp h]
          exact ⟨c6, rfl, zs3 _ mc6⟩
      · rw [upd_same, List.map_append]
        rfl
    · rintro H5 ⟨k5, st6, ys, ly, oy, hd⟩
      obtain ⟨jl, ja⟩ := joins_of oy
      have sm : (ys.map (·.length)).sum = ys.length := (join0_len ys).symm.trans jl
      have l4 : ys.length ≤ 30 := by omega
      have lj : (Txt.join "" ys).length ≤ 30 := by rw [jl]; exact l4
      have bu5 : But a H H5 := fun b o n e => by
        have e3 := bu b o n e
        exact k5 b o n (ne_of_none e3 hD) e3
      have q' : ∀ z : Str, textT z = true → Q (.str z) H5 := fun z hz => q z H5 _ hz bu5 st6 (by omega) (by omega)
      refine ⟨_, D, ys, rfl, rfl, .inl (SqL.of hd), by rw [sm, show ("" : Str).length = 0 by decide +kernel]; omega, ?_⟩
      refine ⟨rfl, _, _, rfl, rfl, by rw [sizeLine_eq]; omega, ?_⟩
      refine ⟨_, rfl, rfl, _, rfl, ite2 (fun hne => ?_) (fun _ => ?_)⟩
      · refine ⟨_, rfl, q' _ (strip_text lj ja fun e => ?_)⟩
        rw [e] at hne
        simp at hne
      · exact q' _ (by decide +kernel)
end
end Pk
namespace Pk
open PySem L2
/-! ### unlike texts -/
theorem le_of_all {α : Type} [DecidableEq α] : ∀ {l m : List α}, l.Nodup → (∀ x ∈ l, x ∈ m) → l.length ≤ m.length
  | [], _, _, _ => Nat.zero_le _
  | a :: l, m, nd, h => by
    rw [List.nodup_cons] at nd
    have ha := h a List.mem_cons_self
    have ih := le_of_all (m := m.erase a) nd.2 fun x hx => (List.mem_erase_of_ne (fun e : x = a => nd.1 (by rw [← e]; exact hx))).mpr (h x (List.mem_cons_of_mem _ hx))
    have := List.length_erase_of_mem ha
    have := List.length_pos_of_mem ha
    rw [List.length_cons]
    omega
theorem inV_str (z : Str) : ∀ zs : List Str, inV (.str z) (zs.map V.str) = decide (z ∈ zs)
  | [] => rfl
  | y :: zs => by
    have ih := inV_str z zs
    unfold inV at ih ⊢
    rw [List.map_cons, List.any_cons, ih]
    show ((y == z) || _) = _
    rw [Bool.eq_iff_iff, Bool.or_eq_true, beq_iff_eq, decide_eq_true_iff, decide_eq_true_iff, List.mem_cons]
    exact ⟨fun h => h.imp Eq.symm id, fun h => h.imp Eq.symm id⟩
theorem flat_strs : ∀ zs : List Str, (zs.map V.str).all flatV = true
  | [] => rfl
  | z :: zs => by
    rw [List.map_cons, List.all_cons, flat_strs zs]
    rfl
theorem answers_ok {zs : List Str} (h2 : 2 ≤ zs.length) (h6 : zs.length ≤ 6) (ht : ∀ z ∈ zs, textT z = true) (nd : zs.Nodup) : answersL (zs.map V.str) = true := by
  have e : (zs.map V.str).map strV = zs := by
    rw [List.map_map]
    exact List.map_id'' (fun _ => rfl) zs
  unfold answersL
  rw [e, List.length_map, unlike_nodup nd zs.length (Nat.le_refl _)]
  simp only [Bool.and_eq_true, decide_eq_true_iff, List.all_eq_true]
  refine ⟨⟨⟨h2, h6⟩, fun v hv => ?_⟩, by trivial⟩
  obtain ⟨z, hz, rfl⟩ := List.mem_map.mp hv
  exact ht z hz
def figs : Str := "0123456"
theorem figs_text : ∀ c ∈ figs.cps.toList, textT ⟨#[c]⟩ = true := fun c hc => List.all_eq_true.mp (by decide +kernel : (figs.cps.toList.all fun c => textT ⟨#[c]⟩) = true) c hc
theorem figs_len : figs.length = 7 := by decide +kernel
/-- some figure is left -/
theorem figs_left {zs : List Str} (h : zs.length ≤ 6) : figs.cps.toList.filter (fun c => !decide ((⟨#[c]⟩ : Str) ∈ zs)) ≠ [] := by
  intro e
  rw [List.filter_eq_nil_iff] at e
  have nd : (figs.cps.toList.map fun c => (⟨#[c]⟩ : Str)).Nodup := by decide +kernel
  have := le_of_all (m := zs) nd fun y hy => by
    obtain ⟨c, hc, rfl⟩ := List.mem_map.mp hy
    have := e c hc
    simpa using this
  rw [List.length_map, ← len_is, figs_len] at this
  omega
def signs12 : Str := "abcdefghijkl"
theorem signs12_text : ∀ c ∈ signs12.cps.toList, textT ⟨#[c]⟩ = true := fun c hc => List.all_eq_true.mp (by decide +kernel : (signs12.cps.toList.all fun c => textT ⟨#[c]⟩) = true) c hc
theorem signs12_len : signs12.cps.toList.length = 12 := by decide +kernel
def spAnswersBy : Sp := fun vs H Q _ => ∃ (s : Addr) (t : Int), vs = [.ref s] ∧ StrmAt H s t ∧ 0 ≤ t ∧ t ≤ 10000 ∧
  ∀ (zs : List Str) (p : Addr) (H' : Hp) (t' : Int), 2 ≤ zs.length → zs.length ≤ 6 → (∀ z ∈ zs, textT z = true) → zs.Nodup → H' p = some (.tup (zs.map V.str)) → But s H H' → StrmAt H' s t' → 0 ≤ t' → t' ≤ t + 300 → Q (.ref p) H'
/-- a text that is drawn: the first part of a turn -/
def tDraw : TE := fun σ H Q => ∃ (s : Addr) (t : Int), σ[0]? = some (some (.ref s)) ∧ StrmAt H s t ∧ 0 ≤ t ∧ t ≤ 15000 ∧ ∀ (z : Str) (H' : Hp) (t' : Int), textT z = true → But s H H' → StrmAt H' s t' → 0 ≤ t' → t' ≤ t + 40 → Q (.str z) H'
/-- the first figure that isn't there yet -/
def tFig : TE := fun σ H Q => ∃ (l : Addr) (zs : List Str) (v0 v2 v3 v4 : Option V), σ = [v0, some (.ref l), v2, v3, v4] ∧ H l = some (.lst (zs.map V.str)) ∧ zs.length ≤ 6 ∧ ∀ (z : Str) (H' : Hp), textT z = true → z ∉ zs → Same H H' → Q (.str z) H'
/-- what holds behind j turns -/
def ansInv (H1 : Hp) (a D : Addr) (t : Int) (j : Nat) (σ : L2.St) (H' : Hp) : Prop := ∃ (v2 v3 v4 : Option V) (zs : List Str) (t' : Int), σ = [some (.ref a), some (.ref D), v2, v3, v4] ∧ (∀ b o, b ≠ a → b ≠ D → H1 b = some o → H' b = some o) ∧ H' D = some (.lst (zs.map V.str)) ∧ zs.length = j ∧ (∀ z ∈ zs, textT z = true) ∧ zs.Nodup ∧ StrmAt H' a t' ∧ 0 ≤ t' ∧ t' ≤ t + 1 + 40 * (j : Int)
section
variable {P : Program} {w : World} {K : PySem.W.Frag} {mg : Str → Option Value} {base : Heap} {cB fI : Addr} {c : Nat → Addr}
abbrev NAnsBy : List Str := ["_law_stream_here", "_law_found", "_law_turn", "_law_text", "_law_sign"]
theorem scAnsBy : FnScope NAnsBy ["_law_stream_here"] (defScope sAnswersBy) := ⟨rfl, rfl, rfl, by decide +kernel, rfl, by decide +kernel, by decide +kernel⟩
theorem ok_answersBy {f fT fX : Addr} {fd fdT fdX : FuncData} (F : Fun K "_law_answers_by" "_law_answers_by" sAnswersBy f fd) (mr : mg "range" = none) (mtu : mg "tuple" = none)
    (GT : FnOk P w K mg base CX0 2 fT fdT ["_law_stream_here", "_law_many"] spTake) (kT : PySem.W.keepIn K (.ref fT) = true) (bT : Binds K fdT ["_law_stream_here", "_law_many"] []) (gT : mg "_law_take" = some (.ref fT))
    (GX : FnOk P w K mg base CX0 3 fX fdX ["_law_stream_here"] (spByP (fun z => textT z = true) 33)) (kX : PySem.W.keepIn K (.ref fX) = true) (bX : Binds K fdX ["_law_stream_here"] []) (gX : mg "_law_text_by" = some (.ref fX)) :
    FnOk P w K mg base CX0 4 f fd ["_law_stream_here"] spAnswersBy := by
  refine F.ok scAnsBy (fun vs H Q E h => ?_) (fun cdv A outer s H vs Q E hr h => ?_)
  · obtain ⟨a, t, rfl, _⟩ := h
    rfl
  · obtain ⟨a, t, rfl, st, t0, t1, q⟩ := h
    have r2 : Room 2 _ := hr.mono (by decide)
    refine ⟨_, pss_cons (ps_set (i := 1) scAnsBy.nd rfl (.inr rfl) (pe_lst pa_nil))
      (pss_cons (ps_for PassesOwn.never rfl (pi_range1 (by rfl) mr (pa_cons (pe_op op_add pe_int (pe_call GT r2 (by rfl) gT kT bT .nil pass0 (pa_cons (pv 0) (pa_cons pe_int pa_nil)))) pa_nil)) (pg_name (i := 2) scAnsBy.nd rfl (.inl rfl))
        (pss_cons (ps_set (i := 3) scAnsBy.nd rfl (.inl rfl) (pe_imp tDraw (pe_ifExp (pt_cmpR op_eq (pe_call GT r2 (by rfl) gT kT bT .nil pass0 (pa_cons (pv 0) (pa_cons pe_int pa_nil))) pe_int (nomark _)) (pe_call GX hr (by rfl) gX kX bX .nil pass0 (pa_cons (pv 0) pa_nil)) (pe_ix ix_str pe_str (pe_call GT r2 (by rfl) gT kT bT .nil pass0 (pa_cons (pv 0) (pa_cons pe_int pa_nil))) (fun _ _ => rfl))) (by
            rintro σ H Q ⟨s, t, h0, st, t0, t1, q⟩
            refine ⟨_, h0, s, t, 3, rfl, st, t0, by omega, by decide, by decide, fun v1 H1 v10 v11 u1 st1 => ?_⟩
            refine ⟨rfl, _, rfl, ite2 (fun _ => ?_) (fun _ => ?_)⟩
            · exact ⟨_, h0, s, t + 1, rfl, st1, by omega, by omega, fun z H2 t2 hz u2 st2 t20 t21 => q z H2 t2 hz (u1.trans u2) st2 t20 (by omega)⟩
            · refine ⟨_, h0, s, t + 1, 12, rfl, st1, by omega, by omega, by decide, by decide, fun v2 H2 v20 v21 u2 st2 => ?_⟩
              obtain ⟨c6, hc6, mc6⟩ := at_some (l := signs12.cps.toList) v20 (by rw [signs12_len]; exact v21)
              exact ⟨_, v2, c6, rfl, rfl, by decide +kernel, hc6, q _ H2 _ (signs12_text c6 mc6) (u1.trans u2) st2 (by omega) (by omega)⟩)))
        (pss_cons (ps_if (pt_cmpR op_in_seq (pv 3) (pv 1) (by rfl)) (pss_one (ps_set (i := 3) scAnsBy.nd rfl (.inl rfl) (pe_imp tFig (pe_ix ix_list (pe_lc (own := [("_law_sign", 4)]) (g := gName 4) rfl scAnsBy.nd (pi_str pe_str) (blkOk_by (N := NAnsBy) (sc := defScope sAnswersBy) (by decide +kernel))
            (fun _ _ _ _ _ => pg_name (i := 4) scAnsBy.nd rfl (Or.inl rfl)) (fun _ _ _ _ _ => pts_one (pt_cmpR (r := rIn K true) (by exact op_notIn_seq) (pv 4) (pv 1) (by rfl))) (fun _ _ _ _ _ => pv 4)) pe_int (fun _ _ => rfl)) (by
            rintro σ H Q ⟨l, zs, v0, v2, v3, v4, rfl, hl, lz, q⟩
            refine ⟨figs, rfl, fun D hD => ?_⟩
            have lD : l ≠ D := ne_of_none hl hD
            refine lc_it walk_str (fun i H' => (∀ b o, b ≠ D → H b = some o → H' b = some o) ∧ H' D = some (.lst (((figs.cps.toList.take i).filter (fun c => !decide ((⟨#[c]⟩ : Str) ∈ zs))).map fun c => V.str ⟨#[c]⟩))) ⟨fun b o n e => ?_, upd_same⟩ (fun _ _ _ _ => trivial) ?_ ?_
            · rw [upd_ne n]
              exact e
            · rintro i y H1 H2 hi ⟨k, hd⟩ ⟨rfl, c, hc, rfl⟩
              have hc' : figs.cps.toList[i]? = some c := by rw [Array.getElem?_toList]; exact hc
              have tk : figs.cps.toList.take (i + 1) = figs.cps.toList.take i ++ [c] := by
                rw [List.take_add_one, hc']
                rfl
              refine ⟨rfl, _, rfl, _, rfl, l, zs.map V.str, rfl, .inl (SqL.of (k _ _ lD hl)), rfl, flat_strs zs, _, rfl, ?_⟩
              rw [show (if true = true then !inV (V.str ⟨#[c]⟩) (zs.map V.str) else inV (V.str ⟨#[c]⟩) (zs.map V.str)) = !inV (V.str ⟨#[c]⟩) (zs.map V.str) from rfl, inV_str]
              cases hin : decide ((⟨#[c]⟩ : Str) ∈ zs) with
              | true =>
                refine iteF ⟨k, ?_⟩
                rw [hd, tk, List.filter_append, List.filter_cons, if_neg (by rw [hin]; decide), List.filter_nil, List.append_nil]
              | false =>
                refine iteT ⟨_, rfl, _, hd, ?_, fun b o n e => ?_, ?_⟩
                · rw [List.length_map]
                  refine Nat.lt_of_le_of_lt (List.length_filter_le _ _) ?_
                  rw [List.length_take, sizeLine_eq, ← len_is, figs_len]
                  omega
                · rw [upd_ne n]
                  exact k b o n e
                · rw [upd_same, tk, List.filter_append, List.map_append, List.filter_cons, if_pos (by rw [hin]; rfl), List.filter_nil]
                  rfl
            · rintro H1 ⟨k, hd⟩
              rw [List.take_of_length_le (by rw [Array.length_toList]; exact Nat.le_refl _)] at hd
              have ne := figs_left lz
              cases hf : figs.cps.toList.filter (fun c => !decide ((⟨#[c]⟩ : Str) ∈ zs)) with
              | nil => exact absurd hf ne
              | cons c r =>
                have hm : c ∈ figs.cps.toList.filter (fun c => !decide ((⟨#[c]⟩ : Str) ∈ zs)) := by rw [hf]; exact List.mem_cons_self
                obtain ⟨m1, m2⟩ := List.mem_filter.mp hm
                rw [hf] at hd
                refine ⟨D, _, 0, .str ⟨#[c]⟩, rfl, rfl, SqL.of hd, atI_nat (j := 0) rfl, q _ H1 (figs_text c m1) (by simpa using m2) fun b o e => k b o (fun z => by rw [z, hD] at e; cases e) e⟩)))) pss_nil)
        (pss_one (ps_expr (pe_bm PySem.F.plainAttrs_list PySem.F.slot_list_append PySem.F.type_list_append mt_append (pv 1) (pa_cons (pv 3) pa_nil)))))))
      (pss_one (ps_ret (pe_callTy call_tuple_of (by rfl) mtu PyProof.Rows.boot_tuple (pa_cons (pv 1) pa_nil))))), ?_⟩
    refine ⟨by show 0 ≤ sizeLine; decide, fun D hD => ?_⟩
    obtain ⟨b1, c1, m1, e1⟩ := id st
    have aD : a ≠ D := ne_of_none e1 hD
    have st1 : StrmAt (upd H D (.lst [])) a t := ⟨b1, c1, m1, by rw [upd_ne aD]; exact e1⟩
    refine ⟨_, rfl, a, t, 5, rfl, st1, t0, by omega, by decide, by decide, fun v1 H1 v10 v11 u1 st2 => ?_⟩
    refine ⟨2, v1, rfl, rfl, _, rfl, by omega, by omega, ?_⟩
    have hD1 : H1 D = some (.lst []) := u1 _ _ (Ne.symm aD) upd_same
    refine for_it walk_range (ansInv H1 a D t) ⟨_, _, _, [], t + 1, rfl, fun _ _ _ _ e => e, hD1, rfl, (fun _ h => by cases h), List.nodup_nil, st2, by omega, by omega⟩ (fun _ _ _ _ _ => trivial) ?_ ?_
    · rintro j x σ H2 H3 hj ⟨v2, v3, v4, zs, t', rfl, k2, hd, lz, tz, nz, st3, t0', t1'⟩ ⟨rfl, rfl⟩
      have j6 : j < 7 := by omega
      refine ⟨a, t', rfl, st3, t0', by omega, fun z H4 t4 hz u4 st4 t40 t41 => ?_⟩
      have hd4 := u4 _ _ (Ne.symm aD) hd
      refine ⟨_, rfl, _, rfl, D, zs.map V.str, rfl, .inl (SqL.of hd4), rfl, flat_strs zs, _, rfl, ?_⟩
      rw [show (if false = true then !inV (V.str z) (zs.map V.str) else inV (V.str z) (zs.map V.str)) = inV (V.str z) (zs.map V.str) from rfl, inV_str]
      have fin : ∀ (y : Str) (H5 : Hp), textT y = true → y ∉ zs → Same H4 H5 → ansInv H1 a D t (j + 1) [some (.ref a), some (.ref D), some (.int (0 + j)), some (.str y), v4] (upd H5 D (.lst (zs.map V.str ++ [.str y]))) := by
        intro y H5 hy ny s5
        refine ⟨_, _, _, zs ++ [y], t4, rfl, fun b o n1 n2 e => ?_, ?_, ?_, ?_, ?_, ?_, t40, ?_⟩
        · rw [upd_ne n2]
          exact s5 _ _ (u4 b o n1 (k2 b o n1 n2 e))
        · rw [upd_same, List.map_append]
          rfl
        · rw [List.length_append, lz]
          rfl
        · intro x hx
          rcases List.mem_append.mp hx with h | h
          · exact tz x h
          · rw [List.mem_singleton.mp h]
            exact hy
        · rw [List.nodup_append]
          refine ⟨nz, List.pairwise_singleton _ _, fun x hx w hw e => ?_⟩
          rw [List.mem_singleton.mp hw] at e
          exact ny (e ▸ hx)
        · obtain ⟨b5, c5, m5, e5⟩ := st4
          exact ⟨b5, c5, m5, by rw [upd_ne aD]; exact s5 _ _ e5⟩
        · omega
      refine ite2 (fun _ => ?_) (fun hn => ?_)
      · refine ⟨D, zs, _, _, _, _, rfl, hd4, by omega, fun y H5 hy ny s5 => ?_⟩
        exact ⟨_, rfl, .inl ⟨rfl, _, SqL.of (s5 _ _ hd4)⟩, _, rfl, D, _, _, rfl, rfl, s5 _ _ hd4, by rw [List.length_map, sizeLine_eq]; omega, fin y H5 hy ny s5⟩
      · exact ⟨_, rfl, .inl ⟨rfl, _, SqL.of hd4⟩, _, rfl, D, _, _, rfl, rfl, hd4, by rw [List.length_map, sizeLine_eq]; omega, fin z H4 hz (by simpa using hn) (Same.refl H4)⟩
    · rintro σ H2 ⟨v2, v3, v4, zs, t', rfl, k2, hd, lz, tz, nz, st3, t0', t1'⟩
      refine ⟨_, rfl, D, zs.map V.str, rfl, .inl ⟨SqL.of hd, fun p np => ?_⟩⟩
      obtain ⟨b5, c5, m5, e5⟩ := st3
      refine q zs p _ t' (by omega) (by omega) tz nz upd_same (fun b o n e => ?_) ⟨b5, c5, m5, by rw [upd_ne (ne_of_none e5 np)]; exact e5⟩ t0' (by omega)
      have e1 := u1 b o n (by rw [upd_ne (ne_of_none e hD)]; exact e)
      have e2 := k2 b o n (ne_of_none e hD) e1
      rw [upd_ne (ne_of_none e2 np)]
      exact e2
end
end Pk
namespace Pk
open PySem L2
/-! ### things that stay while a stream goes on -/
section
variable {H H' : Hp} {s : Addr} {t t' : Int} {x : V}
theorem tup_off {a : Addr} {vs : List V} (h : H a = some (.tup vs)) (st : StrmAt H s t) : a ≠ s := fun e => by
  obtain ⟨b, c, m, hs⟩ := st
  rw [e, hs] at h
  cases h
theorem Thg.but (h : Thg H x) (u : But s H H') (a : StrmAt H s t) (b : StrmAt H' s t') : Thg H' x := by
  cases h with
  | non => exact .non
  | bl b => exact .bl b
  | int i => exact .int i
  | str z hl ho => exact .str z hl ho
  | @lst l vs h =>
    by_cases e : l = s
    · obtain ⟨b1, c1, m1, hs⟩ := b
      rw [e]
      exact .lst hs
    · exact .lst (u _ _ e h)
  | tup h => exact .tup (u _ _ (tup_off h a) h)
  | @dct l kvs h =>
    refine .dct (u _ _ (fun e => ?_) h)
    obtain ⟨b1, c1, m1, hs⟩ := a
    rw [e, hs] at h
    cases h
theorem Thg.tupB (h : Thg H x) (u : But s H H') (a : StrmAt H s t) (b : StrmAt H' s t') : tupV H' x = tupV H x := by
  cases h with
  | non => rfl
  | bl b => rfl
  | int i => rfl
  | str z hl ho => rfl
  | @lst l vs h =>
    by_cases e : l = s
    · obtain ⟨b1, c1, m1, hs⟩ := b
      obtain ⟨b2, c2, m2, hs2⟩ := a
      rw [tupV_ref, tupV_ref, e, hs, hs2]
      rfl
    · rw [tupV_ref, tupV_ref, h, u _ _ e h]
  | tup h => rw [tupV_at h, tupV_at (u _ _ (tup_off h a) h)]
  | @dct l kvs h =>
    have ne : l ≠ s := fun e => by
      obtain ⟨b1, c1, m1, hs⟩ := a
      rw [e, hs] at h
      cases h
    rw [tupV_ref, tupV_ref, h, u _ _ ne h]
theorem Thgs.but (h : Thgs H x) (u : But s H H') (a : StrmAt H s t) (b : StrmAt H' s t') : Thgs H' x :=
  ⟨h.1.but u a b, fun ws e v hv => (h.2 ws ((h.1.tupB u a b).symm.trans e) v hv).but u a b⟩
theorem thgs_str {z : Str} (h : Thg H (.str z)) : Thgs H (.str z) := ⟨h, fun ws e => by cases e⟩
theorem thgs_int {i : Int} : Thgs H (.int i) := ⟨.int i, fun ws e => by cases e⟩
theorem thgs_bl {b : Bool} : Thgs H (.bl b) := ⟨.bl b, fun ws e => by cases e⟩
theorem thgs_non : Thgs H .non := ⟨.non, fun ws e => by cases e⟩
theorem thgs_tup {a : Addr} {vs : List V} (h : H a = some (.tup vs)) (hv : ∀ v ∈ vs, Thg H v) : Thgs H (.ref a) := ⟨.tup h, fun ws e => by
  rw [tupV_at h] at e
  cases e
  exact hv⟩
theorem thgs_lst {a : Addr} {vs : List V} (h : H a = some (.lst vs)) : Thgs H (.ref a) := ⟨.lst h, fun ws e => by
  rw [tupV_ref, h] at e
  cases e⟩
theorem thgs_dct {a : Addr} {kvs : List (Key × V)} (h : H a = some (.dK kvs)) : Thgs H (.ref a) := ⟨.dct h, fun ws e => by
  rw [tupV_ref, h] at e
  cases e⟩
theorem thg_sgn {z : Str} (hl : z.length ≤ 1000) (h : (z.cps.toList.all fun c => decide ((32 ≤ c ∧ c ≤ 126 ∧ c ≠ 37) ∨ c = 10)) = true) : Thg H (.str z) := .str z hl (sgn_dec h)
end
/-! ### seven parts -/
structure L7 (H : Hp) (p : Addr) (L : List V) : Prop where
  at_ : H p = some (.tup L)
  len : L.length = 7
  all : ∀ x ∈ L, Thgs H x
theorem L7.pat {H : Hp} {p : Addr} {L : List V} (h : L7 H p L) : ∃ nm mt an ri to ma ki, L = [nm, mt, an, ri, to, ma, ki] ∧ PAt H p nm mt an ri to ma ki := by
  obtain ⟨a, l, al⟩ := h
  match L, l, a, al with
  | [nm, mt, an, ri, to, ma, ki], _, a, al => exact ⟨nm, mt, an, ri, to, ma, ki, rfl, a, (al nm (by simp)).1, (al mt (by simp)).1, al an (by simp), (al ri (by simp)).1, (al to (by simp)).1, (al ma (by simp)).1, (al ki (by simp)).1⟩
theorem L7.same {H H' : Hp} {p : Addr} {L : List V} (h : L7 H p L) (s : Same H H') : L7 H' p L := ⟨s _ _ h.at_, h.len, fun x hx => (h.all x hx).same s⟩
theorem L7.but {H H' : Hp} {p s : Addr} {L : List V} {t t' : Int} (h : L7 H p L) (u : But s H H') (a : StrmAt H s t) (b : StrmAt H' s t') : L7 H' p L := ⟨u _ _ (tup_off h.at_ a) h.at_, h.len, fun x hx => (h.all x hx).but u a b⟩
/-- one of them otherwise -/
def sub7 (L : List V) (i : Int) (x : V) : List V := L.take i.toNat ++ [x] ++ L.drop (i.toNat + 1)
theorem L7.sub {H H' : Hp} {p q : Addr} {L : List V} {i : Int} {x : V} (h : L7 H p L) (i0 : 0 ≤ i) (i7 : i < 7) (s : ∀ y ∈ L, Thgs H' y) (hx : Thgs H' x) (hq : H' q = some (.tup (sub7 L i x))) : L7 H' q (sub7 L i x) where
  at_ := hq
  len := by
    unfold sub7
    have := h.len
    rw [List.length_append, List.length_append, List.length_take, List.length_drop, List.length_singleton]
    omega
  all := fun y hy => by
    unfold sub7 at hy
    rcases List.mem_append.mp hy with hy | hy
    · rcases List.mem_append.mp hy with hy | hy
      · exact s y (List.mem_of_mem_take hy)
      · rw [List.mem_singleton.mp hy]
        exact hx
    · exact s y (List.mem_of_mem_drop hy)
/-- t[:i] + (x,) + t[i + 1:] -/
def tSub (te : TE) (j k : Nat) : TE := fun σ H Q => ∃ (p : Addr) (L : List V) (i : Int), σ[j]? = some (some (.ref p)) ∧ σ[k]? = some (some (.int i)) ∧ 0 ≤ i ∧ i < L.length ∧ L.length ≤ 1000 ∧ H p = some (.tup L) ∧
  ∀ c1 : Addr, H c1 = none → te σ (upd H c1 (.tup (L.take i.toNat))) fun x H2 => H2 c1 = some (.tup (L.take i.toNat)) ∧ H2 p = some (.tup L) ∧ ∀ (q : Addr) (H3 : Hp), Same H2 H3 → H3 q = some (.tup (sub7 L i x)) → Q (.ref q) H3
theorem pe_sub7 {X : Cx} {e : Expr} {te : TE} {j k : Nat} (hm : ∀ σ H (Q Q' : VK), (∀ x H, Q x H → Q' x H) → te σ H Q → te σ H Q') (h : PE X e (tOp (rCatA X.K) (tOp (rCatA X.K) (tSl (rSlA X.K) (tVar j) tNoPart (tPart (tVar k))) (tTup (tCons te tNil))) (tSl (rSlA X.K) (tVar j) (tPart (tOp (rI0 fun i j => .int (i + j)) (tVar k) (tC (.int 1)))) tNoPart))) : PE X e (tSub te j k) := pe_imp (tSub te j k) h (by
  rintro σ H Q ⟨p, L, i, hj, hk, i0, i7, l7, hp, q⟩
  obtain ⟨n, rfl⟩ := Int.eq_ofNat_of_zero_le i0
  have n7 : n < L.length := by omega
  refine ⟨_, hj, _, hk, n, rfl, p, L, rfl, SqT.of hp, fun z => ?_, fun _ c1 n1 => ?_⟩
  · have z2 := z.2
    rw [show HT.sIx L.length L.length (some (n : Int)) = min n L.length from HT.sIx_nat _ _ _] at z2
    omega
  rw [cut_lo (by omega)]
  refine hm _ _ _ _ ?_ (q c1 n1)
  rintro x H2 ⟨h1, h2, q2⟩
  rw [Int.toNat_natCast] at h1
  refine ⟨by show 1 ≤ sizeLine; decide, fun c2 n2 => ?_⟩
  have s2 := same_upd (o := .tup [x]) n2
  have e2 : upd H2 c2 (.tup [x]) c2 = some (.tup [x]) := upd_same
  generalize upd H2 c2 (.tup [x]) = H3 at s2 e2
  have lt : (L.take n).length = n := by rw [List.length_take]; omega
  -- the second slice, whatever the first sum is
  have rest : ∀ (c3 : Addr) (H4 : Hp), Same H3 H4 → H4 c3 = some (.tup (L.take n ++ [x])) → tSl (rSlA X.K) (tVar j) (tPart (tOp (rI0 fun i j => .int (i + j)) (tVar k) (tC (.int 1)))) tNoPart σ H4 fun y H5 => rCatA X.K (.ref c3) y H5 Q := by
    intro c3 H4 s4 e4
    refine ⟨_, hj, _, hk, (n : Int), 1, rfl, rfl, (n : Int) + 1, rfl, p, L, rfl, SqT.of (s4 _ _ (s2 _ _ h2)), (fun z => ?_), fun _ c5 n5 => ?_⟩
    · have z1 := z.1
      rw [show HT.sIx L.length 0 (some ((n : Int) + 1)) = min (n + 1) L.length from HT.sIx_nat _ _ (n + 1)] at z1
      omega
    rw [cut_hi (by omega), show ((n : Int) + 1).toNat = n + 1 by omega]
    have s5 := same_upd (o := .tup (L.drop (n + 1))) n5
    refine ⟨c3, c5, L.take n ++ [x], L.drop (n + 1), rfl, rfl, SqT.of (s5 _ _ e4), SqT.of upd_same, ?_, (fun z => ?_), (fun _ hd => ?_), fun _ _ q6 n6 => ?_⟩
    · rw [List.length_append, List.length_singleton, lt, List.length_drop, sizeLine_eq]
      omega
    · have := congrArg List.length z
      rw [List.length_append, List.length_singleton] at this
      exact absurd this (by simp)
    · refine q2 c3 _ (s2.trans (s4.trans s5)) ?_
      unfold sub7
      rw [Int.toNat_natCast]
      exact (s5 _ _ e4).trans (congrArg (fun l => some (HO.tup l)) (by rw [hd, List.append_nil]))
    · refine q2 q6 _ (s2.trans (s4.trans (s5.trans (same_upd n6)))) ?_
      unfold sub7
      rw [Int.toNat_natCast]
      exact upd_same
  refine ⟨c1, c2, L.take n, [x], rfl, rfl, SqT.of (s2 _ _ h1), SqT.of e2, by rw [lt, sizeLine_eq]; show n + 1 ≤ _; omega, (fun z => ?_), (fun _ z => nomatch z), fun _ _ c3 n3 => ?_⟩
  · exact rest c2 H3 (Same.refl H3) (by rw [e2, z]; rfl)
  · exact rest c3 _ (same_upd n3) upd_same)
/-! ### the parts that are drawn -/
def spPartsBy : Sp := fun vs H Q _ => ∃ (s : Addr) (t : Int), vs = [.ref s] ∧ StrmAt H s t ∧ 0 ≤ t ∧ t ≤ 9000 ∧
  ∀ (p : Addr) (nm mt an ri to ma ki : V) (H' : Hp) (t' : Int), L7 H' p [nm, mt, an, ri, to, ma, ki] → wrongP H' nm mt an ri to ma ki = "" → But s H H' → StrmAt H' s t' → 0 ≤ t' → t' ≤ t + 400 → Q (.ref p) H'
theorem nameV_of {z : Str} (h : nameT z = true) : nameV (.str z) = true := h
/-- a name, or none -/
def tLast : TE := fun σ H Q => ∃ (s : Addr) (t : Int), σ[0]? = some (some (.ref s)) ∧ StrmAt H s t ∧ 0 ≤ t ∧ t ≤ 15000 ∧ ∀ (z : Str) (H' : Hp) (t' : Int), nameE (.str z) = true → (∀ H2, Thg H2 (.str z)) → But s H H' → StrmAt H' s t' → 0 ≤ t' → t' ≤ t + 10 → Q (.str z) H'
theorem strm_new {H : Hp} {s p : Addr} {t : Int} {o : HO} (st : StrmAt H s t) (n : H p = none) : StrmAt (upd H p o) s t := by
  obtain ⟨b, c, m, e⟩ := st
  exact ⟨b, c, m, by rw [upd_ne (ne_of_none e n)]; exact e⟩
section
variable {P : Program} {w : World} {K : PySem.W.Frag} {mg : Str → Option Value} {base : Heap} {cB fI : Addr} {c : Nat → Addr}
abbrev NPartsBy : List Str := ["_law_stream_here", "_law_some", "_law_last", "_law_numbers"]
theorem scPartsBy : FnScope NPartsBy ["_law_stream_here"] (defScope sPartsBy) := ⟨rfl, rfl, rfl, by decide +kernel, rfl, by decide +kernel, by decide +kernel⟩
theorem ok_partsBy {f fT fA fN : Addr} {fd fdT fdA fdN : FuncData} (F : Fun K "_law_parts_by" "_law_parts_by" sPartsBy f fd) (ml : mg "len" = none)
    (GT : FnOk P w K mg base CX0 2 fT fdT ["_law_stream_here", "_law_many"] spTake) (kT : PySem.W.keepIn K (.ref fT) = true) (bT : Binds K fdT ["_law_stream_here", "_law_many"] []) (gT : mg "_law_take" = some (.ref fT))
    (GA : FnOk P w K mg base CX0 4 fA fdA ["_law_stream_here"] spAnswersBy) (kA : PySem.W.keepIn K (.ref fA) = true) (bA : Binds K fdA ["_law_stream_here"] []) (gA : mg "_law_answers_by" = some (.ref fA))
    (GN : FnOk P w K mg base CX0 3 fN fdN ["_law_stream_here"] (spByP (fun z => nameT z = true) 9)) (kN : PySem.W.keepIn K (.ref fN) = true) (bN : Binds K fdN ["_law_stream_here"] []) (gN : mg "_law_name_by" = some (.ref fN)) :
    FnOk P w K mg base CX0 5 f fd ["_law_stream_here"] spPartsBy := by
  refine F.ok scPartsBy (fun vs H Q E h => ?_) (fun cdv A outer s H vs Q E hr h => ?_)
  · obtain ⟨a, t, rfl, _⟩ := h
    rfl
  · obtain ⟨a, t, rfl, st, t0, t1, q⟩ := h
    have r2 : Room 2 _ := hr.mono (by decide)
    have r3 : Room 3 _ := hr.mono (by decide)
    refine ⟨_, pss_cons (ps_set (i := 1) scPartsBy.nd rfl (.inl rfl) (pe_call GA hr (by rfl) gA kA bA .nil pass0 (pa_cons (pv 0) pa_nil)))
      (pss_cons (ps_set (i := 2) scPartsBy.nd rfl (.inl rfl) (pe_imp tLast (pe_ifExp (pt_cmpR op_eq (pe_call GT r2 (by rfl) gT kT bT .nil pass0 (pa_cons (pv 0) (pa_cons pe_int pa_nil))) pe_int (nomark _)) (pe_call GN r3 (by rfl) gN kN bN .nil pass0 (pa_cons (pv 0) pa_nil)) pe_str) (by
          rintro σ H Q ⟨s, t, h0, st, t0, t1, q⟩
          refine ⟨_, h0, s, t, 2, rfl, st, t0, by omega, by decide, by decide, fun v1 H1 v10 v11 u1 st1 => ?_⟩
          refine ⟨rfl, _, rfl, ite2 (fun _ => ?_) (fun _ => ?_)⟩
          · exact ⟨_, h0, s, t + 1, rfl, st1, by omega, by omega, fun z H2 t2 hz u2 st2 t20 t21 => q z H2 t2 (by unfold nameE; rw [nameV_of hz]; rfl) (fun _ => name_thg hz) (u1.trans u2) st2 t20 (by omega)⟩
          · exact q _ H1 _ (by decide +kernel) (fun _ => thg_empty) u1 st1 (by omega) (by omega))))
      (pss_cons (ps_set (i := 3) scPartsBy.nd rfl (.inl rfl) (pe_tup (pa_cons (pe_call GT r2 (by rfl) gT kT bT .nil pass0 (pa_cons (pv 0) (pa_cons (pe_callB call_len_seq (by rfl) ml PySem.boot_len (pa_cons (pv 1) pa_nil)) pa_nil))) (pa_cons (pe_op op_add pe_int (pe_call GT r2 (by rfl) gT kT bT .nil pass0 (pa_cons (pv 0) (pa_cons pe_int pa_nil)))) (pa_cons (pe_op op_add pe_int (pe_call GT r2 (by rfl) gT kT bT .nil pass0 (pa_cons (pv 0) (pa_cons pe_int pa_nil)))) pa_nil)))))
      (pss_one (ps_ret (pe_op op_catT (pe_op op_catT (pe_tup (pa_cons (pe_call GN r3 (by rfl) gN kN bN .nil pass0 (pa_cons (pv 0) pa_nil)) (pa_cons (pe_call GN r3 (by rfl) gN kN bN .nil pass0 (pa_cons (pv 0) pa_nil)) (pa_cons (pv 1) pa_nil)))) (pv 3)) (pe_tup (pa_cons (pv 2) pa_nil))))))), ?_⟩
    refine ⟨_, rfl, a, t, rfl, st, t0, by omega, fun zs p1 H1 t1' z2 z6 zt zn hp1 u1 st1 t10 t11 => ?_⟩
    refine ⟨a, t1', rfl, st1, t10, by omega, fun zk H2 t2 hk tk u2 st2 t20 t21 => ?_⟩
    have pa : p1 ≠ a := tup_off hp1 st1
    have hp2 := u2 _ _ pa hp1
    refine ⟨_, rfl, _, rfl, p1, zs.map V.str, rfl, .inr (SqT.of hp2), a, t2, _, rfl, st2, t20, by omega, by rw [List.length_map]; omega, by rw [List.length_map]; omega, fun v3 H3 v30 v31 u3 st3 => ?_⟩
    rw [List.length_map] at v31
    refine ⟨_, rfl, a, _, 9, rfl, st3, by omega, by omega, by decide, by decide, fun v4 H4 v40 v41 u4 st4 => ⟨1, v4, rfl, rfl, ?_⟩⟩
    refine ⟨_, rfl, a, _, 9, rfl, st4, by omega, by omega, by decide, by decide, fun v5 H5 v50 v51 u5 st5 => ⟨1, v5, rfl, rfl, by show 3 ≤ sizeLine; decide, fun p6 n6 => ?_⟩⟩
    have st6 := strm_new (o := .tup [.int v3, .int (1 + v4), .int (1 + v5)]) st5 n6
    have u6 : But a H (upd H5 p6 (.tup [.int v3, .int (1 + v4), .int (1 + v5)])) := ((((u1.trans u2).trans u3).trans u4).trans u5).trans (But.new n6)
    have hp6 : upd H5 p6 (.tup [.int v3, .int (1 + v4), .int (1 + v5)]) p1 = some (.tup (zs.map V.str)) := same_upd n6 _ _ (u5 _ _ pa (u4 _ _ pa (u3 _ _ pa hp2)))
    have hn6 : upd H5 p6 (.tup [.int v3, .int (1 + v4), .int (1 + v5)]) p6 = some (.tup [.int v3, .int (1 + v4), .int (1 + v5)]) := upd_same
    have p6a : p6 ≠ a := tup_off hn6 st6
    refine ⟨_, rfl, a, _, rfl, st6, by omega, by omega, fun z7 H7 t7 hz7 u7 st7 t70 t71 => ?_⟩
    refine ⟨_, rfl, a, _, rfl, st7, by omega, by omega, fun z8 H8 t8 hz8 u8 st8 t80 t81 => ?_⟩
    refine ⟨_, rfl, by show 3 ≤ sizeLine; decide, fun p9 n9 => ?_⟩
    have st9 := strm_new (o := .tup [.str z7, .str z8, .ref p1]) st8 n9
    have u9 : But a H (upd H8 p9 (.tup [.str z7, .str z8, .ref p1])) := ((u6.trans u7).trans u8).trans (But.new n9)
    have hp9 : upd H8 p9 (.tup [.str z7, .str z8, .ref p1]) p1 = some (.tup (zs.map V.str)) := same_upd n9 _ _ (u8 _ _ pa (u7 _ _ pa hp6))
    have hn9 : upd H8 p9 (.tup [.str z7, .str z8, .ref p1]) p6 = some (.tup [.int v3, .int (1 + v4), .int (1 + v5)]) := same_upd n9 _ _ (u8 _ _ p6a (u7 _ _ p6a hn6))
    have hm9 : upd H8 p9 (.tup [.str z7, .str z8, .ref p1]) p9 = some (.tup [.str z7, .str z8, .ref p1]) := upd_same
    refine ⟨_, rfl, p9, p6, _, _, rfl, rfl, SqT.of hm9, SqT.of hn9, (fun z => nomatch z), by show 6 ≤ sizeLine; decide, (fun z => nomatch z), fun _ pb nb => ?_⟩
    refine ⟨_, rfl, by show 1 ≤ sizeLine; decide, fun pc nc => ?_⟩
    refine ⟨pb, pc, [.str z7, .str z8, .ref p1] ++ [.int v3, .int (1 + v4), .int (1 + v5)], [.str zk], rfl, rfl, SqT.of (same_upd nc _ _ upd_same), SqT.of upd_same, (fun z => nomatch z), by show 7 ≤ sizeLine; decide, (fun z => nomatch z), fun _ pd nd => ?_⟩
    have sx := ((same_upd (o := .tup ([.str z7, .str z8, .ref p1] ++ [.int v3, .int (1 + v4), .int (1 + v5)])) nb).trans (same_upd (o := .tup [.str zk]) nc)).trans (same_upd (o := .tup ([.str z7, .str z8, .ref p1] ++ [.int v3, .int (1 + v4), .int (1 + v5)] ++ [.str zk])) nd)
    have fx := upd_same (H := upd (upd (upd H8 p9 (.tup [.str z7, .str z8, .ref p1])) pb (.tup ([.str z7, .str z8, .ref p1] ++ [.int v3, .int (1 + v4), .int (1 + v5)]))) pc (.tup [.str zk])) (a := pd) (o := .tup ([.str z7, .str z8, .ref p1] ++ [.int v3, .int (1 + v4), .int (1 + v5)] ++ [.str zk]))
    generalize upd (upd (upd (upd H8 p9 (.tup [.str z7, .str z8, .ref p1])) pb (.tup ([.str z7, .str z8, .ref p1] ++ [.int v3, .int (1 + v4), .int (1 + v5)]))) pc (.tup [.str zk])) pd (.tup ([.str z7, .str z8, .ref p1] ++ [.int v3, .int (1 + v4), .int (1 + v5)] ++ [.str zk])) = HX at sx fx ⊢
    have px := sx _ _ hp9
    have ux : But a H HX := u9.trans (But.same sx)
    have stx : StrmAt HX a t8 := by
      obtain ⟨b, c, m, e⟩ := st9
      exact ⟨b, c, m, sx _ _ e⟩
    have an : Thgs HX (.ref p1) := thgs_tup px fun v hv => by
      obtain ⟨z, hz, rfl⟩ := List.mem_map.mp hv
      exact text_thg (zt z hz)
    refine q pd (.str z7) (.str z8) (.ref p1) (.int v3) (.int (1 + v4)) (.int (1 + v5)) (.str zk) HX t8 ⟨fx, rfl, fun x hx => ?_⟩ ?_ ux stx (by omega) (by omega)
    · simp only [List.mem_cons, List.not_mem_nil, or_false] at hx
      rcases hx with rfl | rfl | rfl | rfl | rfl | rfl | rfl
      · exact thgs_str (name_thg hz7)
      · exact thgs_str (name_thg hz8)
      · exact an
      · exact thgs_int
      · exact thgs_int
      · exact thgs_int
      · exact thgs_str (tk _)
    · have ha : answersV HX (.ref p1) = true := by
        unfold answersV
        rw [tupV_at px]
        exact answers_ok z2 z6 zt zn
      have hm : manyV HX (.ref p1) = (zs.length : Int) := by
        unfold manyV
        rw [tupV_at px]
        show (((zs.map V.str).length : Nat) : Int) = _
        rw [List.length_map]
      exact wr7 (nameV_of hz7) (nameV_of hz8) ha (by rw [hm]; exact whole_of v30 (by omega)) (whole_of (by omega) (by omega)) (whole_of (by omega) (by omega)) hk
end
end Pk
namespace Pk
open PySem PySem.Spec L2
/-! ### own ==, whatever it tells -/
section
variable {X : Cx} {k : Nat} {C f : Addr} {fd : FuncData} {ps : List Str} {sp : Sp}
/-- x == y, x of the class C whose __eq__ is f, y of the type tb -/
def rEqO (K : PySem.W.Frag) (C : Addr) (sp : Sp) : R2 := fun x y H Q => ∃ (a dx : Addr) (fs : List (Str × V)) (tb : Value), x = .ref a ∧ H a = some (.ins C dx fs) ∧ TyX K H y tb ∧ PySem.W.notFirst K C tb = true ∧ sp [.ref a, y] H (fun v H' => (∃ b, v = .bl b) ∧ Q v H') E0
theorem op_eqO (F : FnOk X.prog X.w X.K X.mg X.base CX0 k f fd ["self", "other"] sp) (hr : Room k X.A) (hs : PySem.W.findIn X.K (.ref C) "__eq__" = some (some (.ref f))) (hf : PySem.W.isFn X.K (.ref f) = true) (hb : Binds X.K fd ["self", "other"] []) : OpR X (compareOp .Eq) (rEqO X.K C sp) := by
  rintro pins s σ H x y v u Q I rx ry ⟨a, dx, fs, tb, rfl, ha, ty, hn, h⟩
  cases (show v = Value.ref a from rx)
  show wpAny (model X.prog X.w) X.A (richCompare .Eq (.ref a) u) (EP X pins σ Q) X.xe s
  obtain ⟨mA, J, _⟩ := ins_get I.hok ha
  obtain ⟨od, J, _⟩ := J.look
  obtain ⟨m, hF⟩ := I.fr
  obtain ⟨Pz, Z, p, -⟩ := kit_of I ry ty
  refine PySem.W.cmp_K (op := .Eq) (tb := tb) hr.units0 hF I.ok.mod.kin J (Z.ty _ _ I.kIn p) hn hs hf ?_
  refine wpAny_call (codeAny_mono (F.run X.A X.stack s H ⟨[.ref a, u], []⟩ [.ref a, u] [.ref a, y] _ E0 hr I.env0 (hb s [.ref a, u] I.kIn rfl) (.cons rfl (.cons ry .nil)) h) fun r s' hq => ?_)
  match r, hq with
  | .error e, hq => exact hq.elim
  | .ok .next, hq => exact hq.elim
  | .ok .brk, hq => exact hq.elim
  | .ok .cont, hq => exact hq.elim
  | .ok (.ret z), hq =>
    obtain ⟨v, H2, I2, rv, ⟨b, rfl⟩, q2⟩ := I.after hq
    cases rv
    exact ⟨.bl b, H2, I2, rfl, q2⟩
end
namespace OwnNe
open PyProof.Rows PySem.SeqAt
section
variable {M : Model} {prog : Program} {w : World} {A : Around} {E : Value → Shared → Prop} {s : Shared} {K : PySem.W.Frag} {x C f : Addr} {ox : Obj} {od : Option Obj} {b tb : Value}
theorem ifBound_objNe {args : List Value} {Q : Option Value → Shared → Prop} (X : K.In s.heap) (I : PySem.W.InstAt s.heap x ox C od) (hs : PySem.W.findIn K (.ref C) "__ne__" = some (some (.builtin "object.__ne__")))
    (h : wpAny M A (call (.builtin "object.__ne__") (.ref x :: args)) (fun v => Q (some v)) E s) : wpAny M A (callSpecialIfBound? (.ref x) "__ne__" args) Q E s := by
  simp only [callSpecialIfBound?, bindSpecialIfBound?]
  refine wpAny_holding (wpAny_bind (wpAny_bind (wpAny_bind (I.type.here ((PySem.W.looks_findIn X hs).here ?_)))))
  refine wpAny_bind (wpAny_askSetting (wpAny_ite ?_))
  have fin : wpAny M A (call (.builtin "object.__ne__") ([.ref x] ++ args) >>= fun v => pure (some v)) Q E s := wpAny_bind (wpAny_mono h (fun v s' h' => wpAny_pure h') fun _ _ h' => h')
  split
  · exact wpAny_bind (wpAny_of_eq (F.cmp_object.ne.bind _) (wpAny_pure (by exact fin)))
  · exact wpAny_tryCatch (wpAny_bind (wpAny_of_eq (F.cmp_object.ne.bind _) (wpAny_pure (by exact fin))))
theorem entry_ne (X : K.In s.heap) (I : PySem.W.InstAt s.heap x ox C od) (he : PySem.W.findIn K (.ref C) "__eq__" = some (some (.ref f))) (hf : PySem.W.isFn K (.ref f) = true) (hu : A.units < cLine) {Q : Fin → Shared → Prop}
    (hcall : wpAny (model prog w) A (call (.ref f) [.ref x, b]) (fun v s' => ∃ r, v = .bool r ∧ Q (.done (.ret (.bool (!r)))) s') E s) : wpAny (model prog w) A (Builtin.«object.__ne__» ⟨[.ref x, b], []⟩) Q E s := by
  unfold Builtin.«object.__ne__»
  repeat (first
    | with_reducible refine wpAny_cRoomFor hu ?_
    | (refine wpAny_bind (m := callSpecialIfBound? (.ref x) (Str.ofString "__eq__") [b])
        (PySem.W.ifBound_K X I he hf (wpAny_mono hcall (fun r s' hr => by
          obtain ⟨b, rfl, hq⟩ := hr
          repeat (first | exact hq | exact wpAny_pure hq | exact wpAny_truthy_bool hq | (refine wpAny_bind (m := truthy (.bool _)) (wpAny_truthy_bool ?_)) | wp_step)) fun _ _ e => e)))
    | wp_step)
theorem rc_ne (X : K.In s.heap) (I : PySem.W.InstAt s.heap x ox C od) (hb : PySem.W.Looks (model prog w) s.heap (typeOf b) tb) (hn : PySem.W.notFirst K C tb = true) (hs : PySem.W.findIn K (.ref C) "__ne__" = some (some (.builtin "object.__ne__")))
    (hm : PySem.W.mroIn K C (.type "object") = some true) (he : PySem.W.findIn K (.ref C) "__eq__" = some (some (.ref f))) (hf : PySem.W.isFn K (.ref f) = true) (hu : A.units + 1 < cLine) {Q : Value → Shared → Prop}
    (hcall : wpAny (model prog w) A.in1 (call (.ref f) [.ref x, b]) (fun v s' => ∃ r, v = .bool r ∧ Q (.bool (!r)) s') E s) : wpAny (model prog w) A (richCompare .NotEq (.ref x) b) Q E s := by
  have one : wpAny (model prog w) A (tryCompare (.ref x) "__ne__" b) (fun r s' => ∃ v, r = some v ∧ Q v s') E s := by
    unfold tryCompare
    refine wpAny_bind (ifBound_objNe X I hs (wpAny_call (codeAny_call_builtin F.cmp_object.ne.plain F.cmpEntry_ne (PySem.W.check_slot F.cmpKind_ne F.cmpSplit_ne (I.type.andThen (PySem.W.looks_mroIn X hm)) (F.cmpArgs_ne _ _) (entry_ne (A := A.in1) X I he hf hu (wpAny_mono hcall (fun v s' hv => ?_) fun _ _ e => e))))))
    obtain ⟨r, rfl, hq⟩ := hv
    first | exact ⟨r, rfl, wpAny_pure ⟨_, rfl, hq⟩⟩ | exact ⟨r, rfl, ⟨_, rfl, hq⟩⟩
  unfold richCompare
  simp only [oneThing_ref]
  refine wpAny_holding (wpAny_bind (wpAny_cRoomFor (Nat.lt_of_succ_lt hu) ?_))
  refine wpAny_bind (I.type.here (wpAny_bind (hb.here ?_)))
  split
  · rename_i q
    have e : PySem.W.subIn K tb (.ref C) = some false := by
      rcases Bool.or_eq_true_iff.mp hn with e | e
      · rw [beq_iff_eq.mp e] at q; simp at q
      · exact beq_iff_eq.mp e
    refine wpAny_bind ((PySem.W.looks_subIn X e).here ?_)
    simp only [Bool.false_eq_true, if_false]
    refine wpAny_bind (wpAny_mono one (fun r s' z => ?_) fun _ _ e => e)
    obtain ⟨v, rfl, hq⟩ := z
    exact wpAny_pure hq
  · refine wpAny_bind (wpAny_pure ?_)
    simp only [Bool.false_eq_true, if_false]
    refine wpAny_bind (wpAny_mono one (fun r s' z => ?_) fun _ _ e => e)
    obtain ⟨v, rfl, hq⟩ := z
    exact wpAny_pure hq
end
end OwnNe
section
variable {X : Cx} {k : Nat} {C f : Addr} {fd : FuncData} {sp : Sp}
/-- x != y, x of the class C whose __eq__ is f, without an __ne__ of its own -/
def rNeO (K : PySem.W.Frag) (C : Addr) (sp : Sp) : R2 := fun x y H Q => ∃ (a dx : Addr) (fs : List (Str × V)) (tb : Value), x = .ref a ∧ H a = some (.ins C dx fs) ∧ TyX K H y tb ∧ PySem.W.notFirst K C tb = true ∧ sp [.ref a, y] H (fun v H' => ∃ b, v = .bl b ∧ Q (.bl (!b)) H') E0
theorem op_neO (F : FnOk X.prog X.w X.K X.mg X.base CX0 k f fd ["self", "other"] sp) (hr : Room (k + 1) X.A) (hs : PySem.W.findIn X.K (.ref C) "__eq__" = some (some (.ref f))) (hne : PySem.W.findIn X.K (.ref C) "__ne__" = some (some (.builtin "object.__ne__"))) (hm : PySem.W.mroIn X.K C (.type "object") = some true) (hf : PySem.W.isFn X.K (.ref f) = true) (hb : Binds X.K fd ["self", "other"] []) : OpR X (compareOp .NotEq) (rNeO X.K C sp) := by
  rintro pins s σ H x y v u Q I rx ry ⟨a, dx, fs, tb, rfl, ha, ty, hn, h⟩
  cases (show v = Value.ref a from rx)
  show wpAny (model X.prog X.w) X.A (richCompare .NotEq (.ref a) u) (EP X pins σ Q) X.xe s
  obtain ⟨mA, J, _⟩ := ins_get I.hok ha
  obtain ⟨od, J, _⟩ := J.look
  obtain ⟨Pz, Z, p, -⟩ := kit_of I ry ty
  have hu : X.A.units + 1 < cLine := hr.in1.units0
  refine OwnNe.rc_ne (tb := tb) I.kIn J (Z.ty _ _ I.kIn p) hn hne hm hs hf hu ?_
  refine wpAny_call (codeAny_mono (F.run X.A.in1 X.stack s H ⟨[.ref a, u], []⟩ [.ref a, u] [.ref a, y] _ E0 hr.in1 I.env0.in1 (hb s [.ref a, u] I.kIn rfl) (.cons rfl (.cons ry .nil)) h) fun r s' hq => ?_)
  match r, hq with
  | .error e, hq => exact hq.elim
  | .ok .next, hq => exact hq.elim
  | .ok .brk, hq => exact hq.elim
  | .ok .cont, hq => exact hq.elim
  | .ok (.ret z), hq =>
    obtain ⟨v, H2, I2, rv, b, rfl, q2⟩ := I.after hq
    cases rv
    exact ⟨b, rfl, .bl (!b), H2, I2, rfl, q2⟩
end
end Pk
namespace Pk
open PySem L2
/-- a question's parts, as data -/
structure QD where
  nm : Str
  mt : Str
  ws : List Str
  ri : Int
  tl : Int
  ma : Int
  ki : Str
deriving DecidableEq
def QI (CQ : Addr) (H : Hp) (x : Addr) (q : QD) : Prop := ∃ dx a, H x = some (.ins CQ dx (qFs (.str q.nm) (.str q.mt) (.ref a) (.int q.ri) (.int q.tl) (.int q.ma) (.str q.ki))) ∧ H a = some (.tup (q.ws.map V.str)) ∧ q.ws.all PyData.strOk = true
theorem iteF' {p : Prop} [Decidable p] {a b : Prop} (h : ¬ p) (k : b) : if p then a else b := by
  rw [if_neg h]
  exact k
theorem iteT' {p : Prop} [Decidable p] {a b : Prop} (h : p) (k : a) : if p then a else b := by
  rw [if_pos h]
  exact k
theorem strs_dpA {K : PySem.W.Frag} {H : Hp} : ∀ ws : List Str, DpAll K H (ws.map V.str) (ws.map .str)
  | [] => .nil
  | z :: r => .cons (.str z) (strs_dpA r)
theorem strs_eqvA : ∀ ws vs : List Str, PyData.eqvAll (ws.map .str) (vs.map .str) = decide (ws = vs)
  | [], [] => by simp [PyData.eqvAll]
  | [], _ :: _ => by simp [PyData.eqvAll]
  | _ :: _, [] => by simp [PyData.eqvAll]
  | w :: ws, v :: vs => by
    have ih := strs_eqvA ws vs
    simp only [List.map_cons, PyData.eqvAll, PyData.eqv, ih, List.cons.injEq, Bool.decide_and]
    congr 1
theorem strs_depthA : ∀ ws : List Str, PyData.depthAll (ws.map .str) = 0
  | [] => by simp [PyData.depthAll]
  | z :: r => by simp [PyData.depthAll, PyData.depth, strs_depthA r]
theorem strs_shapedT {ws : List Str} (h : ws.all PyData.strOk = true) : SeqAt.shaped (.tuple (ws.map .str)) = true := by
  have e := PyProof.Rows.canLayAll_strs' ws
  rw [h] at e
  simp [SeqAt.shaped, PyData.canLay0, PyData.depth, e, strs_depthA]
def spQEq (K : PySem.W.Frag) (CQ : Addr) : Sp := fun vs H Q _ => ∃ (x : Addr) (y : V) (q1 : QD), vs = [.ref x, y] ∧ QI CQ H x q1 ∧ ((∃ z q2, y = .ref z ∧ QI CQ H z q2 ∧ Q (.bl (decide (q1 = q2))) H) ∨ ∃ tb, TyX K H y tb ∧ PySem.W.kitOne K tb (.ref CQ) = some false ∧ Q (.bl false) H)
def spQLen (CQ : Addr) : Sp := fun vs H Q _ => ∃ (x : Addr) (q1 : QD), vs = [.ref x] ∧ QI CQ H x q1 ∧ Q (.int q1.ws.length) H
section
variable {P : Program} {w : World} {K : PySem.W.Frag} {mg : Str → Option Value} {base : Heap}
theorem scQLen : FnScope ["self"] ["self"] (defScope sQLen) := ⟨rfl, rfl, rfl, by decide +kernel, rfl, by decide +kernel, by decide +kernel⟩
theorem ok_qLen {f CQ : Addr} {fd : FuncData} (F : Fun K "__len__" "Question.__len__" sQLen f fd) (C : QCls K CQ) (ml : mg "len" = none) : FnOk P w K mg base CX0 1 f fd ["self"] (spQLen CQ) := by
  refine F.ok scQLen (fun vs H Q E h => ?_) (fun cdv A outer s H vs Q E hr h => ?_)
  · obtain ⟨x, q1, rfl, _⟩ := h
    rfl
  · obtain ⟨x, q1, rfl, ⟨dx, a, hx, ha, _⟩, q⟩ := h
    refine ⟨_, pss_one (ps_ret (pe_callB call_len_seq (by rfl) ml PySem.boot_len (pa_cons (pe_fld (pv 0) rfl) pa_nil))), ?_⟩
    refine ⟨_, rfl, x, CQ, dx, _, _, rfl, hx, C.cls, C.no _ (by decide), look_answers _ _ _ _ _ _ _, a, _, rfl, .inr (SqT.of ha), ?_⟩
    rw [List.length_map]
    exact q
theorem scQEq : FnScope ["self", "other"] ["self", "other"] (defScope sQEq) := ⟨rfl, rfl, rfl, by decide +kernel, rfl, by decide +kernel, by decide +kernel⟩
theorem ok_qEq {f CQ : Addr} {fd : FuncData} (F : Fun K "__eq__" "Question.__eq__" sQEq f fd) (C : QCls K CQ) (CT : QTy K CQ) (mi : mg "isinstance" = none) (gQ : mg "Question" = some (.ref CQ)) : FnOk P w K mg base CX0 2 f fd ["self", "other"] (spQEq K CQ) := by
  refine F.ok scQEq (fun vs H Q E h => ?_) (fun cdv A outer s H vs Q E hr h => ?_)
  · obtain ⟨x, y, q1, rfl, _⟩ := h
    rfl
  · obtain ⟨x, y, q1, rfl, ⟨dx, a, hx, ha, oa⟩, h⟩ := h
    have hu : _ + 64 < cLine := Nat.lt_of_le_of_lt (Nat.add_le_add_left (by decide) _) (room_show hr)
    refine ⟨_, pss_one (ps_ret (pe_and (pe_callB call_isi (by rfl) mi (by decide +kernel) (pa_cons (pv 1) (pa_cons (pe_glob (v := .ref CQ) (by rfl) gQ rfl (by decide)) pa_nil)))
      (pe_and (pe_cmpR op_eq (pe_fld (pv 0) rfl) (pe_fld (pv 1) rfl) (nomark _)) (pe_and (pe_cmpR op_eq (pe_fld (pv 0) rfl) (pe_fld (pv 1) rfl) (nomark _)) (pe_and (pe_cmpR (op_eqD hu) (pe_fld (pv 0) rfl) (pe_fld (pv 1) rfl) (by rfl))
      (pe_and (pe_cmpR op_eq (pe_fld (pv 0) rfl) (pe_fld (pv 1) rfl) (nomark _)) (pe_and (pe_cmpR op_eq (pe_fld (pv 0) rfl) (pe_fld (pv 1) rfl) (nomark _)) (pe_and (pe_cmpR op_eq (pe_fld (pv 0) rfl) (pe_fld (pv 1) rfl) (nomark _)) (pe_one (pe_cmpR op_eq (pe_fld (pv 0) rfl) (pe_fld (pv 1) rfl) (nomark _))))))))))), ?_⟩
    rcases h with ⟨z, q2, rfl, ⟨dz, b, hz, hb, ob⟩, q⟩ | ⟨tb, ty, kt, q⟩
    · refine ⟨_, rfl, _, _, _, _, true, rfl, .own _, .base (.ins hz C.cls CT.ha CT.hn CT.ht CT.hm), CT.hk, _, rfl, iteT ?_⟩
      have no : ∀ {α : Type} (g : QD → α), g q1 ≠ g q2 → Q (.bl false) H := fun g hg => by
        rw [decide_eq_false (fun e => hg (by rw [e]))] at q
        exact q
      refine ⟨_, rfl, x, CQ, dx, _, _, rfl, hx, C.cls, C.no _ (by decide), look_name _ _ _ _ _ _ _, _, rfl, z, CQ, dz, _, _, rfl, hz, C.cls, C.no _ (by decide), look_name _ _ _ _ _ _ _, rfl, _, rfl, ?_⟩
      by_cases h0 : q1.nm = q2.nm
      case neg => exact iteF' (by simpa using h0) (no QD.nm h0)
      refine iteT' (by simp [h0]) ?_
      refine ⟨_, rfl, x, CQ, dx, _, _, rfl, hx, C.cls, C.no _ (by decide), look_matter _ _ _ _ _ _ _, _, rfl, z, CQ, dz, _, _, rfl, hz, C.cls, C.no _ (by decide), look_matter _ _ _ _ _ _ _, rfl, _, rfl, ?_⟩
      by_cases h1 : q1.mt = q2.mt
      case neg => exact iteF' (by simpa using h1) (no QD.mt h1)
      refine iteT' (by simp [h1]) ?_
      refine ⟨_, rfl, x, CQ, dx, _, _, rfl, hx, C.cls, C.no _ (by decide), look_answers _ _ _ _ _ _ _, _, rfl, z, CQ, dz, _, _, rfl, hz, C.cls, C.no _ (by decide), look_answers _ _ _ _ _ _ _, .tuple (q1.ws.map .str), .tuple (q2.ws.map .str), .tup (SqT.of ha) (strs_dpA _), .tup (SqT.of hb) (strs_dpA _), strs_shapedT oa, strs_shapedT ob, _, rfl, ?_⟩
      have ev : PyData.eqv (.tuple (q1.ws.map .str)) (.tuple (q2.ws.map .str)) = decide (q1.ws = q2.ws) := by
        rw [← strs_eqvA]
        simp [PyData.eqv]
      rw [ev]
      by_cases h2 : q1.ws = q2.ws
      case neg => exact iteF' (by simpa using h2) (no QD.ws h2)
      refine iteT' (by simp [h2]) ?_
      refine ⟨_, rfl, x, CQ, dx, _, _, rfl, hx, C.cls, C.no _ (by decide), look_right _ _ _ _ _ _ _, _, rfl, z, CQ, dz, _, _, rfl, hz, C.cls, C.no _ (by decide), look_right _ _ _ _ _ _ _, rfl, _, rfl, ?_⟩
      by_cases h3 : q1.ri = q2.ri
      case neg => exact iteF' (by simpa using h3) (no QD.ri h3)
      refine iteT' (by simp [h3]) ?_
      refine ⟨_, rfl, x, CQ, dx, _, _, rfl, hx, C.cls, C.no _ (by decide), look_toil _ _ _ _ _ _ _, _, rfl, z, CQ, dz, _, _, rfl, hz, C.cls, C.no _ (by decide), look_toil _ _ _ _ _ _ _, rfl, _, rfl, ?_⟩
      by_cases h4 : q1.tl = q2.tl
      case neg => exact iteF' (by simpa using h4) (no QD.tl h4)
      refine iteT' (by simp [h4]) ?_
      refine ⟨_, rfl, x, CQ, dx, _, _, rfl, hx, C.cls, C.no _ (by decide), look_marks _ _ _ _ _ _ _, _, rfl, z, CQ, dz, _, _, rfl, hz, C.cls, C.no _ (by decide), look_marks _ _ _ _ _ _ _, rfl, _, rfl, ?_⟩
      by_cases h5 : q1.ma = q2.ma
      case neg => exact iteF' (by simpa using h5) (no QD.ma h5)
      refine iteT' (by simp [h5]) ?_
      refine ⟨_, rfl, x, CQ, dx, _, _, rfl, hx, C.cls, C.no _ (by decide), look_kin _ _ _ _ _ _ _, _, rfl, z, CQ, dz, _, _, rfl, hz, C.cls, C.no _ (by decide), look_kin _ _ _ _ _ _ _, rfl, ?_⟩
      have e : decide (q1 = q2) = decide (V.str q1.ki = V.str q2.ki) := by
        obtain ⟨a1, a2, a3, a4, a5, a6, a7⟩ := q1
        obtain ⟨b1, b2, b3, b4, b5, b6, b7⟩ := q2
        dsimp only at h0 h1 h2 h3 h4 h5 ⊢
        subst h0 h1 h2 h3 h4 h5
        simp
      rw [e] at q
      exact q
    · exact ⟨_, rfl, _, _, tb, _, false, rfl, .own _, ty, kt, _, rfl, iteF q⟩
end
end Pk
namespace Pk
open PySem L2
/-! ### tuples of things, shown -/
structure ShowsL (K : PySem.W.Frag) (H : Hp) (L : List V) (ds : List PyData) (n k : Nat) : Prop where
  dp : DpAll K H L ds
  sh : PyData.showableAll ds = true
  de : PyData.depthAll ds ≤ k
  nd : PyData.hasDictAll ds = false
  sz : ((PyData.shownAll ds).map fun t => t.length + 2).sum ≤ n
section
variable {K : PySem.W.Frag} {H : Hp} {L : List V} {ds : List PyData} {n k : Nat}
theorem ShowsL.nil : ShowsL K H [] [] 0 k := ⟨.nil, by simp [PyData.showableAll], by simp [PyData.depthAll], by simp [PyData.hasDictAll], by simp [PyData.shownAll]⟩
theorem ShowsL.str {z : Str} (hl : z.length ≤ 100) (ho : Sgn z) (h : ShowsL K H L ds n k) : ShowsL K H (.str z :: L) (.str z :: ds) (n + 1004) k where
  dp := .cons (.str z) h.dp
  sh := by simp [PyData.showableAll, PyData.showable, h.sh]
  de := by
    have := h.de
    simp [PyData.depthAll, PyData.depth]
    omega
  nd := by simp [PyData.hasDictAll, PyData.hasDict, h.nd]
  sz := by
    have h1 := h.sz
    have h2 := repr_le hl ho
    simp [PyData.shownAll, PyData.shown]
    omega
theorem small_text {i : Int} (h0 : 0 ≤ i) (h9 : i ≤ 9) : (Str.ofString (toString i)).length ≤ 2 := by
  have : i = 0 ∨ i = 1 ∨ i = 2 ∨ i = 3 ∨ i = 4 ∨ i = 5 ∨ i = 6 ∨ i = 7 ∨ i = 8 ∨ i = 9 := by omega
  rcases this with rfl | rfl | rfl | rfl | rfl | rfl | rfl | rfl | rfl | rfl <;> decide +kernel
theorem small_log {i : Int} (h0 : 0 ≤ i) (h9 : i ≤ 9) : i.natAbs.log2 < 1920 := by
  have : i = 0 ∨ i = 1 ∨ i = 2 ∨ i = 3 ∨ i = 4 ∨ i = 5 ∨ i = 6 ∨ i = 7 ∨ i = 8 ∨ i = 9 := by omega
  rcases this with rfl | rfl | rfl | rfl | rfl | rfl | rfl | rfl | rfl | rfl <;> decide +kernel
theorem ShowsL.int {i : Int} (h0 : 0 ≤ i) (h9 : i ≤ 9) (h : ShowsL K H L ds n k) : ShowsL K H (.int i :: L) (.int i :: ds) (n + 4) k where
  dp := .cons (.int i) h.dp
  sh := by
    have e : PyData.showable (.int i) = true := decide_eq_true (small_log h0 h9)
    simp [PyData.showableAll, e, h.sh]
  de := by
    have := h.de
    simp [PyData.depthAll, PyData.depth]
    omega
  nd := by simp [PyData.hasDictAll, PyData.hasDict, h.nd]
  sz := by
    have h1 := h.sz
    have h2 := small_text h0 h9
    have e : (PyData.int i).shown = Str.ofString (toString i) := by simp [PyData.shown]
    have e2 : ((PyData.shownAll (.int i :: ds)).map fun t => t.length + 2).sum = ((PyData.int i).shown.length + 2) + ((PyData.shownAll ds).map fun t => t.length + 2).sum := by simp [PyData.shownAll]
    rw [e2, e]
    omega
theorem join_le : ∀ ts : List Str, (Str.join ", " ts).length ≤ (ts.map fun t => t.length + 2).sum
  | [] => Nat.zero_le _
  | [x] => by
    show x.length ≤ _
    simp
  | x :: y :: r => by
    have ih := join_le (y :: r)
    show (x ++ ", " ++ Str.join ", " (y :: r)).length ≤ _
    rw [app_len, app_len, show ((", " : String) : Str).length = 2 by decide +kernel, List.map_cons, List.sum_cons]
    omega
theorem tup_le (ts : List Str) : (tupleText ts).length ≤ 3 + (ts.map fun t => t.length + 2).sum := by
  unfold tupleText
  have h := join_le ts
  have h2 : (((if ts.length == 1 then ",)" else ")" : String) : Str)).length ≤ 2 := by split <;> decide +kernel
  rw [app_len, app_len, show (("(" : String) : Str).length = 1 by decide +kernel]
  omega
theorem ShowsL.tup {a : Addr} {L2 : List V} {ds2 : List PyData} {n2 k2 : Nat} (ha : H a = some (.tup L2)) (g : ShowsL K H L2 ds2 n2 k2) (hk : k2 + 1 ≤ k) (h : ShowsL K H L ds n k) : ShowsL K H (.ref a :: L) (.tuple ds2 :: ds) (n + n2 + 5) k where
  dp := .cons (.tup (SqT.of ha) g.dp) h.dp
  sh := by simp [PyData.showableAll, PyData.showable, g.sh, h.sh]
  de := by
    have := h.de
    have := g.de
    simp [PyData.depthAll, PyData.depth]
    omega
  nd := by simp [PyData.hasDictAll, PyData.hasDict, g.nd, h.nd]
  sz := by
    have h1 := h.sz
    have h2 := g.sz
    have h3 := tup_le (PyData.shownAll ds2)
    simp [PyData.shownAll, PyData.shown]
    omega
theorem ShowsL.all {t : Addr} (ht : H t = some (.tup L)) (h : ShowsL K H L ds n k) (hn : n ≤ 100000) (hk : k ≤ 60) : Shows K H (.ref t) (.tuple ds) where
  dq := .of (.tup (SqT.of ht) h.dp) (by simp [PyData.hasDict, h.nd])
  sh := by simp [PyData.showable, h.sh]
  dp := by
    have := h.de
    simp [PyData.depth]
    omega
  sz := by
    have h1 := h.sz
    have h3 := tup_le (PyData.shownAll ds)
    have e : (PyData.tuple ds).shown = tupleText (PyData.shownAll ds) := by simp [PyData.shown]
    rw [e, sizeLine_eq]
    omega
/-- texts -/
theorem ShowsL.texts (k : Nat) : ∀ L : List V, L.all textV = true → (∀ v ∈ L, Thg H v) → ∃ ds, ShowsL K H L ds (1004 * L.length) k
  | [], _, _ => ⟨[], .nil⟩
  | v :: L, h, ht => by
    rw [List.all_cons, Bool.and_eq_true] at h
    obtain ⟨ds, g⟩ := ShowsL.texts k L h.2 (fun u hu => ht u (List.mem_cons_of_mem _ hu))
    have hv := ht v List.mem_cons_self
    have h1 := h.1
    cases hv with
    | str z hl ho =>
      have hz : textT z = true := h1
      unfold textT at hz
      simp only [Bool.and_eq_true, decide_eq_true_iff] at hz
      refine ⟨.str z :: ds, ?_⟩
      have e := ShowsL.str (by omega) ho g
      rw [List.length_cons, show 1004 * (L.length + 1) = 1004 * L.length + 1004 by omega]
      exact e
    | _ => cases h1
end
end Pk
namespace Pk
open PySem L2
/-! ### how a question is told -/
structure QB (q : QD) : Prop where
  n1 : q.nm.length ≤ 100
  n2 : q.mt.length ≤ 100
  n3 : q.ki.length ≤ 100
  t0 : 0 ≤ q.tl
  t9 : q.tl ≤ 9
  m0 : 0 ≤ q.ma
  m9 : q.ma ≤ 9
def qText0 (q : QD) : Str := (((((q.nm ++ ": ") ++ q.mt) ++ ", ") ++ Str.ofString (toString q.tl)) ++ ", ") ++ Str.ofString (toString q.ma)
def qText (q : QD) : Str := if q.ki = "" then qText0 q else (qText0 q ++ ", of kin ") ++ q.ki
theorem empty_app5 (x : Str) : Str.empty ++ x = x := TL.ext_tl (by rw [TL.tl_append]; rfl)
def spQStr (CQ : Addr) : Sp := fun vs H Q _ => ∃ (x : Addr) (q : QD), vs = [.ref x] ∧ QI CQ H x q ∧ QB q ∧ Q (.str (qText q)) H
def spQRepr (CQ : Addr) : Sp := fun vs H Q _ => ∃ (x : Addr) (q : QD), vs = [.ref x] ∧ QI CQ H x q ∧ QB q ∧ Q (.str (("Question(" ++ q.nm) ++ ")")) H
section
variable {P : Program} {w : World} {K : PySem.W.Frag} {mg : Str → Option Value} {base : Heap}
theorem scQRepr : FnScope ["self"] ["self"] (defScope sQRepr) := ⟨rfl, rfl, rfl, by decide +kernel, rfl, by decide +kernel, by decide +kernel⟩
theorem ok_qRepr {f CQ : Addr} {fd : FuncData} (F : Fun K "__repr__" "Question.__repr__" sQRepr f fd) (C : QCls K CQ) : FnOk P w K mg base CX0 1 f fd ["self"] (spQRepr CQ) := by
  refine F.ok scQRepr (fun vs H Q E h => ?_) (fun cdv A outer s H vs Q E hr h => ?_)
  · obtain ⟨x, q1, rfl, _⟩ := h
    rfl
  · obtain ⟨x, q1, rfl, ⟨dx, a, hx, ha, _⟩, B, q⟩ := h
    have l0 : Str.empty.length = 0 := by decide +kernel
    have l1 : ((("Question(" : String) : Str)).length = 9 := by decide +kernel
    have l2 : (((")" : String) : Str)).length = 1 := by decide +kernel
    have b1 := B.n1
    refine ⟨_, pss_one (ps_ret (pe_joined (.cons pe_str (.cons (pe_fmt (pe_fld (pv 0) rfl)) (.cons pe_str .nil))))), ?_⟩
    refine ⟨_, rfl, by simp only [app_len, l0, l1, sizeLine_eq]; omega, _, rfl, x, CQ, dx, _, _, rfl, hx, C.cls, C.no _ (by decide), look_name _ _ _ _ _ _ _, .inl ⟨_, rfl, by rw [sizeLine_eq]; omega, _, rfl, by simp only [app_len, l0, l1, sizeLine_eq]; omega, _, rfl, by simp only [app_len, l0, l1, l2, sizeLine_eq]; omega, ?_⟩⟩
    rw [empty_app5]
    exact q
theorem scQStr : FnScope ["self"] ["self"] (defScope sQStr) := ⟨rfl, rfl, rfl, by decide +kernel, rfl, by decide +kernel, by decide +kernel⟩
theorem ok_qStr {f CQ : Addr} {fd : FuncData} (F : Fun K "__str__" "Question.__str__" sQStr f fd) (C : QCls K CQ) : FnOk P w K mg base CX0 1 f fd ["self"] (spQStr CQ) := by
  refine F.ok scQStr (fun vs H Q E h => ?_) (fun cdv A outer s H vs Q E hr h => ?_)
  · obtain ⟨x, q1, rfl, _⟩ := h
    rfl
  · obtain ⟨x, q1, rfl, ⟨dx, a, hx, ha, _⟩, B, q⟩ := h
    have l0 : Str.empty.length = 0 := by decide +kernel
    have l1 : (((": " : String) : Str)).length = 2 := by decide +kernel
    have l2 : (((", " : String) : Str)).length = 2 := by decide +kernel
    have l3 : (((", of kin " : String) : Str)).length = 9 := by decide +kernel
    have b1 := B.n1
    have b2 := B.n2
    have b3 := B.n3
    have b4 := small_text B.t0 B.t9
    have b5 := small_text B.m0 B.m9
    have g4 := small_log B.t0 B.t9
    have g5 := small_log B.m0 B.m9
    refine ⟨_, pss_cons (ps_if (pt_cmpR op_eq (pe_fld (pv 0) rfl) pe_str (nomark _)) (pss_one (ps_ret (pe_joined (.cons (pe_fmt (pe_fld (pv 0) rfl)) (.cons pe_str (.cons (pe_fmt (pe_fld (pv 0) rfl)) (.cons pe_str (.cons (pe_fmt (pe_fld (pv 0) rfl)) (.cons pe_str (.cons (pe_fmt (pe_fld (pv 0) rfl)) .nil)))))))))) pss_nil)
      (pss_one (ps_ret (pe_joined (.cons (pe_fmt (pe_fld (pv 0) rfl)) (.cons pe_str (.cons (pe_fmt (pe_fld (pv 0) rfl)) (.cons pe_str (.cons (pe_fmt (pe_fld (pv 0) rfl)) (.cons pe_str (.cons (pe_fmt (pe_fld (pv 0) rfl)) (.cons pe_str (.cons (pe_fmt (pe_fld (pv 0) rfl)) .nil)))))))))))), ?_⟩
    refine ⟨_, rfl, x, CQ, dx, _, _, rfl, hx, C.cls, C.no _ (by decide), look_kin _ _ _ _ _ _ _, rfl, _, rfl, ?_⟩
    by_cases hk : q1.ki = ""
    · refine iteT' (by simp [hk]) ⟨_, rfl, x, CQ, dx, _, _, rfl, hx, C.cls, C.no _ (by decide), look_name _ _ _ _ _ _ _, .inl ⟨_, rfl, by rw [sizeLine_eq]; omega, _, rfl, by simp only [app_len, l0, l1, l2, l3, sizeLine_eq]; omega, _, rfl, by simp only [app_len, l0, l1, l2, l3, sizeLine_eq]; omega, _, rfl, x, CQ, dx, _, _, rfl, hx, C.cls, C.no _ (by decide), look_matter _ _ _ _ _ _ _, .inl ⟨_, rfl, by rw [sizeLine_eq]; omega, _, rfl, by simp only [app_len, l0, l1, l2, l3, sizeLine_eq]; omega, _, rfl, by simp only [app_len, l0, l1, l2, l3, sizeLine_eq]; omega, _, rfl, x, CQ, dx, _, _, rfl, hx, C.cls, C.no _ (by decide), look_toil _ _ _ _ _ _ _, .inr ⟨_, rfl, g4, _, rfl, by simp only [app_len, l0, l1, l2, l3, sizeLine_eq]; omega, _, rfl, by simp only [app_len, l0, l1, l2, l3, sizeLine_eq]; omega, _, rfl, x, CQ, dx, _, _, rfl, hx, C.cls, C.no _ (by decide), look_marks _ _ _ _ _ _ _, .inr ⟨_, rfl, g5, _, rfl, by simp only [app_len, l0, l1, l2, l3, sizeLine_eq]; omega, ?_⟩⟩⟩⟩⟩
      unfold qText at q
      rw [if_pos hk] at q
      rw [empty_app5]
      exact q
    · refine iteF' (by simpa using hk) ⟨_, rfl, x, CQ, dx, _, _, rfl, hx, C.cls, C.no _ (by decide), look_name _ _ _ _ _ _ _, .inl ⟨_, rfl, by rw [sizeLine_eq]; omega, _, rfl, by simp only [app_len, l0, l1, l2, l3, sizeLine_eq]; omega, _, rfl, by simp only [app_len, l0, l1, l2, l3, sizeLine_eq]; omega, _, rfl, x, CQ, dx, _, _, rfl, hx, C.cls, C.no _ (by decide), look_matter _ _ _ _ _ _ _, .inl ⟨_, rfl, by rw [sizeLine_eq]; omega, _, rfl, by simp only [app_len, l0, l1, l2, l3, sizeLine_eq]; omega, _, rfl, by simp only [app_len, l0, l1, l2, l3, sizeLine_eq]; omega, _, rfl, x, CQ, dx, _, _, rfl, hx, C.cls, C.no _ (by decide), look_toil _ _ _ _ _ _ _, .inr ⟨_, rfl, g4, _, rfl, by simp only [app_len, l0, l1, l2, l3, sizeLine_eq]; omega, _, rfl, by simp only [app_len, l0, l1, l2, l3, sizeLine_eq]; omega, _, rfl, x, CQ, dx, _, _, rfl, hx, C.cls, C.no _ (by decide), look_marks _ _ _ _ _ _ _, .inr ⟨_, rfl, g5, _, rfl, by simp only [app_len, l0, l1, l2, l3, sizeLine_eq]; omega, _, rfl, by simp only [app_len, l0, l1, l2, l3, sizeLine_eq]; omega, _, rfl, x, CQ, dx, _, _, rfl, hx, C.cls, C.no _ (by decide), look_kin _ _ _ _ _ _ _, .inl ⟨_, rfl, by rw [sizeLine_eq]; omega, _, rfl, by simp only [app_len, l0, l1, l2, l3, sizeLine_eq]; omega, ?_⟩⟩⟩⟩⟩⟩
      unfold qText at q
      rw [if_neg hk] at q
      rw [empty_app5]
      exact q
end
end Pk
namespace Pk
open PySem L2
/-! ### t + u and t[a:b], whatever object it is -/
theorem cut_whole {L : List V} {lo hi : Option Int} (h : HT.sIx L.length 0 lo = 0 ∧ HT.sIx L.length L.length hi = L.length) : cutV L lo hi = L := by
  unfold cutV
  rw [h.1, h.2, List.drop_zero, Nat.sub_zero, List.take_length]
section
variable {X : Cx}
def rSlE : V → Option Int → Option Int → Hp → VK → Prop := fun x lo hi H Q => ∃ a xs, x = .ref a ∧ H a = some (.tup xs) ∧ ∀ (p : Addr) (H' : Hp), Same H H' → H' p = some (.tup (cutV xs lo hi)) → Q (.ref p) H'
theorem sl_tupE : SlR X rSlE := by
  intro pins s σ H x v vl vu lo hi sl Q I rx hs pl pu h
  obtain ⟨a, xs, rfl, hx, q⟩ := h
  exact sl_tupA pins s σ H _ v vl vu lo hi sl Q I rx hs pl pu ⟨a, xs, rfl, SqT.of hx, fun w => q a H (Same.refl H) (by rw [cut_whole w]; exact hx), fun _ p n => q p _ (same_upd n) upd_same⟩
def rCatE : R2 := fun x y H Q => ∃ a b xs ys, x = .ref a ∧ y = .ref b ∧ H a = some (.tup xs) ∧ H b = some (.tup ys) ∧ xs.length + ys.length ≤ 1000 ∧ ∀ (p : Addr) (H' : Hp), Same H H' → H' p = some (.tup (xs ++ ys)) → Q (.ref p) H'
theorem op_catE : OpR X (binaryOp .Add) rCatE := by
  intro pins s σ H x y v u Q I rx ry h
  obtain ⟨a, b, xs, ys, rfl, rfl, ha, hb, hz, q⟩ := h
  refine op_catA pins s σ H _ _ v u Q I rx ry ⟨a, b, xs, ys, rfl, rfl, SqT.of ha, SqT.of hb, by rw [sizeLine_eq]; omega, fun e => q b H (Same.refl H) (by rw [e]; exact hb), fun _ e => q a H (Same.refl H) (by rw [e, List.append_nil]; exact ha), fun _ _ p n => q p _ (same_upd n) upd_same⟩
end
theorem cut_neg1 {L : List V} (h : L ≠ []) : cutV L none (some (-1)) = L.dropLast := by
  unfold cutV
  have hl : 0 < L.length := List.length_pos_iff.mpr h
  have e : HT.sIx L.length L.length (some (-1)) = L.length - 1 := by
    show (if (-1 : Int) < 0 then ((-1 : Int) + (L.length : Int)).toNat else min (-1 : Int).toNat L.length) = _
    rw [if_pos (by decide)]
    omega
  rw [e]
  show (L.drop 0).take (L.length - 1 - 0) = _
  rw [List.drop_zero, Nat.sub_zero, List.dropLast_eq_take]
end Pk
namespace Pk
open PySem L2
/-! ### rows of parts, as data -/
def qRow (q : QD) (a : Addr) : List V := [.str q.nm, .str q.mt, .ref a, .int q.ri, .int q.tl, .int q.ma, .str q.ki]
def RowAt (H : Hp) (p : Addr) (q : QD) : Prop := ∃ a, H p = some (.tup (qRow q a)) ∧ H a = some (.tup (q.ws.map V.str))
/-- all can be there, but perhaps alike answers -/
structure QV (q : QD) : Prop where
  nm : nameT q.nm = true
  mt : nameT q.mt = true
  w2 : 2 ≤ q.ws.length
  w6 : q.ws.length ≤ 6
  wt : ∀ w ∈ q.ws, textT w = true
  r0 : 0 ≤ q.ri
  r1 : q.ri < q.ws.length
  t1 : 1 ≤ q.tl
  t9 : q.tl ≤ 9
  m1 : 1 ≤ q.ma
  m9 : q.ma ≤ 9
  ki : nameE (.str q.ki) = true
section
variable {H H' : Hp} {p s : Addr} {q : QD} {t t' : Int}
theorem RowAt.same (h : RowAt H p q) (k : Same H H') : RowAt H' p q := by
  obtain ⟨a, h1, h2⟩ := h
  exact ⟨a, k _ _ h1, k _ _ h2⟩
theorem RowAt.but (h : RowAt H p q) (k : But s H H') (st : StrmAt H s t) : RowAt H' p q := by
  obtain ⟨a, h1, h2⟩ := h
  exact ⟨a, k _ _ (tup_off h1 st) h1, k _ _ (tup_off h2 st) h2⟩
theorem strm_same (h : StrmAt H s t) (k : Same H H') : StrmAt H' s t := by
  obtain ⟨b, c, m, e⟩ := h
  exact ⟨b, c, m, k _ _ e⟩
/-- what parts_by tells, as data -/
theorem row_of {nm mt an ri to ma ki : V} (h7 : L7 H p [nm, mt, an, ri, to, ma, ki]) (hw : wrongP H nm mt an ri to ma ki = "") : ∃ q, RowAt H p q ∧ QV q ∧ unlike q.ws q.ws.length = q.ws.length := by
  obtain ⟨h0, h1, h2, h3, h4, h5, h6⟩ := wr_all hw
  obtain ⟨i3, rfl, a3, b3⟩ := whole_is h3
  obtain ⟨i4, rfl, a4, b4⟩ := whole_is h4
  obtain ⟨i5, rfl, a5, b5⟩ := whole_is h5
  cases nm with
  | str z0 =>
    cases mt with
    | str z1 =>
      cases ki with
      | str z6 =>
        unfold answersV at h2
        unfold manyV at b3
        cases ht : tupV H an with
        | none => rw [ht] at h2; cases h2
        | some ws =>
          rw [ht] at h2 b3
          obtain ⟨a, rfl, ha⟩ := tupV_of ht
          have h2' : (decide (2 ≤ ws.length) && decide (ws.length ≤ 6) && ws.all textV && decide (unlike (ws.map strV) ws.length = ws.length)) = true := h2
          simp only [Bool.and_eq_true, decide_eq_true_iff] at h2'
          obtain ⟨⟨⟨l2, l6⟩, al⟩, un⟩ := h2'
          have e := strs_of al
          have ln : (ws.map strV).length = ws.length := List.length_map _
          refine ⟨⟨z0, z1, ws.map strV, i3, i4, i5, z6⟩, ⟨a, h7.at_, by rw [ha]; exact congrArg (fun l => some (HO.tup l)) e⟩, ?_, by rw [ln]; exact un⟩
          have b3' : i3 ≤ (ws.length : Int) - 1 := b3
          have tx : ∀ w ∈ ws.map strV, textT w = true := fun w hw => by
            obtain ⟨v, hv, rfl⟩ := List.mem_map.mp hw
            have := List.all_eq_true.mp al v hv
            cases v with
            | str z => exact this
            | _ => cases this
          exact ⟨h0, h1, by show 2 ≤ (ws.map strV).length; rw [ln]; exact l2, by show (ws.map strV).length ≤ 6; rw [ln]; exact l6, tx, a3, by show i3 < ((ws.map strV).length : Int); rw [ln]; omega, a4, b4, a5, b5, h6⟩
      | _ => exact absurd h6 (by unfold nameE nameV; simp)
    | _ => cases h1
  | _ => cases h0
theorem row_qok (h : RowAt H p q) (v : QV q) (u : unlike q.ws q.ws.length = q.ws.length) : ∃ a, H p = some (.tup (qRow q a)) ∧ H a = some (.tup (q.ws.map V.str)) ∧ Qok H (.str q.nm) (.str q.mt) (.ref a) (.int q.ri) (.int q.tl) (.int q.ma) (.str q.ki) := by
  obtain ⟨a, h1, h2⟩ := h
  have tv : tupV H (.ref a) = some (q.ws.map V.str) := tupV_at h2
  have sm : (q.ws.map V.str).map strV = q.ws := by
    rw [List.map_map]
    exact List.map_id'' (fun _ => rfl) q.ws
  refine ⟨a, h1, h2, ⟨name_thg v.nm, name_thg v.mt, ⟨.tup h2, fun ws e x hx => ?_⟩, .int _, .int _, .int _, ?_⟩, wr7 v.nm v.mt ?_ ?_ (whole_of v.t1 v.t9) (whole_of v.m1 v.m9) v.ki⟩
  · rw [tv] at e
    cases e
    obtain ⟨w, hw, rfl⟩ := List.mem_map.mp hx
    exact text_thg (v.wt w hw)
  · have := v.ki
    unfold nameE at this
    rcases Bool.or_eq_true_iff.mp this with h | h
    · exact name_thg h
    · rw [of_decide_eq_true h]
      exact thg_empty
  · unfold answersV
    rw [tv]
    show answersL (q.ws.map V.str) = true
    unfold answersL
    rw [sm, List.length_map, u]
    simp only [Bool.and_eq_true, decide_eq_true_iff, List.all_eq_true]
    refine ⟨⟨⟨v.w2, v.w6⟩, fun x hx => ?_⟩, by trivial⟩
    obtain ⟨w, hw, rfl⟩ := List.mem_map.mp hx
    exact v.wt w hw
  · refine whole_of v.r0 ?_
    unfold manyV
    rw [tv]
    show q.ri ≤ (((q.ws.map V.str).length : Nat) : Int) - 1
    rw [List.length_map]
    have := v.r1
    omega
end
/-- a text cut to nine signs and with a mark behind is one -/
theorem cut9_tl (w : Str) : TL.tl (cutS w none (some 9) ++ "!") = (TL.tl w).take 9 ++ [33] := by
  rw [TL.tl_append, show TL.tl ("!" : Str) = [33] from by decide +kernel]
  congr 1
  show ((w.cps.toList.drop (HT.sIx w.length 0 none)).take (HT.sIx w.length w.length (some 9) - HT.sIx w.length 0 none)).toArray.toList = _
  rw [show HT.sIx w.length w.length (some 9) = min 9 w.length from HT.sIx_nat _ _ 9, show HT.sIx w.length 0 none = 0 from rfl, List.drop_zero, Nat.sub_zero]
  show w.cps.toList.take (min 9 w.length) = w.cps.toList.take 9
  rw [List.take_eq_take_iff, ← len_is]
  omega
theorem cut9_text {w : Str} (h : textT w = true) : textT (cutS w none (some 9) ++ "!") = true := by
  have e := cut9_tl w
  generalize cutS w none (some 9) ++ "!" = z at e
  have e : z.cps.toList = w.cps.toList.take 9 ++ [33] := e
  unfold textT at h ⊢
  simp only [Bool.and_eq_true, decide_eq_true_iff, Bool.not_eq_true', decide_eq_false_iff_not, List.all_eq_true] at h ⊢
  obtain ⟨⟨⟨⟨h1, h2⟩, h3⟩, h4⟩, h5⟩ := h
  rw [len_is] at h1 h2 ⊢
  rw [e]
  refine ⟨⟨⟨⟨?_, ?_⟩, ?_⟩, ?_⟩, ?_⟩
  · rw [List.length_append, List.length_singleton]
    omega
  · rw [List.length_append, List.length_singleton, List.length_take]
    omega
  · rw [List.getElem?_append_left (by rw [List.length_take]; omega), List.getElem?_take]
    simpa using h3
  · rw [List.getLast?_append]
    simp
  · intro c hc
    rcases List.mem_append.mp hc with hc | hc
    · exact h5 c (List.mem_of_mem_take hc)
    · rw [List.mem_singleton.mp hc]
      decide
/-! ### near_by -/
theorem cut_len {L : List V} {lo hi : Option Int} : (cutV L lo hi).length ≤ L.length := by
  unfold cutV
  rw [List.length_take, List.length_drop]
  omega
theorem row_lt {q : QD} {a : Addr} {lo hi : Option Int} {y : V} : (cutV (qRow q a) lo hi).length + [y].length ≤ 1000 := by
  have : (cutV (qRow q a) lo hi).length ≤ 7 := cut_len
  show _ + 1 ≤ _
  omega
theorem row_lt2 {q : QD} {a : Addr} {lo hi lo' hi' : Option Int} {y : V} : (cutV (qRow q a) lo hi ++ [y]).length + (cutV (qRow q a) lo' hi').length ≤ 1000 := by
  have h1 : (cutV (qRow q a) lo hi).length ≤ 7 := cut_len
  have h2 : (cutV (qRow q a) lo' hi').length ≤ 7 := cut_len
  rw [List.length_append]
  show _ + 1 + _ ≤ _
  omega
section
variable {P : Program} {w : World} {K : PySem.W.Frag} {mg : Str → Option Value} {base : Heap}
end
end Pk
namespace Pk
open PySem PySem.Spec L2
section
variable {X : Cx}
/-- two lists of the same plain things, ==: yes -/
def rEqSame (K : PySem.W.Frag) : R2 := fun x y H Q => ∃ a b xs, x = .ref a ∧ y = .ref b ∧ SqL K H a xs ∧ SqL K H b xs ∧ (∀ v ∈ xs, flatB v = true) ∧ Q (.bl true) H
theorem same_atE {A : Around} {s : Shared} : ∀ {xs : List V} {us ws : List Value}, (∀ v ∈ xs, flatB v = true) → Vals xs us → Vals xs ws → ∀ j (h1 : j < us.length) (h2 : j < ws.length), SeqAt.EqAt A s us[j] ws[j] true
  | [], us, ws, _, r1, _, j, h1, _ => by
    cases r1
    exact absurd h1 (Nat.not_lt_zero j)
  | x :: xs, us, ws, hf, r1, r2, j, h1, h2 => by
    cases r1 with
    | cons a1 b1 =>
      cases r2 with
      | cons a2 b2 =>
        cases j with
        | zero => exact eqAt_same a1 a2 (hf x (List.mem_cons_self ..))
        | succ j => exact same_atE (fun v hv => hf v (List.mem_cons_of_mem _ hv)) b1 b2 j (Nat.lt_of_succ_lt_succ h1) (Nat.lt_of_succ_lt_succ h2)
theorem op_eqSame (hu : X.A.units < cLine) : OpR X (compareOp .Eq) (rEqSame X.K) := by
  rintro pins s σ H x y v u Q I rx ry ⟨a, b, xs, rfl, rfl, ha, hb, hf, q⟩
  cases (show v = Value.ref a from rx)
  cases (show u = Value.ref b from ry)
  obtain ⟨us, r1, p1, _⟩ := I.list ha
  obtain ⟨ws, r2, p2, _⟩ := I.list hb
  have hsz : us.toArray.size = ws.toArray.size := by
    rw [List.size_toArray, List.size_toArray, ← r1.length, ← r2.length]
  refine SeqAt.RcAt.lists (e := fun _ => true) p1.isList p2.isList hsz hu (fun j h1 h2 => ?_) X.prog X.w _ _ ?_
  · have k := same_atE (A := X.A.in1) (s := s) hf r1 r2 j (by simpa using h1) (by simpa using h2)
    simpa using k
  · rw [show ((List.range us.toArray.size).all fun _ => true) = true from List.all_eq_true.mpr fun _ _ => rfl]
    exact ⟨.bl true, H, I, rfl, q⟩
/-- two lists of the same plain things, !=: no -/
def rNeSameP (K : PySem.W.Frag) : R2 := fun x y H Q => ∃ a b xs, x = .ref a ∧ y = .ref b ∧ SqL K H a xs ∧ SqL K H b xs ∧ (∀ v ∈ xs, flatB v = true) ∧ Q (.bl false) H
theorem op_neSameP (hu : X.A.units < cLine) : OpR X (compareOp .NotEq) (rNeSameP X.K) := by
  rintro pins s σ H x y v u Q I rx ry ⟨a, b, xs, rfl, rfl, ha, hb, hf, q⟩
  cases (show v = Value.ref a from rx)
  cases (show u = Value.ref b from ry)
  obtain ⟨us, r1, p1, _⟩ := I.list ha
  obtain ⟨ws, r2, p2, _⟩ := I.list hb
  have hsz : us.toArray.size = ws.toArray.size := by
    rw [List.size_toArray, List.size_toArray, ← r1.length, ← r2.length]
  refine SeqAt.RcNeAt.lists (e := fun _ => true) p1.isList p2.isList hsz hu (fun j h1 h2 => ?_) X.prog X.w _ _ ?_
  · have k := same_atE (A := X.A.in1) (s := s) hf r1 r2 j (by simpa using h1) (by simpa using h2)
    simpa using k
  · rw [show ((List.range us.toArray.size).all fun _ => true) = true from List.all_eq_true.mpr fun _ _ => rfl]
    exact ⟨.bl false, H, I, rfl, q⟩
/-- two lists of the very same objects, !=: no -/
def rNeRefs (K : PySem.W.Frag) : R2 := fun x y H Q => ∃ (a b : Addr) (as : List Addr), x = .ref a ∧ y = .ref b ∧ SqL K H a (as.map V.ref) ∧ SqL K H b (as.map V.ref) ∧ Q (.bl false) H
theorem refs_ofS : ∀ {as : List Addr} {its : List Value}, Vals (as.map V.ref) its → its = as.map Value.ref
  | [], [], _ => rfl
  | a :: as, _, .cons r rs => by
    cases r
    rw [refs_ofS rs]
    rfl
theorem op_neRefs (hu : X.A.units < cLine) : OpR X (compareOp .NotEq) (rNeRefs X.K) := by
  rintro pins s σ H x y v u Q I rx ry ⟨a, b, as, rfl, rfl, ha, hb, q⟩
  cases (show v = Value.ref a from rx)
  cases (show u = Value.ref b from ry)
  obtain ⟨us, r1, p1, _⟩ := I.list ha
  obtain ⟨ws, r2, p2, _⟩ := I.list hb
  have e1 := refs_ofS r1
  have e2 := refs_ofS r2
  subst e1 e2
  refine SeqAt.RcNeAt.lists (e := fun _ => true) p1.isList p2.isList rfl hu (fun j h1 h2 => ?_) X.prog X.w _ _ ?_
  · exact SeqAt.EqAt.same _
  · rw [show ((List.range (as.map Value.ref).toArray.size).all fun _ => true) = true from List.all_eq_true.mpr fun _ _ => rfl]
    exact ⟨.bl false, H, I, rfl, q⟩
/-- a is b, of truths -/
theorem op_isBl : OpR X (compareOp .Is) (fun x y H Q => ∃ a b, x = .bl a ∧ y = .bl b ∧ Q (.bl (decide (a = b))) H) := by
  rintro pins s σ H x y v u Q I rx ry ⟨a, b, rfl, rfl, q⟩
  cases (show v = Value.bool a from rx)
  cases (show u = Value.bool b from ry)
  by_cases e : a = b
  · subst e
    exact wpAny_is_self rfl ⟨.bl true, H, I, rfl, by simpa using q⟩
  · exact wpAny_is_other rfl (fun z => e (Value.bool.inj z)) ⟨.bl false, H, I, rfl, by simpa [e] using q⟩
end
end Pk
/-! ### in, count, index of lists of instances, by an own == -/
namespace LQ
open PySem PySem.SeqAt GQ
open AutoSeq1 (wpAny_loadPart')
open MeetsSeq MeetsSeq2 MeetsSeq3 SeqRoads2
section
variable {prog : Program} {w : World} {A : Around} {R : Result → Shared → Prop}
/-- the list stands, and each of its items is told equal to x, or not, with the state as good as ahead -/
structure LstJ (prog : Program) (w : World) (A : Around) (E : Value → Shared → Prop) (l : Addr) (as : List Addr) (x : Value) (e : Addr → Bool) (J : Shared → Prop) : Prop where
  at_ : ∀ s, J s → ∃ (n : Nat) (dd : Option Addr) (sl : Array (Option Value)), s.heap.get? l = some { cls := .type "list", dict := dd, data := .seq (as.map Value.ref).toArray n, slots := sl }
  eq_ : ∀ a ∈ as, ∀ s, J s → wpAny (model prog w) A.in1 (eqBool (.ref a) x) (fun r s' => r = e a ∧ J s') E s
theorem count_loopJ (l : Addr) (as : List Addr) (x : Value) (e : Addr → Bool) (J : Shared → Prop) (hJ : LstJ prog w A (fun e s' => R (.error e) s') l as x e J) (k : Nat) :
    ∀ (i : Nat) (found : Int), as.length - i = k → ∀ s, J s → (∀ s', J s' → R (.ok (.ret (.int (found + ((as.drop i).countP e : Nat)) s'.toks))) { s' with toks := s'.toks + 1 }) →
      wpAny (model prog w) A.in1 (Builtin.«list.count.loop» ⟨[.ref l, x, rawInt i, rawInt found], []⟩) (FinOf prog w A R) (fun e s' => R (.error e) s') s := by
  induction k with
  | zero =>
    intro i found hk s h fin
    obtain ⟨n, dd, sl, hl⟩ := hJ.at_ s h
    have h := fin s h
    obtain ⟨hp, g, d, tk, os⟩ := s
    wp_walk using wpAny_loadPart' hl
    have hi : (as.map Value.ref).toArray[((i : Nat) : Int).toNat]? = none := by simp; omega
    have hd : as.drop i = [] := by simp; omega
    rw [hd] at h
    rw [hi]
    wp_walk
    simpa using h
  | succ k ih =>
    intro i found hk s h fin
    obtain ⟨n, dd, sl, hl⟩ := hJ.at_ s h
    have hlt : i < as.length := by omega
    have ht := hJ.eq_ as[i] (List.getElem_mem hlt) s h
    obtain ⟨hp, g, d, tk, os⟩ := s
    wp_walk using wpAny_loadPart' hl
    have hi : (as.map Value.ref).toArray[((i : Nat) : Int).toNat]? = some (Value.ref as[i]) := by simp [hlt]
    have hd : as.drop i = as[i] :: as.drop (i + 1) := List.drop_eq_getElem_cons hlt
    have hc : ((i : Int) + 1) = ((i + 1 : Nat) : Int) := by push_cast; rfl
    rw [hd, List.countP_cons] at fin
    rw [hi]
    refine wpAny_bind (wpAny_mono ht (fun r s2 h2 => ?_) fun _ _ x => x)
    obtain ⟨hr, h2⟩ := h2
    subst hr
    have hrec := ih (i + 1) (if e as[i] = true then found + 1 else found) (by omega) s2 h2 (fun s' h' => by
      have := fin s' h'
      cases hb : e as[i] with
      | false =>
        simp only [hb, Bool.false_eq_true, if_false, Nat.add_zero] at this ⊢
        exact this
      | true =>
        simp only [hb, if_true] at this ⊢
        have e1 : found + 1 + ((List.countP e (List.drop (i + 1) as) : Nat) : Int) = found + ((List.countP e (List.drop (i + 1) as) + 1 : Nat) : Int) := by push_cast; omega
        rw [e1]
        exact this)
    obtain ⟨hp2, g2, d2, tk2, os2⟩ := s2
    wp_walk
    rw [hc]
    exact ⟨plainId_quiet plain_count_loop _, codeAny_builtin entry_count_loop (by
      rw [Around.under_plainId plain_count_loop _]
      exact hrec)⟩
theorem list_countJ (l : Addr) (as : List Addr) (x : Value) (e : Addr → Bool) (J : Shared → Prop) (hJ : LstJ prog w A (fun e s' => R (.error e) s') l as x e J) {s : Shared} (h : J s) (fin : ∀ s', J s' → R (.ok (.ret (.int (as.countP e : Nat) s'.toks))) { s' with toks := s'.toks + 1 }) :
    wpAny (model prog w) A.in1 (Builtin.«list.count» ⟨[.ref l, x], []⟩) (FinOf prog w A R) (fun e s' => R (.error e) s') s := by
  have hrec := count_loopJ (A := A) (R := R) l as x e J hJ _ 0 0 rfl s h (fun s' h' => by simpa using fin s' h')
  obtain ⟨n, dd, sl, hl⟩ := hJ.at_ s h
  obtain ⟨hp, g, d, tk, os⟩ := s
  wp_walk using wpAny_loadPart' hl
  exact ⟨plainId_quiet plain_count_loop _, codeAny_builtin entry_count_loop (by
    rw [Around.under_plainId plain_count_loop _]
    exact hrec)⟩
theorem contains_loopJ (l : Addr) (as : List Addr) (x : Value) (e : Addr → Bool) (J : Shared → Prop) (hJ : LstJ prog w A (fun e s' => R (.error e) s') l as x e J) (k : Nat) :
    ∀ i : Nat, as.length - i = k → ∀ s, J s → (∀ s', J s' → R (.ok (.ret (.bool ((as.drop i).any e)))) s') →
      wpAny (model prog w) A.in1 (Builtin.«list.__contains__.loop» ⟨[.ref l, x, rawInt i], []⟩) (FinOf prog w A R) (fun e s' => R (.error e) s') s := by
  induction k with
  | zero =>
    intro i hk s h fin
    obtain ⟨n, dd, sl, hl⟩ := hJ.at_ s h
    have h := fin s h
    obtain ⟨hp, g, d, tk, os⟩ := s
    wp_walk using wpAny_loadPart' hl
    have hi : (as.map Value.ref).toArray[((i : Nat) : Int).toNat]? = none := by simp; omega
    have hd : as.drop i = [] := by simp; omega
    rw [hd] at h
    rw [hi]
    wp_walk
    exact h
  | succ k ih =>
    intro i hk s h fin
    obtain ⟨n, dd, sl, hl⟩ := hJ.at_ s h
    have hlt : i < as.length := by omega
    have ht := hJ.eq_ as[i] (List.getElem_mem hlt) s h
    obtain ⟨hp, g, d, tk, os⟩ := s
    wp_walk using wpAny_loadPart' hl
    have hi : (as.map Value.ref).toArray[((i : Nat) : Int).toNat]? = some (Value.ref as[i]) := by simp [hlt]
    have hd : as.drop i = as[i] :: as.drop (i + 1) := List.drop_eq_getElem_cons hlt
    have hc : ((i : Int) + 1) = ((i + 1 : Nat) : Int) := by push_cast; rfl
    rw [hd, List.any_cons] at fin
    rw [hi]
    refine wpAny_bind (wpAny_mono ht (fun r s2 h2 => ?_) fun _ _ x => x)
    obtain ⟨hr, h2⟩ := h2
    subst hr
    cases hb : e as[i] with
    | true =>
      rw [hb, Bool.true_or] at fin
      have h3 := fin s2 h2
      obtain ⟨hp2, g2, d2, tk2, os2⟩ := s2
      wp_walk
      exact h3
    | false =>
      rw [hb, Bool.false_or] at fin
      have hrec := ih (i + 1) (by omega) s2 h2 fin
      obtain ⟨hp2, g2, d2, tk2, os2⟩ := s2
      wp_walk
      rw [hc]
      exact ⟨plainId_quiet plain_contains_loop _, codeAny_builtin entry_contains_loop (by
        rw [Around.under_plainId plain_contains_loop _]
        exact hrec)⟩
theorem list_containsJ (l : Addr) (as : List Addr) (x : Value) (e : Addr → Bool) (J : Shared → Prop) (hJ : LstJ prog w A (fun e s' => R (.error e) s') l as x e J) {s : Shared} (h : J s) (fin : ∀ s', J s' → R (.ok (.ret (.bool (as.any e)))) s') :
    wpAny (model prog w) A.in1 (Builtin.«list.__contains__» ⟨[.ref l, x], []⟩) (FinOf prog w A R) (fun e s' => R (.error e) s') s := by
  have hrec := contains_loopJ (A := A) (R := R) l as x e J hJ _ 0 rfl s h (fun s' h' => by simpa using fin s' h')
  obtain ⟨n, dd, sl, hl⟩ := hJ.at_ s h
  obtain ⟨hp, g, d, tk, os⟩ := s
  wp_walk using wpAny_loadPart' hl
  exact ⟨plainId_quiet plain_contains_loop _, codeAny_builtin entry_contains_loop (by
    rw [Around.under_plainId plain_contains_loop _]
    exact hrec)⟩
theorem index_loopJ (l : Addr) (as : List Addr) (x : Value) (e : Addr → Bool) (J : Shared → Prop) (hJ : LstJ prog w A (fun e s' => R (.error e) s') l as x e J) (upto : Int) (j : Nat) (hj : j < as.length) (hupto : (j : Int) < upto) (hit : e as[j] = true)
    (fin : ∀ s', J s' → R (.ok (.ret (.int j s'.toks))) { s' with toks := s'.toks + 1 }) (k : Nat) :
    ∀ i : Nat, j - i = k → i ≤ j → (∀ m (hm : m < as.length), i ≤ m → m < j → e as[m] = false) → ∀ s, J s →
      wpAny (model prog w) A.in1 (Builtin.«list.index.loop» ⟨[.ref l, x, rawInt i, rawInt upto], []⟩) (FinOf prog w A R) (fun e s' => R (.error e) s') s := by
  induction k with
  | zero =>
    intro i hk hij hno s h
    obtain ⟨n, dd, sl, hl⟩ := hJ.at_ s h
    have hij' : i = j := by omega
    subst hij'
    have ht := hJ.eq_ as[i] (List.getElem_mem hj) s h
    obtain ⟨hp, g, d, tk, os⟩ := s
    wp_walk using wpAny_loadPart' hl
    have hi : (if (i : Int) < upto then (as.map Value.ref).toArray[((i : Nat) : Int).toNat]? else none) = some (Value.ref as[i]) := by simp [hupto, hj]
    rw [hi]
    refine wpAny_bind (wpAny_mono ht (fun r s2 h2 => ?_) fun _ _ x => x)
    obtain ⟨hr, h2⟩ := h2
    subst hr
    rw [hit]
    have h3 := fin s2 h2
    obtain ⟨hp2, g2, d2, tk2, os2⟩ := s2
    wp_walk
    exact h3
  | succ k ih =>
    intro i hk hij hno s h
    obtain ⟨n, dd, sl, hl⟩ := hJ.at_ s h
    have hlt : i < as.length := by omega
    have hst : (i : Int) < upto := by omega
    have ht := hJ.eq_ as[i] (List.getElem_mem hlt) s h
    obtain ⟨hp, g, d, tk, os⟩ := s
    wp_walk using wpAny_loadPart' hl
    have hi : (if (i : Int) < upto then (as.map Value.ref).toArray[((i : Nat) : Int).toNat]? else none) = some (Value.ref as[i]) := by simp [hst, hlt]
    have hc : ((i : Int) + 1) = ((i + 1 : Nat) : Int) := by push_cast; rfl
    rw [hi]
    refine wpAny_bind (wpAny_mono ht (fun r s2 h2 => ?_) fun _ _ x => x)
    obtain ⟨hr, h2⟩ := h2
    subst hr
    rw [hno i hlt (Nat.le_refl _) (by omega)]
    have hrec := ih (i + 1) (by omega) (by omega) (fun m hm h1 h2 => hno m hm (by omega) h2) s2 h2
    obtain ⟨hp2, g2, d2, tk2, os2⟩ := s2
    wp_walk
    rw [hc]
    exact ⟨plainId_quiet plain_index_loop _, codeAny_builtin entry_index_loop (by
      rw [Around.under_plainId plain_index_loop _]
      exact hrec)⟩
theorem list_indexJ (l : Addr) (as : List Addr) (x : Value) (e : Addr → Bool) (J : Shared → Prop) (hJ : LstJ prog w A (fun e s' => R (.error e) s') l as x e J) (j : Nat) (hj : j < as.length) (hsmall : (j : Int) < 2 ^ 63 - 1) (hit : e as[j] = true) (hno : ∀ m (hm : m < as.length), m < j → e as[m] = false)
    (fin : ∀ s', J s' → R (.ok (.ret (.int j s'.toks))) { s' with toks := s'.toks + 1 }) {s : Shared} (h : J s) :
    wpAny (model prog w) A.in1 (Builtin.«list.index» ⟨[.ref l, x], []⟩) (FinOf prog w A R) (fun e s' => R (.error e) s') s := by
  have hrec := index_loopJ (A := A) (R := R) l as x e J hJ (2 ^ 63 - 1) j hj hsmall hit fin _ 0 rfl (Nat.zero_le _) (fun m hm _ h2 => hno m hm h2) s h
  obtain ⟨n, dd, sl, hl⟩ := hJ.at_ s h
  obtain ⟨hp, g, d, tk, os⟩ := s
  wp_walk using wpAny_loadPart' hl
  have a1 : ((fun i : Int => if i < 0 then max 0 (i + ((as.map Value.ref).toArray.size : Int)) else i) ((none : Option Int).getD 0)) = ((0 : Nat) : Int) := by simp
  have a2 : ((fun i : Int => if i < 0 then max 0 (i + ((as.map Value.ref).toArray.size : Int)) else i) ((none : Option Int).getD (2 ^ 63 - 1))) = 2 ^ 63 - 1 := by simp
  rw [a1, a2]
  exact ⟨plainId_quiet plain_index_loop _, codeAny_builtin entry_index_loop (by
    rw [Around.under_plainId plain_index_loop _]
    exact hrec)⟩
end
end LQ
namespace Pk
open PySem PySem.Spec L2
open PyProof.Rows (room_in_shaped)
section
variable {X : Cx} {k : Nat} {C f : Addr} {fd : FuncData} {sp : Sp}
theorem refs_of : ∀ {as : List Addr} {its : List Value}, Vals (as.map V.ref) its → its = as.map Value.ref
  | [], [], _ => rfl
  | a :: as, _, .cons r rs => by
    cases r
    rw [refs_of rs]
    rfl
/-- what == tells of two instances of C: the same one, or by the promise of its __eq__ -/
def EqOf (C : Addr) (sp : Sp) (a c : Addr) (H : Hp) (b : Bool) : Prop := (a = c ∧ b = true) ∨ (a ≠ c ∧ (∃ dx fs, H a = some (.ins C dx fs)) ∧ (∃ dy gs, H c = some (.ins C dy gs)) ∧ sp [.ref a, .ref c] H (fun v H' => v = .bl b ∧ H' = H) E0)
theorem eqB_own (F : FnOk X.prog X.w X.K X.mg X.base CX0 k f fd ["self", "other"] sp) (hs : PySem.W.findIn X.K (.ref C) "__eq__" = some (some (.ref f))) (hf : PySem.W.isFn X.K (.ref f) = true) (hb : Binds X.K fd ["self", "other"] [])
    {A : Around} (sb : Sub X k A) {pins : List (Addr × Obj)} {s : Shared} {σ : St} {H : Hp} (I : Inv X pins σ H s) {a c : Addr} {b : Bool} (h : EqOf C sp a c H b) (E : Value → Shared → Prop) :
    wpAny (model X.prog X.w) A (eqBool (.ref a) (.ref c)) (fun r s' => r = b ∧ Inv X pins σ H s') E s := by
  rcases h with ⟨rfl, rfl⟩ | ⟨ne, ⟨dx, fs, ha⟩, ⟨dy, gs, hc⟩, h⟩
  · exact SeqAt.EqAt.same (A := A) (s := s) (.ref a) X.prog X.w E _ ⟨rfl, I⟩
  · refine GQ.eqBool_refG ne ?_
    obtain ⟨mA, J, _⟩ := ins_get I.hok ha
    obtain ⟨od, J, _⟩ := J.look
    obtain ⟨mB, J', _⟩ := ins_get I.hok hc
    obtain ⟨od', J', _⟩ := J'.look
    obtain ⟨m, hF⟩ := I.fr
    have hF' : A.frames = X.A.frames := sb.fr
    have e0 : Env0 X.prog X.w X.K X.mg X.base A X.stack s H := by
      have e := I.env0
      exact ⟨by rw [sb.fr]; exact e.frames, e.mod, e.bs, e.bsz, e.funs, e.frf, e.hok, e.bare⟩
    refine PySem.W.cmp_K (op := .Eq) (tb := .ref C) sb.room.units0 hF I.ok.mod.kin J J'.type (by simp [PySem.W.notFirst]) hs hf ?_
    refine wpAny_call (codeAny_mono (F.run A X.stack s H ⟨[.ref a, .ref c], []⟩ [.ref a, .ref c] [.ref a, .ref c] _ E0 sb.room e0 (hb s [.ref a, .ref c] I.kIn rfl) (.cons rfl (.cons rfl .nil)) h) fun r s' hq => ?_)
    match r, hq with
    | .error e, hq => exact hq.elim
    | .ok .next, hq => exact hq.elim
    | .ok .brk, hq => exact hq.elim
    | .ok .cont, hq => exact hq.elim
    | .ok (.ret z), hq =>
      obtain ⟨v, H2, I2, rv, rfl, rfl⟩ := I.after hq
      cases rv
      exact ⟨b, rfl, rfl, I2⟩
theorem lstJ (F : FnOk X.prog X.w X.K X.mg X.base CX0 k f fd ["self", "other"] sp) (hr : Room (k + 1) X.A) (hs : PySem.W.findIn X.K (.ref C) "__eq__" = some (some (.ref f))) (hf : PySem.W.isFn X.K (.ref f) = true) (hb : Binds X.K fd ["self", "other"] [])
    {pins : List (Addr × Obj)} {σ : St} {H : Hp} {l c : Addr} {as : List Addr} {e : Addr → Bool} (hl : SqL X.K H l (as.map V.ref)) (he : ∀ a ∈ as, EqOf C sp a c H (e a)) (E : Value → Shared → Prop) : LQ.LstJ X.prog X.w X.A E l as (.ref c) e (fun s => Inv X pins σ H s) where
  at_ := fun s I => by
    obtain ⟨its, rv, ⟨⟨cls, dd, data, sl⟩, n, ho, hc, hdn, hd⟩, hlen⟩ := I.list hl
    simp only at hc hd
    subst hc hd
    rw [refs_of rv] at ho
    exact ⟨n, dd, sl, ho⟩
  eq_ := fun a ha s I => eqB_own F hs hf hb (Sub.in1 ⟨hr, rfl⟩) I (he a ha) E
/-- x in l -/
def rInO (K : PySem.W.Frag) (C : Addr) (sp : Sp) : R2 := fun x y H Q => ∃ (c l : Addr) (as : List Addr) (e : Addr → Bool), x = .ref c ∧ y = .ref l ∧ SqL K H l (as.map V.ref) ∧ (∀ a ∈ as, EqOf C sp a c H (e a)) ∧ Q (.bl (as.any e)) H
theorem op_inO (F : FnOk X.prog X.w X.K X.mg X.base CX0 k f fd ["self", "other"] sp) (hr : Room (k + 1) X.A) (hs : PySem.W.findIn X.K (.ref C) "__eq__" = some (some (.ref f))) (hf : PySem.W.isFn X.K (.ref f) = true) (hb : Binds X.K fd ["self", "other"] []) : OpR X (compareOp .In) (rInO X.K C sp) := by
  rintro pins s σ H x y v u Q I rx ry ⟨c, l, as, e, rfl, rfl, hl, he, q⟩
  cases rx
  cases ry
  have J := lstJ F hr hs hf hb (pins := pins) (σ := σ) hl he X.xe
  obtain ⟨n, dd, sl, ho⟩ := J.at_ s I
  show wpAny _ X.A (do return Value.bool (← contains (.ref l) (.ref c))) _ _ s
  refine wpAny_bind (wpAny_contains_slot ⟨_, ho, rfl⟩ PySem.F.slot_list_contains (wpAny_mono (GQ.call_here (Q := fun v s' => ∃ b, v = .bool b ∧ b = as.any e ∧ Inv X pins σ H s') PySem.F.slot_list_contains ⟨_, ho, rfl⟩ PySem.F.entry_list_contains (PySem.F.args_list_contains_2 _ _) (LQ.list_containsJ (R := wants _ _) l as (.ref c) e _ J I (fun s' I' => ⟨_, rfl, rfl, I'⟩))) (fun v s' hv => ?_) fun _ _ e => e))
  obtain ⟨b, rfl, rfl, I'⟩ := hv
  exact wpAny_truthy_bool (wpAny_pure ⟨.bl _, H, I', rfl, q⟩)
/-- l.count(x) -/
def rCountO (K : PySem.W.Frag) (C : Addr) (sp : Sp) : V → List V → Hp → VK → Prop := fun x xs H Q => ∃ (c l : Addr) (as : List Addr) (e : Addr → Bool), x = .ref l ∧ xs = [.ref c] ∧ SqL K H l (as.map V.ref) ∧ (∀ a ∈ as, EqOf C sp a c H (e a)) ∧ Q (.int (as.countP e : Nat)) H
theorem mt_countO (F : FnOk X.prog X.w X.K X.mg X.base CX0 k f fd ["self", "other"] sp) (hr : Room (k + 1) X.A) (hs : PySem.W.findIn X.K (.ref C) "__eq__" = some (some (.ref f))) (hf : PySem.W.isFn X.K (.ref f) = true) (hb : Binds X.K fd ["self", "other"] []) : MtR X "list.count" (rCountO X.K C sp) := by
  rintro pins s σ H x xs v us Q I rx rxs ⟨c, l, as, e, rfl, rfl, hl, he, q⟩
  cases rx
  obtain ⟨u, rfl, ru⟩ := rxs.one
  cases ru
  have J := lstJ F hr hs hf hb (pins := pins) (σ := σ) hl he X.xe
  obtain ⟨n, dd, sl, ho⟩ := J.at_ s I
  exact GQ.call_here PySem.F.slot_list_count ⟨_, ho, rfl⟩ PySem.F.entry_list_count (PySem.F.args_list_count_2 _ _) (LQ.list_countJ (R := wants _ _) l as (.ref c) e _ J I (fun s' I' => ⟨.int (as.countP e : Nat), H, I'.tok _, ⟨s'.toks, rfl⟩, q⟩))
/-- l.index(x): the first place of an equal one -/
def rIndexO (K : PySem.W.Frag) (C : Addr) (sp : Sp) : V → List V → Hp → VK → Prop := fun x xs H Q => ∃ (c l : Addr) (as : List Addr) (e : Addr → Bool) (j a : Nat), x = .ref l ∧ xs = [.ref c] ∧ SqL K H l (as.map V.ref) ∧ (∀ a ∈ as, EqOf C sp a c H (e a)) ∧ as[j]? = some a ∧ e a = true ∧ (∀ m a', m < j → as[m]? = some a' → e a' = false) ∧ Q (.int (j : Nat)) H
theorem mt_indexO (F : FnOk X.prog X.w X.K X.mg X.base CX0 k f fd ["self", "other"] sp) (hr : Room (k + 1) X.A) (hs : PySem.W.findIn X.K (.ref C) "__eq__" = some (some (.ref f))) (hf : PySem.W.isFn X.K (.ref f) = true) (hb : Binds X.K fd ["self", "other"] []) : MtR X "list.index" (rIndexO X.K C sp) := by
  rintro pins s σ H x xs v us Q I rx rxs ⟨c, l, as, e, j, a, rfl, rfl, hl, he, hj, ea, hno, q⟩
  cases rx
  obtain ⟨u, rfl, ru⟩ := rxs.one
  cases ru
  have J := lstJ F hr hs hf hb (pins := pins) (σ := σ) hl he X.xe
  obtain ⟨n, dd, sl, ho⟩ := J.at_ s I
  obtain ⟨hj1, hj2⟩ := List.getElem?_eq_some_iff.mp hj
  have hz : as.length ≤ sizeLine := by
    obtain ⟨its, rv, _, hlen⟩ := I.list hl
    have := rv.length
    rw [List.length_map] at this hlen
    omega
  have hs1 := sizeLine_eq
  exact GQ.call_here PySem.F.slot_list_index ⟨_, ho, rfl⟩ PySem.F.entry_list_index (PySem.F.args_list_index_2 _ _) (LQ.list_indexJ (R := wants _ _) l as (.ref c) e _ J j hj1 (by omega) (by rw [hj2]; exact ea) (fun m hm h => hno m _ h (List.getElem?_eq_getElem hm)) (fun s' I' => ⟨.int (j : Nat), H, I'.tok _, ⟨s'.toks, rfl⟩, q⟩) I)
/-- l.count(x) of data -/
def rCountD (K : PySem.W.Frag) : V → List V → Hp → VK → Prop := fun x xs H Q => ∃ (a : Addr) (y : V) (d : PyData) (ds : List PyData), x = V.ref a ∧ xs = [y] ∧ Dp K H (V.ref a) (.list ds) ∧ Dp K H y d ∧ SeqAt.shaped (.list ds) = true ∧ SeqAt.shaped d = true ∧ Q (.int (ds.countP fun z => PyData.eqv z d : Nat)) H
theorem mt_countD (hu : X.A.units + 65 < cLine) : MtR X "list.count" (rCountD X.K) := by
  intro pins s σ H x xs v us Q I rx rxs h
  obtain ⟨a, y, d, ds, rfl, rfl, hl, hy, sl, sd, q⟩ := h
  cases rx
  cases rxs with
  | cons ry rt =>
    rename_i uy ut
    cases rt
    obtain ⟨bs, r1⟩ := Dp.reads I d y uy hy ry
    have hxs : PyData.canLayAll0 ds = true := SeqAt.canLay_of_shaped sl
    have hroom : X.A.units + 1 + min (PyData.depthAll ds) d.depth < cLine := room_in_shaped sd hu
    cases hl with
    | lst hs ha =>
      obtain ⟨its, rv, ⟨⟨cls, dd, data, sls⟩, n, ho, hc, hdn, hdt⟩, hlen⟩ := I.list hs
      simp only at hc hdt
      subst hc hdt
      obtain ⟨as, h4⟩ := Dp.readsAll I ds _ its ha rv
      have hmap : its.map (SeqAt.readOf s.heap) = ds := SeqAt.readsAll_map ds its as hxs h4
      refine call_meets PySem.F.slot_list_count ⟨_, ho, rfl⟩ PySem.F.entry_list_count (PySem.F.args_list_count_2 _ _)
        (SeqAt.list_countAt a its.toArray n dd sls uy (fun y => PyData.eqv (SeqAt.readOf s.heap y) d)) ⟨ho, SeqAt.items_eqAt h4 r1 hxs (SeqAt.canLay_of_shaped sd) hroom, ?_⟩
      have ec : its.toArray.toList.countP (fun y => PyData.eqv (SeqAt.readOf s.heap y) d) = ds.countP fun z => PyData.eqv z d := by
        rw [← hmap, List.countP_map]
        rfl
      refine ⟨.int (ds.countP fun z => PyData.eqv z d : Nat), H, I.tok _, ⟨s.toks, ?_⟩, q⟩
      show Value.int ((its.toArray.toList.countP (fun y => PyData.eqv (SeqAt.readOf s.heap y) d) : Nat) : Int) s.toks = _
      rw [ec]
end
end Pk
/-! ### len, repr, str of an instance, by the text's own -/
namespace Pk
open PySem PySem.Spec L2
section
variable {X : Cx} {k : Nat} {f C : Addr} {fd : FuncData} {sp : Sp} {e : Expr} {te : TE} {p pos : Pos}
def rLenO (C : Addr) (sp : Sp) : List V → Hp → VK → Prop := fun xs H Q => ∃ (a dx : Addr) (fs : List (Str × V)), xs = [.ref a] ∧ H a = some (.ins C dx fs) ∧ sp [.ref a] H (fun v H' => ∃ n : Int, v = .int n ∧ 0 ≤ n ∧ n < 2 ^ 63 ∧ Q (.int n) H') E0
theorem call_lenO (F : FnOk X.prog X.w X.K X.mg X.base CX0 k f fd ["self"] sp) (hr : Room (k + 1) X.A) (hs : PySem.W.findIn X.K (.ref C) "__len__" = some (some (.ref f))) (hf : PySem.W.isFn X.K (.ref f) = true) (hb : Binds X.K fd ["self"] []) : CallR X (.builtin "len") (rLenO C sp) := by
  rintro pins s σ H xs us Q I rs ⟨a, dx, fs, rfl, ha, h⟩
  obtain ⟨u, rfl, ru⟩ := rs.one
  cases ru
  obtain ⟨mA, J, _⟩ := ins_get I.hok ha
  obtain ⟨od, J, _⟩ := J.look
  obtain ⟨m, hF⟩ := I.fr
  refine PySem.W.len_K hF I.ok.mod.kin J hs hf ?_
  refine wpAny_call (codeAny_mono (F.run X.A.in1 X.stack s H ⟨[.ref a], []⟩ [.ref a] [.ref a] _ E0 hr.in1 I.env0.in1 (hb s [.ref a] I.kIn rfl) (.cons rfl .nil) h) fun r s' hq => ?_)
  match r, hq with
  | .error e, hq => exact hq.elim
  | .ok .next, hq => exact hq.elim
  | .ok .brk, hq => exact hq.elim
  | .ok .cont, hq => exact hq.elim
  | .ok (.ret z), hq =>
    obtain ⟨v, H2, I2, rv, n, rfl, n0, n1, q2⟩ := I.after hq
    obtain ⟨t, rfl⟩ := rv
    exact ⟨⟨n0, n1⟩, .int n, H2, I2.tok _, ⟨_, rfl⟩, q2⟩
def rReprO (C : Addr) (sp : Sp) : List V → Hp → VK → Prop := fun xs H Q => ∃ (a dx : Addr) (fs : List (Str × V)), xs = [.ref a] ∧ H a = some (.ins C dx fs) ∧ sp [.ref a] H (fun v H' => (∃ z, v = .str z) ∧ Q v H') E0
theorem call_reprO (F : FnOk X.prog X.w X.K X.mg X.base CX0 k f fd ["self"] sp) (hr : Room (k + 1) X.A) (hs : PySem.W.findIn X.K (.ref C) "__repr__" = some (some (.ref f))) (hf : PySem.W.isFn X.K (.ref f) = true) (hb : Binds X.K fd ["self"] []) : CallR X (.builtin "repr") (rReprO C sp) := by
  rintro pins s σ H xs us Q I rs ⟨a, dx, fs, rfl, ha, h⟩
  obtain ⟨u, rfl, ru⟩ := rs.one
  cases ru
  obtain ⟨mA, J, _⟩ := ins_get I.hok ha
  obtain ⟨od, J, _⟩ := J.look
  obtain ⟨m, hF⟩ := I.fr
  refine PySem.W.repr_K hr.in1.units0 hF I.ok.mod.kin J hs hf ?_
  refine wpAny_call (codeAny_mono (F.run X.A.in1 X.stack s H ⟨[.ref a], []⟩ [.ref a] [.ref a] _ E0 hr.in1 I.env0.in1 (hb s [.ref a] I.kIn rfl) (.cons rfl .nil) h) fun r s' hq => ?_)
  match r, hq with
  | .error e, hq => exact hq.elim
  | .ok .next, hq => exact hq.elim
  | .ok .brk, hq => exact hq.elim
  | .ok .cont, hq => exact hq.elim
  | .ok (.ret z), hq =>
    obtain ⟨v, H2, I2, rv, ⟨y, rfl⟩, q2⟩ := I.after hq
    obtain ⟨t, rfl⟩ := rv
    exact ⟨.str y, H2, I2, ⟨t, rfl⟩, q2⟩
/-- str(x) -/
def tStrO (C : Addr) (sp : Sp) (te : TE) : TE := fun σ H Q => te σ H fun x H1 => ∃ (a dx : Addr) (fs : List (Str × V)), x = .ref a ∧ H1 a = some (.ins C dx fs) ∧ sp [.ref a] H1 (fun v H2 => (∃ z, v = .str z) ∧ Q v H2) E0
theorem pe_strO (F : FnOk X.prog X.w X.K X.mg X.base CX0 k f fd ["self"] sp) (hr : Room (k + 2) X.A) (hs : PySem.W.findIn X.K (.ref C) "__str__" = some (some (.ref f))) (hf : PySem.W.isFn X.K (.ref f) = true) (hb : Binds X.K fd ["self"] []) (hg : Gl X "str") (hm : X.mg "str" = none) (he : PE X e te)
    (na : starEach [e] X.env = (false, eval e X.env) :: starEach [] X.env := by rfl) : PE X (.Call (.Name "str" p) [e] [] pos) (tStrO C sp te) := by
  constructor
  intro pins s σ H Q I h
  refine PyProof.Rows.Call_ (ld_blt I hg hm PyProof.Rows.boot_str ?_)
  refine PyProof.Rows.callWith_type1 (PyProof.Rows.args_cons (thn (he.run pins s σ H _ I h) ?_) na) na rfl
  rintro v s1 ⟨x, H1, I1, r1, a, dx, fs, rfl, ha, q⟩
  cases (show v = Value.ref a from r1)
  obtain ⟨mA, J, _⟩ := ins_get I1.hok ha
  obtain ⟨od, J, _⟩ := J.look
  refine PyProof.Rows.args_nil (PySem.W.kso_call (by have := hr.un; show X.A.in1.in1.units < cLine; have e1 := (hr.in1.in1).un; omega) I1.kIn J hs hf ?_)
  refine wpAny_call (codeAny_mono (F.run _ X.stack s1 H1 ⟨[.ref a], []⟩ [.ref a] [.ref a] _ E0 hr.in1.in1 I1.env0.in1.in1 (hb s1 [.ref a] I1.kIn rfl) (.cons rfl .nil) q) fun r s' hq => ?_)
  cases r with
  | error e => exact hq.elim
  | ok fl =>
    cases fl with
    | ret u =>
      obtain ⟨v, H2, I2, rv, ⟨z, rfl⟩, q2⟩ := I1.after hq
      obtain ⟨t, rfl⟩ := rv
      exact ⟨.str z, H2, I2, ⟨t, rfl⟩, q2⟩
    | next => exact False.elim hq
    | brk => exact False.elim hq
    | cont => exact False.elim hq
end
end Pk
namespace Pk
open PySem L2
/-! ### questions, as they stand -/
section
variable {H H' : Hp} {CQ x p s : Addr} {q q' : QD} {t : Int}
theorem QI.same (h : QI CQ H x q) (k : Same H H') : QI CQ H' x q := by
  obtain ⟨dx, a, h1, h2, h3⟩ := h
  exact ⟨dx, a, k _ _ h1, k _ _ h2, h3⟩
theorem strs_inj : ∀ {a b : List Str}, a.map V.str = b.map V.str → a = b
  | [], [], _ => rfl
  | [], _ :: _, h => by cases h
  | _ :: _, [], h => by cases h
  | x :: a, y :: b, h => by
    rw [List.map_cons, List.map_cons] at h
    obtain ⟨h1, h2⟩ := List.cons.inj h
    rw [V.str.inj h1, strs_inj h2]
theorem QI.uniq (h : QI CQ H x q) (k : QI CQ H x q') : q = q' := by
  obtain ⟨dx, a, h1, h2, _⟩ := h
  obtain ⟨dy, b, k1, k2, _⟩ := k
  rw [h1] at k1
  have e := Option.some.inj k1
  injection e with e1 e2 e3
  unfold qFs at e3
  simp only [List.cons.injEq, Prod.mk.injEq, V.str.injEq, V.int.injEq, V.ref.injEq, true_and, and_true] at e3
  obtain ⟨n1, n2, n3, n4, n5, n6, n7⟩ := e3
  subst n3
  rw [h2] at k2
  have ew := strs_inj (HO.tup.inj (Option.some.inj k2))
  cases q
  cases q'
  dsimp only at n1 n2 n4 n5 n6 n7 ew
  subst n1 n2 n4 n5 n6 n7 ew
  rfl
theorem text_strOk {w : Str} (h : textT w = true) : PyData.strOk w = true := by
  have e := text_thg (H := fun _ => none) h
  cases e with
  | str z hl ho => exact (sok_iff _).mpr ho.ok
theorem room1 {k : Nat} {A : Around} (hr : Room k A) : A.units < cLine := by
  have := room_show hr
  omega
theorem QV.b (v : QV q) : QB q := by
  have n : ∀ {z : Str}, nameT z = true → z.length ≤ 100 := fun {z} h => by
    unfold nameT at h
    simp only [Bool.and_eq_true, decide_eq_true_iff] at h
    omega
  refine ⟨n v.nm, n v.mt, ?_, by have := v.t1; omega, v.t9, by have := v.m1; omega, v.m9⟩
  have := v.ki
  unfold nameE at this
  rcases Bool.or_eq_true_iff.mp this with h | h
  · exact n h
  · rw [V.str.inj (of_decide_eq_true h)]
    decide +kernel
end
/-! ### the class as the top has left it -/
structure QW (K : PySem.W.Frag) (P : Program) (w : World) (mg : Str → Option Value) (base : Heap) (CQ : Addr) : Prop where
  C : QCls K CQ
  T : QTy K CQ
  ne : PySem.W.findIn K (.ref CQ) "__ne__" = some (some (.builtin "object.__ne__"))
  eq : ∃ (f : Addr) (fd : FuncData), FnOk P w K mg base CX0 2 f fd ["self", "other"] (spQEq K CQ) ∧ PySem.W.findIn K (.ref CQ) "__eq__" = some (some (.ref f)) ∧ PySem.W.isFn K (.ref f) = true ∧ Binds K fd ["self", "other"] []
  len : ∃ (f : Addr) (fd : FuncData), FnOk P w K mg base CX0 1 f fd ["self"] (spQLen CQ) ∧ PySem.W.findIn K (.ref CQ) "__len__" = some (some (.ref f)) ∧ PySem.W.isFn K (.ref f) = true ∧ Binds K fd ["self"] []
  str : ∃ (f : Addr) (fd : FuncData), FnOk P w K mg base CX0 1 f fd ["self"] (spQStr CQ) ∧ PySem.W.findIn K (.ref CQ) "__str__" = some (some (.ref f)) ∧ PySem.W.isFn K (.ref f) = true ∧ Binds K fd ["self"] []
  repr : ∃ (f : Addr) (fd : FuncData), FnOk P w K mg base CX0 1 f fd ["self"] (spQRepr CQ) ∧ PySem.W.findIn K (.ref CQ) "__repr__" = some (some (.ref f)) ∧ PySem.W.isFn K (.ref f) = true ∧ Binds K fd ["self"] []
/-- the lists at the end of shown_right -/
def tShownE (CQ : Addr) : TE := fun σ H Q => ∃ (p x a : Addr) (q : QD), σ = [some (.ref p), some (.ref x), some (.str (qText q))] ∧ H p = some (.tup (qRow q a)) ∧ H a = some (.tup (q.ws.map V.str)) ∧ QB q ∧ q.ws.length ≤ 6 ∧ QI CQ H x q ∧ ∀ H', Same H H' → Q (.bl true) H'
def spShown (CQ : Addr) : Sp := fun vs H Q _ => ∃ (p x : Addr) (q : QD), vs = [.ref p, .ref x] ∧ RowAt H p q ∧ QV q ∧ QI CQ H x q ∧ ∀ H', Same H H' → Q (.bl true) H'
section
variable {P : Program} {w : World} {K : PySem.W.Frag} {mg : Str → Option Value} {base : Heap}
abbrev NShown : List Str := ["_law_parts", "_law_one", "_law_text"]
end
end Pk
namespace Pk
open PySem PySem.Spec L2
/-! ### y == x, x of an own class, y of a built-in type that declines -/
namespace OwnRev
open PyProof.Rows PySem.SeqAt
section
variable {prog : Program} {w : World} {A : Around} {E : Value → Shared → Prop} {s : Shared} {K : PySem.W.Frag} {x C f : Addr} {ox : Obj} {od : Option Obj} {b tb : Value}
theorem rc_rev {Q : Value → Shared → Prop} (hu : A.units < cLine) (X : K.In s.heap) (I : PySem.W.InstAt s.heap x ox C od) (hb : PySem.W.Looks (model prog w) s.heap (typeOf b) tb) (hne : tb ≠ .ref C) (hsub : PySem.W.subIn K (.ref C) tb = some false) (ho : oneThing? .Eq b (.ref x) = none)
    (dec : wpAny (model prog w) A (tryCompare b "__eq__" (.ref x)) (fun r s' => r = none ∧ s' = s) E s) (he : PySem.W.findIn K (.ref C) "__eq__" = some (some (.ref f))) (hf : PySem.W.isFn K (.ref f) = true)
    (h : wpAny (model prog w) A (call (.ref f) [.ref x, b]) (PySem.W.CmpBack Q) E s) : wpAny (model prog w) A (richCompare .Eq b (.ref x)) Q E s := by
  have two : wpAny (model prog w) A (tryCompare (.ref x) "__eq__" b) (fun r s' => ∃ v, r = some v ∧ Q v s') E s := by
    unfold tryCompare
    refine wpAny_bind (PySem.W.ifBound_K X I he hf (wpAny_mono h (fun v s' hv => ?_) fun _ _ e => e))
    cases v <;> first | exact hv.elim | exact wpAny_pure ⟨_, rfl, hv⟩
  simp only [richCompare, cmpInfo_Eq, ho]
  refine wpAny_holding (wpAny_bind (wpAny_cRoomFor hu ?_))
  refine wpAny_bind (hb.here (wpAny_bind (I.type.here ?_)))
  split
  · refine wpAny_bind ((PySem.W.looks_subIn X hsub).here ?_)
    simp only [Bool.false_eq_true, if_false, Bool.not_false, if_true]
    refine wpAny_bind (m := tryCompare b _ (.ref x)) (wpAny_mono dec (fun r s1 z => ?_) fun _ _ e => e)
    obtain ⟨z1, z2⟩ := z
    subst z1
    subst z2
    refine wpAny_bind (m := tryCompare (.ref x) _ b) (wpAny_mono two (fun r s2 z => ?_) fun _ _ e => e)
    obtain ⟨v, rfl, hq⟩ := z
    exact wpAny_pure hq
  · rename_i q
    exact absurd (by simpa using hne) q
theorem dec_none : wpAny (model prog w) A (tryCompare .none "__eq__" (.ref x)) (fun r s' => r = none ∧ s' = s) E s :=
  wpAny_tryCompare_declines (show s.TypeIs .none "NoneType" from rfl) F.slot_NoneType_eq_refl (call_gives F.slot_NoneType_eq_refl rfl F.entry_NoneType_eq (F.args_NoneType_eq_2 _ _) (NoneType___eq___none_ref_0 x) ⟨rfl, rfl, rfl⟩)
theorem str_ref (a : Str) (t : Tok) {l d : Addr} {M : Model} {R : Fin → Shared → Prop} (hl : s.heap.get? l = some (PySem.W.instObj C d)) (h : R (.done (.ret .notImplemented)) s) : wpAny M A (Builtin.«str.__eq__» ⟨[.str a t, .ref l], []⟩) R E s := by
  unfold Builtin.«str.__eq__»
  wp_walk
  exact h
theorem int_ref (a : Int) (t : Tok) {l d : Addr} {M : Model} {R : Fin → Shared → Prop} (hl : s.heap.get? l = some (PySem.W.instObj C d)) (h : R (.done (.ret .notImplemented)) s) : wpAny M A (Builtin.«int.__eq__» ⟨[.int a t, .ref l], []⟩) R E s := by
  unfold Builtin.«int.__eq__»
  wp_walk
  exact h
theorem bool_ref (a : Bool) {l d : Addr} {M : Model} {R : Fin → Shared → Prop} (hl : s.heap.get? l = some (PySem.W.instObj C d)) (h : R (.done (.ret .notImplemented)) s) : wpAny M A (Builtin.«int.__eq__» ⟨[.bool a, .ref l], []⟩) R E s := by
  unfold Builtin.«int.__eq__»
  wp_walk
  exact h
theorem dec_str {a : Str} {t : Tok} {d : Addr} (hl : s.heap.get? x = some (PySem.W.instObj C d)) : wpAny (model prog w) A (tryCompare (.str a t) "__eq__" (.ref x)) (fun r s' => r = none ∧ s' = s) E s :=
  wpAny_tryCompare_declines (show s.TypeIs (.str a t) "str" from rfl) F.slot_str_eq_refl (wpAny_call (codeAny_call_builtin F.slot_str_eq_refl.plain F.entry_str_eq (F.slot_str_eq_refl.check _ _ _ _ _ _ _ _ (show s.TypeIs (.str a t) "str" from rfl) (F.args_str_eq_2 _ _) (str_ref (C := C) a t hl ⟨rfl, rfl, rfl⟩))))
theorem dec_int {a : Int} {t : Tok} {d : Addr} (hl : s.heap.get? x = some (PySem.W.instObj C d)) : wpAny (model prog w) A (tryCompare (.int a t) "__eq__" (.ref x)) (fun r s' => r = none ∧ s' = s) E s :=
  wpAny_tryCompare_declines (show s.TypeIs (.int a t) "int" from rfl) F.slot_int_eq_refl (wpAny_call (codeAny_call_builtin F.slot_int_eq_refl.plain F.entry_int_eq (F.slot_int_eq_refl.check _ _ _ _ _ _ _ _ (show s.TypeIs (.int a t) "int" from rfl) (F.args_int_eq_2 _ _) (int_ref (C := C) a t hl ⟨rfl, rfl, rfl⟩))))
end
end OwnRev
end Pk
namespace Pk
open PySem PySem.Spec L2
namespace OwnRev
open PyProof.Rows PySem.SeqAt
section
variable {prog : Program} {w : World} {A : Around} {E : Value → Shared → Prop} {s : Shared} {K : PySem.W.Frag} {x C f : Addr} {ox : Obj} {od : Option Obj} {b tb : Value}
theorem dec_bool {a : Bool} {d : Addr} (hl : s.heap.get? x = some (PySem.W.instObj C d)) : wpAny (model prog w) A (tryCompare (.bool a) "__eq__" (.ref x)) (fun r s' => r = none ∧ s' = s) E s :=
  wpAny_tryCompare_declines (show s.TypeIs (.bool a) "bool" from rfl) F.slot_bool_eq_refl (wpAny_call (codeAny_call_builtin F.slot_bool_eq_refl.plain F.entry_int_eq (F.slot_bool_eq_refl.check _ _ _ _ _ _ _ _ (show s.TypeIs (.bool a) "bool" from rfl) (F.args_int_eq_2 _ _) (bool_ref (C := C) a hl ⟨rfl, rfl, rfl⟩))))
theorem tup_ref (X : K.In s.heap) (hsub : PySem.W.subIn K (.ref C) (.type "tuple") = some false) {l y d : Addr} {items : Array Value} {n : Nat} {dd : Option Addr} {sl : Array (Option Value)} {M : Model} {R : Fin → Shared → Prop} (ht : s.heap.get? y = some { cls := .type "tuple", dict := dd, data := .seq items n, slots := sl }) (hl : s.heap.get? l = some (PySem.W.instObj C d)) (h : R (.done (.ret .notImplemented)) s) : wpAny M A (Builtin.«tuple.__eq__» ⟨[.ref y, .ref l], []⟩) R E s := by
  unfold Builtin.«tuple.__eq__»
  wp_walk
  refine (PySem.W.looks_subIn X hsub).here ?_
  wp_walk
  exact h
theorem lst_ref (X : K.In s.heap) (hsub : PySem.W.subIn K (.ref C) (.type "list") = some false) {l y d : Addr} {items : Array Value} {n : Nat} {dd : Option Addr} {sl : Array (Option Value)} {M : Model} {R : Fin → Shared → Prop} (ht : s.heap.get? y = some { cls := .type "list", dict := dd, data := .seq items n, slots := sl }) (hl : s.heap.get? l = some (PySem.W.instObj C d)) (h : R (.done (.ret .notImplemented)) s) : wpAny M A (Builtin.«list.__eq__» ⟨[.ref y, .ref l], []⟩) R E s := by
  unfold Builtin.«list.__eq__»
  wp_walk
  refine (PySem.W.looks_subIn X hsub).here ?_
  wp_walk
  exact h
theorem dct_ref (X : K.In s.heap) (hsub : PySem.W.subIn K (.ref C) (.type "dict") = some false) {l y d : Addr} {oy : Obj} {M : Model} {R : Fin → Shared → Prop} (ht : s.heap.get? y = some oy) (hc : oy.cls = .type "dict") (hl : s.heap.get? l = some (PySem.W.instObj C d)) (h : R (.done (.ret .notImplemented)) s) : wpAny M A (Builtin.«dict.__eq__» ⟨[.ref y, .ref l], []⟩) R E s := by
  unfold Builtin.«dict.__eq__»
  wp_walk
  refine (PySem.W.looks_subIn X hsub).here ?_
  wp_walk
  exact h
theorem dec_tup {y d : Addr} {items : Array Value} {n : Nat} {dd : Option Addr} {sl : Array (Option Value)} (X : K.In s.heap) (hsub : PySem.W.subIn K (.ref C) (.type "tuple") = some false) (ht : s.heap.get? y = some { cls := .type "tuple", dict := dd, data := .seq items n, slots := sl }) (hl : s.heap.get? x = some (PySem.W.instObj C d)) : wpAny (model prog w) A (tryCompare (.ref y) "__eq__" (.ref x)) (fun r s' => r = none ∧ s' = s) E s :=
  wpAny_tryCompare_declines (show s.TypeIs (.ref y) "tuple" from ⟨_, ht, rfl⟩) F.slot_tuple_eq_refl (wpAny_call (codeAny_call_builtin F.slot_tuple_eq_refl.plain F.entry_tuple_eq (F.slot_tuple_eq_refl.check _ _ _ _ _ _ _ _ (show s.TypeIs (.ref y) "tuple" from ⟨_, ht, rfl⟩) (F.args_tuple_eq_2 _ _) (tup_ref X hsub ht hl ⟨rfl, rfl, rfl⟩))))
theorem dec_lst {y d : Addr} {items : Array Value} {n : Nat} {dd : Option Addr} {sl : Array (Option Value)} (X : K.In s.heap) (hsub : PySem.W.subIn K (.ref C) (.type "list") = some false) (ht : s.heap.get? y = some { cls := .type "list", dict := dd, data := .seq items n, slots := sl }) (hl : s.heap.get? x = some (PySem.W.instObj C d)) : wpAny (model prog w) A (tryCompare (.ref y) "__eq__" (.ref x)) (fun r s' => r = none ∧ s' = s) E s :=
  wpAny_tryCompare_declines (show s.TypeIs (.ref y) "list" from ⟨_, ht, rfl⟩) F.slot_list_eq_refl (wpAny_call (codeAny_call_builtin F.slot_list_eq_refl.plain F.entry_list_eq (F.slot_list_eq_refl.check _ _ _ _ _ _ _ _ (show s.TypeIs (.ref y) "list" from ⟨_, ht, rfl⟩) (F.args_list_eq_2 _ _) (lst_ref X hsub ht hl ⟨rfl, rfl, rfl⟩))))
theorem dec_dct {y d : Addr} {oy : Obj} (X : K.In s.heap) (hsub : PySem.W.subIn K (.ref C) (.type "dict") = some false) (ht : s.heap.get? y = some oy) (hc : oy.cls = .type "dict") (hl : s.heap.get? x = some (PySem.W.instObj C d)) : wpAny (model prog w) A (tryCompare (.ref y) "__eq__" (.ref x)) (fun r s' => r = none ∧ s' = s) E s :=
  wpAny_tryCompare_declines (show s.TypeIs (.ref y) "dict" from ⟨_, ht, hc⟩) F.slot_dict_eq_refl (wpAny_call (codeAny_call_builtin F.slot_dict_eq_refl.plain F.entry_dict_eq (F.slot_dict_eq_refl.check _ _ _ _ _ _ _ _ (show s.TypeIs (.ref y) "dict" from ⟨_, ht, hc⟩) (F.args_dict_eq_2 _ _) (dct_ref X hsub ht hc hl ⟨rfl, rfl, rfl⟩))))
end
end OwnRev
end Pk
namespace Pk
open PySem PySem.Spec L2
/-- things whose own == declines an instance -/
inductive Odd (H : Hp) : V → String → Prop
  | non : Odd H .non "NoneType"
  | bl (b : Bool) : Odd H (.bl b) "bool"
  | int (i : Int) : Odd H (.int i) "int"
  | str (z : Str) : Odd H (.str z) "str"
  | tup {a : Addr} {L : List V} (h : H a = some (.tup L)) : Odd H (.ref a) "tuple"
  | lst {a : Addr} {L : List V} (h : H a = some (.lst L)) : Odd H (.ref a) "list"
  | dct {a : Addr} {kvs : List (Key × V)} (h : H a = some (.dK kvs)) : Odd H (.ref a) "dict"
theorem Odd.ty {K : PySem.W.Frag} {H : Hp} {y : V} {T : String} (o : Odd H y T) : TyX K H y (.type T) := by
  cases o with
  | non => exact .base .non
  | bl b => exact .base (.bl b)
  | int i => exact .base (.int i)
  | str z => exact .base (.str z)
  | tup h => exact .base (.tup h)
  | lst h => exact .base (.lst h)
  | dct h => exact .base (.dK h)
section
variable {X : Cx} {k : Nat} {C f : Addr} {fd : FuncData} {sp : Sp}
/-- y == x, x of the class C whose __eq__ is f, y a thing that declines -/
def rEqRev (K : PySem.W.Frag) (C : Addr) (sp : Sp) : R2 := fun y x H Q => ∃ (a dx : Addr) (fs : List (Str × V)) (T : String), x = .ref a ∧ H a = some (.ins C dx fs) ∧ Odd H y T ∧ PySem.W.subIn K (.ref C) (.type T) = some false ∧ sp [.ref a, y] H (fun v H' => (∃ b, v = .bl b) ∧ Q v H') E0
theorem op_eqRev (F : FnOk X.prog X.w X.K X.mg X.base CX0 k f fd ["self", "other"] sp) (hr : Room k X.A) (hs : PySem.W.findIn X.K (.ref C) "__eq__" = some (some (.ref f))) (hf : PySem.W.isFn X.K (.ref f) = true) (hb : Binds X.K fd ["self", "other"] []) : OpR X (compareOp .Eq) (rEqRev X.K C sp) := by
  rintro pins s σ H y x u v Q I ry rx ⟨a, dx, fs, T, rfl, ha, od, hsub, h⟩
  cases (show v = Value.ref a from rx)
  show wpAny (model X.prog X.w) X.A (richCompare .Eq u (.ref a)) (EP X pins σ Q) X.xe s
  obtain ⟨mA, J, _⟩ := ins_get I.hok ha
  obtain ⟨od', J, _⟩ := J.look
  obtain ⟨Pz, Z, p, -⟩ := kit_of I ry (od.ty (K := X.K))
  have hl := J.1
  refine OwnRev.rc_rev (tb := .type T) hr.units0 I.kIn J (Z.ty _ _ I.kIn p) (by intro z; cases z) hsub ?_ ?_ hs hf ?_
  · cases od with
    | non => cases ry; rfl
    | bl b => cases ry; rfl
    | int i => obtain ⟨t, rfl⟩ := ry; rfl
    | str z => obtain ⟨t, rfl⟩ := ry; rfl
    | tup h => cases ry; rfl
    | lst h => cases ry; rfl
    | dct h => cases ry; rfl
  · cases od with
    | non => cases ry; exact OwnRev.dec_none
    | bl b => cases ry; exact OwnRev.dec_bool (C := C) hl
    | int i => obtain ⟨t, rfl⟩ := ry; exact OwnRev.dec_int (C := C) hl
    | str z => obtain ⟨t, rfl⟩ := ry; exact OwnRev.dec_str (C := C) hl
    | @tup b L g =>
      cases (show u = Value.ref b from ry)
      obtain ⟨_, its, rv, o, h1, h2, n, h3⟩ := (show ObjOk X.prog X.w H s.heap b (.tup L) from I.hok b _ g)
      obtain ⟨cls, dd, data, sl⟩ := o
      dsimp only at h2 h3
      subst h2 h3
      exact OwnRev.dec_tup I.kIn hsub h1 hl
    | @lst b L g =>
      cases (show u = Value.ref b from ry)
      obtain ⟨us, r1, p1, _⟩ := I.list (SqL.of g)
      obtain ⟨⟨cls, dd, data, sl⟩, h1, h2, n, h3⟩ := id p1.isList
      dsimp only at h2 h3
      subst h2 h3
      exact OwnRev.dec_lst I.kIn hsub h1 hl
    | @dct b kvs g =>
      cases (show u = Value.ref b from ry)
      obtain ⟨t, t1, t2⟩ : s.TypeIs (.ref b) "dict" := by
        obtain ⟨_, ya, va, ra, da⟩ := (show ObjOk X.prog X.w H s.heap b (.dK kvs) from I.hok b _ g)
        first
          | exact da.typeIs
          | exact da.type
          | (obtain ⟨o, es, ep, n, e1, e2, e3⟩ := da; exact ⟨_, e1, by first | exact e2 | exact rfl⟩)
          | (obtain ⟨o, e1, e2, e3⟩ := da; exact ⟨_, e1, by first | exact e2 | exact rfl⟩)
      exact OwnRev.dec_dct I.kIn hsub t1 t2 hl
  · refine wpAny_call (codeAny_mono (F.run X.A X.stack s H ⟨[.ref a, u], []⟩ [.ref a, u] [.ref a, y] _ E0 hr I.env0 (hb s [.ref a, u] I.kIn rfl) (.cons rfl (.cons ry .nil)) h) fun r s' hq => ?_)
    match r, hq with
    | .error e, hq => exact hq.elim
    | .ok .next, hq => exact hq.elim
    | .ok .brk, hq => exact hq.elim
    | .ok .cont, hq => exact hq.elim
    | .ok (.ret z), hq =>
      obtain ⟨v, H2, I2, rv, ⟨b, rfl⟩, q2⟩ := I.after hq
      cases rv
      exact ⟨.bl b, H2, I2, rfl, q2⟩
end
end Pk
namespace Pk
open PySem L2
/-! ### rows of parts compared -/
def qData (q : QD) : PyData := .tuple [.str q.nm, .str q.mt, .tuple (q.ws.map .str), .int q.ri, .int q.tl, .int q.ma, .str q.ki]
section
variable {K : PySem.W.Frag} {H : Hp} {p : Addr} {q q' : QD}
theorem row_dp (h : RowAt H p q) : Dp K H (.ref p) (qData q) := by
  obtain ⟨a, hp, ha⟩ := h
  exact .tup (SqT.of hp) (.cons (.str _) (.cons (.str _) (.cons (.tup (SqT.of ha) (strs_dpA _)) (.cons (.int _) (.cons (.int _) (.cons (.int _) (.cons (.str _) .nil)))))))
theorem row_eqv (q q' : QD) : PyData.eqv (qData q) (qData q') = decide (q = q') := by
  have e := strs_eqvA q.ws q'.ws
  unfold qData
  simp only [PyData.eqv, PyData.eqvAll, e, Bool.and_true]
  obtain ⟨a1, a2, a3, a4, a5, a6, a7⟩ := q
  obtain ⟨b1, b2, b3, b4, b5, b6, b7⟩ := q'
  rw [Bool.eq_iff_iff]
  simp only [Bool.and_eq_true, decide_eq_true_iff, beq_iff_eq, QD.mk.injEq]
theorem name_strOk {z : Str} (h : nameT z = true) : PyData.strOk z = true := by
  have e := name_thg (H := fun _ => none) h
  cases e with
  | str z hl ho => exact (sok_iff _).mpr ho.ok
theorem kin_strOk {z : Str} (h : nameE (.str z) = true) : PyData.strOk z = true := by
  unfold nameE at h
  rcases Bool.or_eq_true_iff.mp h with h | h
  · exact name_strOk h
  · rw [V.str.inj (of_decide_eq_true h)]
    decide +kernel
theorem ws_strOk (v : QV q) : q.ws.all PyData.strOk = true := List.all_eq_true.mpr fun w hw => text_strOk (v.wt w hw)
theorem row_canLay (v : QV q) : (qData q).canLay0 = true := by
  have e := PyProof.Rows.canLayAll_strs' q.ws
  rw [ws_strOk v] at e
  simp [qData, PyData.canLay0, PyData.canLayAll0, name_strOk v.nm, name_strOk v.mt, kin_strOk v.ki, e]
theorem row_depth : (qData q).depth = 2 := by
  simp [qData, PyData.depth, PyData.depthAll, strs_depthA]
theorem row_shaped (v : QV q) : SeqAt.shaped (qData q) = true := by
  have e := row_canLay v
  have d := row_depth (q := q)
  simp [SeqAt.shaped, e, d]
end
/-! ### alike_right -/
def spAlike (CQ : Addr) : Sp := fun vs H Q _ => ∃ (p p2 x y : Addr) (q q2 : QD), vs = [.ref p, .ref p2, .ref x, .ref y] ∧ RowAt H p q ∧ QV q ∧ RowAt H p2 q2 ∧ QV q2 ∧ QI CQ H x q ∧ QI CQ H y q2 ∧ ∀ H', Same H H' → Q (.bl true) H'
section
variable {K : PySem.W.Frag} {CQ : Addr} {H : Hp} {x y : Addr} {q q2 : QD}
theorem QI.ty (C : QCls K CQ) (CT : QTy K CQ) (h : QI CQ H x q) : TyX K H (.ref x) (.ref CQ) := by
  obtain ⟨dx, a, h1, _⟩ := h
  exact .base (.ins h1 C.cls CT.ha CT.hn CT.ht CT.hm)
theorem QI.eqOf (h : QI CQ H x q) (k : QI CQ H y q2) : EqOf CQ (spQEq K CQ) x y H (decide (q = q2)) := by
  by_cases e : x = y
  · subst e
    exact .inl ⟨rfl, decide_eq_true (h.uniq k)⟩
  · obtain ⟨dx, a, h1, _⟩ := id h
    obtain ⟨dy, b, k1, _⟩ := id k
    exact .inr ⟨e, ⟨_, _, h1⟩, ⟨_, _, k1⟩, x, .ref y, q, rfl, h, .inl ⟨y, q2, rfl, k, rfl, rfl⟩⟩
end
section
variable {P : Program} {w : World} {K : PySem.W.Frag} {mg : Str → Option Value} {base : Heap}
abbrev NAlike : List Str := ["_law_parts", "_law_others", "_law_one", "_law_other", "_law_due"]
end
end Pk
namespace Pk
open PySem L2
/-! ### the five rows and the five questions -/
structure Lay (CQ : Addr) (H : Hp) (l7 l8 : Addr) (ps xs : List Addr) (qs : List QD) : Prop where
  h7 : H l7 = some (.lst (ps.map V.ref))
  h8 : H l8 = some (.lst (xs.map V.ref))
  lp : ps.length = qs.length
  lx : xs.length = qs.length
  l5 : qs.length = 5
  rows : ∀ (i : Nat) p q, ps[i]? = some p → qs[i]? = some q → RowAt H p q
  qv : ∀ q ∈ qs, QV q
  things : ∀ (i : Nat) x q, xs[i]? = some x → qs[i]? = some q → QI CQ H x q
section
variable {CQ : Addr} {H H' : Hp} {l7 l8 : Addr} {ps xs : List Addr} {qs : List QD} {q : QD}
theorem Lay.same (L : Lay CQ H l7 l8 ps xs qs) (s : Same H H') : Lay CQ H' l7 l8 ps xs qs :=
  ⟨s _ _ L.h7, s _ _ L.h8, L.lp, L.lx, L.l5, fun i p q h1 h2 => (L.rows i p q h1 h2).same s, L.qv, fun i x q h1 h2 => (L.things i x q h1 h2).same s⟩
theorem Lay.at (L : Lay CQ H l7 l8 ps xs qs) {i : Nat} (hi : i < 5) : ∃ x q, atI (xs.map V.ref) (i : Int) = some (.ref x) ∧ xs[i]? = some x ∧ qs[i]? = some q ∧ QI CQ H x q ∧ QV q := by
  have h1 : i < xs.length := by rw [L.lx, L.l5]; exact hi
  have h2 : i < qs.length := by rw [L.l5]; exact hi
  refine ⟨xs[i], qs[i], ?_, List.getElem?_eq_getElem h1, List.getElem?_eq_getElem h2, L.things i _ _ (List.getElem?_eq_getElem h1) (List.getElem?_eq_getElem h2), L.qv _ (List.getElem_mem h2)⟩
  refine atI_nat ?_
  rw [List.getElem?_map, List.getElem?_eq_getElem h1]
  rfl
theorem rows_dp {K : PySem.W.Frag} : ∀ {ps : List Addr} {qs : List QD}, ps.length = qs.length → (∀ (i : Nat) p q, ps[i]? = some p → qs[i]? = some q → RowAt H p q) → DpAll K H (ps.map V.ref) (qs.map qData)
  | [], [], _, _ => .nil
  | p :: ps, q :: qs, l, h => .cons (row_dp (h 0 p q rfl rfl)) (rows_dp (Nat.succ.inj l) fun i p q h1 h2 => h (i + 1) p q h1 h2)
  | [], _ :: _, l, _ => by cases l
  | _ :: _, [], l, _ => by cases l
theorem rows_can : ∀ {qs : List QD}, (∀ q ∈ qs, QV q) → PyData.canLayAll0 (qs.map qData) = true
  | [], _ => by simp [PyData.canLayAll0]
  | q :: qs, h => by
    rw [List.map_cons]
    simp [PyData.canLayAll0, row_canLay (h q List.mem_cons_self), rows_can fun z hz => h z (List.mem_cons_of_mem _ hz)]
theorem rows_depth : ∀ qs : List QD, PyData.depthAll (qs.map qData) ≤ 2
  | [] => by simp [PyData.depthAll]
  | q :: qs => by
    have ih := rows_depth qs
    have e := row_depth (q := q)
    rw [List.map_cons]
    simp only [PyData.depthAll, e]
    omega
theorem rows_shaped (h : ∀ q ∈ qs, QV q) : SeqAt.shaped (.list (qs.map qData)) = true := by
  have e := rows_can h
  have d := rows_depth qs
  simp [SeqAt.shaped, PyData.canLay0, PyData.depth, e]
  omega
theorem cnt_rows : ∀ qs : List QD, (qs.map qData).countP (fun z => PyData.eqv z (qData q)) = qs.countP fun z => decide (z = q)
  | [] => rfl
  | z :: qs => by
    rw [List.map_cons, List.countP_cons, List.countP_cons, cnt_rows qs, row_eqv]
open Classical in
noncomputable def eQ (CQ : Addr) (H : Hp) (q : QD) : Addr → Bool := fun a => decide (QI CQ H a q)
theorem eQ_of {x : Addr} {z : QD} (h : QI CQ H x z) : eQ CQ H q x = decide (z = q) := by
  unfold eQ
  refine decide_eq_decide.mpr ⟨fun k => h.uniq k, fun e => ?_⟩
  rw [← e]
  exact h
theorem cnt_things : ∀ {xs : List Addr} {qs : List QD}, xs.length = qs.length → (∀ (i : Nat) x q, xs[i]? = some x → qs[i]? = some q → QI CQ H x q) → xs.countP (eQ CQ H q) = qs.countP fun z => decide (z = q)
  | [], [], _, _ => rfl
  | x :: xs, z :: qs, l, h => by
    rw [List.countP_cons, List.countP_cons, cnt_things (Nat.succ.inj l) fun i p q h1 h2 => h (i + 1) p q h1 h2, eQ_of (h 0 x z rfl rfl)]
  | [], _ :: _, l, _ => by cases l
  | _ :: _, [], l, _ => by cases l
theorem Lay.eqs {K : PySem.W.Frag} (L : Lay CQ H l7 l8 ps xs qs) {c : Addr} (hc : QI CQ H c q) : ∀ a ∈ xs, EqOf CQ (spQEq K CQ) a c H (eQ CQ H q a) := fun a ha => by
  obtain ⟨i, hi, rfl⟩ := List.mem_iff_getElem.mp ha
  have h2 : i < qs.length := by rw [← L.lx]; exact hi
  have k := L.things i _ _ (List.getElem?_eq_getElem hi) (List.getElem?_eq_getElem h2)
  rw [eQ_of k]
  exact k.eqOf hc
/-- the first place of an equal one -/
theorem Lay.first (L : Lay CQ H l7 l8 ps xs qs) {i : Nat} (hq : qs[i]? = some q) : ∃ j x, xs[j]? = some x ∧ eQ CQ H q x = true ∧ (∀ m a', m < j → xs[m]? = some a' → eQ CQ H q a' = false) ∧ (qs.map qData)[j]? = some (qData q) ∧ ∀ (m : Nat) (z' : PyData), m < j → (qs.map qData)[m]? = some z' → PyData.eqv z' (qData q) = false := by
  have hm : ∃ z ∈ qs, decide (z = q) = true := ⟨q, List.mem_of_getElem? hq, decide_eq_true rfl⟩
  have lt : qs.findIdx (fun z => decide (z = q)) < qs.length := List.findIdx_lt_length_of_exists hm
  have lx : qs.findIdx (fun z => decide (z = q)) < xs.length := by rw [L.lx]; exact lt
  have hit : qs[qs.findIdx (fun z => decide (z = q))] = q := of_decide_eq_true (List.findIdx_getElem (p := fun z => decide (z = q)) (w := lt))
  have no : ∀ m (h : m < qs.findIdx (fun z => decide (z = q))), ¬ (qs[m]'(by omega) = q) := fun m h => by
    have := List.not_of_lt_findIdx h
    simpa using this
  refine ⟨qs.findIdx (fun z => decide (z = q)), xs[qs.findIdx (fun z => decide (z = q))], List.getElem?_eq_getElem lx, ?_, fun m a' hm' ha' => ?_, ?_, fun m z' hm' hz' => ?_⟩
  · rw [eQ_of (L.things _ _ _ (List.getElem?_eq_getElem lx) (List.getElem?_eq_getElem lt)), hit]
    exact decide_eq_true rfl
  · have hm2 : m < qs.length := by omega
    rw [eQ_of (L.things m _ _ ha' (List.getElem?_eq_getElem hm2))]
    exact decide_eq_false (no m hm')
  · rw [List.getElem?_map, List.getElem?_eq_getElem lt, hit]
    rfl
  · have hm2 : m < qs.length := by omega
    rw [List.getElem?_map, List.getElem?_eq_getElem hm2] at hz'
    cases hz'
    rw [row_eqv]
    exact decide_eq_false (no m hm')
end
/-! ### things of other kinds -/
def oddTys : List String := ["NoneType", "bool", "int", "str", "tuple", "list", "dict"]
def oddB (K : PySem.W.Frag) (CQ : Addr) : Bool := oddTys.all fun T => PySem.W.notFirst K CQ (.type T) && (PySem.W.kitOne K (.type T) (.ref CQ) == some false) && (PySem.W.subIn K (.ref CQ) (.type T) == some false)
theorem Odd.mem {H : Hp} {y : V} {T : String} (o : Odd H y T) : T ∈ oddTys := by
  cases o <;> simp [oddTys]
theorem oddB_of {K : PySem.W.Frag} {CQ : Addr} {H : Hp} {y : V} {T : String} (h : oddB K CQ = true) (o : Odd H y T) : PySem.W.notFirst K CQ (.type T) = true ∧ PySem.W.kitOne K (.type T) (.ref CQ) = some false ∧ PySem.W.subIn K (.ref CQ) (.type T) = some false := by
  have := List.all_eq_true.mp h T o.mem
  simp only [Bool.and_eq_true, beq_iff_eq] at this
  exact ⟨this.1.1, this.1.2, this.2⟩
theorem Odd.same {H H' : Hp} {y : V} {T : String} (o : Odd H y T) (s : Same H H') : Odd H' y T := by
  cases o with
  | non => exact .non
  | bl b => exact .bl b
  | int i => exact .int i
  | str z => exact .str z
  | tup h => exact .tup (s _ _ h)
  | lst h => exact .lst (s _ _ h)
  | dct h => exact .dct (s _ _ h)
end Pk
namespace Pk
open PySem L2
/-! ### going round -/
theorem rot_get {α : Type} {l : List α} {a k : Nat} (ha : a < l.length) (hk : k < l.length) : (rotL l a)[k]? = l[(a + k) % l.length]? := by
  unfold rotL
  rcases Nat.lt_or_ge k (l.length - a) with h | h
  · rw [List.getElem?_append_left (by rw [List.length_drop]; exact h), List.getElem?_drop, Nat.mod_eq_of_lt (by omega)]
  · rw [List.getElem?_append_right (by rw [List.length_drop]; exact h), List.length_drop, List.getElem?_take]
    have e : (a + k) % l.length = k - (l.length - a) := by
      rw [Nat.mod_eq_sub_mod (by omega), Nat.mod_eq_of_lt (by omega)]
      omega
    rw [e, if_pos (by omega)]
theorem rot_rot {α : Type} {l : List α} {a b : Nat} (ha : a < l.length) (hb : b < l.length) : rotL (rotL l a) b = rotL l ((a + b) % l.length) := by
  have hc : (a + b) % l.length < l.length := Nat.mod_lt _ (by omega)
  refine List.ext_getElem? fun k => ?_
  rcases Nat.lt_or_ge k l.length with hk | hk
  · rw [rot_get (by rw [rot_len]; exact hb) (by rw [rot_len]; exact hk), rot_len, rot_get ha (Nat.mod_lt _ (by omega)), rot_get hc hk]
    congr 1
    rw [Nat.add_mod_mod, Nat.mod_add_mod, Nat.add_assoc]
  · rw [List.getElem?_eq_none (by rw [rot_len, rot_len]; exact hk), List.getElem?_eq_none (by rw [rot_len]; exact hk)]
/-- a question turned, as data -/
def turnQ (q : QD) (i : Int) : QD := { q with ws := rotL q.ws (i % q.ws.length).toNat, ri := (q.ri - i % q.ws.length) % q.ws.length }
structure QJ (CQ : Addr) (H : Hp) (x : Addr) (q : QD) : Prop where
  qi : QI CQ H x q
  v : QV q
  nd : q.ws.Nodup
section
variable {q : QD}
theorem QV.n0 (v : QV q) : (0 : Int) < q.ws.length := by
  have := v.w2
  omega
theorem emod_nat {i : Int} {n : Nat} (h : (0 : Int) < n) : (((i % n).toNat : Nat) : Int) = i % n ∧ (i % n).toNat < n := by
  have h1 := Int.emod_nonneg i (show (n : Int) ≠ 0 by omega)
  have h2 := Int.emod_lt_of_pos i h
  omega
theorem turn_v (v : QV q) (i : Int) : QV (turnQ q i) := by
  have h0 := v.n0
  have l : (turnQ q i).ws.length = q.ws.length := rot_len _ _
  refine ⟨v.nm, v.mt, by rw [l]; exact v.w2, by rw [l]; exact v.w6, fun w hw => v.wt w (rot_mem hw), Int.emod_nonneg _ (by omega), ?_, v.t1, v.t9, v.m1, v.m9, v.ki⟩
  rw [l]
  exact Int.emod_lt_of_pos _ h0
theorem turn_nd (h : q.ws.Nodup) (i : Int) : (turnQ q i).ws.Nodup := (rot_perm _ _).nodup_iff.mpr h
theorem turn_turn (v : QV q) (i j : Int) : turnQ (turnQ q i) j = turnQ q (i + j) := by
  have h0 := v.n0
  obtain ⟨e1, l1⟩ := emod_nat (i := i) h0
  obtain ⟨e2, l2⟩ := emod_nat (i := j) h0
  obtain ⟨e3, l3⟩ := emod_nat (i := i + j) h0
  have l : (turnQ q i).ws.length = q.ws.length := rot_len _ _
  unfold turnQ at l ⊢
  dsimp only at l ⊢
  rw [l]
  have a1 : rotL (rotL q.ws (i % q.ws.length).toNat) (j % q.ws.length).toNat = rotL q.ws ((i + j) % q.ws.length).toNat := by
    rw [rot_rot l1 l2]
    congr 1
    have : ((((i % q.ws.length).toNat + (j % q.ws.length).toNat) % q.ws.length : Nat) : Int) = (i + j) % q.ws.length := by
      rw [Int.natCast_emod, Int.natCast_add, e1, e2, ← Int.add_emod]
    omega
  have a2 : ((q.ri - i % q.ws.length) % q.ws.length - j % q.ws.length) % q.ws.length = (q.ri - (i + j) % q.ws.length) % (q.ws.length : Int) := by
    generalize (q.ws.length : Int) = n
    generalize q.ri = r
    have f1 := Int.emod_def i n
    have f2 := Int.emod_def j n
    have f3 := Int.emod_def (i + j) n
    have f4 := Int.emod_def (r - i % n) n
    have g1 : (r - i % n) % n - j % n = (r - i - j) + n * (i / n - (r - i % n) / n + j / n) := by
      simp only [Int.mul_add, Int.mul_sub]
      omega
    have g2 : r - (i + j) % n = (r - i - j) + n * ((i + j) / n) := by omega
    rw [g1, g2, Int.add_mul_emod_self_left, Int.add_mul_emod_self_left]
  rw [a1, a2]
theorem turn_all (v : QV q) : turnQ q q.ws.length = q := by
  have h0 := v.n0
  have r0 := v.r0
  have r1 := v.r1
  unfold turnQ
  rw [Int.emod_self, Int.sub_zero, Int.emod_eq_of_lt r0 r1]
  show QD.mk q.nm q.mt (rotL q.ws 0) q.ri q.tl q.ma q.ki = q
  rw [rot_zero]
theorem turn_inj (v : QV q) (nd : q.ws.Nodup) {a b : Nat} (ha : a < q.ws.length) (hb : b < q.ws.length) (h : turnQ q a = turnQ q b) : a = b := by
  have e := congrArg (fun z => z.ws[0]?) h
  have m : ∀ {c : Nat}, c < q.ws.length → (turnQ q c).ws[0]? = q.ws[c]? := fun {c} hc => by
    unfold turnQ
    dsimp only
    rw [show (((c : Nat) : Int) % q.ws.length).toNat = c by rw [Int.emod_eq_of_lt (by omega) (by omega)]; rfl, rot_get hc (by omega), Nat.add_zero, Nat.mod_eq_of_lt hc]
  have e : (turnQ q a).ws[0]? = (turnQ q b).ws[0]? := e
  rw [m ha, m hb] at e
  exact (List.getElem?_inj ha nd).mp e
/-- the right answer stays -/
theorem turn_right (v : QV q) (i : Int) : (turnQ q i).ws[(turnQ q i).ri.toNat]? = q.ws[q.ri.toNat]? := by
  have h0 := v.n0
  have r0 := v.r0
  have r1 := v.r1
  obtain ⟨e1, l1⟩ := emod_nat (i := i) h0
  obtain ⟨e2, l2⟩ := emod_nat (i := q.ri - i % q.ws.length) h0
  unfold turnQ
  dsimp only
  rw [rot_get l1 l2]
  congr 1
  have : ((((i % q.ws.length).toNat + ((q.ri - i % q.ws.length) % q.ws.length).toNat) % q.ws.length : Nat) : Int) = q.ri := by
    rw [Int.natCast_emod, Int.natCast_add, e1, e2, Int.add_emod_emod, show i % (q.ws.length : Int) + (q.ri - i % (q.ws.length : Int)) = q.ri by omega, Int.emod_eq_of_lt r0 r1]
  omega
end
end Pk
/-! ### sorted(xs, key=f), f a def of the text that tells data -/
namespace Pk
open PySem PySem.Spec L2
section
variable {X : Cx} {k : Nat} {f : Addr} {fd : FuncData} {ps : List Str} {sp : Sp}
mutual
theorem dp_same {K : PySem.W.Frag} {H H' : Hp} (k : Same H H') : ∀ {v : V} {d : PyData}, Dp K H v d → Dp K H' v d
  | _, _, .non => .non
  | _, _, .bl b => .bl b
  | _, _, .int i => .int i
  | _, _, .str x => .str x
  | _, _, .lst h hs => .lst (SqL.ext h k) (dps_same k hs)
  | _, _, .tup h hs => .tup (SqT.ext h k) (dps_same k hs)
theorem dps_same {K : PySem.W.Frag} {H H' : Hp} (k : Same H H') : ∀ {vs : List V} {ds : List PyData}, DpAll K H vs ds → DpAll K H' vs ds
  | _, _, .nil => .nil
  | _, _, .cons h hs => .cons (dp_same k h) (dps_same k hs)
end
/-- a def called from within a builtin -/
theorem call_in (F : FnOk X.prog X.w X.K X.mg X.base CX0 k f fd ps sp) (hb : Binds X.K fd ps []) {A : Around} (sb : Sub X k A) {pins : List (Addr × Obj)} {s : Shared} {σ : St} {H : Hp} (I : Inv X pins σ H s) {x : V} {u : Value} (r : RelV x u) {Q : VK} (h : sp [x] H Q E0) (E : Value → Shared → Prop) :
    wpAny (model X.prog X.w) A (call (.ref f) [u]) (EP X pins σ Q) E s := by
  have e0 : Env0 X.prog X.w X.K X.mg X.base A X.stack s H := by
    have e := I.env0
    exact ⟨by rw [sb.fr]; exact e.frames, e.mod, e.bs, e.bsz, e.funs, e.frf, e.hok, e.bare⟩
  have hl := F.len _ _ _ _ h
  refine wpAny_call (codeAny_mono (F.run A X.stack s H ⟨[u], []⟩ [u] [x] _ E0 sb.room e0 (by
    have := hb s [u] I.kIn (by simpa using hl)
    simpa using this) (.cons r .nil) h) fun r s' hq => ?_)
  match r, hq with
  | .error e, hq => exact hq.elim
  | .ok .next, hq => exact hq.elim
  | .ok .brk, hq => exact hq.elim
  | .ok .cont, hq => exact hq.elim
  | .ok (.ret z), hq => exact I.after hq
/-- the heap without the object at a -/
def off (h : Heap) (a : Addr) : Heap := h.update a fun o => { o with data := .freed }
theorem off_at {h : Heap} {a : Addr} (hl : a < h.objs.size) : (off h a).get? a = none := by
  have e : (off h a).objs[a]? = some { h.objs[a] with data := .freed } := by
    unfold off Heap.update
    rw [Array.getElem?_modify]
    simp [hl]
  unfold Heap.get?
  rw [e]
theorem off_ne {h : Heap} {a b : Addr} (n : b ≠ a) : (off h a).get? b = h.get? b := (Heap.SameBut.update h a _).2 b n
theorem fp_of {pins : List (Addr × Obj)} {H H' : Hp} {b : Addr} (fp : FpOk X pins H b) (hn : H' b = none) : FpOk X pins H' b := ⟨hn, fp.2⟩
/-- an object that stands there is tracked from now on -/
theorem adopt {pins : List (Addr × Obj)} {s : Shared} {σ : St} {H : Hp} {a : Addr} {o : HO} (I : Inv X pins σ H s) (fp : FpOk X pins H a) (hs : X.s_0.heap.objs.size ≤ a) (new : ObjOk X.prog X.w (upd H a o) s.heap a o) : Inv X pins σ (upd H a o) s := by
  have hn := fp.1
  have up : ∀ {b : Addr} {u : HO}, H b = some u → upd H a o b = some u := fun {b u} e => by
    rw [upd_ne (ne_of_none e hn)]
    exact e
  refine ⟨I.ok, I.os, I.bare, ⟨I.base.keep, I.base.slot, fun b ob q n hx => ?_, I.base.there, fun b xs q => up (I.base.tups b xs q), fun b ob u q => up (I.base.frzs b ob u q), fun b ps q => ?_⟩, I.loc, I.cell, ?_, fun x c e => ?_, fun p hp => ?_, fun b u e => ?_, I.len⟩
  · rw [upd_ne (Nat.ne_of_lt (Nat.lt_of_lt_of_le (Heap.lt_size q) hs))]
    exact I.base.free b ob q n hx
  · obtain ⟨more, e⟩ := I.base.tbls b ps q
    exact ⟨more, up e⟩
  · rw [upd_ne fp.2.1.symm]
    exact I.free
  · rw [upd_ne (fp.2.2.2.2.1 x c e)]
    exact I.freeC x c e
  · obtain ⟨p1, p2, p3⟩ := I.pin p hp
    refine ⟨p1, ?_, p3⟩
    rw [upd_ne (fp.2.2.2.2.2 p hp)]
    exact p2
  · by_cases hb : b = a
    · subst hb
      rw [upd_same] at e
      cases e
      exact new
    · rw [upd_ne hb] at e
      exact (I.hok b u e).stay (fun c v _ q => q) (fun c q => up q) fun c xs q => up q
theorem each_reads {pins : List (Addr × Obj)} {s : Shared} {σ : St} {H : Hp} (I : Inv X pins σ H s) : ∀ {kv : List V} {us : List Value} {bs : List (V × PyData)}, Vals kv us → kv.length = bs.length → (∀ (i : Nat) t b, kv[i]? = some t → bs[i]? = some b → Dp X.K H t b.2) → PySem.W.EachIs (fun v d => ∃ as, Reads s.heap v d as) us (bs.map Prod.snd)
  | [], _, [], .nil, _, _ => .nil
  | t :: kv, _, b :: bs, .cons r rs, l, h => .cons (Dp.reads I b.2 t _ (h 0 t b rfl rfl) r) (each_reads I rs (Nat.succ.inj l) fun i t b h1 h2 => h (i + 1) t b h1 h2)
  | [], _, _ :: _, _, l, _ => by cases l
  | _ :: _, _, [], _, l, _ => by cases l
theorem each_rel : ∀ {bs : List (V × PyData)} {us : List Value}, Vals (bs.map Prod.fst) us → PySem.W.EachIs (fun v (b : V × PyData) => RelV b.1 v) us bs
  | [], _, .nil => .nil
  | b :: bs, _, .cons r rs => .cons r (each_rel rs)
theorem rel_each : ∀ {bs : List (V × PyData)} {us : List Value}, PySem.W.EachIs (fun v (b : V × PyData) => RelV b.1 v) us bs → Vals (bs.map Prod.fst) us
  | [], _, .nil => .nil
  | b :: bs, _, .cons r rs => .cons r (rel_each rs)
theorem vals_snoc : ∀ {xs : List V} {us : List Value} {x : V} {u : Value}, Vals xs us → RelV x u → Vals (xs ++ [x]) (us ++ [u])
  | [], _, _, _, .nil, r => .cons r .nil
  | _ :: _, _, _, _, .cons r1 rs, r => .cons r1 (vals_snoc rs r)
/-- the body of list.sort with a key -/
theorem tree_own (F : FnOk X.prog X.w X.K X.mg X.base CX0 k f fd ps sp) (hb : Binds X.K fd ps []) {A : Around} (sb : Sub X k A) (hu : A.units + 64 < cLine) {pins : List (Addr × Obj)} {s : Shared} {σ : St} {H : Hp} (I : Inv X pins σ H s) {a : Addr} {n : Nat} {its : List Value} {bs : List (V × PyData)}
    (ho : s.heap.get? a = some (PyProof.Rows.seqObj "list" its.toArray n)) (fpA : FpOk X pins H a) (rv : Vals (bs.map Prod.fst) its) (hz : bs.length ≤ sizeLine) (hal : PySem.W.AllAlike (bs.map Prod.snd)) (hsk : PySem.W.Sortable (bs.map Prod.snd)) (hdep : ∀ b ∈ bs, b.2.depth ≤ 8)
    (hsp : ∀ b ∈ bs, ∀ H', Same H H' → sp [b.1] H' (fun t H2 => Same H' H2 ∧ Dp X.K H2 t b.2) E0) {P : PySem.Fin → Shared → Prop} {E : Value → Shared → Prop}
    (fin : ∀ (s' : Shared) (H' : Hp) (out : List Value) (c : Nat), Inv X pins σ H' s' → Same H H' → FpOk X pins H' a → s'.heap.get? a = some (PyProof.Rows.seqObj "list" out.toArray c) → Vals ((bs.mergeSort (PySem.W.dataLe false Prod.snd)).map Prod.fst) out → P (.done (.ret .none)) s') :
    wpAny (model X.prog X.w) A (PyProof.Rows.ksk_tree a (.ref f) false) P E s := by
  have lv : its.length = bs.length := by
    have := rv.length
    rw [List.length_map] at this
    omega
  have sm1 := Heap.SameBut.update s.heap a (Obj.mapSeq fun _ => (#[] : Array Value))
  obtain ⟨e1, ho1⟩ : ∃ e1, (s.heap.update a (Obj.mapSeq fun _ => (#[] : Array Value))).get? a = some (PyProof.Rows.seqObj "list" #[] e1) := ⟨_, PyProof.Rows.get?_update_seq ho fun _ => #[]⟩
  have I1 : Inv X pins σ H { s with heap := s.heap.update a (Obj.mapSeq fun _ => (#[] : Array Value)) } := I.turnedL (t' := s.toks) (ch := [a]) (fun b o hb e => (sm1.2 b (by simpa using hb)).trans e) (fun b hb => by rw [List.mem_singleton.mp hb]; exact fpA)
  unfold PyProof.Rows.ksk_tree
  refine wpAny_bind (PyProof.Rows.listItems_at ho rfl ?_)
  refine wpAny_bind (PyProof.Rows.listUpdate_at ho rfl ?_ (by rw [List.size_toArray, lv]; exact hz) (Nat.zero_le _))
  refine wpAny_bind (PyProof.Rows.seqEpoch_at ho1 rfl ?_)
  refine wpAny_bind (wpAny_newTuple ?_ (by show its.length ≤ _; omega))
  refine wpAny_bind (wpAny_newList ?_ (Nat.zero_le _))
  refine wpAny_holding ?_
  dsimp only
  generalize hh1 : s.heap.update a (Obj.mapSeq fun _ => (#[] : Array Value)) = h1 at I1 ho1
  have k2 : ∀ b o, h1.get? b = some o → ((h1.push (PyProof.Rows.seqObj "tuple" its.toArray 0)).push (PyProof.Rows.seqObj "list" #[] 0)).get? b = some o := fun b o e => Heap.get?_push_of_some _ (Heap.get?_push_of_some _ e)
  have nk2 : ((h1.push (PyProof.Rows.seqObj "tuple" its.toArray 0)).push (PyProof.Rows.seqObj "list" #[] 0)).get? (h1.push (PyProof.Rows.seqObj "tuple" its.toArray 0)).objs.size = some (PyProof.Rows.seqObj "list" #[] 0) := Heap.get?_push_size _ rfl
  have hle : h1.objs.size ≤ (h1.push (PyProof.Rows.seqObj "tuple" its.toArray 0)).objs.size := by
    rw [PyProof.Rows.size_push']
    exact Nat.le_succ _
  have fpK : FpOk X pins H (h1.push (PyProof.Rows.seqObj "tuple" its.toArray 0)).objs.size := I1.fpOk hle (I1.hok.fresh hle)
  have alt : a < h1.objs.size := Heap.lt_size ho1
  generalize (h1.push (PyProof.Rows.seqObj "tuple" its.toArray 0)).objs.size = kS at nk2 fpK hle ⊢
  have hka : kS ≠ a := fun e => absurd (e ▸ hle) (Nat.not_le_of_lt alt)
  generalize (h1.push (PyProof.Rows.seqObj "tuple" its.toArray 0)).push (PyProof.Rows.seqObj "list" #[] 0) = h2 at k2 nk2 ⊢
  have I2 : Inv X pins σ H { s with heap := h2 } := I1.kept (t' := s.toks) k2
  have na2 := k2 _ _ ho1
  -- the two lists stand still while the keys are asked for
  have pin2 : ∀ {G : Hp} {s' : Shared} {kA : Array Value} {e : Nat}, Inv X pins σ G s' → G a = none → G kS = none → s'.heap.get? a = some (PyProof.Rows.seqObj "list" #[] e1) → s'.heap.get? kS = some (PyProof.Rows.seqObj "list" kA e) → Inv X ((a, PyProof.Rows.seqObj "list" #[] e1) :: (kS, PyProof.Rows.seqObj "list" kA e) :: pins) σ G s' := by
    intro G s' kA e J g1 g2 h1 h2
    refine J.pins_of fun p hp => ?_
    rcases List.mem_cons.mp hp with rfl | hp
    · exact ⟨h1, g1, fpA.2.1, fpA.2.2.1, fun v z => by cases z⟩
    · rcases List.mem_cons.mp hp with rfl | hp
      · exact ⟨h2, g2, fpK.2.1, fpK.2.2.1, fun v z => by cases z⟩
      · exact J.pin p (List.mem_append_right _ hp)
  have unpin : ∀ {G : Hp} {s' : Shared} {kA : Array Value} {e : Nat}, Inv X ((a, PyProof.Rows.seqObj "list" #[] e1) :: (kS, PyProof.Rows.seqObj "list" kA e) :: pins) σ G s' → Inv X pins σ G s' ∧ G a = none ∧ G kS = none ∧ s'.heap.get? a = some (PyProof.Rows.seqObj "list" #[] e1) ∧ s'.heap.get? kS = some (PyProof.Rows.seqObj "list" kA e) := by
    intro G s' kA e J
    obtain ⟨x1, x2, _⟩ := J.pin (a, _) (List.mem_append_right _ (List.mem_cons_self ..))
    obtain ⟨y1, y2, _⟩ := J.pin (kS, _) (List.mem_append_right _ (List.mem_cons_of_mem _ (List.mem_cons_self ..)))
    exact ⟨J.pins_of fun p hp => J.pin p (List.mem_append_right _ (List.mem_cons_of_mem _ (List.mem_cons_of_mem _ hp))), x2, y2, x1, y1⟩
  unfold PyProof.Rows.ksk_rest
  refine wpAny_bind (wpAny_rule ?_)
  rw [List.forIn_toArray]
  refine wpAny_bind (PyProof.Rows.ksk_fold (fun j s' => ∃ (G : Hp) (kv : List V) (kA : Array Value) (e : Nat), Inv X ((a, PyProof.Rows.seqObj "list" #[] e1) :: (kS, PyProof.Rows.seqObj "list" kA e) :: pins) σ G s' ∧ Same H G ∧ Vals kv kA.toList ∧ kv.length = j ∧ ∀ (i : Nat) t b, kv[i]? = some t → bs[i]? = some b → Dp X.K G t b.2) its 0 _
    ⟨H, [], #[], 0, pin2 I2 fpA.1 fpK.1 na2 nk2, Same.refl H, .nil, rfl, fun i t b h => by simp at h⟩ ?step ?done)
  case step =>
    rintro j x s' hx ⟨G, kv, kA, e, J, sG, rk, lk, dk⟩
    rw [Nat.zero_add] at lk
    have hj : j < bs.length := by
      have := (List.getElem?_eq_some_iff.mp hx).1
      omega
    have hbj : bs[j]? = some bs[j] := List.getElem?_eq_getElem hj
    obtain ⟨u, hu', ru⟩ := rv.get (i := j) (x := bs[j].1) (by rw [List.getElem?_map, hbj]; rfl)
    rw [hx] at hu'
    cases hu'
    refine wpAny_bind (wpAny_attempt (wpAny_mono (call_in F hb sb J ru (hsp bs[j] (List.getElem_mem hj) G sG) (fun _ _ => False)) (fun v s2 he => ?_) fun _ _ hF => hF.elim))
    obtain ⟨t, G2, J2, rt, sG2, dt⟩ := he
    obtain ⟨I3, g1, g2, h1', h2'⟩ := unpin J2
    have lA : kA.size = j := by
      rw [← Array.length_toList, ← rk.length]
      exact lk
    have sm := Heap.SameBut.update s2.heap kS (Obj.mapSeq (·.push v))
    obtain ⟨c2, hc2⟩ : ∃ c2, (s2.heap.update kS (Obj.mapSeq (·.push v))).get? kS = some (PyProof.Rows.seqObj "list" (kA.push v) c2) := ⟨_, PyProof.Rows.get?_update_seq h2' (·.push v)⟩
    dsimp only
    refine wpAny_bind (PyProof.Rows.listUpdate_at h2' rfl ?_ (by rw [lA]; omega) (by rw [Array.size_push, lA]; omega))
    refine wpAny_pure ⟨rfl, G2, kv ++ [t], kA.push v, c2, pin2 (I3.turnedL (t' := s2.toks) (ch := [kS]) (fun b o hb e => (sm.2 b (by simpa using hb)).trans e) (fun b hb => by rw [List.mem_singleton.mp hb]; exact fp_of fpK g2)) g1 g2 ((sm.2 a hka.symm).trans h1') hc2, sG.trans sG2, ?_, ?_, fun i t' b h1 h2 => ?_⟩
    · rw [Array.toList_push]
      exact vals_snoc rk rt
    · rw [List.length_append, lk, Nat.zero_add]
      rfl
    · rcases Nat.lt_or_ge i kv.length with hi | hi
      · rw [List.getElem?_append_left hi] at h1
        exact dp_same sG2 (dk i t' b h1 h2)
      · have hi' : i = kv.length := by
          have := (List.getElem?_eq_some_iff.mp h1).1
          rw [List.length_append, List.length_singleton] at this
          omega
        rw [hi', List.getElem?_append_right (Nat.le_refl _), Nat.sub_self] at h1
        cases h1
        rw [hi', lk, hbj] at h2
        cases h2
        exact dt
  case done =>
    rintro s' ⟨G, kv, kA, e, J, sG, rk, lk, dk⟩
    rw [Nat.zero_add] at lk
    obtain ⟨I3, g1, g2, h1', h2'⟩ := unpin J
    have er := each_reads I3 rk (by omega) dk
    have lA : kA.size = its.length := by
      rw [← Array.length_toList, ← rk.length]
      exact lk
    refine wpAny_bind (PyProof.Rows.listItems_at h2' rfl ?_)
    refine PySem.W.keyH_end (κ := PySem.W.dataKind s'.heap (bs.map Prod.snd)) (h₁ := off s'.heap kS) (fun b o hb q => ?_) (off_at (Heap.lt_size h2')) h2' h1' hka (PySem.W.SortsAt.data er hal hsk fun d hd => ?_) lA (by omega) fun h3 tk3 c k3 n3 => ?_
    · by_cases hbk : b = kS
      · rw [hbk, off_at (Heap.lt_size h2')] at q
        cases q
      · rw [off_ne hbk] at q
        exact q
    · obtain ⟨b, hb', rfl⟩ := List.mem_map.mp hd
      have := hdep b hb'
      omega
    · refine fin _ G _ c (I3.turnedL (h' := h3) (t' := tk3) (ch := [a, kS]) (fun b o hb e => ?_) (fun b hb => ?_)) sG (fp_of fpA g1) n3 ?_
      · simp only [List.mem_cons, List.not_mem_nil, or_false, not_or] at hb
        exact k3 b o hb.1 (by rw [off_ne hb.2]; exact e)
      · simp only [List.mem_cons, List.not_mem_nil, or_false] at hb
        rcases hb with rfl | rfl
        · exact fp_of fpA g1
        · exact fp_of fpK g2
      · exact rel_each (PySem.W.keyedOut_each Prod.snd ⟨s'.heap, kA.toList, hal, rfl, er⟩ (each_rel rv))
/-- sorted(xs, key=f) of a list -/
def rSortK (K : PySem.W.Frag) (f : Addr) (sp : Sp) : List V → List V → Hp → VK → Prop := fun vs zs H Q => ∃ (l : Addr) (bs : List (V × PyData)), vs = [.ref l] ∧ zs = [.ref f] ∧ SqL K H l (bs.map Prod.fst) ∧ PySem.W.AllAlike (bs.map Prod.snd) ∧ PySem.W.Sortable (bs.map Prod.snd) ∧ (∀ b ∈ bs, b.2.depth ≤ 8) ∧
  (∀ b ∈ bs, ∀ H', Same H H' → sp [b.1] H' (fun t H2 => Same H' H2 ∧ Dp K H2 t b.2) E0) ∧ ∀ (p : Addr) (H' : Hp), Same H H' → H' p = some (.lst ((bs.mergeSort (PySem.W.dataLe false Prod.snd)).map Prod.fst)) → Q (.ref p) H'
theorem cr_sortK (F : FnOk X.prog X.w X.K X.mg X.base CX0 k f fd ps sp) (hb : Binds X.K fd ps []) (hr : Room (k + 2) X.A) (hu : X.A.units + 66 < cLine) : CallRK X (.builtin "sorted") [Str.ofString "key"] (rSortK X.K f sp) := by
  intro pins s σ H vs zs us ws Q I r rz h
  obtain ⟨l, bs, rfl, rfl, hl, hal, hsk, hdep, hsp, q⟩ := h
  obtain rfl := Vals.ref1 r
  obtain ⟨w1, rfl, e1⟩ := vals1 rz
  obtain rfl : w1 = Value.ref f := e1
  obtain ⟨its, rv, pl, hz⟩ := I.list hl
  have lv : its.length = bs.length := by
    have := rv.length
    rw [List.length_map] at this
    omega
  rw [List.length_map] at hz
  refine PySem.W.sorted_of_sort (vs := its) pl.isList (by omega) (PyProof.Rows.ksk_s1 _ _) (fun _ => PyProof.Rows.ksk_l1 _ _) fun E' => ?_
  show wpAny _ _ (Builtin.«list.sort» ⟨[.ref _], [(Str.ofString "key", .ref f)]⟩) _ _ _
  rw [PyProof.Rows.ksk_t1]
  have hn : H (s.heap.objs.size + 1) = none := I.hok.fresh (Nat.le_succ _)
  have hs0 : X.s_0.heap.objs.size ≤ s.heap.objs.size + 1 := Nat.le_trans I.sz (Nat.le_succ _)
  have sb : Sub X k X.A.in1.in1 := Sub.in1 (Sub.in1 ⟨hr, rfl⟩)
  refine tree_own F hb sb (by show X.A.units + 1 + 1 + 64 < cLine; omega) (I.kept (h' := PySem.W.copyHeap s.heap its) (t' := s.toks) fun b o e => PySem.W.copyHeap_old e) (PySem.W.copyHeap_at s.heap its) (I.fpOk (Nat.le_succ _) hn) rv (by omega) hal hsk hdep hsp (fun s' H' out c I' sH fp ho ro => ⟨rfl, ?_⟩)
  have lo : (((bs.mergeSort (PySem.W.dataLe false Prod.snd)).map Prod.fst)).length ≤ sizeLine := by
    rw [List.length_map, List.length_mergeSort]
    omega
  refine ⟨.ref _, upd H' (s.heap.objs.size + 1) (.lst ((bs.mergeSort (PySem.W.dataLe false Prod.snd)).map Prod.fst)), adopt I' fp hs0 ⟨lo, out, c, ro, ho⟩, rfl, q _ _ (sH.trans (same_upd fp.1)) upd_same⟩
end
end Pk
namespace Pk
open PySem L2
/-! ### the promises, by data -/
section
variable {CQ : Addr} {H H' : Hp} {x : Addr} {q : QD}
theorem QJ.same (h : QJ CQ H x q) (s : Same H H') : QJ CQ H' x q := ⟨h.qi.same s, h.v, h.nd⟩
theorem QJ.at (h : QJ CQ H x q) : ∃ dx a, H x = some (.ins CQ dx (qFs (.str q.nm) (.str q.mt) (.ref a) (.int q.ri) (.int q.tl) (.int q.ma) (.str q.ki))) ∧ H a = some (.tup (q.ws.map V.str)) ∧ Qok H (.str q.nm) (.str q.mt) (.ref a) (.int q.ri) (.int q.tl) (.int q.ma) (.str q.ki) := by
  obtain ⟨⟨dx, a, h1, h2, h3⟩, v, nd⟩ := h
  have tv : tupV H (.ref a) = some (q.ws.map V.str) := tupV_at h2
  have sm : (q.ws.map V.str).map strV = q.ws := by
    rw [List.map_map]
    exact List.map_id'' (fun _ => rfl) q.ws
  refine ⟨dx, a, h1, h2, ⟨name_thg v.nm, name_thg v.mt, ⟨.tup h2, fun ws e y hy => ?_⟩, .int _, .int _, .int _, ?_⟩, wr7 v.nm v.mt ?_ ?_ (whole_of v.t1 v.t9) (whole_of v.m1 v.m9) v.ki⟩
  · rw [tv] at e
    cases e
    obtain ⟨w, hw, rfl⟩ := List.mem_map.mp hy
    exact text_thg (v.wt w hw)
  · have := v.ki
    unfold nameE at this
    rcases Bool.or_eq_true_iff.mp this with h | h
    · exact name_thg h
    · rw [of_decide_eq_true h]
      exact thg_empty
  · rw [answersV_at h2]
    refine answers_of (by rw [List.length_map]; exact v.w2) (by rw [List.length_map]; exact v.w6) (List.all_eq_true.mpr fun y hy => ?_) (by rw [sm]; exact nd)
    obtain ⟨w, hw, rfl⟩ := List.mem_map.mp hy
    exact v.wt w hw
  · refine whole_of v.r0 ?_
    rw [manyV_at h2, List.length_map]
    have := v.r1
    omega
theorem qj_of {b dy y : Addr} {q' : QD} (v : QV q') (nd : q'.ws.Nodup) (hy : H y = some (.ins CQ dy (qFs (.str q'.nm) (.str q'.mt) (.ref b) (.int q'.ri) (.int q'.tl) (.int q'.ma) (.str q'.ki)))) (hb : H b = some (.tup (q'.ws.map V.str))) : QJ CQ H y q' := ⟨⟨dy, b, hy, hb, ws_strOk v⟩, v, nd⟩
end
/-! ### need_question, is_kin, toil_order -/
def spToilOrd (CQ : Addr) : Sp := fun vs H Q _ => ∃ (x : Addr) (q : QD), vs = [.ref x] ∧ QJ CQ H x q ∧ ∀ (t : Addr) (H' : Hp), Same H H' → H' t = some (.tup [.int q.tl, .str q.mt, .str q.nm]) → Q (.ref t) H'
section
variable {P : Program} {w : World} {K : PySem.W.Frag} {mg : Str → Option Value} {base : Heap}
theorem scNeedQ : FnScope ["thing"] ["thing"] (defScope sNeedQ) := ⟨rfl, rfl, rfl, by decide +kernel, rfl, by decide +kernel, by decide +kernel⟩
theorem scKin : FnScope ["self", "other"] ["self", "other"] (defScope sQKin) := ⟨rfl, rfl, rfl, by decide +kernel, rfl, by decide +kernel, by decide +kernel⟩
theorem scToilOrd : FnScope ["question"] ["question"] (defScope sToilOrd) := ⟨rfl, rfl, rfl, by decide +kernel, rfl, by decide +kernel, by decide +kernel⟩
theorem ok_toilOrd {f CQ : Addr} {fd : FuncData} (F : Fun K "toil_order" "toil_order" sToilOrd f fd) (C : QCls K CQ) : FnOk P w K mg base CX0 1 f fd ["question"] (spToilOrd CQ) := by
  refine F.ok scToilOrd (fun vs H Q E h => ?_) (fun cdv A outer s H vs Q E hr h => ?_)
  · obtain ⟨x, q, rfl, _⟩ := h
    rfl
  · obtain ⟨x, q, rfl, j, fin⟩ := h
    obtain ⟨dx, a, hx, ha, _⟩ := j.at
    refine ⟨_, pss_one (ps_ret (pe_tup (pa_cons (pe_fld (pv 0) rfl) (pa_cons (pe_fld (pv 0) rfl) (pa_cons (pe_fld (pv 0) rfl) pa_nil))))), ?_⟩
    refine ⟨_, rfl, x, CQ, dx, _, _, rfl, hx, C.cls, C.no _ (by decide), look_toil _ _ _ _ _ _ _, _, rfl, x, CQ, dx, _, _, rfl, hx, C.cls, C.no _ (by decide), look_matter _ _ _ _ _ _ _, _, rfl, x, CQ, dx, _, _, rfl, hx, C.cls, C.no _ (by decide), look_name _ _ _ _ _ _ _, by show 3 ≤ sizeLine; decide, fun t n => ?_⟩
    exact fin t _ (same_upd n) upd_same
end
end Pk
/-! ### readings by either of two rules -/
namespace Pk
open PySem PySem.Spec L2
section
variable {X : Cx} {tg e : Expr}
def iOr (w1 w2 : TI) : TI := fun σ H R => w1 σ H R ∨ w2 σ H R
theorem pi_or {w1 w2 : TI} (h1 : PI X tg e w1) (h2 : PI X tg e w2) : PI X tg e (iOr w1 w2) := ⟨fun pins s σ H R I h => h.elim (h1.run pins s σ H R I) (h2.run pins s σ H R I)⟩
def tOr2 (t1 t2 : TE) : TE := fun σ H Q => t1 σ H Q ∨ t2 σ H Q
theorem pe_or2 {t1 t2 : TE} (h1 : PE X e t1) (h2 : PE X e t2) : PE X e (tOr2 t1 t2) := ⟨fun pins s σ H Q I h => h.elim (h1.run pins s σ H Q I) (h2.run pins s σ H Q I)⟩
/-- two readings of one call's arguments -/
def rOr (r1 r2 : List V → Hp → VK → Prop) : List V → Hp → VK → Prop := fun vs H Q => r1 vs H Q ∨ r2 vs H Q
theorem call_or {v : Value} {r1 r2 : List V → Hp → VK → Prop} (h1 : CallR X v r1) (h2 : CallR X v r2) : CallR X v (rOr r1 r2) := fun pins s σ H xs us Q I r h => h.elim (h1 pins s σ H xs us Q I r) (h2 pins s σ H xs us Q I r)
end
end Pk
/-! ### sorted(xs, key=f) of a list or a tuple -/
namespace PySem.W
open PySem PySem.Calls PyProof.Rows PySem.F
section
variable {prog : Program} {w : World} {A : Around} {E : Value → Shared → Prop} {s : Shared}
theorem sorted_seq {l : Addr} {T : String} {o : Obj} {vs : List Value} {n : Nat} {kw : List (Str × Value)} {Q : Value → Shared → Prop} (hT : T = "list" ∨ T = "tuple") (ho : s.heap.get? l = some o) (hc : o.cls = .type T) (hd : o.data = .seq vs.toArray n) (hL : vs.length ≤ sizeLine) (ha1 : argsOk "sorted" ⟨[.ref l], kw⟩) (ha2 : ∀ x, argsOk "list.sort" ⟨[.ref x], kw⟩)
    (body : ∀ (h' : Heap) (E' : Value → Shared → Prop), (∀ b o', s.heap.get? b = some o' → h'.get? b = some o') → wpAny (model prog w) A.in1.in1 (Builtin.«list.sort» ⟨[.ref h'.objs.size], kw⟩) (fun f s' => f = .done (.ret .none) ∧ Q (.ref h'.objs.size) s') E' { s with heap := h'.push (seqObj "list" vs.toArray 0) }) :
    wpAny (model prog w) A (call (.builtin "sorted") [.ref l] kw) Q E s := by
  refine call_function_entry_kw kind_sorted plain_sorted entry_sorted ha1 ?_
  unfold Builtin.«sorted»
  refine wpAny_bind (m := checkCount "sorted" 1 1 _) (wpAny_pure ?_)
  refine wpAny_bind (wpAny_collect_seq l hT ho hc hd (fun h' kp => ?_) (by simpa using hL))
  refine wpAny_bind (wpAny_newList ?_ hL)
  show wpAny _ _ _ _ _ { s with heap := h'.push (seqObj "list" vs.toArray 0) }
  refine wpAny_bind (wpAny_holding (wpAny_call_entry_kw PySem.F.slot_list_sort ⟨_, Heap.get?_push_size _ rfl, rfl⟩ PySem.F.entry_list_sort ?body (ha2 _)))
  case body =>
    show wpAny (model prog w) A.in1.in1 (Builtin.«list.sort» ⟨[.ref h'.objs.size], kw⟩) _ _ _
    refine wpAny_mono (body h' _ kp) (fun f s' hf => ?_) fun _ _ e => e
    obtain ⟨rfl, hq⟩ := hf
    exact ⟨_, rfl, wpAny_pure ⟨_, rfl, hq⟩⟩
end
end PySem.W
namespace Pk
open PySem PySem.Spec L2
section
variable {X : Cx} {k : Nat} {f : Addr} {fd : FuncData} {ps : List Str} {sp : Sp}
def rSortS (K : PySem.W.Frag) (f : Addr) (sp : Sp) : List V → List V → Hp → VK → Prop := fun vs zs H Q => ∃ (l : Addr) (bs : List (V × PyData)), vs = [.ref l] ∧ zs = [.ref f] ∧ (SqL K H l (bs.map Prod.fst) ∨ SqT K H l (bs.map Prod.fst)) ∧ PySem.W.AllAlike (bs.map Prod.snd) ∧ PySem.W.Sortable (bs.map Prod.snd) ∧ (∀ b ∈ bs, b.2.depth ≤ 8) ∧
  (∀ b ∈ bs, ∀ H', Same H H' → sp [b.1] H' (fun t H2 => Same H' H2 ∧ Dp K H2 t b.2) E0) ∧ ∀ (p : Addr) (H' : Hp), H p = none → Same H H' → H' p = some (.lst ((bs.mergeSort (PySem.W.dataLe false Prod.snd)).map Prod.fst)) → Q (.ref p) H'
theorem cr_sortS (F : FnOk X.prog X.w X.K X.mg X.base CX0 k f fd ps sp) (hb : Binds X.K fd ps []) (hr : Room (k + 2) X.A) (hu : X.A.units + 66 < cLine) : CallRK X (.builtin "sorted") [Str.ofString "key"] (rSortS X.K f sp) := by
  intro pins s σ H vs zs us ws Q I r rz h
  obtain ⟨l, bs, rfl, rfl, hl, hal, hsk, hdep, hsp, q⟩ := h
  obtain rfl := Vals.ref1 r
  obtain ⟨w1, rfl, e1⟩ := vals1 rz
  obtain rfl : w1 = Value.ref f := e1
  obtain ⟨its, T, o, n, hT, ho, hc, hd, rv, hz⟩ : ∃ (its : List Value) (T : String) (o : Obj) (n : Nat), (T = "list" ∨ T = "tuple") ∧ s.heap.get? l = some o ∧ o.cls = .type T ∧ o.data = .seq its.toArray n ∧ Vals (bs.map Prod.fst) its ∧ (bs.map Prod.fst).length ≤ sizeLine := by
    rcases hl with hl | hl
    · obtain ⟨its, rv, ⟨o, n, ho, hc, _, hd⟩, hz⟩ := I.list hl
      exact ⟨its, _, o, n, .inl rfl, ho, hc, hd, rv, hz⟩
    · obtain ⟨its, rv, ⟨o, ho, hc, n, hd⟩, hz⟩ := I.tuple hl
      exact ⟨its, _, o, n, .inr rfl, ho, hc, hd, rv, hz⟩
  have lv : its.length = bs.length := by
    have := rv.length
    rw [List.length_map] at this
    omega
  rw [List.length_map] at hz
  refine PySem.W.sorted_seq (vs := its) hT ho hc hd (by omega) (PyProof.Rows.ksk_s1 _ _) (fun _ => PyProof.Rows.ksk_l1 _ _) fun h' E' kp => ?_
  show wpAny _ _ (Builtin.«list.sort» ⟨[.ref _], [(Str.ofString "key", .ref f)]⟩) _ _ _
  rw [PyProof.Rows.ksk_t1]
  have I1 : Inv X pins σ H { s with heap := h' } := I.kept (t' := s.toks) kp
  have hn : H h'.objs.size = none := I1.hok.fresh (Nat.le_refl _)
  have hs0 : X.s_0.heap.objs.size ≤ h'.objs.size := I1.sz
  have sb : Sub X k X.A.in1.in1 := Sub.in1 (Sub.in1 ⟨hr, rfl⟩)
  refine tree_own F hb sb (by show X.A.units + 1 + 1 + 64 < cLine; omega) (I1.kept (h' := h'.push (PyProof.Rows.seqObj "list" its.toArray 0)) (t' := s.toks) fun b o e => Heap.get?_push_of_some _ e) (Heap.get?_push_size _ rfl) (I1.fpOk (Nat.le_refl _) hn) rv (by omega) hal hsk hdep hsp (fun s' H' out c I' sH fp ho ro => ⟨rfl, ?_⟩)
  have lo : (((bs.mergeSort (PySem.W.dataLe false Prod.snd)).map Prod.fst)).length ≤ sizeLine := by
    rw [List.length_map, List.length_mergeSort]
    omega
  refine ⟨.ref _, upd H' h'.objs.size (.lst ((bs.mergeSort (PySem.W.dataLe false Prod.snd)).map Prod.fst)), adopt I' fp hs0 ⟨lo, out, c, ro, ho⟩, rfl, q _ _ hn (sH.trans (same_upd fp.1)) upd_same⟩
end
end Pk
namespace Pk
open PySem L2
/-! ### questions, asked of any thing -/
def Kind (c10 : Addr) (z : Str) (H : Hp) (E : XK) : Prop := ∀ (d : Addr) (H' : Hp), Same H H' → H' d = some (.xd [(("wanted" : Str), .str z)]) → E (.ref c10) (some d) H'
theorem Kind.same {c10 : Addr} {z : Str} {H H1 : Hp} {E : XK} (h : Kind c10 z H E) (s : Same H H1) : Kind c10 z H1 E := fun d H' s' hd => h d H' (s.trans s') hd
def kinB (q q2 : QD) : Bool := decide (q.nm = q2.nm) || (!decide (q.ki = "") && decide (q.ki = q2.ki))
def spNeedQ (CQ c10 : Addr) : Sp := fun vs H Q E => ∃ y : V, vs = [y] ∧ ((∃ x q, y = .ref x ∧ QJ CQ H x q ∧ Q .non H) ∨ ∃ T, Odd H y T ∧ Kind c10 "Question" H E)
def spKin (CQ c10 : Addr) : Sp := fun vs H Q E => ∃ (x : Addr) (q : QD) (y : V), vs = [.ref x, y] ∧ QJ CQ H x q ∧ ((∃ z q2, y = .ref z ∧ QJ CQ H z q2 ∧ Q (.bl (kinB q q2)) H) ∨ ∃ T, Odd H y T ∧ Kind c10 "Question" H E)
structure QsA (CQ : Addr) (H : Hp) (l : Addr) (ps : List (Addr × QD)) : Prop where
  at_ : H l = some (.lst (ps.map fun p => V.ref p.1)) ∨ H l = some (.tup (ps.map fun p => V.ref p.1))
  all : ∀ p ∈ ps, QJ CQ H p.1 p.2
  len : ps.length ≤ 60
theorem QsA.same {CQ : Addr} {H H' : Hp} {l : Addr} {ps : List (Addr × QD)} (h : QsA CQ H l ps) (s : Same H H') : QsA CQ H' l ps := ⟨h.at_.imp (s _ _) (s _ _), fun p hp => (h.all p hp).same s, h.len⟩
/-- a list with a thing within that is no question -/
structure QsO (CQ : Addr) (H : Hp) (l : Addr) (ps : List (Addr × QD)) (y : V) (rest : List V) : Prop where
  at_ : H l = some (.lst ((ps.map fun p => V.ref p.1) ++ y :: rest))
  all : ∀ p ∈ ps, QJ CQ H p.1 p.2
  odd : ∃ T, Odd H y T
  len : ps.length + 1 + rest.length ≤ 60
theorem QsO.same {CQ : Addr} {H H' : Hp} {l : Addr} {ps : List (Addr × QD)} {y : V} {rest : List V} (h : QsO CQ H l ps y rest) (s : Same H H') : QsO CQ H' l ps y rest := ⟨s _ _ h.at_, fun p hp => (h.all p hp).same s, by obtain ⟨T, o⟩ := h.odd; exact ⟨T, o.same s⟩, h.len⟩
/-- neither a list nor a tuple -/
def NoSeq (CQ : Addr) (H : Hp) (y : V) : Prop := (∃ T, Odd H y T ∧ T ≠ "list" ∧ T ≠ "tuple") ∨ ∃ x q, y = .ref x ∧ QJ CQ H x q
inductive Given (CQ c10 : Addr) (H : Hp) (E : XK) (y : V) (good : Addr → List (Addr × QD) → Prop) : Prop
  | qs {l : Addr} {ps : List (Addr × QD)} (e : y = .ref l) (h : QsA CQ H l ps) (g : good l ps)
  | odd {l : Addr} {ps : List (Addr × QD)} {z : V} {rest : List V} (e : y = .ref l) (h : QsO CQ H l ps z rest) (k : Kind c10 "Question" H E)
  | no (h : NoSeq CQ H y) (k : Kind c10 "list" H E)
def spNeedQs (CQ c10 : Addr) : Sp := fun vs H Q E => ∃ y : V, vs = [y] ∧ Given CQ c10 H E y fun _ _ => ∀ H', Same H H' → Q .non H'
def keyD (q : QD) : PyData := .tuple [.int q.tl, .str q.mt, .str q.nm]
def leQ (a b : QD) : Bool := PySem.W.dataLe false keyD a b
structure QsAt (CQ : Addr) (H : Hp) (l : Addr) (ps : List (Addr × QD)) : Prop where
  at_ : H l = some (.lst (ps.map fun p => V.ref p.1))
  all : ∀ p ∈ ps, QJ CQ H p.1 p.2
  len : ps.length ≤ 60
theorem QsAt.same {CQ : Addr} {H H' : Hp} {l : Addr} {ps : List (Addr × QD)} (h : QsAt CQ H l ps) (s : Same H H') : QsAt CQ H' l ps := ⟨s _ _ h.at_, fun p hp => (h.all p hp).same s, h.len⟩
theorem QsAt.a {CQ : Addr} {H : Hp} {l : Addr} {ps : List (Addr × QD)} (h : QsAt CQ H l ps) : QsA CQ H l ps := ⟨.inl h.at_, h.all, h.len⟩
def sortQ (ps : List (Addr × QD)) : List (Addr × QD) := ps.mergeSort fun a b => leQ a.2 b.2
theorem sortQ_perm (ps : List (Addr × QD)) : (sortQ ps).Perm ps := List.mergeSort_perm _ _
def toils (ps : List (Addr × QD)) : List Int := ps.map fun p => p.2.tl
def spByToil (CQ c10 : Addr) : Sp := fun vs H Q E => ∃ y : V, vs = [y] ∧ Given CQ c10 H E y fun _ ps => ∀ (m : Addr) (H' : Hp), H m = none → Same H H' → QsAt CQ H' m (sortQ ps) → Q (.ref m) H'
def spToilSum (CQ c10 : Addr) : Sp := fun vs H Q E => ∃ (y : V) (n : Int), vs = [y, .int n] ∧ Given CQ c10 H E y fun _ ps => ∀ H', Same H H' → Q (.int (n + (toils ps).sum)) H'
section
variable {P : Program} {w : World} {K : PySem.W.Frag} {mg : Str → Option Value} {base : Heap}
theorem ok_needQ {f CQ c10 fK : Addr} {fd : FuncData} (F : Fun K "need_question" "need_question" sNeedQ f fd) (C : QCls K CQ) (CT : QTy K CQ) (ob : oddB K CQ = true) (bk : Of_wanted.Tx K mg "BadKind" "BadKind.__init__" c10 fK "TypeError" "TypeError.__new__" "TypeError.__init__" TyLine) (mi : mg "isinstance" = none) (gQ : mg "Question" = some (.ref CQ)) : FnOk P w K mg base (L2.CX P w) 3 f fd ["thing"] (spNeedQ CQ c10) := by
  refine F.okX scNeedQ (fun vs H Q E h => ?_) (fun cdv A outer s H vs Q E hr h => ?_)
  · obtain ⟨y, rfl, _⟩ := h
    rfl
  · obtain ⟨y, rfl, h⟩ := h
    refine ⟨_, pss_one (ps_if (pt_not (pt_val (pe_callB call_isi (by rfl) mi (by decide +kernel) (pa_cons (pv 0) (pa_cons (pe_glob (v := .ref CQ) (by rfl) gQ rfl (by decide)) pa_nil))))) (pss_one (ps_raise_wanted rfl bk hr (takes_of rfl rfl rfl rfl) (by exact (pa_cons pe_str pa_nil)))) pss_nil), ?_⟩
    rcases h with ⟨x, q, rfl, j, fin⟩ | ⟨T, od, k⟩
    · exact ⟨_, rfl, _, _, _, _, true, rfl, .own _, j.qi.ty C CT, CT.hk, _, rfl, iteF fin⟩
    · obtain ⟨o1, o2, o3⟩ := oddB_of ob od
      exact ⟨_, rfl, _, _, _, _, false, rfl, .own _, od.ty, o2, _, rfl, iteT ⟨_, rfl, fun d hd => k d _ (same_upd hd) upd_same⟩⟩
theorem ok_kin {f fN CQ c10 : Addr} {fd fdN : FuncData} (F : Fun K "is_kin" "Question.is_kin" sQKin f fd) (C : QCls K CQ) (GN : FnOk P w K mg base (L2.CX P w) 3 fN fdN ["thing"] (spNeedQ CQ c10)) (kN : PySem.W.keepIn K (.ref fN) = true) (bN : Binds K fdN ["thing"] []) (gN : mg "need_question" = some (.ref fN)) : FnOk P w K mg base (L2.CX P w) 4 f fd ["self", "other"] (spKin CQ c10) := by
  refine F.okX scKin (fun vs H Q E h => ?_) (fun cdv A outer s H vs Q E hr h => ?_)
  · obtain ⟨x, q, y, rfl, _⟩ := h
    rfl
  · obtain ⟨x, q, y, rfl, j, h⟩ := h
    obtain ⟨dx, a, hx, ha, _⟩ := j.at
    refine ⟨_, pss_cons (ps_expr (pe_call (E := E) GN hr (by rfl) gN kN bN .nil (passes_call (takes_of rfl rfl rfl rfl) fun _ _ _ _ h => h) (pa_cons (pv 1) pa_nil)))
      (pss_cons (ps_if (pt_cmpR op_eq (pe_fld (pv 0) rfl) (pe_fld (pv 1) rfl) (nomark _)) (pss_one (ps_ret pe_bl)) pss_nil)
      (pss_one (ps_ret (pe_and (pe_cmpR op_ne (pe_fld (pv 0) rfl) pe_str (nomark _)) (pe_one (pe_cmpR op_eq (pe_fld (pv 0) rfl) (pe_fld (pv 1) rfl) (nomark _))))))), ?_⟩
    rcases h with ⟨z, q2, rfl, j2, fin⟩ | ⟨T, od, k⟩
    · obtain ⟨dy, b, hy, hb, _⟩ := j2.at
      refine ⟨_, rfl, _, rfl, .inl ⟨z, q2, rfl, j2, ?_⟩⟩
      refine ⟨_, rfl, x, CQ, dx, _, _, rfl, hx, C.cls, C.no _ (by decide), look_name _ _ _ _ _ _ _, _, rfl, z, CQ, dy, _, _, rfl, hy, C.cls, C.no _ (by decide), look_name _ _ _ _ _ _ _, rfl, _, rfl, ?_⟩
      unfold kinB at fin
      by_cases e : q.nm = q2.nm
      · refine iteT' (by simp [e]) ?_
        rw [decide_eq_true e, Bool.true_or] at fin
        exact fin
      · refine iteF' (by simpa using e) ?_
        rw [decide_eq_false e, Bool.false_or] at fin
        refine ⟨_, rfl, x, CQ, dx, _, _, rfl, hx, C.cls, C.no _ (by decide), look_kin _ _ _ _ _ _ _, rfl, _, rfl, ?_⟩
        by_cases e2 : q.ki = ""
        · refine iteF' (by simp [e2]) ?_
          rw [decide_eq_true e2] at fin
          simpa [e2] using fin
        · refine iteT' (by simpa using e2) ?_
          rw [decide_eq_false e2] at fin
          refine ⟨_, rfl, x, CQ, dx, _, _, rfl, hx, C.cls, C.no _ (by decide), look_kin _ _ _ _ _ _ _, _, rfl, z, CQ, dy, _, _, rfl, hy, C.cls, C.no _ (by decide), look_kin _ _ _ _ _ _ _, rfl, ?_⟩
          simpa using fin
    · exact ⟨_, rfl, _, rfl, .inr ⟨T, od, k⟩⟩
theorem kit_two {T : String} (h : T ∈ oddTys) : PySem.W.kitAny K (.type T) [.type "list", .type "tuple"] = some (decide (T = "list") || decide (T = "tuple")) := by
  simp only [oddTys, List.mem_cons, List.not_mem_nil, or_false] at h
  rcases h with rfl | rfl | rfl | rfl | rfl | rfl | rfl
  · exact kitAny_cons (kit_ty (by decide +kernel : kitB "NoneType" "list" = some false)) (fun _ => kitAny_cons (kit_ty (by decide +kernel : kitB "NoneType" "tuple" = some false)) (fun _ => rfl) (fun z => nomatch z)) (fun z => nomatch z)
  · exact kitAny_cons (kit_ty (by decide +kernel : kitB "bool" "list" = some false)) (fun _ => kitAny_cons (kit_ty (by decide +kernel : kitB "bool" "tuple" = some false)) (fun _ => rfl) (fun z => nomatch z)) (fun z => nomatch z)
  · exact kitAny_cons (kit_ty (by decide +kernel : kitB "int" "list" = some false)) (fun _ => kitAny_cons (kit_ty (by decide +kernel : kitB "int" "tuple" = some false)) (fun _ => rfl) (fun z => nomatch z)) (fun z => nomatch z)
  · exact kitAny_cons (kit_ty (by decide +kernel : kitB "str" "list" = some false)) (fun _ => kitAny_cons (kit_ty (by decide +kernel : kitB "str" "tuple" = some false)) (fun _ => rfl) (fun z => nomatch z)) (fun z => nomatch z)
  · exact kitAny_cons (kit_ty (by decide +kernel : kitB "tuple" "list" = some false)) (fun _ => kitAny_cons (kit_ty (by decide +kernel : kitB "tuple" "tuple" = some true)) (fun z => nomatch z) (fun _ => rfl)) (fun z => nomatch z)
  · exact kitAny_cons (kit_ty (by decide +kernel : kitB "list" "list" = some true)) (fun z => nomatch z) (fun _ => rfl)
  · exact kitAny_cons (kit_ty (by decide +kernel : kitB "dict" "list" = some false)) (fun _ => kitAny_cons (kit_ty (by decide +kernel : kitB "dict" "tuple" = some false)) (fun _ => rfl) (fun z => nomatch z)) (fun z => nomatch z)
theorem scNeedQs : FnScope ["things", "thing"] ["things"] (defScope sNeedQs) := ⟨rfl, rfl, rfl, by decide +kernel, rfl, by decide +kernel, by decide +kernel⟩
theorem ok_needQs {f fN CQ c10 fK : Addr} {fd fdN : FuncData} (F : Fun K "need_questions" "need_questions" sNeedQs f fd) (C : QCls K CQ) (CT : QTy K CQ) (kl : PySem.W.kitAny K (.ref CQ) [.type "list", .type "tuple"] = some false) (bk : Of_wanted.Tx K mg "BadKind" "BadKind.__init__" c10 fK "TypeError" "TypeError.__new__" "TypeError.__init__" TyLine) (mi : mg "isinstance" = none) (mli : mg "list" = none) (mt : mg "tuple" = none)
    (GN : FnOk P w K mg base (L2.CX P w) 3 fN fdN ["thing"] (spNeedQ CQ c10)) (kN : PySem.W.keepIn K (.ref fN) = true) (bN : Binds K fdN ["thing"] []) (gN : mg "need_question" = some (.ref fN)) : FnOk P w K mg base (L2.CX P w) 4 f fd ["things"] (spNeedQs CQ c10) := by
  refine F.okX scNeedQs (fun vs H Q E h => ?_) (fun cdv A outer s H vs Q E hr h => ?_)
  · obtain ⟨y, rfl, _⟩ := h
    rfl
  · obtain ⟨y, rfl, h⟩ := h
    refine ⟨_, pss_cons (ps_if (pt_not (pt_val (pe_callB call_isiT (by rfl) mi (by decide +kernel) (pa_cons (pv 0) (pa_cons (pe_tup (pa_cons (pe_bltn (v := .ty "list") (by rfl) mli PyProof.Rows.boot_list rfl) (pa_cons (pe_bltn (v := .ty "tuple") (by rfl) mt PyProof.Rows.boot_tuple rfl) pa_nil))) pa_nil))))) (pss_one (ps_raise_wanted rfl bk hr (takes_of rfl rfl rfl rfl) (by exact (pa_cons pe_str pa_nil)))) pss_nil)
      (pss_one (ps_for (passes_of rfl) rfl (pi_or (pi_list (pv 0)) (pi_tup (pv 0))) (pg_name (i := 1) scNeedQs.nd rfl (.inl rfl)) (pss_one (ps_expr (pe_call (E := E) GN hr (by rfl) gN kN bN .nil (passes_call (takes_of rfl rfl rfl rfl) fun _ _ _ _ h => h) (pa_cons (pv 1) pa_nil)))))), ?_⟩
    refine ⟨_, rfl, by show 2 ≤ sizeLine; decide, fun t nt => ?_⟩
    have s1 := same_upd (o := .tup [.ty "list", .ty "tuple"]) nt
    have ht : upd H t (.tup [.ty "list", .ty "tuple"]) t = some (.tup [.ty "list", .ty "tuple"]) := upd_same
    generalize upd H t (.tup [.ty "list", .ty "tuple"]) = H1 at s1 ht ⊢
    cases h with
    | no h k =>
      rcases h with ⟨T, od, n1, n2⟩ | ⟨x, q, rfl, j⟩
      · refine ⟨y, t, [.ty "list", .ty "tuple"], .type T, [.type "list", .type "tuple"], false, rfl, ht, .cons (.ty _) (.cons (.ty _) .nil), (od.same s1).ty, (kit_two od.mem).trans (by simp [n1, n2]), _, rfl, iteT ?_⟩
        exact ⟨_, rfl, fun d hd => k.same s1 d _ (same_upd hd) upd_same⟩
      · refine ⟨.ref x, t, [.ty "list", .ty "tuple"], .ref CQ, [.type "list", .type "tuple"], false, rfl, ht, .cons (.ty _) (.cons (.ty _) .nil), (j.same s1).qi.ty C CT, kl, _, rfl, iteT ?_⟩
        exact ⟨_, rfl, fun d hd => k.same s1 d _ (same_upd hd) upd_same⟩
    | @qs l ps e L g =>
      subst e
      have L1 := L.same s1
      rcases L1.at_ with hl | hl
      · refine ⟨.ref l, t, [.ty "list", .ty "tuple"], .type "list", [.type "list", .type "tuple"], true, rfl, ht, .cons (.ty _) (.cons (.ty _) .nil), .base (.lst hl), kit_two (by decide), _, rfl, iteF ?_⟩
        refine .inl ⟨_, rfl, l, rfl, ⟨_, SqL.of hl⟩, ?_⟩
        refine for_it (walk_list (K := K) (a := l) (xs := ps.map fun p => V.ref p.1)) (fun j σ G => ∃ v1, σ = [some (.ref l), v1] ∧ G = H1) ⟨_, rfl, rfl⟩ (fun j σ G _ ⟨_, _, e⟩ => by rw [e]; exact SqL.of hl) ?_ ?_
        · rintro j y σ G1 G2 hj ⟨v1, rfl, rfl⟩ ⟨rfl, fy⟩
          obtain ⟨p, hp, rfl⟩ := List.mem_map.mp (List.mem_of_getElem? fy)
          exact ⟨_, rfl, _, rfl, .inl ⟨p.1, p.2, rfl, L1.all p hp, _, rfl, rfl⟩⟩
        · rintro σ G ⟨v1, rfl, rfl⟩
          exact g _ s1
      · refine ⟨.ref l, t, [.ty "list", .ty "tuple"], .type "tuple", [.type "list", .type "tuple"], true, rfl, ht, .cons (.ty _) (.cons (.ty _) .nil), .base (.tup hl), kit_two (by decide), _, rfl, iteF ?_⟩
        refine .inr ⟨_, rfl, l, rfl, ⟨_, SqT.of hl⟩, ?_⟩
        refine for_it (walk_tup (K := K) (a := l) (xs := ps.map fun p => V.ref p.1)) (fun j σ G => ∃ v1, σ = [some (.ref l), v1] ∧ G = H1) ⟨_, rfl, rfl⟩ (fun j σ G _ ⟨_, _, e⟩ => by rw [e]; exact SqT.of hl) ?_ ?_
        · rintro j y σ G1 G2 hj ⟨v1, rfl, rfl⟩ ⟨rfl, fy⟩
          obtain ⟨p, hp, rfl⟩ := List.mem_map.mp (List.mem_of_getElem? fy)
          exact ⟨_, rfl, _, rfl, .inl ⟨p.1, p.2, rfl, L1.all p hp, _, rfl, rfl⟩⟩
        · rintro σ G ⟨v1, rfl, rfl⟩
          exact g _ s1
    | @odd l ps z rest e L k =>
      subst e
      have L1 := L.same s1
      have hl := L1.at_
      refine ⟨.ref l, t, [.ty "list", .ty "tuple"], .type "list", [.type "list", .type "tuple"], true, rfl, ht, .cons (.ty _) (.cons (.ty _) .nil), .base (.lst hl), kit_two (by decide), _, rfl, iteF ?_⟩
      refine .inl ⟨_, rfl, l, rfl, ⟨_, SqL.of hl⟩, ?_⟩
      refine for_it (walk_list (K := K) (a := l) (xs := (ps.map fun p => V.ref p.1) ++ z :: rest)) (fun j σ G => j ≤ ps.length ∧ ∃ v1, σ = [some (.ref l), v1] ∧ G = H1) ⟨Nat.zero_le _, _, rfl, rfl⟩ (fun j σ G _ ⟨_, _, _, e⟩ => by rw [e]; exact SqL.of hl) ?_ ?_
      · rintro j y σ G1 G2 hj ⟨hj', v1, rfl, rfl⟩ ⟨rfl, fy⟩
        rcases Nat.lt_or_ge j ps.length with h | h
        · rw [List.getElem?_append_left (by rw [List.length_map]; exact h)] at fy
          obtain ⟨p, hp, rfl⟩ := List.mem_map.mp (List.mem_of_getElem? fy)
          exact ⟨_, rfl, _, rfl, .inl ⟨p.1, p.2, rfl, L1.all p hp, h, _, rfl, rfl⟩⟩
        · have hj2 : j = (ps.map fun p => V.ref p.1).length := by rw [List.length_map]; omega
          rw [hj2, List.getElem?_append_right (Nat.le_refl _), Nat.sub_self] at fy
          cases fy
          obtain ⟨T, od⟩ := L1.odd
          exact ⟨_, rfl, _, rfl, .inr ⟨T, od, k.same s1⟩⟩
      · rintro σ G ⟨hj, _⟩
        rw [List.length_append, List.length_map, List.length_cons] at hj
        omega
end
end Pk
namespace Pk
open PySem L2
section
variable {P : Program} {w : World} {K : PySem.W.Frag} {mg : Str → Option Value} {base : Heap}
theorem none_of_same {H H' : Hp} {a : Addr} (s : Same H H') (h : H' a = none) : H a = none := by
  cases e : H a with
  | none => rfl
  | some o => rw [s _ _ e] at h; cases h
theorem scByToil : FnScope ["questions"] ["questions"] (defScope sByToil) := ⟨rfl, rfl, rfl, by decide +kernel, rfl, by decide +kernel, by decide +kernel⟩
theorem ok_byToil {f fN fT CQ c10 : Addr} {fd fdN fdT : FuncData} (F : Fun K "by_toil" "by_toil" sByToil f fd) (ms : mg "sorted" = none)
    (GN : FnOk P w K mg base (L2.CX P w) 4 fN fdN ["things"] (spNeedQs CQ c10)) (kN : PySem.W.keepIn K (.ref fN) = true) (bN : Binds K fdN ["things"] []) (gN : mg "need_questions" = some (.ref fN))
    (GT : FnOk P w K mg base CX0 1 fT fdT ["question"] (spToilOrd CQ)) (bT : Binds K fdT ["question"] []) (gT : mg "toil_order" = some (.ref fT)) : FnOk P w K mg base (L2.CX P w) 5 f fd ["questions"] (spByToil CQ c10) := by
  refine F.okX scByToil (fun vs H Q E h => ?_) (fun cdv A outer s H vs Q E hr h => ?_)
  · obtain ⟨y, rfl, _⟩ := h
    rfl
  · obtain ⟨y, rfl, h⟩ := h
    have r3 : Room 3 _ := hr.mono (by decide)
    have hu : _ + 66 < cLine := Nat.lt_of_le_of_lt (Nat.add_le_add_left (by decide) _) (room_show hr)
    refine ⟨_, pss_cons (ps_expr (pe_call (E := E) GN hr (by rfl) gN kN bN .nil (passes_call (takes_of rfl rfl rfl rfl) fun _ _ _ _ h => h) (pa_cons (pv 0) pa_nil)))
      (pss_one (ps_ret (pe_callBK (cr_sortS GT bT r3 hu) (by rfl) ms (by decide +kernel) (pa_cons (pv 0) pa_nil) (pk_cons (pe_glob (v := .ref fT) (by rfl) gT rfl (by decide)) pk_nil)))), ?_⟩
    cases h with
    | no h k => exact ⟨_, rfl, _, rfl, .no h k⟩
    | odd e h k => exact ⟨_, rfl, _, rfl, .odd e h k⟩
    | @qs l ps e L fin =>
      subst e
      refine ⟨_, rfl, _, rfl, .qs rfl L fun H1 s1 => ?_⟩
      have L1 := L.same s1
      have m1 : (ps.map fun p => (V.ref p.1, keyD p.2)).map Prod.fst = ps.map fun p => V.ref p.1 := by
        rw [List.map_map]
        rfl
      have m2 : (ps.map fun p => (V.ref p.1, keyD p.2)).map Prod.snd = ps.map fun p => keyD p.2 := by
        rw [List.map_map]
        rfl
      refine ⟨_, rfl, l, ps.map fun p => (V.ref p.1, keyD p.2), rfl, rfl, ?_, ?_, ?_, ?_, ?_, fun m H2 nm s2 hm => ?_⟩
      · rw [m1]
        exact L1.at_.imp SqL.of SqT.of
      · rw [m2]
        intro d hd d' hd'
        obtain ⟨p, _, rfl⟩ := List.mem_map.mp hd
        obtain ⟨p', _, rfl⟩ := List.mem_map.mp hd'
        simp [keyD, PySem.W.alike, PySem.W.alikeAll]
      · rw [m2]
        refine .inl fun d hd => ?_
        obtain ⟨p, _, rfl⟩ := List.mem_map.mp hd
        exact ⟨_, _, rfl⟩
      · intro b hb
        obtain ⟨p, _, rfl⟩ := List.mem_map.mp hb
        simp [keyD, PyData.depth, PyData.depthAll]
      · intro b hb H' s'
        obtain ⟨p, hp, rfl⟩ := List.mem_map.mp hb
        exact ⟨p.1, p.2, rfl, (L1.all p hp).same s', fun t H2 s2 ht => ⟨s2, .tup (SqT.of ht) (.cons (.int _) (.cons (.str _) (.cons (.str _) .nil)))⟩⟩
      · refine fin m H2 (none_of_same s1 nm) (s1.trans s2) ⟨?_, fun p hp => (L1.all p ((sortQ_perm ps).mem_iff.mp hp)).same s2, by rw [(sortQ_perm ps).length_eq]; exact L.len⟩
        rw [hm]
        have e := List.map_mergeSort (r := fun a b : Addr × QD => leQ a.2 b.2) (s := PySem.W.dataLe false Prod.snd) (f := fun p : Addr × QD => (V.ref p.1, keyD p.2)) (l := ps) (fun a _ b _ => rfl)
        rw [← e, List.map_map]
        rfl
theorem scToilSum : FnScope ["questions", "start", "question"] ["questions", "start"] (defScope sToilSum) := ⟨rfl, rfl, rfl, by decide +kernel, rfl, by decide +kernel, by decide +kernel⟩
theorem ok_toilSum {f fN CQ c10 : Addr} {fd fdN : FuncData} (F : FunDf K "toil_sum" sToilSum [.int 0] f fd) (C : QCls K CQ) (msm : mg "sum" = none)
    (GN : FnOk P w K mg base (L2.CX P w) 4 fN fdN ["things"] (spNeedQs CQ c10)) (kN : PySem.W.keepIn K (.ref fN) = true) (bN : Binds K fdN ["things"] []) (gN : mg "need_questions" = some (.ref fN)) : FnOk P w K mg base (L2.CX P w) 5 f fd ["questions", "start"] (spToilSum CQ c10) := by
  refine F.ok scToilSum (fun vs H Q E h => ?_) (fun cdv A outer s H vs Q E hr h => ?_)
  · obtain ⟨y, n, rfl, _⟩ := h
    rfl
  · obtain ⟨y, n, rfl, h⟩ := h
    refine ⟨_, pss_cons (ps_expr (pe_call (E := E) GN hr (by rfl) gN kN bN .nil (passes_call (takes_of rfl rfl rfl rfl) fun _ _ _ _ h => h) (pa_cons (pv 0) pa_nil)))
      (pss_one (ps_ret (pe_op op_add (pv 1) (pe_callB (cr_sum rfl) (by rfl) msm (by decide +kernel) (pa_cons (pe_lc (own := [("question", 2)]) (g := gName 2) (te := tFld K (tVar 2) "toil") rfl scToilSum.nd (pi_or (pi_list (pv 0)) (pi_tup (pv 0))) (blkOk_by (N := ["questions", "start", "question"]) (sc := defScope sToilSum) (by decide +kernel))
        (fun _ _ _ _ _ => pg_name (i := 2) scToilSum.nd rfl (Or.inl rfl)) (fun _ _ _ _ _ => pts_nil) (fun _ _ _ _ _ => by exact pe_fld (pv 2) rfl)) pa_nil))))), ?_⟩
    cases h with
    | no h k => exact ⟨_, rfl, _, rfl, .no h k⟩
    | odd e h k => exact ⟨_, rfl, _, rfl, .odd e h k⟩
    | @qs l ps e L fin =>
      subst e
      refine ⟨_, rfl, _, rfl, .qs rfl L fun H1 s1 => ?_⟩
      have L1 := L.same s1
      have ln := L.len
      refine ⟨_, rfl, ?_⟩
      rcases L1.at_ with hl | hl
      · refine .inl ⟨_, rfl, l, rfl, ⟨_, SqL.of hl⟩, fun D hD => ?_⟩
        have nD : ∀ {b : Addr} {o : HO}, H1 b = some o → b ≠ D := fun {b o} e z => by rw [z, hD] at e; cases e
        refine lc_it (walk_list (K := K) (a := l) (xs := ps.map fun p => V.ref p.1)) (fun j G => (∀ b o, b ≠ D → H1 b = some o → G b = some o) ∧ G D = some (.lst (((toils ps).take j).map V.int))) ⟨fun b o nb e => by rw [upd_ne nb]; exact e, upd_same⟩ (fun j G _ h => SqL.of (h.1 _ _ (nD hl) hl)) ?_ ?_
        · rintro j x G G2 hj ⟨kp, hd⟩ ⟨rfl, fy⟩
          rw [List.getElem?_map] at fy
          obtain ⟨p, hp, rfl⟩ : ∃ p, ps[j]? = some p ∧ x = V.ref p.1 := by
            cases e : ps[j]? with
            | none => rw [e] at fy; cases fy
            | some y => rw [e] at fy; exact ⟨y, rfl, (Option.some.inj fy).symm⟩
          have j60 := (List.getElem?_eq_some_iff.mp hp).1
          obtain ⟨dx, a, hx, ha, _⟩ := (L1.all p (List.mem_of_getElem? hp)).at
          refine ⟨rfl, _, rfl, p.1, CQ, dx, _, _, rfl, kp _ _ (nD hx) hx, C.cls, C.no _ (by decide), look_toil _ _ _ _ _ _ _, _, hd, ?_, fun b o nb e => ?_, ?_⟩
          · rw [List.length_map, List.length_take, sizeLine_eq]
            omega
          · rw [upd_ne nb]
            exact kp b o nb e
          · have ht : (toils ps)[j]? = some p.2.tl := by
              unfold toils
              rw [List.getElem?_map, hp]
              rfl
            rw [upd_same, List.take_add_one, ht, List.map_append]
            rfl
        · rintro G ⟨kp, hd⟩
          rw [List.length_map, List.take_of_length_le (by unfold toils; rw [List.length_map]; exact Nat.le_refl _)] at hd
          refine ⟨D, toils ps, rfl, SqL.of hd, n, _, rfl, rfl, ?_⟩
          exact fin G (fun b o e => kp b o (nD (s1 _ _ e)) (s1 _ _ e))
      · refine .inr ⟨_, rfl, l, rfl, ⟨_, SqT.of hl⟩, fun D hD => ?_⟩
        have nD : ∀ {b : Addr} {o : HO}, H1 b = some o → b ≠ D := fun {b o} e z => by rw [z, hD] at e; cases e
        refine lc_it (walk_tup (K := K) (a := l) (xs := ps.map fun p => V.ref p.1)) (fun j G => (∀ b o, b ≠ D → H1 b = some o → G b = some o) ∧ G D = some (.lst (((toils ps).take j).map V.int))) ⟨fun b o nb e => by rw [upd_ne nb]; exact e, upd_same⟩ (fun j G _ h => SqT.of (h.1 _ _ (nD hl) hl)) ?_ ?_
        · rintro j x G G2 hj ⟨kp, hd⟩ ⟨rfl, fy⟩
          rw [List.getElem?_map] at fy
          obtain ⟨p, hp, rfl⟩ : ∃ p, ps[j]? = some p ∧ x = V.ref p.1 := by
            cases e : ps[j]? with
            | none => rw [e] at fy; cases fy
            | some y => rw [e] at fy; exact ⟨y, rfl, (Option.some.inj fy).symm⟩
          have j60 := (List.getElem?_eq_some_iff.mp hp).1
          obtain ⟨dx, a, hx, ha, _⟩ := (L1.all p (List.mem_of_getElem? hp)).at
          refine ⟨rfl, _, rfl, p.1, CQ, dx, _, _, rfl, kp _ _ (nD hx) hx, C.cls, C.no _ (by decide), look_toil _ _ _ _ _ _ _, _, hd, ?_, fun b o nb e => ?_, ?_⟩
          · rw [List.length_map, List.length_take, sizeLine_eq]
            omega
          · rw [upd_ne nb]
            exact kp b o nb e
          · have ht : (toils ps)[j]? = some p.2.tl := by
              unfold toils
              rw [List.getElem?_map, hp]
              rfl
            rw [upd_same, List.take_add_one, ht, List.map_append]
            rfl
        · rintro G ⟨kp, hd⟩
          rw [List.length_map, List.take_of_length_le (by unfold toils; rw [List.length_map]; exact Nat.le_refl _)] at hd
          refine ⟨D, toils ps, rfl, SqL.of hd, n, _, rfl, rfl, ?_⟩
          exact fin G (fun b o e => kp b o (nD (s1 _ _ e)) (s1 _ _ e))
end
end Pk
namespace Pk
open PySem L2
inductive Told | told (v : V) | kind (z : Str)
inductive AskQ (CQ : Addr) (H : Hp) : Int → V → V → Told → Prop
  | kin {x z : Addr} {q q2 : QD} (h : QJ CQ H x q) (h2 : QJ CQ H z q2) : AskQ CQ H 0 (.ref x) (.ref z) (.told (.bl (kinB q q2)))
  | kinO {x : Addr} {q : QD} {y : V} {T : String} (h : QJ CQ H x q) (o : Odd H y T) : AskQ CQ H 0 (.ref x) y (.kind "Question")
  | need {i : Int} {v : V} {z : Addr} {q : QD} (hi : i = 1 ∨ i = 4) (h : QJ CQ H z q) : AskQ CQ H i v (.ref z) (.told .non)
  | needO {i : Int} {v y : V} {T : String} (hi : i = 1 ∨ i = 4) (o : Odd H y T) : AskQ CQ H i v y (.kind "Question")
  | lsO {i : Int} {v : V} {l : Addr} {ps : List (Addr × QD)} {y : V} {rest : List V} (hi : i = 2 ∨ i = 3) (h : QsO CQ H l ps y rest) : AskQ CQ H i v (.ref l) (.kind "Question")
  | lsN {i : Int} {v y : V} (hi : i = 2 ∨ i = 3) (h : NoSeq CQ H y) : AskQ CQ H i v y (.kind "list")
def ToldK (c10 : Addr) (H : Hp) (Q : VK) (E : XK) : Told → Prop
  | .told v => Q v H
  | .kind z => Kind c10 z H E
abbrev psAsk : List Str := ["_law_which", "_law_one", "_law_second"]
def spAsked (CQ c10 : Addr) : Sp := fun vs H Q E => ∃ (i : Int) (v y : V) (o : Told), vs = [.int i, v, y] ∧ AskQ CQ H i v y o ∧ ToldK c10 H Q E o
def tellV : Told → List V
  | .told v => [.str "told", v]
  | .kind z => [.str "kind", .str z]
def spSaid (CQ : Addr) : Sp := fun vs H Q _ => ∃ (i : Int) (v y : V) (o : Told), vs = [.int i, v, y] ∧ AskQ CQ H i v y o ∧ ∀ (p : Addr) (H' : Hp), Same H H' → H' p = some (.tup (tellV o)) → Q (.ref p) H'
theorem look_isKin {nm mt an r t m k : V} : (qFs nm mt an r t m k).lookup ("is_kin" : Str) = none := by kernel_rfl
section
variable {P : Program} {w : World} {K : PySem.W.Frag} {mg : Str → Option Value} {base : Heap} {cB fI fK : Addr} {c : Nat → Addr}
theorem bTS2 {f : Addr} {fd : FuncData} (F : FunDf K "toil_sum" sToilSum [.int 0] f fd) : ∃ ds, Vals ([] : List V) ds ∧ Binds K fd ["questions", "start"] ds :=
  F.binds1 2 1 (fun z => nomatch z) rfl fun T kV doc pm an cdv ct us its l1 l2 => match us, its, l1, l2 with
    | [_, _], [_], _, _ => ⟨_, rfl, rfl⟩
theorem kNeed {f : Addr} {fd : FuncData} (F : Fun K "need_question" "need_question" sNeedQ f fd) : KBinds K fd ["thing"] ["thing"] (fun us ws => us ++ ws) (fun vs zs => vs ++ zs) :=
  kbinds_one F (fun _ _ _ _ _ _ _ => rfl) (fun _ _ _ _ _ _ _ => rfl)
theorem scAsked : FnScope psAsk psAsk (defScope sAsked) := ⟨rfl, rfl, rfl, by decide +kernel, rfl, by decide +kernel, by decide +kernel⟩
theorem ok_asked {f fN fL fB fS fY CQ c10 : Addr} {fd fdN fdL fdB fdS : FuncData} (F : Fun K "_law_asked" "_law_asked" sAsked f fd) (C : QCls K CQ)
    (FN : Fun K "need_question" "need_question" sNeedQ fN fdN) (GN : FnOk P w K mg base (L2.CX P w) 3 fN fdN ["thing"] (spNeedQ CQ c10)) (kN : PySem.W.keepIn K (.ref fN) = true) (bN : Binds K fdN ["thing"] []) (gN : mg "need_question" = some (.ref fN))
    (GK : FnOk P w K mg base (L2.CX P w) 4 fL fdL ["self", "other"] (spKin CQ c10)) (MK : Meth K CQ "is_kin" fL) (bK : Binds K fdL ["self", "other"] [])
    (GB : FnOk P w K mg base (L2.CX P w) 5 fB fdB ["questions"] (spByToil CQ c10)) (kB : PySem.W.keepIn K (.ref fB) = true) (bB : Binds K fdB ["questions"] []) (gB : mg "by_toil" = some (.ref fB))
    (GS : FnOk P w K mg base (L2.CX P w) 5 fS fdS ["questions", "start"] (spToilSum CQ c10)) (FS : FunDf K "toil_sum" sToilSum [.int 0] fS fdS) (kS : PySem.W.keepIn K (.ref fS) = true) (gS : mg "toil_sum" = some (.ref fS)) :
    FnOk P w K mg base (L2.CX P w) 6 f fd psAsk (spAsked CQ c10) := by
  obtain ⟨d2, hd2, b2⟩ := bTS2 FS
  refine F.okX scAsked (fun vs H Q E h => ?_) (fun cdv A outer s H vs Q E hr h => ?_)
  · obtain ⟨i, v, y, o, rfl, _⟩ := h
    rfl
  · obtain ⟨i, v, y, o, rfl, hk, q⟩ := h
    have r3 : Room 3 _ := hr.mono (by decide)
    have r4 : Room 4 _ := hr.mono (by decide)
    have r5 : Room 5 _ := hr.mono (by decide)
    refine ⟨_, pss_cons (ps_if (pt_cmpR op_eq (pv 0) pe_int (nomark _)) (pss_one (ps_ret (pe_meth (E := E) (pv 1) C.cls MK GK r4 bK .nil (passes_call (takes_of rfl rfl rfl rfl) fun _ _ _ _ h => h) (by exact (pa_cons (pv 2) pa_nil))))) pss_nil)
      (pss_cons (ps_if (pt_cmpR op_eq (pv 0) pe_int (nomark _)) (pss_one (ps_ret (pe_call (E := E) GN r3 (by rfl) gN kN bN .nil (passes_call (takes_of rfl rfl rfl rfl) fun _ _ _ _ h => h) (pa_cons (pv 2) pa_nil)))) pss_nil)
      (pss_cons (ps_if (pt_cmpR op_eq (pv 0) pe_int (nomark _)) (pss_one (ps_ret (pe_call (E := E) GB r5 (by rfl) gB kB bB .nil (passes_call (takes_of rfl rfl rfl rfl) fun _ _ _ _ h => h) (pa_cons (pv 2) pa_nil)))) pss_nil)
      (pss_one (ps_ret (pe_ifExp (pt_cmpR op_eq (pv 0) pe_int (nomark _)) (pe_call (E := E) GS r5 (by rfl) gS kS b2 hd2 (passes_call (takes_of rfl rfl rfl rfl) fun _ _ _ _ h => h) (pa_cons (pv 2) (pa_cons pe_int pa_nil)))
        (pe_callK0 (E := E) GN r3 (by rfl) gN kN (kNeed FN) (passes_call (takes_of rfl rfl rfl rfl) fun _ _ _ _ h => h) (pk_cons (pv 2) pk_nil))))))), ?_⟩
    cases hk with
    | @kin x z q1 q2 h h2 =>
      obtain ⟨dx, a, hx, _⟩ := h.at
      exact ⟨_, rfl, rfl, _, rfl, iteT ⟨_, rfl, x, dx, _, rfl, hx, look_isKin, _, rfl, x, _, _, rfl, h, .inl ⟨z, _, rfl, h2, q⟩⟩⟩
    | @kinO x q1 y T h od =>
      obtain ⟨dx, a, hx, _⟩ := h.at
      exact ⟨_, rfl, rfl, _, rfl, iteT ⟨_, rfl, x, dx, _, rfl, hx, look_isKin, _, rfl, x, _, _, rfl, h, .inr ⟨T, od, q⟩⟩⟩
    | @need i v z q1 hi h =>
      rcases hi with rfl | rfl
      · exact ⟨_, rfl, rfl, _, rfl, iteF ⟨_, rfl, rfl, _, rfl, iteT ⟨_, rfl, _, rfl, .inl ⟨z, _, rfl, h, q⟩⟩⟩⟩
      · exact ⟨_, rfl, rfl, _, rfl, iteF ⟨_, rfl, rfl, _, rfl, iteF ⟨_, rfl, rfl, _, rfl, iteF ⟨_, rfl, rfl, _, rfl, iteF ⟨_, rfl, _, rfl, .inl ⟨z, _, rfl, h, q⟩⟩⟩⟩⟩⟩
    | @needO i v y T hi od =>
      rcases hi with rfl | rfl
      · exact ⟨_, rfl, rfl, _, rfl, iteF ⟨_, rfl, rfl, _, rfl, iteT ⟨_, rfl, _, rfl, .inr ⟨T, od, q⟩⟩⟩⟩
      · exact ⟨_, rfl, rfl, _, rfl, iteF ⟨_, rfl, rfl, _, rfl, iteF ⟨_, rfl, rfl, _, rfl, iteF ⟨_, rfl, rfl, _, rfl, iteF ⟨_, rfl, _, rfl, .inr ⟨T, od, q⟩⟩⟩⟩⟩⟩
    | @lsO i v l ps y rest hi h =>
      rcases hi with rfl | rfl
      · exact ⟨_, rfl, rfl, _, rfl, iteF ⟨_, rfl, rfl, _, rfl, iteF ⟨_, rfl, rfl, _, rfl, iteT ⟨_, rfl, _, rfl, .odd rfl h q⟩⟩⟩⟩
      · exact ⟨_, rfl, rfl, _, rfl, iteF ⟨_, rfl, rfl, _, rfl, iteF ⟨_, rfl, rfl, _, rfl, iteF ⟨_, rfl, rfl, _, rfl, iteT ⟨_, rfl, _, _, rfl, .odd rfl h q⟩⟩⟩⟩⟩
    | @lsN i v y hi h =>
      rcases hi with rfl | rfl
      · exact ⟨_, rfl, rfl, _, rfl, iteF ⟨_, rfl, rfl, _, rfl, iteF ⟨_, rfl, rfl, _, rfl, iteT ⟨_, rfl, _, rfl, .no h q⟩⟩⟩⟩
      · exact ⟨_, rfl, rfl, _, rfl, iteF ⟨_, rfl, rfl, _, rfl, iteF ⟨_, rfl, rfl, _, rfl, iteF ⟨_, rfl, rfl, _, rfl, iteT ⟨_, rfl, _, _, rfl, .no h q⟩⟩⟩⟩⟩
abbrev NSaidQ : List Str := ["_law_which", "_law_one", "_law_second", "_law_caught", "_law_found", "_law_error"]
theorem scSaid : FnScope NSaidQ psAsk (defScope sSaid) := ⟨rfl, rfl, rfl, by decide +kernel, rfl, by decide +kernel, by decide +kernel⟩
theorem ok_said {f fA fV CQ : Addr} {fd fdA fdV : FuncData} (F : Fun K "_law_said" "_law_said" sSaid f fd) (T : Txq K mg cB fI c) (TK : Txk K mg cB fK c) (kte : PySem.W.kitOne K (.ref (c 10)) (.type "TypeError") = some true) (mte : mg "TypeError" = none)
    (GA : FnOk P w K mg base (L2.CX P w) 6 fA fdA psAsk (spAsked CQ (c 10))) (kA : PySem.W.keepIn K (.ref fA) = true) (bA : Binds K fdA psAsk []) (gA : mg "_law_asked" = some (.ref fA))
    (FV : Fun K "_law_word" "_law_word" sWord fV fdV) (bV : Binds K fdV ["_law_error"] []) (gV : mg "_law_word" = some (.ref fV)) :
    FnOk P w K mg base CX0 7 f fd psAsk (spSaid CQ) := by
  have GV : FnOk P w K mg base CX0 1 fV fdV ["_law_error"] (spWord K c) := ok_word FV T.cl T.isi T.zip T.len
  refine F.ok scSaid (fun vs H Q E h => ?_) (fun cdv A outer s H vs Q E hr h => ?_)
  · obtain ⟨i, v, y, o, rfl, _⟩ := h
    rfl
  · obtain ⟨i, v, y, o, rfl, hk, q⟩ := h
    have r1 : Room 1 _ := hr.mono (by decide)
    have r6 : Room 6 _ := hr.mono (by decide)
    refine ⟨_, pss_cons (ps_set (i := 3) scSaid.nd rfl (.inl rfl) pe_non) (pss_cons (ps_set (i := 4) scSaid.nd rfl (.inl rfl) pe_non)
      (pss_cons (ps_try_held (i := 5) (cs := caughtBy cB c) (tb := fun W => tAsg (tCallS (spAsked CQ (c 10)) (WE W) (tCons (tVar 0) (tCons (tVar 1) (tCons (tVar 2) tNil)))) (gName 4)) (ts := fun a cls d => tAsg (tVar 5) (gName 3)) (Wout := fun _ _ _ _ => False) rfl rfl scSaid.nd rfl rfl
          (names10 T.gB T.cl rfl rfl rfl rfl rfl rfl rfl rfl rfl rfl) (by decide) takes0
          (fun W pn xe tk _ => pss_one (ps_set (i := 4) scSaid.nd rfl (.inl rfl) (by exact (pe_callS GA r6 rfl gA kA bA (fun σ => passAt tk σ) (by exact (pa_cons (pv 0) (pa_cons (pv 1) (pa_cons (pv 2) pa_nil))))))))
          (fun a oe cls d pn hz hf => pss_one (ps_set (i := 3) scSaid.nd rfl (.inl rfl) (by exact (pv 5)))))
      (pss_cons (ps_if (pt_cmpR op_isN (pv 3) pe_non (nomark _)) (pss_one (ps_ret (pe_tup (by exact (pa_cons pe_str (pa_cons (pv 4) pa_nil)))))) pss_nil)
      (pss_cons (ps_if (PW.pt (pw_and (pt_val (pe_callB call_isK (by rfl) T.isi (by decide +kernel) (pa_cons (pv 3) (pa_cons (pe_glob (v := .ref (c 10)) (by rfl) T.cl.g10 rfl) pa_nil)))) (pw_and1 (pt_val (pe_callB call_isK (by rfl) T.isi (by decide +kernel) (pa_cons (pv 3) (pa_cons (pe_bltn (v := .ty "TypeError") (by rfl) mte (by decide +kernel) rfl (by decide)) pa_nil)))))))
          (pss_one (ps_ret (pe_tup (by exact (pa_cons (pe_call GV r1 (by rfl) gV FV.kp bV .nil pass0 (pa_cons (pv 3) pa_nil)) (pa_cons (pe_get_wanted (pv 3)) pa_nil)))))) pss_nil)
      (pss_one (ps_ret (pe_tup (by exact (pa_cons (pe_call GV r1 (by rfl) gV FV.kp bV .nil pass0 (pa_cons (pv 3) pa_nil)) (pa_cons pe_str pa_nil)))))))))), ?_⟩
    refine ⟨_, rfl, _, rfl, _, rfl, i, v, y, o, rfl, hk, ?_⟩
    cases o with
    | told u =>
      refine ⟨_, rfl, rfl, _, rfl, iteT ?_⟩
      exact ⟨_, rfl, by show 2 ≤ sizeLine; decide, fun t4 h4 => q t4 _ (same_upd h4) upd_same⟩
    | kind z =>
      intro d H1 s1 hd
      refine ⟨true, TK.ca, fun _ e ne => ?_, fun z => nomatch z⟩
      refine ⟨_, rfl, fun ne' => ?_⟩
      have s2 : Same H1 (upd H1 e (ExH (.ref (c 10)) (some d) e)) := same_upd ne
      have h2 : upd H1 e (ExH (.ref (c 10)) (some d) e) e = some (ExH (.ref (c 10)) (some d) e) := upd_same
      have hd2 := s2 _ _ hd
      generalize upd H1 e (ExH (.ref (c 10)) (some d) e) = H2 at s2 h2 hd2
      refine ⟨_, rfl, rfl, _, rfl, iteF ?_⟩
      refine ⟨_, rfl, e, c 10, some d, _, _, _, rfl, h2, .inr ⟨d, _, rfl, hd2⟩, TK.bk.ex, .own _, TK.kt 10 (by decide), _, rfl, iteT ?_⟩
      refine ⟨_, rfl, e, c 10, some d, _, _, _, rfl, h2, .inr ⟨d, _, rfl, hd2⟩, TK.bk.ex, .ty _, kte, _, rfl, iteT ?_⟩
      refine ⟨_, rfl, e, c 10, some d, _, rfl, h2, .inr ⟨d, _, rfl, hd2⟩, TK.bk.ex, TK.kt, fun H3 s3 => ?_⟩
      rw [word10]
      refine ⟨_, rfl, e, c 10, d, _, rfl, s3 _ _ h2, TK.bk.ex, TK.bk.noN, s3 _ _ hd2, by show 2 ≤ sizeLine; decide, fun u hu => ?_⟩
      exact q u _ (((s1.trans s2).trans s3).trans (same_upd hu)) upd_same
end
end Pk
namespace Pk
open PySem L2
/-! ### rows of parts -/
structure RowQ (H : Hp) (p : Addr) (q : QD) : Prop where
  row : RowAt H p q
  v : QV q
  u : unlike q.ws q.ws.length = q.ws.length
theorem RowQ.same {H H' : Hp} {p : Addr} {q : QD} (h : RowQ H p q) (s : Same H H') : RowQ H' p q := ⟨h.row.same s, h.v, h.u⟩
theorem RowQ.but {H H' : Hp} {p s : Addr} {q : QD} {t : Int} (h : RowQ H p q) (k : But s H H') (st : StrmAt H s t) : RowQ H' p q := ⟨h.row.but k st, h.v, h.u⟩
structure Rows (H : Hp) (l : Addr) (rs : List (Addr × QD)) (n : Nat) : Prop where
  at_ : H l = some (.lst (rs.map fun r => V.ref r.1))
  all : ∀ r ∈ rs, RowQ H r.1 r.2
  len : rs.length ≤ n
theorem Rows.same {H H' : Hp} {l : Addr} {rs : List (Addr × QD)} {n : Nat} (h : Rows H l rs n) (s : Same H H') : Rows H' l rs n := ⟨s _ _ h.at_, fun r hr => (h.all r hr).same s, h.len⟩
theorem Rows.but {H H' : Hp} {l s : Addr} {rs : List (Addr × QD)} {n : Nat} {t : Int} (h : Rows H l rs n) (k : But s H H') (st : StrmAt H s t) (ne : l ≠ s) : Rows H' l rs n := ⟨k _ _ ne h.at_, fun r hr => (h.all r hr).but k st, h.len⟩
theorem Rows.split {H : Hp} {l : Addr} {rs : List (Addr × QD)} {n : Nat} (h : Rows H l rs n) : (rs.map fun r => V.ref r.1) = (rs.map Prod.fst).map V.ref := by
  rw [List.map_map]
  rfl
theorem Rows.dp {K : PySem.W.Frag} {H : Hp} {l : Addr} {rs : List (Addr × QD)} {n : Nat} (h : Rows H l rs n) : Dp K H (.ref l) (.list ((rs.map Prod.snd).map qData)) := by
  refine .lst (SqL.of (by rw [h.at_, h.split])) (rows_dp (by rw [List.length_map, List.length_map]) fun i p q h1 h2 => ?_)
  rw [List.getElem?_map] at h1 h2
  cases e : rs[i]? with
  | none => rw [e] at h1; cases h1
  | some r =>
    rw [e] at h1 h2
    cases h1
    cases h2
    exact (h.all r (List.mem_of_getElem? e)).row
theorem Rows.shaped {H : Hp} {l : Addr} {rs : List (Addr × QD)} {n : Nat} (h : Rows H l rs n) : SeqAt.shaped (.list ((rs.map Prod.snd).map qData)) = true := rows_shaped fun q hq => by
  obtain ⟨r, hr, rfl⟩ := List.mem_map.mp hq
  exact (h.all r hr).v
def tPick (p : Str → Prop) : TE := fun σ H Q => ∃ (s : Addr) (t : Int), σ[0]? = some (some (.ref s)) ∧ StrmAt H s t ∧ 0 ≤ t ∧ t ≤ 50000 ∧ ∀ (z : Str) (H' : Hp), p z → But s H H' → StrmAt H' s (t + 1) → Q (.str z) H'
def spRowsBy : Sp := fun vs H Q _ => ∃ s : Addr, vs = [.ref s] ∧ StrmAt H s 0 ∧ ∀ (l : Addr) (rs : List (Addr × QD)) (H' : Hp) (t' : Int), Rows H' l rs 9 → l ≠ s → But s H H' → StrmAt H' s t' → 0 ≤ t' → t' ≤ 5000 → Q (.ref l) H'
theorem strm_ne {H : Hp} {s p : Addr} {t : Int} (st : StrmAt H s t) (h : H p = none) : p ≠ s := fun e => by
  obtain ⟨_, _, _, hs⟩ := st
  rw [← e, h] at hs
  cases hs
theorem ps_imp {X : Cx} {st : Stmt} {t : TS} (t' : TS) (h : PS X st t) (k : ∀ D σ H, t' D σ H → t D σ H) : PS X st t' := ⟨fun pins s σ H D I w => h.run pins s σ H D I (k D σ H w)⟩
theorem pt_imp {X : Cx} {e : Expr} {t : TT} (t' : TT) (h : PT X e t) (k : ∀ σ H Q, t' σ H Q → t σ H Q) : PT X e t' := ⟨fun pins s σ H Q I w => h.run pins s σ H Q I (k σ H Q w)⟩
def tFew : TS := fun D σ H => ∃ (a p : Addr) (q : QD) (t : Int) (b : Bool) (v1 v3 v5 v6 : Option V), σ = [some (.ref a), v1, some (.bl b), v3, some (.ref p), v5, v6] ∧ RowQ H p q ∧ StrmAt H a t ∧ 0 ≤ t ∧ t ≤ 40000 ∧
  ∀ (p' : Addr) (q' : QD) (v5' v6' : Option V) (H' : Hp) (t' : Int), RowQ H' p' q' → But a H H' → StrmAt H' a t' → t ≤ t' → t' ≤ t + 5 → D.nx [some (.ref a), v1, some (.bl b), v3, some (.ref p'), v5', v6'] H'
def tApp : TS := fun D σ H => ∃ (a l p : Addr) (q : QD) (rs : List (Addr × QD)) (t : Int) (n : Nat), σ[0]? = some (some (.ref a)) ∧ σ[1]? = some (some (.ref l)) ∧ σ[4]? = some (some (.ref p)) ∧ l ≠ a ∧ Rows H l rs n ∧ n ≤ 50 ∧ RowQ H p q ∧ StrmAt H a t ∧ 0 ≤ t ∧ t ≤ 40000 ∧
  ∀ (rs' : List (Addr × QD)) (H' : Hp) (t' : Int), Rows H' l rs' (n + 1) → (∀ b o, b ≠ a → b ≠ l → H b = some o → H' b = some o) → StrmAt H' a t' → t ≤ t' → t' ≤ t + 2 → D.nx σ H'
section
variable {P : Program} {w : World} {K : PySem.W.Frag} {mg : Str → Option Value} {base : Heap}
theorem rows_put {H : Hp} {l p : Addr} {rs : List (Addr × QD)} {n : Nat} {q : QD} (h : Rows H l rs n) (r : RowQ H p q) : Rows (upd H l (.lst ((rs.map fun r => V.ref r.1) ++ [.ref p]))) l (rs ++ [(p, q)]) (n + 1) := by
  have put : ∀ {p q}, RowQ H p q → RowQ (upd H l (.lst ((rs.map fun r => V.ref r.1) ++ [.ref p]))) p q := fun {p q} r => by
    obtain ⟨⟨b, g1, g2⟩, g3, g4⟩ := r
    have e := h.at_
    exact ⟨⟨b, by rw [upd_ne (fun z => by rw [z, e] at g1; cases g1)]; exact g1, by rw [upd_ne (fun z => by rw [z, e] at g2; cases g2)]; exact g2⟩, g3, g4⟩
  have put' : ∀ {p' q'}, RowQ H p' q' → RowQ (upd H l (.lst ((rs.map fun r => V.ref r.1) ++ [.ref p]))) p' q' := fun {p' q'} r => by
    obtain ⟨⟨b, g1, g2⟩, g3, g4⟩ := r
    have e := h.at_
    exact ⟨⟨b, by rw [upd_ne (fun z => by rw [z, e] at g1; cases g1)]; exact g1, by rw [upd_ne (fun z => by rw [z, e] at g2; cases g2)]; exact g2⟩, g3, g4⟩
  refine ⟨by rw [upd_same, List.map_append]; rfl, fun x hx => ?_, by rw [List.length_append]; have := h.len; show rs.length + 1 ≤ _; omega⟩
  rcases List.mem_append.mp hx with h' | h'
  · exact put' (h.all x h')
  · cases List.mem_singleton.mp h'
    exact put' r
abbrev NRowsBy : List Str := ["_law_stream_here", "_law_rows", "_law_few", "_law_turn", "_law_parts_here", "_law_names", "_law_last"]
theorem scRowsBy : FnScope NRowsBy ["_law_stream_here"] (defScope sRowsBy) := ⟨rfl, rfl, rfl, by decide +kernel, rfl, by decide +kernel, by decide +kernel⟩
theorem ok_rowsBy {f fT fP : Addr} {fd fdT fdP : FuncData} (F : Fun K "_law_rows_by" "_law_rows_by" sRowsBy f fd) (mra : mg "range" = none) (ml : mg "len" = none)
    (GT : FnOk P w K mg base CX0 2 fT fdT ["_law_stream_here", "_law_many"] spTake) (kT : PySem.W.keepIn K (.ref fT) = true) (bT : Binds K fdT ["_law_stream_here", "_law_many"] []) (gT : mg "_law_take" = some (.ref fT))
    (GP : FnOk P w K mg base CX0 5 fP fdP ["_law_stream_here"] spPartsBy) (kP : PySem.W.keepIn K (.ref fP) = true) (bP : Binds K fdP ["_law_stream_here"] []) (gP : mg "_law_parts_by" = some (.ref fP)) :
    FnOk P w K mg base CX0 6 f fd ["_law_stream_here"] spRowsBy := by
  refine F.ok scRowsBy (fun vs H Q E h => ?_) (fun cdv A outer s H vs Q E hr h => ?_)
  · obtain ⟨a, rfl, _⟩ := h
    rfl
  · obtain ⟨a, rfl, st, fin⟩ := h
    have r2 : Room 2 _ := hr.mono (by decide)
    have r5 : Room 5 _ := hr.mono (by decide)
    have hu64 : _ + 64 < cLine := Nat.lt_of_le_of_lt (Nat.add_le_add_left (by decide) _) (room_show hr)
    refine ⟨_, pss_cons (ps_set (i := 1) scRowsBy.nd rfl (.inl rfl) (pe_lst pa_nil))
      (pss_cons (ps_set (i := 2) scRowsBy.nd rfl (.inl rfl) (pe_cmpR op_gt (pe_call GT r2 (by rfl) gT kT bT .nil pass0 (pa_cons (pv 0) (pa_cons pe_int pa_nil))) pe_int (nomark _)))
      (pss_cons (ps_for PassesOwn.never rfl (pi_range1 (by rfl) mra (pa_cons (pe_call GT r2 (by rfl) gT kT bT .nil pass0 (pa_cons (pv 0) (pa_cons pe_int pa_nil))) pa_nil)) (pg_name (i := 3) scRowsBy.nd rfl (.inl rfl))
        (pss_cons (ps_set (i := 4) scRowsBy.nd rfl (.inl rfl) (pe_call GP r5 (by rfl) gP kP bP .nil pass0 (pa_cons (pv 0) pa_nil)))
        (pss_cons (ps_imp tFew (ps_if (pt_val (pv 2))
          (pss_cons (ps_set (i := 5) scRowsBy.nd rfl (.inl rfl) (pe_tup (pa_cons (pe_imp (tPick fun z => nameT z = true) (pe_ix ix_list (pe_lst (pa_cons pe_str (pa_cons pe_str (pa_cons pe_str pa_nil)))) (pe_call GT r2 (by rfl) gT kT bT .nil pass0 (pa_cons (pv 0) (pa_cons pe_int pa_nil))) (fun _ _ => rfl)) (by
              rintro σ H Q ⟨s, t, e0, st, t0, t1, fin⟩
              refine ⟨by show 3 ≤ sizeLine; decide, fun l nl => ?_⟩
              have nls := strm_ne st nl
              have u1 : But s H (upd H l (.lst [.str "a", .str "ab", .str "b"])) := But.new nl
              have h1 : upd H l (.lst [.str "a", .str "ab", .str "b"]) l = some (.lst [.str "a", .str "ab", .str "b"]) := upd_same
              have st1 := strm_same st (same_upd (o := .lst [.str "a", .str "ab", .str "b"]) nl)
              refine ⟨_, e0, s, t, 3, rfl, st1, t0, by omega, by decide, by decide, fun v H2 v0 v3 u2 st2 => ?_⟩
              have h2 := u2 _ _ nls h1
              obtain rfl | rfl | rfl : v = 0 ∨ v = 1 ∨ v = 2 := by omega
              · exact ⟨l, _, _, _, rfl, rfl, SqL.of h2, rfl, fin _ _ (by decide +kernel) (u1.trans u2) st2⟩
              · exact ⟨l, _, _, _, rfl, rfl, SqL.of h2, rfl, fin _ _ (by decide +kernel) (u1.trans u2) st2⟩
              · exact ⟨l, _, _, _, rfl, rfl, SqL.of h2, rfl, fin _ _ (by decide +kernel) (u1.trans u2) st2⟩))
            (pa_cons (pe_imp (tPick fun z => nameT z = true) (pe_ix ix_list (pe_lst (pa_cons pe_str (pa_cons pe_str pa_nil))) (pe_call GT r2 (by rfl) gT kT bT .nil pass0 (pa_cons (pv 0) (pa_cons pe_int pa_nil))) (fun _ _ => rfl)) (by
              rintro σ H Q ⟨s, t, e0, st, t0, t1, fin⟩
              refine ⟨by show 2 ≤ sizeLine; decide, fun l nl => ?_⟩
              have nls := strm_ne st nl
              have u1 : But s H (upd H l (.lst [.str "m", .str "ma"])) := But.new nl
              have h1 : upd H l (.lst [.str "m", .str "ma"]) l = some (.lst [.str "m", .str "ma"]) := upd_same
              have st1 := strm_same st (same_upd (o := .lst [.str "m", .str "ma"]) nl)
              refine ⟨_, e0, s, t, 2, rfl, st1, t0, by omega, by decide, by decide, fun v H2 v0 v3 u2 st2 => ?_⟩
              have h2 := u2 _ _ nls h1
              obtain rfl | rfl : v = 0 ∨ v = 1 := by omega
              · exact ⟨l, _, _, _, rfl, rfl, SqL.of h2, rfl, fin _ _ (by decide +kernel) (u1.trans u2) st2⟩
              · exact ⟨l, _, _, _, rfl, rfl, SqL.of h2, rfl, fin _ _ (by decide +kernel) (u1.trans u2) st2⟩)) pa_nil))))
          (pss_cons (ps_set (i := 6) scRowsBy.nd rfl (.inl rfl) (pe_imp (tPick fun z => nameE (.str z) = true) (pe_ix ix_list (pe_lst (pa_cons pe_str (pa_cons pe_str (pa_cons pe_str pa_nil)))) (pe_call GT r2 (by rfl) gT kT bT .nil pass0 (pa_cons (pv 0) (pa_cons pe_int pa_nil))) (fun _ _ => rfl)) (by
              rintro σ H Q ⟨s, t, e0, st, t0, t1, fin⟩
              refine ⟨by show 3 ≤ sizeLine; decide, fun l nl => ?_⟩
              have nls := strm_ne st nl
              have u1 : But s H (upd H l (.lst [.str "", .str "k", .str "a"])) := But.new nl
              have h1 : upd H l (.lst [.str "", .str "k", .str "a"]) l = some (.lst [.str "", .str "k", .str "a"]) := upd_same
              have st1 := strm_same st (same_upd (o := .lst [.str "", .str "k", .str "a"]) nl)
              refine ⟨_, e0, s, t, 3, rfl, st1, t0, by omega, by decide, by decide, fun v H2 v0 v3 u2 st2 => ?_⟩
              have h2 := u2 _ _ nls h1
              obtain rfl | rfl | rfl : v = 0 ∨ v = 1 ∨ v = 2 := by omega
              · exact ⟨l, _, _, _, rfl, rfl, SqL.of h2, rfl, fin _ _ (by decide +kernel) (u1.trans u2) st2⟩
              · exact ⟨l, _, _, _, rfl, rfl, SqL.of h2, rfl, fin _ _ (by decide +kernel) (u1.trans u2) st2⟩
              · exact ⟨l, _, _, _, rfl, rfl, SqL.of h2, rfl, fin _ _ (by decide +kernel) (u1.trans u2) st2⟩)))
          (pss_one (ps_set (i := 4) scRowsBy.nd rfl (.inl rfl) (pe_op op_catE (pe_op op_catE (pv 5) (pe_slice sl_tupE (pv 4) (po_some pe_int) (po_some pe_int))) (pe_tup (pa_cons (pe_op op_add pe_int (pe_call GT r2 (by rfl) gT kT bT .nil pass0 (pa_cons (pv 0) (pa_cons pe_int pa_nil)))) (pa_cons (pe_ix ix_tup (pv 4) pe_int (fun _ _ => rfl)) (pa_cons (pv 6) pa_nil))))))))) pss_nil) (by
              rintro D σ H ⟨a, p, q, t, b, v1, v3, v5, v6, rfl, ro, st, t0, t1, fin⟩
              cases b with
              | false => exact ⟨_, rfl, _, rfl, iteF (fin p q v5 v6 H t ro But.refl st (Int.le_refl _) (by omega))⟩
              | true =>
                refine ⟨_, rfl, _, rfl, iteT ?_⟩
                refine ⟨a, t, rfl, st, t0, by omega, fun z1 H1 hz1 u1 st1 => ?_⟩
                refine ⟨a, t + 1, rfl, st1, by omega, by omega, fun z2 H2 hz2 u2 st2 => ⟨by show 2 ≤ sizeLine; decide, fun n nn => ?_⟩⟩
                have s3 := same_upd (o := .tup [.str z1, .str z2]) nn
                have hn : upd H2 n (.tup [.str z1, .str z2]) n = some (.tup [.str z1, .str z2]) := upd_same
                have st3 := strm_same st2 s3
                have nna := strm_ne st2 nn
                show tSeq _ _ _ _ (upd H2 n (.tup [.str z1, .str z2]))
                generalize upd H2 n (.tup [.str z1, .str z2]) = H3 at s3 hn st3 ⊢
                refine ⟨a, t + 1 + 1, rfl, st3, by omega, by omega, fun z3 H4 hz3 u4 st4 => ?_⟩
                have u04 : But a H H4 := ((u1.trans u2).trans (But.same s3)).trans u4
                have hn4 := u4 _ _ nna hn
                obtain ⟨aw, hp4, ha4⟩ := ro.row.but u04 st
                refine ⟨_, rfl, _, rfl, 2, rfl, 4, rfl, p, _, rfl, hp4, fun c1 H5 s5 hc1 => ⟨n, c1, _, _, rfl, rfl, s5 _ _ hn4, hc1, by show 2 + 2 ≤ 1000; decide, fun c2 H6 s6 hc2 => ?_⟩⟩
                have st6 := strm_same (strm_same st4 s5) s6
                refine ⟨_, rfl, a, t + 1 + 1 + 1, 3, rfl, st6, by omega, by omega, by decide, by decide, fun v H7 v0 v3' u7 st7 => ⟨1, v, rfl, rfl, ?_⟩⟩
                have ne6 : ∀ {b : Addr} {L : List V}, H6 b = some (.tup L) → b ≠ a := fun {b L} e z => by
                  obtain ⟨_, _, _, hs⟩ := st6
                  rw [z, hs] at e
                  cases e
                have hp6 := s6 _ _ (s5 _ _ hp4)
                have ha6 := s6 _ _ (s5 _ _ ha4)
                refine ⟨_, rfl, p, _, 5, .int q.ma, rfl, rfl, SqT.of (u7 _ _ (ne6 hp6) hp6), rfl, _, rfl, by show 3 ≤ sizeLine; decide, fun c3 n3 => ?_⟩
                have s8 := same_upd (o := .tup [.int (1 + v), .int q.ma, .str z3]) n3
                refine ⟨c2, c3, _, _, rfl, rfl, s8 _ _ (u7 _ _ (ne6 hc2) hc2), upd_same, by show 4 + 3 ≤ 1000; decide, fun c4 H9 s9 hc4 => ?_⟩
                have v' : QV { q with nm := z1, mt := z2, tl := 1 + v, ki := z3 } := ⟨hz1, hz2, ro.v.w2, ro.v.w6, ro.v.wt, ro.v.r0, ro.v.r1, by show 1 ≤ 1 + v; omega, by show 1 + v ≤ 9; omega, ro.v.m1, ro.v.m9, hz3⟩
                exact fin c4 { q with nm := z1, mt := z2, tl := 1 + v, ki := z3 } _ _ H9 _ ⟨⟨aw, hc4, s9 _ _ (s8 _ _ (u7 _ _ (ne6 ha6) ha6))⟩, v', ro.u⟩ (((u04.trans (But.same (s5.trans s6))).trans u7).trans (But.same (s8.trans s9))) (strm_same st7 (s8.trans s9)) (by omega) (by omega)))
        (pss_one (ps_imp tApp (ps_expr (pe_bm PySem.F.plainAttrs_list PySem.F.slot_list_append PySem.F.type_list_append mt_append (pv 1) (pa_cons (pe_ifExp (PW.pt (pw_and (pt_cmpR (op_neD hu64) (pv 1) (pe_lst pa_nil) (nomark _)) (pw_and1 (pt_cmpR op_eq (pe_call GT r2 (by rfl) gT kT bT .nil pass0 (pa_cons (pv 0) (pa_cons pe_int pa_nil))) pe_int (nomark _)))))
            (pe_ix ix_list (pv 1) (pe_call GT r2 (by rfl) gT kT bT .nil pass0 (pa_cons (pv 0) (pa_cons (pe_callB call_len_seq (by rfl) ml PySem.boot_len (pa_cons (pv 1) pa_nil)) pa_nil))) (fun _ _ => rfl)) (pv 4)) pa_nil))) (by
              rintro D σ H ⟨a, l, p, q, rs, t, n, e0, e1, e4, nla, R, n50, ro, st, t0, t1, fin⟩
              have ln := R.len
              have sl := sizeLine_eq
              refine ⟨_, e1, .inl ⟨rfl, _, SqL.of R.at_⟩, _, e1, by show 0 ≤ sizeLine; decide, fun l2 nl2 => ?_⟩
              have s1 := same_upd (o := .lst []) nl2
              have hl2 : upd H l2 (.lst []) l2 = some (.lst []) := upd_same
              generalize upd H l2 (.lst []) = H1 at s1 hl2 ⊢
              have R1 := R.same s1
              have ro1 := ro.same s1
              have st1 := strm_same st s1
              refine ⟨_, .list [], R1.dp, .lst (SqL.of hl2) .nil, R1.shaped, by decide +kernel, _, rfl, ?_⟩
              have put : ∀ (G : Hp) (p' : Addr) (q' : QD) (t' : Int), Rows G l rs n → RowQ G p' q' → But a H1 G → StrmAt G a t' → t ≤ t' → t' ≤ t + 2 → ∃ l' xs y, V.ref l = .ref l' ∧ [V.ref p'] = [y] ∧ G l' = some (.lst xs) ∧ xs.length < sizeLine ∧ D.nx σ (upd G l' (.lst (xs ++ [y]))) := by
                intro G p' q' t' RG rG u stG ta tb
                refine ⟨l, _, _, rfl, rfl, RG.at_, by rw [List.length_map]; omega, fin _ _ t' (rows_put RG rG) (fun b o n1 n2 e => ?_) ?_ ta tb⟩
                · rw [upd_ne n2]
                  exact u _ _ n1 (s1 _ _ e)
                · obtain ⟨b, c, m, hs⟩ := stG
                  exact ⟨b, c, m, by rw [upd_ne (fun z => nla z.symm)]; exact hs⟩
              cases rs with
              | nil => exact iteF ⟨_, e4, put H1 p q t R1 ro1 But.refl st1 (Int.le_refl _) (by omega)⟩
              | cons r rs =>
                refine iteT ⟨_, e0, a, t, 5, rfl, st1, t0, by omega, by decide, by decide, fun v H2 v0 v5 u2 st2 => ⟨rfl, _, rfl, ?_⟩⟩
                have R2 := R1.but u2 st1 nla
                have ro2 := ro1.but u2 st1
                by_cases hv : v = 0
                · refine iteT' (by simp [hv]) ?_
                  have l1 : 0 < (r :: rs).length := Nat.zero_lt_succ _
                  have e6 : ((r :: rs).map fun r => V.ref r.1).length = (r :: rs).length := List.length_map _
                  refine ⟨_, e1, _, e0, _, e1, l, _, rfl, .inl (SqL.of R2.at_), a, t + 1, _, rfl, st2, by omega, by omega, by omega, by omega, fun i H3 i0 i1 u3 st3 => ?_⟩
                  have R3 := R2.but u3 st2 nla
                  have hi : i.toNat < (r :: rs).length := by omega
                  have hx : (r :: rs)[i.toNat]? = some (r :: rs)[i.toNat] := List.getElem?_eq_getElem hi
                  refine ⟨l, _, _, .ref (r :: rs)[i.toNat].1, rfl, rfl, SqL.of R3.at_, ?_, put H3 _ _ _ R3 (R3.all _ (List.getElem_mem hi)) (u2.trans u3) st3 (by omega) (by omega)⟩
                  have ai := atI_nat (xs := (r :: rs).map fun r => V.ref r.1) (j := i.toNat) (v := .ref (r :: rs)[i.toNat].1) (by rw [List.getElem?_map, hx]; rfl)
                  rwa [show ((i.toNat : Nat) : Int) = i by omega] at ai
                · exact iteF' (by simpa using hv) ⟨_, e4, put H2 p q _ R2 ro2 u2 st2 (by omega) (by omega)⟩))))))
      (pss_one (ps_ret (pv 1))))), ?_⟩
    refine ⟨by show 0 ≤ sizeLine; decide, fun l nl => ?_⟩
    have nla := strm_ne st nl
    have s1 := same_upd (o := .lst []) nl
    have st1 := strm_same st s1
    have hl : upd H l (.lst []) l = some (.lst []) := upd_same
    refine ⟨_, rfl, a, 0, 3, rfl, st1, by decide, by decide, by decide, by decide, fun v H2 v0 v3 u2 st2 => ⟨_, _, rfl, rfl, ?_⟩⟩
    refine ⟨_, rfl, a, _, 10, rfl, st2, by decide, by decide, by decide, by decide, fun m H3 m0 m10 u3 st3 => ?_⟩
    have h3 := u3 _ _ nla (u2 _ _ nla hl)
    refine ⟨_, rfl, by omega, by omega, ?_⟩
    refine for_it walk_range (fun j σ G => ∃ (v3 v4 v5 v6 : Option V) (rs : List (Addr × QD)) (t' : Int), σ = [some (.ref a), some (.ref l), some (.bl (decide (v > 0))), v3, v4, v5, v6] ∧ Rows G l rs j ∧ (∀ b o, b ≠ a → b ≠ l → H3 b = some o → G b = some o) ∧ StrmAt G a t' ∧ 0 ≤ t' ∧ t' ≤ 2 + 407 * j) ⟨_, _, _, _, [], 0 + 1 + 1, rfl, ⟨h3, (fun r hr => nomatch hr), Nat.zero_le _⟩, fun b o _ _ e => e, st3, by omega, by omega⟩ (fun _ _ _ _ _ => trivial) ?_ ?_
    · rintro j x σ G1 G2 hj ⟨v3, v4, v5, v6, rs, t', rfl, R, kp, stG, t0, t1⟩ ⟨rfl, rfl⟩
      refine ⟨_, rfl, a, t', rfl, stG, t0, by omega, fun p nm mt an ri to ma ki G3 t3 l3 w3 u3 st3 t30 t31 => ?_⟩
      obtain ⟨q1, ro1, qv1, qu1⟩ := row_of l3 w3
      have R3 := R.but u3 stG nla
      refine ⟨a, p, q1, t3, _, _, _, _, _, rfl, ⟨ro1, qv1, qu1⟩, st3, t30, by omega, fun p' q' v5' v6' G4 t4 r4 u4 st4 t40 t41 => ?_⟩
      have R4 := R3.but u4 st3 nla
      refine ⟨a, l, p', q', rs, t4, j, rfl, rfl, rfl, nla, R4, by omega, r4, st4, by omega, by omega, fun rs' G5 t5 R5 k5 st5 t50 t51 => ?_⟩
      exact ⟨_, _, _, _, rs', t5, rfl, R5, fun b o n1 n2 e => k5 b o n1 n2 (u4 _ _ n1 (u3 _ _ n1 (kp b o n1 n2 e))), st5, by omega, by omega⟩
    · rintro σ G ⟨v3, v4, v5, v6, rs, t', rfl, R, kp, stG, t0, t1⟩
      refine ⟨_, rfl, fin l rs G t' ⟨R.at_, R.all, by have := R.len; omega⟩ nla (fun b o nb e => ?_) stG t0 (by omega)⟩
      have nbl : b ≠ l := fun z => by rw [z, nl] at e; cases e
      exact kp b o nb nbl (u3 _ _ nb (u2 _ _ nb (s1 _ _ e)))
end
end Pk
namespace Pk
open PySem PySem.Spec L2
/-! ### d <= e of data alike -/
def rLeD (K : PySem.W.Frag) : R2 := fun x y H Q => ∃ d e, Dp K H x d ∧ Dp K H y e ∧ PySem.W.alike d e = true ∧ d ≠ .none ∧ d.depth ≤ 64 ∧ Q (.bl (!PySem.W.dataLt e d)) H
theorem op_leD {X : Cx} (hu : X.A.units + 64 < cLine) : OpR X (compareOp .LtE) (rLeD X.K) := by
  intro pins s σ H x y v u Q I rx ry h
  obtain ⟨d, e, hd, he, al, nn, dp, q⟩ := h
  obtain ⟨as, r1⟩ := Dp.reads I d x v hd rx
  obtain ⟨bs, r2⟩ := Dp.reads I e y u he ry
  exact PySem.W.le_data r1 r2 al nn (by have : min d.depth e.depth ≤ d.depth := Nat.min_le_left _ _; omega) ⟨.bl _, H, I, rfl, q⟩
/-! ### the sort that puts one after the other is the stable sort -/
section
variable {α : Type} {le : α → α → Bool}
def insAt (le : α → α → Bool) (l : List α) (x : α) : List α := l.take (l.filter fun y => le y x).length ++ [x] ++ l.drop (l.filter fun y => le y x).length
theorem pre_filter (h : PySem.W.TotalLe le) {x : α} : ∀ {l : List α}, l.Pairwise (fun a b => le a b = true) → l.take (l.filter fun y => le y x).length = (l.filter fun y => le y x) ∧ ∀ y ∈ l.drop (l.filter fun y => le y x).length, le y x = false
  | [], _ => ⟨rfl, fun y hy => by simp at hy⟩
  | a :: l, hp => by
    obtain ⟨h1, h2⟩ := List.pairwise_cons.mp hp
    obtain ⟨i1, i2⟩ := pre_filter h (x := x) h2
    cases e : le a x with
    | true =>
      rw [List.filter_cons, if_pos e]
      exact ⟨by rw [List.length_cons, List.take_succ_cons, i1], by rw [List.length_cons, List.drop_succ_cons]; exact i2⟩
    | false =>
      have none : ∀ y ∈ l, le y x = false := fun y hy => by
        cases e2 : le y x with
        | false => rfl
        | true =>
          have := h.trans a y x (h1 y hy) e2
          rw [e] at this
          cases this
      have f0 : (a :: l).filter (fun y => le y x) = [] := by
        rw [List.filter_eq_nil_iff]
        intro y hy
        rcases List.mem_cons.mp hy with rfl | hy
        · rw [e]; decide
        · rw [none y hy]; decide
      rw [f0]
      exact ⟨rfl, fun y hy => by
        rcases List.mem_cons.mp hy with rfl | hy
        · exact e
        · exact none y hy⟩
theorem ins_pair (h : PySem.W.TotalLe le) {l : List α} {x : α} (hp : l.Pairwise (fun a b => le a b = true)) : (insAt le l x).Pairwise (fun a b => le a b = true) := by
  obtain ⟨h1, h2⟩ := pre_filter h (x := x) hp
  unfold insAt
  have hx : ∀ y ∈ l.drop (l.filter fun y => le y x).length, le x y = true := fun y hy => by
    rcases h.total x y with e | e
    · exact e
    · rw [h2 y hy] at e
      cases e
  have hl : ∀ y ∈ l.take (l.filter fun y => le y x).length, le y x = true := fun y hy => by
    rw [h1] at hy
    exact (List.mem_filter.mp hy).2
  rw [List.append_assoc]
  refine List.pairwise_append.mpr ⟨hp.sublist (List.take_sublist _ _), List.pairwise_cons.mpr ⟨hx, hp.sublist (List.drop_sublist _ _)⟩, fun a ha b hb => ?_⟩
  rcases List.mem_cons.mp hb with rfl | hb
  · exact hl a ha
  · exact h.trans a x b (hl a ha) (hx b hb)
theorem ins_filter (h : PySem.W.TotalLe le) {l : List α} {x c : α} (hp : l.Pairwise (fun a b => le a b = true)) : (insAt le l x).filter (PySem.W.sameRank le c) = (l ++ [x]).filter (PySem.W.sameRank le c) := by
  obtain ⟨h1, h2⟩ := pre_filter h (x := x) hp
  unfold insAt
  rw [List.filter_append, List.filter_append, List.filter_append]
  have e : l.filter (PySem.W.sameRank le c) = (l.take (l.filter fun y => le y x).length).filter (PySem.W.sameRank le c) ++ (l.drop (l.filter fun y => le y x).length).filter (PySem.W.sameRank le c) := by
    rw [← List.filter_append, List.take_append_drop]
  rw [e]
  cases ex : PySem.W.sameRank le c x with
  | false => simp [ex]
  | true =>
    have d0 : (l.drop (l.filter fun y => le y x).length).filter (PySem.W.sameRank le c) = [] := by
      rw [List.filter_eq_nil_iff]
      intro y hy ey
      have r1 : le c x = true ∧ le x c = true := by simpa [PySem.W.sameRank] using ex
      have r2 : le c y = true ∧ le y c = true := by simpa [PySem.W.sameRank] using ey
      have := h.trans y c x r2.2 r1.1
      rw [h2 y hy] at this
      cases this
    rw [d0, List.append_nil, List.append_nil]
end
end Pk
namespace Pk
open PySem L2
/-! ### rows put one after the other -/
abbrev leR (a b : Addr × QD) : Bool := leQ a.2 b.2
theorem leR_total : PySem.W.TotalLe leR := by
  have h := PySem.W.sortLe_total (PyProof.Rows.listOrd PyProof.Rows.itemOrd) false fun q : QD => PySem.W.keyToks (keyD q)
  exact ⟨fun a b c h1 h2 => h.trans a.2 b.2 c.2 h1 h2, fun a b => h.total a.2 b.2⟩
theorem leQ_is (a b : QD) : leQ a b = !PySem.W.dataLt (keyD b) (keyD a) := rfl
structure PutIn (rs fs : List (Addr × QD)) : Prop where
  pair : fs.Pairwise (fun a b => leR a b = true)
  same : ∀ c, fs.filter (PySem.W.sameRank leR c) = rs.filter (PySem.W.sameRank leR c)
theorem PutIn.nil : PutIn [] [] := ⟨.nil, fun _ => rfl⟩
theorem PutIn.put {rs fs : List (Addr × QD)} {x : Addr × QD} (h : PutIn rs fs) : PutIn (rs ++ [x]) (insAt leR fs x) :=
  ⟨ins_pair leR_total h.pair, fun c => by rw [ins_filter leR_total h.pair, List.filter_append, List.filter_append, h.same c]⟩
theorem PutIn.sorted {rs fs : List (Addr × QD)} (h : PutIn rs fs) : fs = sortQ rs := PySem.W.sort_unique leR_total h.pair h.same
theorem insAt_mem {fs : List (Addr × QD)} {x y : Addr × QD} (h : y ∈ insAt leR fs x) : y ∈ fs ∨ y = x := by
  unfold insAt at h
  rcases List.mem_append.mp h with h | h
  · rcases List.mem_append.mp h with h | h
    · exact .inl (List.mem_of_mem_take h)
    · exact .inr (List.mem_singleton.mp h)
  · exact .inl (List.mem_of_mem_drop h)
theorem insAt_len {fs : List (Addr × QD)} {x : Addr × QD} : (insAt leR fs x).length = fs.length + 1 := by
  unfold insAt
  have : (fs.filter fun y => leR y x).length ≤ fs.length := List.length_filter_le _ _
  rw [List.length_append, List.length_append, List.length_take, List.length_drop, List.length_singleton]
  omega
def spPut : Sp := fun vs H Q _ => ∃ (l : Addr) (rs : List (Addr × QD)) (n : Nat), vs = [.ref l] ∧ Rows H l rs n ∧ n ≤ 50 ∧ ∀ (m : Addr) (H' : Hp), H m = none → Same H H' → Rows H' m (sortQ rs) n → Q (.ref m) H'
theorem keyD_alike (a b : QD) : PySem.W.alike (keyD a) (keyD b) = true := by simp [keyD, PySem.W.alike, PySem.W.alikeAll]
theorem keyD_depth (a : QD) : (keyD a).depth ≤ 64 := by simp [keyD, PyData.depth, PyData.depthAll]
section
variable {P : Program} {w : World} {K : PySem.W.Frag} {mg : Str → Option Value} {base : Heap}
abbrev NPut : List Str := ["_law_rows", "_law_found", "_law_row", "_law_key", "_law_at", "_law_one"]
theorem scPut : FnScope NPut ["_law_rows"] (defScope sPut) := ⟨rfl, rfl, rfl, by decide +kernel, rfl, by decide +kernel, by decide +kernel⟩
theorem ok_put {f : Addr} {fd : FuncData} (F : Fun K "_law_put" "_law_put" sPut f fd) (ml : mg "len" = none) : FnOk P w K mg base CX0 2 f fd ["_law_rows"] spPut := by
  refine F.ok scPut (fun vs H Q E h => ?_) (fun cdv A outer s H vs Q E hr h => ?_)
  · obtain ⟨l, rs, n, rfl, _⟩ := h
    rfl
  · obtain ⟨l, rs, n, rfl, R, n50, fin⟩ := h
    have hu64 : _ + 64 < cLine := Nat.lt_of_le_of_lt (Nat.add_le_add_left (by decide) _) (room_show hr)
    refine ⟨_, pss_cons (ps_set (i := 1) scPut.nd rfl (.inl rfl) (pe_lst pa_nil))
      (pss_cons (ps_for PassesOwn.never rfl (pi_list (pv 0)) (pg_name (i := 2) scPut.nd rfl (.inl rfl))
        (pss_cons (ps_set (i := 3) scPut.nd rfl (.inr rfl) (pe_tup (pa_cons (pe_ix ix_tup (pv 2) pe_int (fun _ _ => rfl)) (pa_cons (pe_ix ix_tup (pv 2) pe_int (fun _ _ => rfl)) (pa_cons (pe_ix ix_tup (pv 2) pe_int (fun _ _ => rfl)) pa_nil)))))
        (pss_cons (ps_set (i := 4) scPut.nd rfl (.inl rfl) (pe_callB call_len_seq (by rfl) ml PySem.boot_len (pa_cons (pe_lc (own := [("_law_one", 5)]) (g := gName 5) (tt := tTest (tOp (rLeD K) (tTup (tCons (tOp (rIxT K) (tVar 5) (tC (.int 4))) (tCons (tOp (rIxT K) (tVar 5) (tC (.int 1))) (tCons (tOp (rIxT K) (tVar 5) (tC (.int 0))) tNil)))) (tVar 3))) rfl scPut.nd (pi_list (pv 1)) (blkOk_by (N := NPut) (sc := defScope sPut) (by decide +kernel))
            (fun _ _ _ _ _ => pg_name (i := 5) scPut.nd rfl (Or.inl rfl)) (fun _ _ _ _ _ => by exact pts_one (pt_cmpR (op_leD hu64) (pe_tup (pa_cons (pe_ix ix_tup (pv 5) pe_int (fun _ _ => rfl)) (pa_cons (pe_ix ix_tup (pv 5) pe_int (fun _ _ => rfl)) (pa_cons (pe_ix ix_tup (pv 5) pe_int (fun _ _ => rfl)) pa_nil)))) (pv 3) (nomark _))) (fun _ _ _ _ _ => pv 5)) pa_nil)))
        (pss_one (ps_set (i := 1) scPut.nd rfl (.inl rfl) (pe_op op_catS (pe_op op_catS (pe_slice sl_list (pv 1) po_none (po_some (pv 4))) (pe_lst (pa_cons (pv 2) pa_nil))) (pe_slice sl_list (pv 1) (po_some (pv 4)) po_none)))))))
      (pss_one (ps_ret (pv 1)))), ?_⟩
    have ln := R.len
    refine ⟨by show 0 ≤ sizeLine; decide, fun f0 nf => ?_⟩
    have s1 := same_upd (o := .lst []) nf
    have hf0 : upd H f0 (.lst []) f0 = some (.lst []) := upd_same
    show tSeq _ _ _ _ (upd H f0 (.lst []))
    generalize upd H f0 (.lst []) = H1 at s1 hf0 ⊢
    have R1 := R.same s1
    refine ⟨_, rfl, l, rfl, ⟨_, SqL.of R1.at_⟩, ?_⟩
    refine for_it (walk_list (K := K) (a := l) (xs := rs.map fun r => V.ref r.1)) (fun j σ G => ∃ (m : Addr) (fs : List (Addr × QD)) (v2 v3 v4 v5 : Option V), σ = [some (.ref l), some (.ref m), v2, v3, v4, v5] ∧ H m = none ∧ Same H1 G ∧ G m = some (.lst (fs.map fun r => V.ref r.1)) ∧ PutIn (rs.take j) fs ∧ fs.length = j ∧ ∀ r ∈ fs, r ∈ rs) ⟨f0, [], _, _, _, _, rfl, nf, Same.refl _, hf0, PutIn.nil, rfl, fun r hr => nomatch hr⟩ (fun j σ G _ ⟨_, _, _, _, _, _, _, _, e, _⟩ => SqL.of (e _ _ R1.at_)) ?_ ?_
    · rintro j y σ G1 G2 hj ⟨m, fs, v2, v3, v4, v5, rfl, nm, sG, hm, pin, lf, sub⟩ ⟨rfl, fy⟩
      rw [List.getElem?_map] at fy
      obtain ⟨r, hr', rfl⟩ : ∃ r, rs[j]? = some r ∧ y = V.ref r.1 := by
        cases e : rs[j]? with
        | none => rw [e] at fy; cases fy
        | some y => rw [e] at fy; exact ⟨y, rfl, (Option.some.inj fy).symm⟩
      have jn : j < rs.length := (List.getElem?_eq_some_iff.mp hr').1
      have RG := R1.same sG
      have sl := sizeLine_eq
      obtain ⟨ar, hrow, _⟩ := (RG.all r (List.mem_of_getElem? hr')).row
      refine ⟨_, rfl, r.1, _, 4, .int r.2.tl, rfl, rfl, SqT.of hrow, rfl, _, rfl, r.1, _, 1, .str r.2.mt, rfl, rfl, SqT.of hrow, rfl, _, rfl, r.1, _, 0, .str r.2.nm, rfl, rfl, SqT.of hrow, rfl, by show 3 ≤ sizeLine; decide, fun k nk => ?_⟩
      have s3 := same_upd (o := .tup [.int r.2.tl, .str r.2.mt, .str r.2.nm]) nk
      have hk : upd G2 k (.tup [.int r.2.tl, .str r.2.mt, .str r.2.nm]) k = some (.tup [.int r.2.tl, .str r.2.mt, .str r.2.nm]) := upd_same
      show tSeq _ _ _ _ (upd G2 k (.tup [.int r.2.tl, .str r.2.mt, .str r.2.nm]))
      generalize upd G2 k (.tup [.int r.2.tl, .str r.2.mt, .str r.2.nm]) = G3 at s3 hk ⊢
      have R3 := RG.same s3
      have hm3 := s3 _ _ hm
      refine ⟨_, rfl, m, rfl, ⟨_, SqL.of hm3⟩, fun D hD => ?_⟩
      have nD : ∀ {b : Addr} {o : HO}, G3 b = some o → b ≠ D := fun {b o} e z => by rw [z, hD] at e; cases e
      refine lc_it (walk_list (K := K) (a := m) (xs := fs.map fun r => V.ref r.1)) (fun i G => (∀ b o, b ≠ D → G3 b = some o → G b = some o) ∧ G D = some (.lst (((fs.take i).filter fun y => leR y r).map fun r => V.ref r.1))) ⟨fun b o nb e => by rw [upd_ne nb]; exact e, upd_same⟩ (fun i G _ h => SqL.of (h.1 _ _ (nD hm3) hm3)) ?_ ?_
      · rintro i x G4 G5 hi ⟨kp, hd⟩ ⟨rfl, fx⟩
        rw [List.getElem?_map] at fx
        obtain ⟨z, hz, rfl⟩ : ∃ z, fs[i]? = some z ∧ x = V.ref z.1 := by
          cases e : fs[i]? with
          | none => rw [e] at fx; cases fx
          | some y => rw [e] at fx; exact ⟨y, rfl, (Option.some.inj fx).symm⟩
        have il : i < fs.length := (List.getElem?_eq_some_iff.mp hz).1
        have tk : fs.take (i + 1) = fs.take i ++ [z] := by
          rw [List.take_add_one, hz]
          rfl
        obtain ⟨az, hzrow, _⟩ := (R3.all z (sub z (List.mem_of_getElem? hz))).row
        have hz4 := kp _ _ (nD hzrow) hzrow
        have hk4 := kp _ _ (nD hk) hk
        refine ⟨rfl, _, rfl, z.1, _, 4, .int z.2.tl, rfl, rfl, SqT.of hz4, rfl, _, rfl, z.1, _, 1, .str z.2.mt, rfl, rfl, SqT.of hz4, rfl, _, rfl, z.1, _, 0, .str z.2.nm, rfl, rfl, SqT.of hz4, rfl, by show 3 ≤ sizeLine; decide, fun k2 nk2 => ?_⟩
        have s6 := same_upd (o := .tup [.int z.2.tl, .str z.2.mt, .str z.2.nm]) nk2
        have hd6 := s6 _ _ hd
        refine ⟨_, rfl, keyD z.2, keyD r.2, .tup (SqT.of upd_same) (.cons (.int _) (.cons (.str _) (.cons (.str _) .nil))), .tup (SqT.of (s6 _ _ hk4)) (.cons (.int _) (.cons (.str _) (.cons (.str _) .nil))), keyD_alike _ _, (fun e => nomatch e), keyD_depth _, _, rfl, ?_⟩
        rw [← leQ_is]
        cases hle : leQ z.2 r.2 with
        | false =>
          refine iteF ⟨fun b o nb e => s6 _ _ (kp b o nb e), ?_⟩
          rw [hd6, tk, List.filter_append, List.filter_cons, if_neg (by show ¬ leQ z.2 r.2 = true; rw [hle]; decide), List.filter_nil, List.append_nil]
        | true =>
          refine iteT ⟨_, rfl, _, hd6, ?_, fun b o nb e => ?_, ?_⟩
          · rw [List.length_map]
            refine Nat.lt_of_le_of_lt (List.length_filter_le _ _) ?_
            rw [List.length_take, sizeLine_eq]
            omega
          · rw [upd_ne nb]
            exact s6 _ _ (kp b o nb e)
          · rw [upd_same, tk, List.filter_append, List.map_append, List.filter_cons, if_pos (by exact hle), List.filter_nil]
            rfl
      · rintro G4 ⟨kp, hd⟩
        rw [List.length_map, List.take_of_length_le (Nat.le_refl _)] at hd
        have s4 : Same G3 G4 := fun b o e => kp b o (nD e) e
        refine ⟨D, _, rfl, .inl (SqL.of hd), ?_⟩
        rw [List.length_map]
        generalize hc : (fs.filter fun y => leR y r).length = c
        have cl : c ≤ fs.length := by rw [← hc]; exact List.length_filter_le _ _
        have hm4 := s4 _ _ hm3
        refine ⟨_, rfl, _, rfl, (c : Int), rfl, m, _, rfl, SqL.of hm4, fun p1 n1 => ?_⟩
        have s5 := same_upd (o := .lst (cutV (fs.map fun r => V.ref r.1) none (some (c : Int)))) n1
        have c1 : cutV (fs.map fun r => V.ref r.1) none (some (c : Int)) = (fs.take c).map fun r => V.ref r.1 := by
          rw [cut_lo (by omega), Int.toNat_natCast, List.map_take]
        rw [c1] at s5 ⊢
        have hp1 : upd G4 p1 (.lst ((fs.take c).map fun r => V.ref r.1)) p1 = some (.lst ((fs.take c).map fun r => V.ref r.1)) := upd_same
        generalize upd G4 p1 (.lst ((fs.take c).map fun r => V.ref r.1)) = G5 at s5 hp1 ⊢
        refine ⟨_, rfl, by show 1 ≤ sizeLine; decide, fun p2 n2 => ?_⟩
        have s6 := same_upd (o := .lst [.ref r.1]) n2
        have hp2 : upd G5 p2 (.lst [.ref r.1]) p2 = some (.lst [.ref r.1]) := upd_same
        generalize upd G5 p2 (.lst [.ref r.1]) = G6 at s6 hp2 ⊢
        refine ⟨p1, p2, _, _, rfl, rfl, SqL.of (s6 _ _ hp1), SqL.of hp2, by rw [List.length_map, List.length_take, List.length_singleton]; omega, fun p3 n3 => ?_⟩
        have s7 := same_upd (o := .lst (((fs.take c).map fun r => V.ref r.1) ++ [.ref r.1])) n3
        have hp3 : upd G6 p3 (.lst (((fs.take c).map fun r => V.ref r.1) ++ [.ref r.1])) p3 = some (.lst (((fs.take c).map fun r => V.ref r.1) ++ [.ref r.1])) := upd_same
        generalize upd G6 p3 (.lst (((fs.take c).map fun r => V.ref r.1) ++ [.ref r.1])) = G7 at s7 hp3 ⊢
        refine ⟨_, rfl, _, rfl, (c : Int), rfl, m, _, rfl, SqL.of (s7 _ _ (s6 _ _ (s5 _ _ hm4))), fun p4 n4 => ?_⟩
        have s8 := same_upd (o := .lst (cutV (fs.map fun r => V.ref r.1) (some (c : Int)) none)) n4
        have c2 : cutV (fs.map fun r => V.ref r.1) (some (c : Int)) none = (fs.drop c).map fun r => V.ref r.1 := by
          rw [cut_hi (by omega), Int.toNat_natCast, List.map_drop]
        rw [c2] at s8 ⊢
        have hp4 : upd G7 p4 (.lst ((fs.drop c).map fun r => V.ref r.1)) p4 = some (.lst ((fs.drop c).map fun r => V.ref r.1)) := upd_same
        generalize upd G7 p4 (.lst ((fs.drop c).map fun r => V.ref r.1)) = G8 at s8 hp4 ⊢
        refine ⟨p3, p4, _, _, rfl, rfl, SqL.of (s8 _ _ hp3), SqL.of hp4, by rw [List.length_append, List.length_map, List.length_map, List.length_take, List.length_drop, List.length_singleton]; omega, fun p5 n5 => ?_⟩
        have s9 := same_upd (o := .lst (((fs.take c).map fun r => V.ref r.1) ++ [.ref r.1] ++ (fs.drop c).map fun r => V.ref r.1)) n5
        refine ⟨p5, insAt leR fs r, _, _, _, _, rfl, none_of_same (((((((s1.trans sG).trans s3).trans s4).trans s5).trans s6).trans s7).trans s8) n5, (((((((sG.trans s3).trans s4).trans s5).trans s6).trans s7).trans s8).trans s9), ?_, ?_, by rw [insAt_len, lf], fun x hx => ?_⟩
        · rw [upd_same]
          unfold insAt
          rw [hc, List.map_append, List.map_append]
          rfl
        · rw [List.take_add_one, hr']
          exact pin.put
        · rcases insAt_mem hx with h | rfl
          · exact sub x h
          · exact List.mem_of_getElem? hr'
    · rintro σ G ⟨m, fs, v2, v3, v4, v5, rfl, nm, sG, hm, pin, lf, sub⟩
      rw [List.length_map, List.take_of_length_le (Nat.le_refl _)] at pin
      have e := pin.sorted
      refine ⟨_, rfl, fin m G nm (s1.trans sG) ⟨by rw [← e]; exact hm, fun r hr => (R1.same sG).all r (sub r (by rw [e]; exact hr)), by rw [← e, lf, List.length_map]; exact ln⟩⟩
end
end Pk
namespace Pk
open PySem L2
/-! ### questions' parts, shown -/
def dV : V → PyData
  | .str z => .str z
  | .int i => .int i
  | _ => .none
section
variable {K : PySem.W.Frag} {H : Hp} {nm mt r to ma ki : V} {b : Addr} {ws : List V}
theorem textsD (k : Nat) : ∀ L : List V, L.all textV = true → (∀ v ∈ L, Thg H v) → ShowsL K H L (L.map dV) (1004 * L.length) k
  | [], _, _ => .nil
  | v :: L, h, ht => by
    rw [List.all_cons, Bool.and_eq_true] at h
    have g := textsD k L h.2 (fun u hu => ht u (List.mem_cons_of_mem _ hu))
    have hv := ht v List.mem_cons_self
    have h1 := h.1
    cases hv with
    | str z hl ho =>
      have hz : textT z = true := h1
      unfold textT at hz
      simp only [Bool.and_eq_true, decide_eq_true_iff] at hz
      have e := ShowsL.str (by omega) ho g
      rw [List.length_cons, show 1004 * (L.length + 1) = 1004 * L.length + 1004 by omega]
      exact e
    | _ => cases h1
def partsD (nm mt : V) (ws : List V) (r to ma ki : V) : List PyData := [dV nm, dV mt, .tuple (ws.map dV), dV r, dV to, dV ma, dV ki]
theorem name_is {x : V} (h : Thg H x) (hn : nameV x = true) : ∃ z : Str, x = .str z ∧ z.length ≤ 100 ∧ Sgn z := by
  cases h with
  | str z hl ho =>
    have hz : nameT z = true := hn
    unfold nameT at hz
    simp only [Bool.and_eq_true, decide_eq_true_iff] at hz
    exact ⟨z, rfl, by omega, ho⟩
  | _ => cases hn
theorem kin_is {x : V} (h : Thg H x) (hn : nameE x = true) : ∃ z : Str, x = .str z ∧ z.length ≤ 100 ∧ Sgn z := by
  unfold nameE at hn
  rw [Bool.or_eq_true] at hn
  rcases hn with hn | hn
  · exact name_is h hn
  · exact ⟨"", of_decide_eq_true hn, by decide, sgn_dec (by decide +kernel)⟩
theorem wrong_sgn (H : Hp) (nm mt an r t m k : V) : Sgn (wrongP H nm mt an r t m k) := by
  unfold wrongP
  repeat' split
  all_goals exact sgn_dec (by decide +kernel)
theorem parts_shows (hq : Qok H nm mt (.ref b) r to ma ki) (hb : H b = some (.tup ws)) : ∃ n, n ≤ 20000 ∧ ShowsL K H [nm, mt, .ref b, r, to, ma, ki] (partsD nm mt ws r to ma ki) n 1 := by
  obtain ⟨h0, h1, h2, h3, h4, h5, h6⟩ := wr_all hq.ok
  obtain ⟨z0, rfl, l0, o0⟩ := name_is hq.pa.nm h0
  obtain ⟨z1, rfl, l1, o1⟩ := name_is hq.pa.mt h1
  obtain ⟨i4, rfl, a4, b4⟩ := whole_is h4
  obtain ⟨i5, rfl, a5, b5⟩ := whole_is h5
  obtain ⟨z6, rfl, l6, o6⟩ := kin_is hq.pa.ki h6
  rw [answersV_at hb] at h2
  rw [manyV_at hb] at h3
  obtain ⟨w2, w6, wt, _⟩ := answers_is h2
  obtain ⟨i3, rfl, a3, b3⟩ := whole_is h3
  have g := textsD (K := K) (H := H) 0 ws wt (hq.pa.an.2 ws (tupV_at hb))
  refine ⟨_, ?_, .str l0 o0 (.str l1 o1 (.tup hb g (by decide) (.int a3 (by omega) (.int (by omega) b4 (.int (by omega) b5 (.str l6 o6 .nil))))))⟩
  omega
theorem parts_all {p : Addr} (hq : Qok H nm mt (.ref b) r to ma ki) (hb : H b = some (.tup ws)) (hp : H p = some (.tup [nm, mt, .ref b, r, to, ma, ki])) : Shows K H (.ref p) (.tuple (partsD nm mt ws r to ma ki)) := by
  obtain ⟨n, hn, g⟩ := parts_shows (K := K) hq hb
  exact g.all hp (by omega) (by decide)
theorem told_all {t p : Addr} (hq : Qok H nm mt (.ref b) r to ma ki) (hb : H b = some (.tup ws)) (hp : H p = some (.tup [nm, mt, .ref b, r, to, ma, ki])) (ht : H t = some (.tup [.str "told", .ref p])) : Shows K H (.ref t) (.tuple [.str "told", .tuple (partsD nm mt ws r to ma ki)]) := by
  obtain ⟨n, hn, g⟩ := parts_shows (K := K) hq hb
  have e : ShowsL K H [.str "told", .ref p] [.str "told", .tuple (partsD nm mt ws r to ma ki)] (0 + n + 5 + 1004) 2 := .str (by decide) (sgn_dec (by decide +kernel)) (.tup hp g (by decide) .nil)
  exact e.all ht (by omega) (by decide)
end
def outD (nm mt : V) : Out → PyData
  | .new ws r t m k => .tuple [.str "told", .tuple (partsD nm mt ws r t m k)]
  | .part z => .tuple [.str "question", .str z]
  | .kind => .tuple [.str "kind", .str "number"]
def OutFit : Out → Prop
  | .part z => z.length ≤ 100 ∧ Sgn z
  | _ => True
theorem changed_fit (H : Hp) (nm mt an ri to ma ki a b c d : V) : OutFit (outChanged H nm mt an ri to ma ki a b c d) := by
  unfold outChanged
  split
  · trivial
  · have := wrong_len H nm mt an (orV a ri) (orV b to) (orV c ma) (orV d ki)
    exact ⟨by omega, wrong_sgn _ _ _ _ _ _ _ _⟩
theorem turned_fit (ws : List V) (r : Int) (to ma ki th : V) : OutFit (outTurned ws r to ma ki th) := by
  cases th <;> trivial
/-! ### a question and its parts -/
structure QS (H : Hp) (CQ p x dx a : Addr) (ws : List V) (r : Int) (nm mt to ma ki : V) : Prop where
  hp : H p = some (.tup [nm, mt, .ref a, .int r, to, ma, ki])
  hx : H x = some (.ins CQ dx (qFs nm mt (.ref a) (.int r) to ma ki))
  ha : H a = some (.tup ws)
  hq : Qok H nm mt (.ref a) (.int r) to ma ki
section
variable {H H' : Hp} {CQ p x dx a : Addr} {ws : List V} {r : Int} {nm mt to ma ki : V}
theorem QS.same (q : QS H CQ p x dx a ws r nm mt to ma ki) (s : Same H H') : QS H' CQ p x dx a ws r nm mt to ma ki := ⟨s _ _ q.hp, s _ _ q.hx, s _ _ q.ha, q.hq.same s⟩
theorem QS.but (q : QS H CQ p x dx a ws r nm mt to ma ki) {s : Addr} {t t' : Int} (u : But s H H') (st : StrmAt H s t) (st' : StrmAt H' s t') : QS H' CQ p x dx a ws r nm mt to ma ki := by
  have xs : x ≠ s := fun e => by
    obtain ⟨b, c, m, hs⟩ := st
    have := q.hx
    rw [e, hs] at this
    cases this
  have pq := q.hq.pa
  have e := pq.an.1.tupB u st st'
  refine ⟨u _ _ (tup_off q.hp st) q.hp, u _ _ xs q.hx, u _ _ (tup_off q.ha st) q.ha, ⟨pq.nm.but u st st', pq.mt.but u st st', pq.an.but u st st', pq.ri.but u st st', pq.to.but u st st', pq.ma.but u st st', pq.ki.but u st st'⟩, ?_⟩
  have ok := q.hq.ok
  unfold wrongP answersV manyV at ok ⊢
  rw [e]
  exact ok
theorem QS.ans (q : QS H CQ p x dx a ws r nm mt to ma ki) : answersL ws = true ∧ 2 ≤ ws.length ∧ ws.length ≤ 6 ∧ 0 ≤ r ∧ r < ws.length ∧ ws.all textV = true := by
  obtain ⟨_, _, h2, h3, _⟩ := wr_all q.hq.ok
  rw [answersV_at q.ha] at h2
  rw [manyV_at q.ha] at h3
  obtain ⟨w2, w6, wt, _⟩ := answers_is h2
  obtain ⟨i, e, b0, b1⟩ := whole_is h3
  cases e
  exact ⟨h2, w2, w6, b0, by omega, wt⟩
end
end Pk
namespace Pk
open PySem L2
theorem sum_two : ∀ ts : List Str, (ts.map fun t => t.length + 2).sum = (ts.map (·.length)).sum + 2 * ts.length
  | [] => rfl
  | t :: ts => by
    simp only [List.map_cons, List.sum_cons, List.length_cons, sum_two ts]
    omega
theorem ShowsL.allL {K : PySem.W.Frag} {H : Hp} {L : List V} {ds : List PyData} {n k : Nat} {t : Addr} (ht : H t = some (.lst L)) (h : ShowsL K H L ds n k) (hn : n ≤ 2000000) (hk : k ≤ 60) : Shows K H (.ref t) (.list ds) where
  dq := .of (.lst (SqL.of ht) h.dp) (by simp [PyData.hasDict, h.nd])
  sh := by simp [PyData.showable, h.sh]
  dp := by
    have := h.de
    simp [PyData.depth]
    omega
  sz := by
    have h1 := h.sz
    have h3 := listText_len_le (PyData.shownAll ds)
    have e : (PyData.list ds).shown = listText (PyData.shownAll ds) := by simp [PyData.shown]
    rw [sum_two] at h1
    rw [e, sizeLine_eq]
    omega
theorem qData_parts (q : QD) : qData q = .tuple (partsD (.str q.nm) (.str q.mt) (q.ws.map V.str) (.int q.ri) (.int q.tl) (.int q.ma) (.str q.ki)) := by
  unfold qData partsD
  rw [List.map_map]
  rfl
theorem rows_show {K : PySem.W.Frag} {H : Hp} : ∀ {rs : List (Addr × QD)}, (∀ r ∈ rs, RowQ H r.1 r.2) → ShowsL K H (rs.map fun r => V.ref r.1) ((rs.map Prod.snd).map qData) (20005 * rs.length) 2
  | [], _ => .nil
  | r :: rs, h => by
    obtain ⟨row, v, u⟩ := h r List.mem_cons_self
    obtain ⟨a, h1, h2, qk⟩ := row_qok row v u
    obtain ⟨n, hn, g⟩ := parts_shows (K := K) qk h2
    have e := ShowsL.tup h1 g (by decide) (rows_show fun x hx => h x (List.mem_cons_of_mem _ hx))
    rw [List.map_cons, List.map_cons, List.map_cons, List.length_cons, qData_parts]
    exact ⟨e.dp, e.sh, e.de, e.nd, by have := e.sz; omega⟩
theorem Rows.shows {K : PySem.W.Frag} {H : Hp} {l : Addr} {rs : List (Addr × QD)} {n : Nat} (h : Rows H l rs n) (n50 : n ≤ 60) : Shows K H (.ref l) (.list ((rs.map Prod.snd).map qData)) := (rows_show h.all).allL h.at_ (by have := h.len; omega) (by decide)
end Pk
namespace Pk
open PySem L2
theorem wipe1 {σ : St} {j : Nat} : wipe σ [j] = σ.set j none := by
  first | rfl | simp [wipe]
theorem wipe_set {σ : St} {j : Nat} {v : Option V} : wipe ((wipe σ [j]).set j v) [j] = wipe σ [j] := by
  rw [wipe1, wipe1, List.set_set, List.set_set]
theorem set_at {σ : St} {j : Nat} {v : Option V} (h : j < σ.length) : ((wipe σ [j]).set j v)[j]? = some v := by
  rw [wipe1, List.set_set]
  exact List.getElem?_set_self h
/-- the questions of rows -/
def tThings (CQ : Addr) (i j : Nat) : TE := fun σ H Q => ∃ (l : Addr) (rs : List (Addr × QD)) (n : Nat), σ[i]? = some (some (.ref l)) ∧ j < σ.length ∧ Rows H l rs n ∧ n ≤ 50 ∧ ∀ (m : Addr) (ps : List (Addr × QD)) (H' : Hp), Same H H' → QsAt CQ H' m ps → ps.map Prod.snd = rs.map Prod.snd → Q (.ref m) H'
theorem QJ.putL {CQ D : Addr} {G : Hp} {L M : List V} {x : Addr} {q : QD} (h : QJ CQ G x q) (hD : G D = some (.lst L)) : QJ CQ (upd G D (.lst M)) x q := by
  obtain ⟨⟨dx, a, h1, h2, h3⟩, v, nd⟩ := h
  exact ⟨⟨dx, a, by rw [upd_ne (fun e => by rw [e, hD] at h1; cases h1)]; exact h1, by rw [upd_ne (fun e => by rw [e, hD] at h2; cases h2)]; exact h2, h3⟩, v, nd⟩
theorem RowQ.putL {D : Addr} {G : Hp} {L M : List V} {p : Addr} {q : QD} (r : RowQ G p q) (hD : G D = some (.lst L)) : RowQ (upd G D (.lst M)) p q := by
  obtain ⟨⟨b, g1, g2⟩, g3, g4⟩ := r
  exact ⟨⟨b, by rw [upd_ne (fun z => by rw [z, hD] at g1; cases g1)]; exact g1, by rw [upd_ne (fun z => by rw [z, hD] at g2; cases g2)]; exact g2⟩, g3, g4⟩
theorem things_lc {K : PySem.W.Frag} {CQ : Addr} {i j : Nat} : ∀ σ H Q, tThings CQ i j σ H Q → tLc (iList K (tVar i)) (gName j) tYes (tCall (spOf CQ) [] E0 (tCons (tVar j) tNil)) [j] σ H Q := by
  rintro σ H Q ⟨l, rs, n, hi, hj, R, n50, fin⟩
  have ln := R.len
  refine ⟨_, hi, l, rfl, ⟨_, SqL.of R.at_⟩, fun D hD => ?_⟩
  have nD : ∀ {b : Addr} {o : HO}, H b = some o → b ≠ D := fun {b o} e z => by rw [z, hD] at e; cases e
  refine lc_it (walk_list (K := K) (a := l) (xs := rs.map fun r => V.ref r.1)) (fun k G => (∀ b o, b ≠ D → H b = some o → G b = some o) ∧ ∃ ps : List (Addr × QD), G D = some (.lst (ps.map fun p => V.ref p.1)) ∧ (∀ p ∈ ps, QJ CQ G p.1 p.2) ∧ ps.length = k ∧ ps.map Prod.snd = (rs.take k).map Prod.snd) ⟨fun b o nb e => by rw [upd_ne nb]; exact e, [], upd_same, (fun p hp => nomatch hp), rfl, rfl⟩ (fun k G _ h => SqL.of (h.1 _ _ (nD R.at_) R.at_)) ?_ ?_
  · rintro k x G1 G2 hk ⟨kp, ps, hd, all, lk, sn⟩ ⟨rfl, fx⟩
    rw [List.getElem?_map] at fx
    obtain ⟨r, hr, rfl⟩ : ∃ r, rs[k]? = some r ∧ x = V.ref r.1 := by
      cases e : rs[k]? with
      | none => rw [e] at fx; cases fx
      | some y => rw [e] at fx; exact ⟨y, rfl, (Option.some.inj fx).symm⟩
    have kl : k < rs.length := (List.getElem?_eq_some_iff.mp hr).1
    have rq := R.all r (List.mem_of_getElem? hr)
    obtain ⟨aw, g1, g2⟩ := rq.row
    have rowG : RowAt G2 r.1 r.2 := ⟨aw, kp _ _ (nD g1) g1, kp _ _ (nD g2) g2⟩
    obtain ⟨b, hp, hb, qk⟩ := row_qok rowG rq.v rq.u
    refine ⟨wipe_set, _, set_at hj, r.1, _, _, _, _, _, _, _, rfl, hp, qk, fun y dy G3 s3 hy => ?_⟩
    have J3 : QJ CQ G3 y r.2 := qj_of rq.v (nodup_of_unlike rq.u) hy (s3 _ _ hb)
    have hd3 := s3 _ _ hd
    refine ⟨_, hd3, by rw [List.length_map, lk, sizeLine_eq]; omega, fun b o nb e => ?_, ps ++ [(y, r.2)], ?_, fun p hp => ?_, by rw [List.length_append, lk]; rfl, ?_⟩
    · rw [upd_ne nb]
      exact s3 _ _ (kp b o nb e)
    · rw [upd_same, List.map_append]
      rfl
    · rcases List.mem_append.mp hp with h | h
      · exact ((all p h).same s3).putL hd3
      · cases List.mem_singleton.mp h
        exact J3.putL hd3
    · rw [List.map_append, List.take_add_one, hr, List.map_append, sn]
      rfl
  · rintro G ⟨kp, ps, hd, all, lk, sn⟩
    rw [List.length_map] at lk sn
    rw [List.take_of_length_le (Nat.le_refl _)] at sn
    exact fin D ps G (fun b o e => kp b o (nD e) e) ⟨hd, all, by omega⟩ sn
/-- the parts of questions -/
def tPartsL (CQ : Addr) (i j : Nat) : TE := fun σ H Q => ∃ (m : Addr) (ps : List (Addr × QD)), σ[i]? = some (some (.ref m)) ∧ j < σ.length ∧ QsAt CQ H m ps ∧ ∀ (l : Addr) (rs : List (Addr × QD)) (H' : Hp), Same H H' → Rows H' l rs 60 → rs.map Prod.snd = ps.map Prod.snd → Q (.ref l) H'
theorem parts_lc {K : PySem.W.Frag} {CQ : Addr} {i j : Nat} : ∀ σ H Q, tPartsL CQ i j σ H Q → tLc (iList K (tVar i)) (gName j) tYes (tCall (spParts CQ) [] E0 (tCons (tVar j) tNil)) [j] σ H Q := by
  rintro σ H Q ⟨l, rs, hi, hj, R, fin⟩
  have ln := R.len
  refine ⟨_, hi, l, rfl, ⟨_, SqL.of R.at_⟩, fun D hD => ?_⟩
  have nD : ∀ {b : Addr} {o : HO}, H b = some o → b ≠ D := fun {b o} e z => by rw [z, hD] at e; cases e
  refine lc_it (walk_list (K := K) (a := l) (xs := rs.map fun r => V.ref r.1)) (fun k G => (∀ b o, b ≠ D → H b = some o → G b = some o) ∧ ∃ ps : List (Addr × QD), G D = some (.lst (ps.map fun p => V.ref p.1)) ∧ (∀ p ∈ ps, RowQ G p.1 p.2) ∧ ps.length = k ∧ ps.map Prod.snd = (rs.take k).map Prod.snd) ⟨fun b o nb e => by rw [upd_ne nb]; exact e, [], upd_same, (fun p hp => nomatch hp), rfl, rfl⟩ (fun k G _ h => SqL.of (h.1 _ _ (nD R.at_) R.at_)) ?_ ?_
  · rintro k x G1 G2 hk ⟨kp, ps, hd, all, lk, sn⟩ ⟨rfl, fx⟩
    rw [List.getElem?_map] at fx
    obtain ⟨r, hr, rfl⟩ : ∃ r, rs[k]? = some r ∧ x = V.ref r.1 := by
      cases e : rs[k]? with
      | none => rw [e] at fx; cases fx
      | some y => rw [e] at fx; exact ⟨y, rfl, (Option.some.inj fx).symm⟩
    have kl : k < rs.length := (List.getElem?_eq_some_iff.mp hr).1
    have J := R.all r (List.mem_of_getElem? hr)
    obtain ⟨dx, aw, g1, g2, _⟩ := J.at
    refine ⟨wipe_set, _, set_at hj, r.1, dx, _, _, _, _, _, _, _, rfl, kp _ _ (nD g1) g1, fun t G3 s3 ht => ?_⟩
    have rq : RowQ G3 t r.2 := ⟨⟨aw, ht, s3 _ _ (kp _ _ (nD g2) g2)⟩, J.v, unlike_nodup J.nd _ (Nat.le_refl _)⟩
    have hd3 := s3 _ _ hd
    refine ⟨_, hd3, by rw [List.length_map, lk, sizeLine_eq]; omega, fun b o nb e => ?_, ps ++ [(t, r.2)], ?_, fun p hp => ?_, by rw [List.length_append, lk]; rfl, ?_⟩
    · rw [upd_ne nb]
      exact s3 _ _ (kp b o nb e)
    · rw [upd_same, List.map_append]
      rfl
    · rcases List.mem_append.mp hp with h | h
      · exact ((all p h).same s3).putL hd3
      · cases List.mem_singleton.mp h
        exact rq.putL hd3
    · rw [List.map_append, List.take_add_one, hr, List.map_append, sn]
      rfl
  · rintro G ⟨kp, ps, hd, all, lk, sn⟩
    rw [List.length_map] at lk sn
    rw [List.take_of_length_le (Nat.le_refl _)] at sn
    exact fin D ps G (fun b o e => kp b o (nD e) e) ⟨hd, all, by omega⟩ sn
end Pk
namespace Pk
open PySem L2
/-! ### kin, told of every two -/
theorem QsAt.atI {CQ : Addr} {H : Hp} {l : Addr} {ps : List (Addr × QD)} (h : QsAt CQ H l ps) {i : Nat} (hi : i < ps.length) : atI (ps.map fun p => V.ref p.1) (i : Int) = some (.ref ps[i].1) ∧ QJ CQ H ps[i].1 ps[i].2 :=
  ⟨atI_nat (by rw [List.getElem?_map, List.getElem?_eq_getElem hi]; rfl), h.all _ (List.getElem_mem hi)⟩
theorem snd_at {ps rs : List (Addr × QD)} (e : ps.map Prod.snd = rs.map Prod.snd) {i : Nat} {r : Addr × QD} (hr : rs[i]? = some r) : ∃ hi : i < ps.length, ps[i].2 = r.2 := by
  have h1 : (rs.map Prod.snd)[i]? = some r.2 := by rw [List.getElem?_map, hr]; rfl
  rw [← e, List.getElem?_map] at h1
  cases e2 : ps[i]? with
  | none => rw [e2] at h1; cases h1
  | some p =>
    have hi := (List.getElem?_eq_some_iff.mp e2).1
    refine ⟨hi, ?_⟩
    rw [List.getElem?_eq_getElem hi] at h1
    exact Option.some.inj h1
theorem kKin {K : PySem.W.Frag} {f : Addr} {fd : FuncData} (F : Fun K "is_kin" "Question.is_kin" sQKin f fd) : KBn K fd ["self", "other"] 1 ["other"] (fun us ws => us ++ ws) (fun vs zs => vs ++ zs) := by
  obtain ⟨oc, od, kV, doc, pm, an, cdv, ct, osl, rfl, lk, hcd⟩ := F.ex
  exact ⟨fun s us ws X l1 l2 => match us, ws, l1, l2 with
    | [u], [v], _, _ => .of_eq rfl, fun r1 r2 => r1.append r2⟩
/-- due -/
def tDue : TE := fun σ H Q => ∃ (p p2 : Addr) (q q2 : QD), σ[3]? = some (some (.ref p)) ∧ σ[5]? = some (some (.ref p2)) ∧ RowQ H p q ∧ RowQ H p2 q2 ∧ Q (.bl (kinB q q2)) H
def spKinR (CQ : Addr) : Sp := fun vs H Q _ => ∃ (l : Addr) (rs : List (Addr × QD)) (n : Nat), vs = [.ref l] ∧ Rows H l rs n ∧ n ≤ 50 ∧ ∀ H', Same H H' → Q (.bl true) H'
def tToldK (CQ : Addr) : TE := fun σ H Q => ∃ (m : Addr) (ps : List (Addr × QD)) (i j : Nat) (hi : i < ps.length) (hj : j < ps.length), σ[1]? = some (some (.ref m)) ∧ σ[2]? = some (some (.int i)) ∧ σ[4]? = some (some (.int j)) ∧ QsAt CQ H m ps ∧ ∀ (t : Addr) (H' : Hp), Same H H' → H' t = some (.lst [.bl (kinB ps[i].2 ps[j].2), .bl (kinB ps[i].2 ps[j].2)]) → Q (.ref t) H'
def tNeeds (CQ : Addr) : TT := fun σ H Q => ∃ (m : Addr) (ps : List (Addr × QD)) (i : Nat), i < ps.length ∧ σ[1]? = some (some (.ref m)) ∧ σ[2]? = some (some (.int i)) ∧ QsAt CQ H m ps ∧ ∀ H', Same H H' → Q false H'
section
variable {P : Program} {w : World} {K : PySem.W.Frag} {mg : Str → Option Value} {base : Heap}
abbrev NKinR : List Str := ["_law_rows", "_law_things", "_law_at", "_law_row", "_law_place", "_law_second", "_law_due", "_law_told"]
theorem scKinR : FnScope NKinR ["_law_rows"] (defScope sKinR) := ⟨rfl, rfl, rfl, by decide +kernel, rfl, by decide +kernel, by decide +kernel⟩
theorem ok_kinR {f fO fS fL CQ c10 : Addr} {fd fdO fdS fdL : FuncData} (F : Fun K "_law_kin_right" "_law_kin_right" sKinR f fd) (C : QCls K CQ) (me : mg "enumerate" = none) (mr : mg "repr" = none)
    (GO : FnOk P w K mg base CX0 7 fO fdO ["_law_parts_here"] (spOf CQ)) (kO : PySem.W.keepIn K (.ref fO) = true) (bO : Binds K fdO ["_law_parts_here"] []) (gO : mg "_law_of" = some (.ref fO))
    (GS : FnOk P w K mg base CX0 7 fS fdS psAsk (spSaid CQ)) (kS : PySem.W.keepIn K (.ref fS) = true) (bS : Binds K fdS psAsk []) (gS : mg "_law_said" = some (.ref fS))
    (FK : Fun K "is_kin" "Question.is_kin" sQKin fL fdL) (GK : FnOk P w K mg base (L2.CX P w) 4 fL fdL ["self", "other"] (spKin CQ c10)) (MK : Meth K CQ "is_kin" fL) :
    FnG P w K mg base CX0 8 f fd ["_law_rows"] (spKinR CQ) := by
  refine okG F scKinR (fun vs H Q E h => ?_) (fun cdv A calm outer s H vs Q E hr h => ?_)
  · obtain ⟨l, rs, n, rfl, _⟩ := h
    rfl
  · obtain ⟨l, rs, n, rfl, R, n50, fin⟩ := h
    have r4 : Room 4 _ := hr.mono (by decide)
    have hu64 : _ + 64 < cLine := Nat.lt_of_le_of_lt (Nat.add_le_add_left (by decide) _) (room_show hr)
    refine ⟨_, pss_cons (ps_imp (tAsg (tThings CQ 0 3) (gName 1)) (ps_setLc (i := 1) (own := [("_law_row", 3)]) (g := gName 3) rfl scKinR.nd rfl rfl (sw_true rfl rfl rfl (by decide +kernel)) (pi_list (pv 0)) (blkOk_by (N := NKinR) (sc := defScope sKinR) (by decide +kernel))
          (fun _ _ _ _ _ => pg_name (i := 3) scKinR.nd rfl (Or.inl rfl)) (fun _ _ _ _ _ => pts_nil) (fun _ _ _ _ _ => pe_call (E := E0) GO hr (by rfl) gO kO bO .nil pass0 (pa_cons (pv 3) pa_nil))) (fun D σ H h => things_lc _ _ _ h))
      (pss_cons (ps_for PassesOwn.never rfl (pi_enum (by rfl) me (pa_cons (pv 0) pa_nil)) (pg_tup rfl (pgs_cons (pg_name (i := 2) scKinR.nd rfl (.inl rfl)) (pgs_cons (pg_name (i := 3) scKinR.nd rfl (.inl rfl)) pgs_nil)))
        (pss_cons (ps_for PassesOwn.never rfl (pi_enum (by rfl) me (pa_cons (pv 0) pa_nil)) (pg_tup rfl (pgs_cons (pg_name (i := 4) scKinR.nd rfl (.inl rfl)) (pgs_cons (pg_name (i := 5) scKinR.nd rfl (.inl rfl)) pgs_nil)))
          (pss_cons (ps_set (i := 6) scKinR.nd rfl (.inl rfl) (pe_imp tDue (pe_or (pe_cmpR op_eq (pe_ix ix_tup (pv 3) pe_int (fun _ _ => rfl)) (pe_ix ix_tup (pv 5) pe_int (fun _ _ => rfl)) (nomark _)) (pe_one (pe_and (pe_cmpR op_ne (pe_ix ix_tup (pv 3) pe_int (fun _ _ => rfl)) pe_str (nomark _)) (pe_one (pe_cmpR op_eq (pe_ix ix_tup (pv 3) pe_int (fun _ _ => rfl)) (pe_ix ix_tup (pv 5) pe_int (fun _ _ => rfl)) (nomark _)))))) (by
              rintro σ H Q ⟨p, p2, q, q2, e3, e5, ro, ro2, fin⟩
              obtain ⟨a, hp, _⟩ := ro.row
              obtain ⟨a2, hp2, _⟩ := ro2.row
              refine ⟨_, e3, p, _, 0, .str q.nm, rfl, rfl, SqT.of hp, rfl, _, e5, p2, _, 0, .str q2.nm, rfl, rfl, SqT.of hp2, rfl, rfl, _, rfl, ?_⟩
              unfold kinB at fin
              by_cases e : q.nm = q2.nm
              · refine iteT' (by simp [e]) ?_
                simpa [e] using fin
              · refine iteF' (by simpa using e) ?_
                refine ⟨_, e3, p, _, 6, .str q.ki, rfl, rfl, SqT.of hp, rfl, rfl, _, rfl, ?_⟩
                by_cases e2 : q.ki = ""
                · refine iteF' (by simp [e2]) ?_
                  simpa [e, e2] using fin
                · refine iteT' (by simpa using e2) ?_
                  refine ⟨_, e3, p, _, 6, .str q.ki, rfl, rfl, SqT.of hp, rfl, _, e5, p2, _, 6, .str q2.ki, rfl, rfl, SqT.of hp2, rfl, rfl, ?_⟩
                  simpa [e, e2] using fin)))
          (pss_cons (ps_set (i := 7) scKinR.nd rfl (.inl rfl) (pe_imp (tToldK CQ) (pe_lst (pa_cons (pe_ix ix_tup (pe_call GS hr (by rfl) gS kS bS .nil pass0 (pa_cons pe_int (pa_cons (pe_ix ix_list (pv 1) (pv 2) (fun _ _ => rfl)) (pa_cons (pe_ix ix_list (pv 1) (pv 4) (fun _ _ => rfl)) pa_nil)))) (pe_un un_neg pe_int) (fun _ _ => rfl))
              (pa_cons (pe_methN0 (E := E0) (pe_ix ix_list (pv 1) (pv 2) (fun _ _ => rfl)) C.cls MK GK r4 (kKin FK) pass_no (pk_cons (pe_ix ix_list (pv 1) (pv 4) (fun _ _ => rfl)) pk_nil)) pa_nil))) (by
              rintro σ H Q ⟨m, ps, i, j, hi, hj, e1, e2, e4, L, fin⟩
              obtain ⟨ai, Ji⟩ := L.atI hi
              obtain ⟨aj, Jj⟩ := L.atI hj
              refine ⟨_, e1, _, e2, m, _, _, _, rfl, rfl, SqL.of L.at_, ai, _, e1, _, e4, m, _, _, _, rfl, rfl, SqL.of L.at_, aj, 0, _, _, .told (.bl (kinB ps[i].2 ps[j].2)), rfl, .kin Ji Jj, fun t H1 s1 ht => ?_⟩
              refine ⟨1, rfl, t, _, -1, .bl (kinB ps[i].2 ps[j].2), rfl, rfl, SqT.of ht, rfl, ?_⟩
              have L1 := L.same s1
              have Ji1 := Ji.same s1
              obtain ⟨dx, aw, hx, _⟩ := Ji1.at
              refine ⟨_, e1, _, e2, m, _, _, _, rfl, rfl, SqL.of L1.at_, ai, _, dx, _, rfl, hx, look_isKin, _, e1, _, e4, m, _, _, _, rfl, rfl, SqL.of L1.at_, aj, rfl, _, _, _, rfl, Ji1, .inl ⟨_, _, rfl, Jj.same s1, ?_⟩⟩
              exact ⟨by show 2 ≤ sizeLine; decide, fun t2 n2 => fin t2 _ (s1.trans (same_upd n2)) upd_same⟩)))
          (pss_one (ps_if (pt_cmpR op_ne (pe_callB (call_show (show Calm _ from calm) (room_show hr)) (by rfl) mr (by decide +kernel) (pa_cons (pv 7) pa_nil)) (pe_callB (call_show (show Calm _ from calm) (room_show hr)) (by rfl) mr (by decide +kernel) (pa_cons (pe_lst (pa_cons (pv 6) (pa_cons (pv 6) pa_nil))) pa_nil)) (nomark _)) (pss_one (ps_ret pe_bl)) pss_nil)))))
        (pss_one (ps_if (pt_imp (tNeeds CQ) (pt_cmpR (op_neD hu64) (pe_lst (pa_cons (pe_call GS hr (by rfl) gS kS bS .nil pass0 (pa_cons pe_int (pa_cons pe_non (pa_cons (pe_ix ix_list (pv 1) (pv 2) (fun _ _ => rfl)) pa_nil)))) (pa_cons (pe_call GS hr (by rfl) gS kS bS .nil pass0 (pa_cons pe_int (pa_cons pe_non (pa_cons (pe_ix ix_list (pv 1) (pv 2) (fun _ _ => rfl)) pa_nil)))) pa_nil))) (pe_op op_rep (pe_lst (pa_cons (pe_tup (pa_cons pe_str (pa_cons pe_non pa_nil))) pa_nil)) pe_int) (nomark _)) (by
              rintro σ H Q ⟨m, ps, i, hi, e1, e2, L, fin⟩
              obtain ⟨ai, Ji⟩ := L.atI hi
              refine ⟨_, e1, _, e2, m, _, _, _, rfl, rfl, SqL.of L.at_, ai, 1, .non, _, .told .non, rfl, .need (.inl rfl) Ji, fun t1 H1 s1 h1 => ?_⟩
              refine ⟨_, e1, _, e2, m, _, _, _, rfl, rfl, SqL.of (L.same s1).at_, ai, 4, .non, _, .told .non, rfl, .need (.inr rfl) (Ji.same s1), fun t2 H2 s2 h2 => ?_⟩
              refine ⟨by show 2 ≤ sizeLine; decide, fun l1 n1 => ?_⟩
              have s3 := same_upd (o := .lst [.ref t1, .ref t2]) n1
              have hl1 : upd H2 l1 (.lst [.ref t1, .ref t2]) l1 = some (.lst [.ref t1, .ref t2]) := upd_same
              generalize upd H2 l1 (.lst [.ref t1, .ref t2]) = H3 at s3 hl1 ⊢
              refine ⟨by show 2 ≤ sizeLine; decide, fun t3 n3 => ?_⟩
              have s4 := same_upd (o := .tup [.str "told", .non]) n3
              have ht3 : upd H3 t3 (.tup [.str "told", .non]) t3 = some (.tup [.str "told", .non]) := upd_same
              generalize upd H3 t3 (.tup [.str "told", .non]) = H4 at s4 ht3 ⊢
              refine ⟨by show 1 ≤ sizeLine; decide, fun l2 n4 => ?_⟩
              have s5 := same_upd (o := .lst [.ref t3]) n4
              have hl2 : upd H4 l2 (.lst [.ref t3]) l2 = some (.lst [.ref t3]) := upd_same
              generalize upd H4 l2 (.lst [.ref t3]) = H5 at s5 hl2 ⊢
              refine ⟨l2, 2, _, rfl, rfl, hl2, by decide, by decide, by show 1 * 2 ≤ sizeLine; decide, fun l3 n5 => ?_⟩
              have s6 := same_upd (o := .lst [.ref t3, .ref t3]) n5
              have hl3 : upd H5 l3 (.lst [.ref t3, .ref t3]) l3 = some (.lst [.ref t3, .ref t3]) := upd_same
              rw [show (List.replicate (Int.toNat 2) [V.ref t3]).flatten = [V.ref t3, V.ref t3] from rfl]
              generalize upd H5 l3 (.lst [.ref t3, .ref t3]) = H6 at s6 hl3 ⊢
              have s36 := (s4.trans s5).trans s6
              have dt : ∀ {t : Addr}, H6 t = some (.tup [.str "told", .non]) → Dp K H6 (.ref t) (.tuple [.str "told", .none]) := fun ht => .tup (SqT.of ht) (.cons (.str _) (.cons .non .nil))
              have ht3' := s6 _ _ (s5 _ _ ht3)
              refine ⟨.list [.tuple [.str "told", .none], .tuple [.str "told", .none]], .list [.tuple [.str "told", .none], .tuple [.str "told", .none]], .lst (SqL.of (s36 _ _ hl1)) (.cons (dt (s36 _ _ (s3 _ _ (s2 _ _ h1)))) (.cons (dt (s36 _ _ (s3 _ _ h2))) .nil)), .lst (SqL.of hl3) (.cons (dt ht3') (.cons (dt ht3') .nil)), by decide +kernel, by decide +kernel, _, rfl, ?_⟩
              have ef : (!PyData.eqv (.list [.tuple [.str "told", .none], .tuple [.str "told", .none]]) (.list [.tuple [.str "told", .none], .tuple [.str "told", .none]])) = false := by decide +kernel
              rw [ef]
              exact fin _ (((s1.trans s2).trans s3).trans s36))) (pss_one (ps_ret pe_bl)) pss_nil))))
      (pss_one (ps_ret pe_bl))), ?_⟩
    refine ⟨l, rs, n, rfl, by show 3 < 8; decide, R, n50, fun m ps H1 s1 L sn => ?_⟩
    have R1 := R.same s1
    refine ⟨_, rfl, l, _, rfl, SqL.of R1.at_, ?_⟩
    have rowAt : ∀ {i : Nat} {y : V}, (rs.map fun r => V.ref r.1)[i]? = some y → ∃ r, rs[i]? = some r ∧ y = V.ref r.1 := fun {i y} fy => by
      rw [List.getElem?_map] at fy
      cases e : rs[i]? with
      | none => rw [e] at fy; cases fy
      | some r => rw [e] at fy; exact ⟨r, rfl, (Option.some.inj fy).symm⟩
    refine for_it (walk_enum (K := K) (a := l) (xs := rs.map fun r => V.ref r.1)) (fun j σ G => ∃ v2 v3 v4 v5 v6 v7, σ = [some (.ref l), some (.ref m), v2, v3, v4, v5, v6, v7] ∧ Same H1 G) ⟨_, _, _, _, _, _, rfl, Same.refl _⟩ (fun j σ G _ ⟨_, _, _, _, _, _, _, e⟩ => SqL.of (e _ _ R1.at_)) ?_ ?_
    · rintro i x σ G1 G2 hi ⟨v2, v3, v4, v5, v6, v7, rfl, g1⟩ ⟨T0, x1, x2, rfl, nT, rfl, f1, f2⟩
      dsimp only at f1 f2
      obtain rfl := Option.some.inj f1
      obtain ⟨r, hr', rfl⟩ := rowAt f2
      have sT := same_upd (o := .tup [.int (i : Nat), .ref r.1]) nT
      refine ⟨T0, _, rfl, SqT.of upd_same, rfl, _, _, rfl, _, _, rfl, rfl, ?_⟩
      generalize upd G1 T0 (.tup [.int (i : Nat), .ref r.1]) = G3 at sT ⊢
      have g3 := g1.trans sT
      have R3 := R1.same g3
      have L3 := L.same g3
      obtain ⟨pi, ei⟩ := snd_at sn hr'
      refine ⟨_, rfl, l, _, rfl, SqL.of R3.at_, ?_⟩
      refine for_it (walk_enum (K := K) (a := l) (xs := rs.map fun r => V.ref r.1)) (fun j σ G => ∃ v4 v5 v6 v7, σ = [some (.ref l), some (.ref m), some (.int (i : Nat)), some (.ref r.1), v4, v5, v6, v7] ∧ Same G3 G) ⟨_, _, _, _, rfl, Same.refl _⟩ (fun j σ G _ ⟨_, _, _, _, _, e⟩ => SqL.of (e _ _ R3.at_)) ?_ ?_
      · rintro j x σ G4 G5 hj ⟨v4, v5, v6, v7, rfl, g4⟩ ⟨T1, y1, y2, rfl, nT1, rfl, d1, d2⟩
        dsimp only at d1 d2
        obtain rfl := Option.some.inj d1
        obtain ⟨r2, hr2, rfl⟩ := rowAt d2
        have sU := same_upd (o := .tup [.int (j : Nat), .ref r2.1]) nT1
        refine ⟨T1, _, rfl, SqT.of upd_same, rfl, _, _, rfl, _, _, rfl, rfl, ?_⟩
        generalize upd G4 T1 (.tup [.int (j : Nat), .ref r2.1]) = G6 at sU ⊢
        have g6 := g4.trans sU
        have R6 := R3.same g6
        have L6 := L3.same g6
        obtain ⟨pj, ej⟩ := snd_at sn hr2
        refine ⟨r.1, r2.1, r.2, r2.2, rfl, rfl, R6.all r (List.mem_of_getElem? hr'), R6.all r2 (List.mem_of_getElem? hr2), ?_⟩
        refine ⟨m, ps, i, j, pi, pj, rfl, rfl, rfl, L6, fun t G7 s7 ht => ?_⟩
        rw [ei, ej] at ht
        have sw := shows_bools (K := K) [kinB r.2 r2.2, kinB r.2 r2.2] ht (by show 2 ≤ 100; decide)
        refine ⟨_, rfl, .ref t, _, rfl, sw.dq, sw.sh, sw.dp, sw.sz, ?_⟩
        refine ⟨_, rfl, _, rfl, by show 2 ≤ sizeLine; decide, fun t2 n2 => ?_⟩
        have s8 := same_upd (o := .lst [.bl (kinB r.2 r2.2), .bl (kinB r.2 r2.2)]) n2
        have sw2 := shows_bools (K := K) [kinB r.2 r2.2, kinB r.2 r2.2] (upd_same (H := G7) (a := t2) (o := .lst [.bl (kinB r.2 r2.2), .bl (kinB r.2 r2.2)])) (by show 2 ≤ 100; decide)
        refine ⟨.ref t2, _, rfl, sw2.dq, sw2.sh, sw2.dp, sw2.sz, rfl, _, rfl, iteF' (by simp) ?_⟩
        exact ⟨_, _, _, _, rfl, (g6.trans s7).trans s8⟩
      · rintro σ G4 ⟨v4, v5, v6, v7, rfl, g4⟩
        exact ⟨m, ps, i, pi, rfl, rfl, L3.same g4, fun G5 s5 => iteF ⟨_, _, _, _, _, _, rfl, (g3.trans g4).trans s5⟩⟩
    · rintro σ G ⟨v2, v3, v4, v5, v6, v7, rfl, g⟩
      exact fin _ (s1.trans g)
end
end Pk
namespace Pk
open PySem L2
/-! ### lists right: the readings -/
theorem ShowsL.intW {K : PySem.W.Frag} {H : Hp} {L : List V} {ds : List PyData} {n k : Nat} {i : Int} (hl : i.natAbs.log2 < 1920) (h : ShowsL K H L ds n k) : ShowsL K H (.int i :: L) (.int i :: ds) (n + 1923) k where
  dp := .cons (.int i) h.dp
  sh := by
    have e : PyData.showable (.int i) = true := decide_eq_true hl
    simp [PyData.showableAll, e, h.sh]
  de := by
    have := h.de
    simp [PyData.depthAll, PyData.depth]
    omega
  nd := by simp [PyData.hasDictAll, PyData.hasDict, h.nd]
  sz := by
    have h1 := h.sz
    have h2 := int_text_length_le (k := 1920) (by decide) hl
    have e : (PyData.int i).shown = Str.ofString (toString i) := by simp [PyData.shown]
    have e2 : ((PyData.shownAll (.int i :: ds)).map fun t => t.length + 2).sum = ((PyData.int i).shown.length + 2) + ((PyData.shownAll ds).map fun t => t.length + 2).sum := by simp [PyData.shownAll]
    rw [e2, e, ofString_length]
    omega
/-- repr([parts(one) for one in x]) and repr(rows) are one text -/
theorem tCB_eq {r : List V → Hp → VK → Prop} {te : TE} {σ : St} {H : Hp} {Q : VK} : tCB r (tCons te tNil) σ H Q = te σ H fun v H1 => r [v] H1 Q := rfl
def tNeQ (CQ : Addr) (i j k : Nat) : TT := fun σ H Q => ∃ (m l : Addr) (ps rs : List (Addr × QD)) (n : Nat), σ[i]? = some (some (.ref m)) ∧ σ[j]? = some (some (.ref l)) ∧ k < σ.length ∧ QsAt CQ H m ps ∧ Rows H l rs n ∧ n ≤ 60 ∧ ps.map Prod.snd = rs.map Prod.snd ∧ ∀ H', Same H H' → Q false H'
theorem ne_imp {K : PySem.W.Frag} {CQ : Addr} {i j k : Nat} : ∀ σ H Q, tNeQ CQ i j k σ H Q → tTest (tOp rNe (tCB (rShow K) (tCons (tLc (iList K (tVar i)) (gName k) tYes (tCall (spParts CQ) [] E0 (tCons (tVar k) tNil)) [k]) tNil)) (tCB (rShow K) (tCons (tVar j) tNil))) σ H Q := by
  rintro σ H Q ⟨m, l, ps, rs, n, hi, hj, hk, L, R, n60, sn, fin⟩
  unfold tTest tOp
  rw [tCB_eq]
  refine parts_lc σ H _ ⟨m, ps, hi, hk, L, fun l2 rs2 H1 s1 R2 sn2 => ?_⟩
  have sh := R2.shows (K := K) (by decide)
  refine ⟨.ref l2, _, rfl, sh.dq, sh.sh, sh.dp, sh.sz, ?_⟩
  have sh2 := (R.same s1).shows (K := K) n60
  refine ⟨_, hj, .ref l, _, rfl, sh2.dq, sh2.sh, sh2.dp, sh2.sz, ?_⟩
  rw [sn2, sn]
  refine ⟨rfl, _, rfl, ?_⟩
  simpa using fin H1 s1
def tEqQ (CQ : Addr) (i j k : Nat) : TE := fun σ H Q => ∃ (m l : Addr) (ps rs : List (Addr × QD)) (n : Nat), σ[i]? = some (some (.ref m)) ∧ σ[j]? = some (some (.ref l)) ∧ k < σ.length ∧ QsAt CQ H m ps ∧ Rows H l rs n ∧ n ≤ 60 ∧ ps.map Prod.snd = rs.map Prod.snd ∧ ∀ H', Same H H' → Q (.bl true) H'
theorem eq_imp {K : PySem.W.Frag} {CQ : Addr} {i j k : Nat} : ∀ σ H Q, tEqQ CQ i j k σ H Q → tOp rEq (tCB (rShow K) (tCons (tLc (iList K (tVar i)) (gName k) tYes (tCall (spParts CQ) [] E0 (tCons (tVar k) tNil)) [k]) tNil)) (tCB (rShow K) (tCons (tVar j) tNil)) σ H Q := by
  rintro σ H Q ⟨m, l, ps, rs, n, hi, hj, hk, L, R, n60, sn, fin⟩
  unfold tOp
  rw [tCB_eq]
  refine parts_lc σ H _ ⟨m, ps, hi, hk, L, fun l2 rs2 H1 s1 R2 sn2 => ?_⟩
  have sh := R2.shows (K := K) (by decide)
  refine ⟨.ref l2, _, rfl, sh.dq, sh.sh, sh.dp, sh.sz, ?_⟩
  have sh2 := (R.same s1).shows (K := K) n60
  refine ⟨_, hj, .ref l, _, rfl, sh2.dq, sh2.sh, sh2.dp, sh2.sz, ?_⟩
  rw [sn2, sn]
  refine ⟨rfl, ?_⟩
  simpa using fin H1 s1
/-- sum([row[4] for row in rows]) -/
def tMany (i j : Nat) : TE := fun σ H Q => ∃ (l : Addr) (rs : List (Addr × QD)) (n : Nat), σ[i]? = some (some (.ref l)) ∧ j < σ.length ∧ Rows H l rs n ∧ n ≤ 60 ∧ ∀ H', Same H H' → Q (.int (toils rs).sum) H'
theorem many_imp {K : PySem.W.Frag} {i j : Nat} : ∀ σ H Q, tMany i j σ H Q → tLc (iList K (tVar i)) (gName j) tYes (tOp (rIxT K) (tVar j) (tC (.int 4))) [j] σ H (fun v H1 => ∃ (l : Addr) (ns : List Int), [v] = [V.ref l] ∧ SqL K H1 l (ns.map V.int) ∧ Q (.int ns.sum) H1) := by
  rintro σ H Q ⟨l, rs, n, hi, hj, R, n60, fin⟩
  have ln := R.len
  refine ⟨_, hi, l, rfl, ⟨_, SqL.of R.at_⟩, fun D hD => ?_⟩
  have nD : ∀ {b : Addr} {o : HO}, H b = some o → b ≠ D := fun {b o} e z => by rw [z, hD] at e; cases e
  refine lc_it (walk_list (K := K) (a := l) (xs := rs.map fun r => V.ref r.1)) (fun k G => (∀ b o, b ≠ D → H b = some o → G b = some o) ∧ G D = some (.lst (((toils rs).take k).map V.int))) ⟨fun b o nb e => by rw [upd_ne nb]; exact e, upd_same⟩ (fun k G _ h => SqL.of (h.1 _ _ (nD R.at_) R.at_)) ?_ ?_
  · rintro k x G1 G2 hk ⟨kp, hd⟩ ⟨rfl, fx⟩
    rw [List.getElem?_map] at fx
    obtain ⟨r, hr, rfl⟩ : ∃ r, rs[k]? = some r ∧ x = V.ref r.1 := by
      cases e : rs[k]? with
      | none => rw [e] at fx; cases fx
      | some y => rw [e] at fx; exact ⟨y, rfl, (Option.some.inj fx).symm⟩
    have kl : k < rs.length := (List.getElem?_eq_some_iff.mp hr).1
    obtain ⟨aw, g1, g2⟩ := (R.all r (List.mem_of_getElem? hr)).row
    refine ⟨wipe_set, _, set_at hj, r.1, _, 4, .int r.2.tl, rfl, rfl, SqT.of (kp _ _ (nD g1) g1), rfl, _, hd, ?_, fun b o nb e => ?_, ?_⟩
    · rw [List.length_map, List.length_take, sizeLine_eq]
      omega
    · rw [upd_ne nb]
      exact kp b o nb e
    · have ht : (toils rs)[k]? = some r.2.tl := by
        unfold toils
        rw [List.getElem?_map, hr]
        rfl
      rw [upd_same, List.take_add_one, ht, List.map_append]
      rfl
  · rintro G ⟨kp, hd⟩
    rw [List.length_map, List.take_of_length_le (by unfold toils; rw [List.length_map]; exact Nat.le_refl _)] at hd
    exact ⟨D, toils rs, rfl, SqL.of hd, fin G fun b o e => kp b o (nD e) e⟩
theorem toils_snd {ps rs : List (Addr × QD)} (e : ps.map Prod.snd = rs.map Prod.snd) : toils ps = toils rs := by
  have : ∀ l : List (Addr × QD), toils l = (l.map Prod.snd).map (·.tl) := fun l => by
    unfold toils
    rw [List.map_map]
    rfl
  rw [this, this, e]
theorem sort_snd {ps rs : List (Addr × QD)} (e : ps.map Prod.snd = rs.map Prod.snd) : (sortQ ps).map Prod.snd = (sortQ rs).map Prod.snd := by
  have h : ∀ l : List (Addr × QD), (sortQ l).map Prod.snd = (l.map Prod.snd).mergeSort leQ := fun l => List.map_mergeSort (r := fun a b : Addr × QD => leQ a.2 b.2) (s := leQ) (f := Prod.snd) (l := l) (fun a _ b _ => rfl)
  rw [h, h, e]
end Pk
namespace Pk
open PySem L2
/-! ### lists right -/
def gTS0 {α : Type} (us _its ws : List α) : List α := us ++ (ws.drop 1 ++ ws.take 1)
section
variable {K : PySem.W.Frag} {f : Addr} {fd : FuncData}
theorem bTS1 (F : FunDf K "toil_sum" sToilSum [.int 0] f fd) : ∃ ds, Vals ([.int 0] : List V) ds ∧ Binds K fd ["questions", "start"] ds :=
  F.binds1 1 0 (fun z => nomatch z) rfl fun T kV doc pm an cdv ct us its l1 l2 => match us, its, l1, l2 with
    | [_], [_], _, _ => ⟨_, rfl, rfl⟩
theorem kTS0 (F : FunDf K "toil_sum" sToilSum [.int 0] f fd) : ∃ its : List Value, KBn K fd ["questions", "start"] 0 ["start", "questions"] (fun us ws => gTS0 us its ws) (fun vs zs => gTS0 vs [.int 0] zs) :=
  kbnD F 0 ["start", "questions"] gTS0 (fun z => nomatch z) (fun r1 _ r3 => r1.append ((r3.drop 1).append (r3.take 1)))
    fun T kV doc pm an cdv ct us its ws l1 l2 l3 => match us, its, ws, l1, l2, l3 with
    | [], [_], [_, _], _, _, _ => ⟨_, rfl, rfl⟩
theorem kBy (F : Fun K "by_toil" "by_toil" sByToil f fd) : KBinds K fd ["questions"] ["questions"] (fun us ws => us ++ ws) (fun vs zs => vs ++ zs) :=
  kbinds_one F (fun _ _ _ _ _ _ _ => rfl) (fun _ _ _ _ _ _ _ => rfl)
end
/-- the three sums -/
def tTold3 (CQ : Addr) : TE := fun σ H Q => ∃ (m : Addr) (ps : List (Addr × QD)) (n : Int), σ[3]? = some (some (.ref m)) ∧ σ[1]? = some (some (.int n)) ∧ QsAt CQ H m ps ∧ ∀ (t : Addr) (H' : Hp), Same H H' → H' t = some (.lst [.int (toils ps).sum, .int ((toils ps).sum + n), .int ((toils ps).sum + n)]) → Q (.ref t) H'
theorem QsAt.upd {CQ : Addr} {H : Hp} {l m : Addr} {ps : List (Addr × QD)} {L M : List V} (h : QsAt CQ H l ps) (hm : H m = some (.lst L)) (ne : l ≠ m) : QsAt CQ (upd H m (.lst M)) l ps :=
  ⟨by rw [upd_ne ne]; exact h.at_, fun p hp => (h.all p hp).putL hm, h.len⟩
theorem Rows.upd {H : Hp} {l m : Addr} {rs : List (Addr × QD)} {n : Nat} {L M : List V} (h : Rows H l rs n) (hm : H m = some (.lst L)) (ne : l ≠ m) : Rows (upd H m (.lst M)) l rs n :=
  ⟨by rw [upd_ne ne]; exact h.at_, fun p hp => (h.all p hp).putL hm, h.len⟩
def spListsR (CQ : Addr) : Sp := fun vs H Q _ => ∃ (l : Addr) (rs : List (Addr × QD)) (k : Nat) (n : Int), vs = [.ref l, .int n] ∧ Rows H l rs k ∧ k ≤ 50 ∧ (∀ i : Int, 0 ≤ i → i ≤ 1000 → (i + n).natAbs.log2 < 1920) ∧ ∀ H', Same H H' → Q (.bl true) H'
theorem toils_small {H : Hp} {rs : List (Addr × QD)} (h : ∀ r ∈ rs, RowQ H r.1 r.2) : 0 ≤ (toils rs).sum ∧ (toils rs).sum ≤ 9 * rs.length := by
  induction rs with
  | nil => exact ⟨by decide, by decide⟩
  | cons r rs ih =>
    obtain ⟨h1, h2⟩ := ih fun x hx => h x (List.mem_cons_of_mem _ hx)
    have v := (h r List.mem_cons_self).v
    have t1 := v.t1
    have t9 := v.t9
    have e : (toils (r :: rs)).sum = r.2.tl + (toils rs).sum := by simp [toils]
    rw [e, List.length_cons]
    constructor
    · omega
    · push_cast
      omega
section
variable {P : Program} {w : World} {K : PySem.W.Frag} {mg : Str → Option Value} {base : Heap}
abbrev NListsR : List Str := ["_law_rows", "_law_number", "_law_things", "_law_handed", "_law_due", "_law_found", "_law_many", "_law_told", "_law_again", "_law_row", "_law_one"]
theorem scListsR : FnScope NListsR ["_law_rows", "_law_number"] (defScope sListsR) := ⟨rfl, rfl, rfl, by decide +kernel, rfl, by decide +kernel, by decide +kernel⟩
theorem ok_listsR {f fO fP fU fB fS CQ c10 : Addr} {fd fdO fdP fdU fdB fdS : FuncData} (F : Fun K "_law_lists_right" "_law_lists_right" sListsR f fd) (mi : mg "isinstance" = none) (mli : mg "list" = none) (mt : mg "tuple" = none) (mr : mg "repr" = none) (msm : mg "sum" = none)
    (GO : FnOk P w K mg base CX0 7 fO fdO ["_law_parts_here"] (spOf CQ)) (kO : PySem.W.keepIn K (.ref fO) = true) (bO : Binds K fdO ["_law_parts_here"] []) (gO : mg "_law_of" = some (.ref fO))
    (GP : FnOk P w K mg base CX0 1 fP fdP ["_law_one"] (spParts CQ)) (kP : PySem.W.keepIn K (.ref fP) = true) (bP : Binds K fdP ["_law_one"] []) (gP : mg "_law_parts" = some (.ref fP))
    (GU : FnOk P w K mg base CX0 2 fU fdU ["_law_rows"] spPut) (kU : PySem.W.keepIn K (.ref fU) = true) (bU : Binds K fdU ["_law_rows"] []) (gU : mg "_law_put" = some (.ref fU))
    (FB : Fun K "by_toil" "by_toil" sByToil fB fdB) (GB : FnOk P w K mg base (L2.CX P w) 5 fB fdB ["questions"] (spByToil CQ c10)) (kB : PySem.W.keepIn K (.ref fB) = true) (bB : Binds K fdB ["questions"] []) (gB : mg "by_toil" = some (.ref fB))
    (GS : FnOk P w K mg base (L2.CX P w) 5 fS fdS ["questions", "start"] (spToilSum CQ c10)) (FS : FunDf K "toil_sum" sToilSum [.int 0] fS fdS) (kS : PySem.W.keepIn K (.ref fS) = true) (gS : mg "toil_sum" = some (.ref fS)) :
    FnG P w K mg base CX0 8 f fd ["_law_rows", "_law_number"] (spListsR CQ) := by
  obtain ⟨d1, hd1, b1⟩ := bTS1 FS
  obtain ⟨d2, hd2, b2⟩ := bTS2 FS
  obtain ⟨i0, k0⟩ := kTS0 FS
  refine okG F scListsR (fun vs H Q E h => ?_) (fun cdv A calm outer s H vs Q E hr h => ?_)
  · obtain ⟨l, rs, k, n, rfl, _⟩ := h
    rfl
  · obtain ⟨l, rs, k, n, rfl, R, k50, hn, fin⟩ := h
    have r1 : Room 1 _ := hr.mono (by decide)
    have r2 : Room 2 _ := hr.mono (by decide)
    have r5 : Room 5 _ := hr.mono (by decide)
    refine ⟨_, pss_cons (ps_imp (tAsg (tThings CQ 0 9) (gName 2)) (ps_setLc (i := 2) (own := [("_law_row", 9)]) (g := gName 9) rfl scListsR.nd rfl rfl (sw_true rfl rfl rfl (by decide +kernel)) (pi_list (pv 0)) (blkOk_by (N := NListsR) (sc := defScope sListsR) (by decide +kernel))
          (fun _ _ _ _ _ => pg_name (i := 9) scListsR.nd rfl (Or.inl rfl)) (fun _ _ _ _ _ => pts_nil) (fun _ _ _ _ _ => pe_call (E := E0) GO hr (by rfl) gO kO bO .nil pass0 (pa_cons (pv 9) pa_nil))) (fun D σ H h => things_lc _ _ _ h))
      (pss_cons (ps_set (i := 3) scListsR.nd rfl (.inl rfl) (pe_callTy call_list_of (by rfl) mli PyProof.Rows.boot_list (pa_cons (pv 2) pa_nil)))
      (pss_cons (ps_set (i := 4) scListsR.nd rfl (.inl rfl) (pe_call GU r2 (by rfl) gU kU bU .nil pass0 (pa_cons (pv 0) pa_nil)))
      (pss_cons (ps_set (i := 5) scListsR.nd rfl (.inl rfl) (pe_call (E := E0) GB r5 (by rfl) gB kB bB .nil pass_no (pa_cons (pv 3) pa_nil)))
      (pss_cons (ps_if (PW.pt (pw_or (pt_not (pt_val (pe_callB call_isi (by rfl) mi (by decide +kernel) (pa_cons (pv 5) (pa_cons (pe_bltn (v := .ty "list") (by rfl) mli PyProof.Rows.boot_list rfl) pa_nil)))))
          (pw_or1 (pt_imp (tNeQ CQ 5 4 10) (pt_cmpR op_ne (pe_callB (call_show (show Calm _ from calm) (room_show hr)) (by rfl) mr (by decide +kernel) (pa_cons (pe_lc (own := [("_law_one", 10)]) (g := gName 10) rfl scListsR.nd (pi_list (pv 5)) (blkOk_by (N := NListsR) (sc := defScope sListsR) (by decide +kernel))
            (fun _ _ _ _ _ => pg_name (i := 10) scListsR.nd rfl (Or.inl rfl)) (fun _ _ _ _ _ => pts_nil) (fun _ _ _ _ _ => pe_call (E := E0) GP r1 (by rfl) gP kP bP .nil pass0 (pa_cons (pv 10) pa_nil))) pa_nil)) (pe_callB (call_show (show Calm _ from calm) (room_show hr)) (by rfl) mr (by decide +kernel) (pa_cons (pv 4) pa_nil)) (nomark _)) (fun σ H Q h => ne_imp _ _ _ h))))) (pss_one (ps_ret pe_bl)) pss_nil)
      (pss_cons (ps_if (pt_imp (tNeQ CQ 3 0 10) (pt_cmpR op_ne (pe_callB (call_show (show Calm _ from calm) (room_show hr)) (by rfl) mr (by decide +kernel) (pa_cons (pe_lc (own := [("_law_one", 10)]) (g := gName 10) rfl scListsR.nd (pi_list (pv 3)) (blkOk_by (N := NListsR) (sc := defScope sListsR) (by decide +kernel))
            (fun _ _ _ _ _ => pg_name (i := 10) scListsR.nd rfl (Or.inl rfl)) (fun _ _ _ _ _ => pts_nil) (fun _ _ _ _ _ => pe_call (E := E0) GP r1 (by rfl) gP kP bP .nil pass0 (pa_cons (pv 10) pa_nil))) pa_nil)) (pe_callB (call_show (show Calm _ from calm) (room_show hr)) (by rfl) mr (by decide +kernel) (pa_cons (pv 0) pa_nil)) (nomark _)) (fun σ H Q h => ne_imp _ _ _ h)) (pss_one (ps_ret pe_bl)) pss_nil)
      (pss_cons (ps_set (i := 6) scListsR.nd rfl (.inl rfl) (pe_imp (tMany 0 9) (pe_callB (cr_sum rfl) (by rfl) msm (by decide +kernel) (pa_cons (pe_lc (own := [("_law_row", 9)]) (g := gName 9) (te := tOp (rIxT K) (tVar 9) (tC (.int 4))) rfl scListsR.nd (pi_list (pv 0)) (blkOk_by (N := NListsR) (sc := defScope sListsR) (by decide +kernel))
            (fun _ _ _ _ _ => pg_name (i := 9) scListsR.nd rfl (Or.inl rfl)) (fun _ _ _ _ _ => pts_nil) (fun _ _ _ _ _ => by exact pe_ix ix_tup (pv 9) pe_int (fun _ _ => rfl))) pa_nil)) (by
            intro σ H Q h
            rw [tCB_eq]
            exact many_imp _ _ _ h)))
      (pss_cons (ps_set (i := 7) scListsR.nd rfl (.inl rfl) (pe_imp (tTold3 CQ) (pe_lst (pa_cons (pe_call (E := E0) GS r5 (by rfl) gS kS b1 hd1 pass_no (pa_cons (pv 3) pa_nil)) (pa_cons (pe_call (E := E0) GS r5 (by rfl) gS kS b2 hd2 pass_no (pa_cons (pv 3) (pa_cons (pv 1) pa_nil))) (pa_cons (pe_callN0 (E := E0) GS r5 (by rfl) gS kS k0 pass_no (pk_cons (pv 1) (pk_cons (pe_callTy call_tuple_of (by rfl) mt PyProof.Rows.boot_tuple (pa_cons (pv 3) pa_nil)) pk_nil))) pa_nil)))) (by
            rintro σ H Q ⟨m, ps, n, e3, e1, L, fin⟩
            refine ⟨_, e3, .ref m, 0, rfl, .qs rfl L.a fun H1 s1 => ?_⟩
            refine ⟨_, e3, _, e1, .ref m, n, rfl, .qs rfl (L.same s1).a fun H2 s2 => ?_⟩
            have L2' := (L.same s1).same s2
            refine ⟨_, e1, _, e3, m, _, rfl, .inl ⟨SqL.of L2'.at_, fun t nt => ?_⟩⟩
            have s3 := same_upd (o := .tup (ps.map fun p => V.ref p.1)) nt
            have L3 := L2'.same s3
            refine ⟨rfl, rfl, .ref t, n, rfl, .qs rfl ⟨.inr upd_same, L3.all, L3.len⟩ fun H4 s4 => ?_⟩
            refine ⟨by show 3 ≤ sizeLine; decide, fun t2 n2 => ?_⟩
            refine fin t2 _ ((((s1.trans s2).trans s3).trans s4).trans (same_upd n2)) ?_
            rw [upd_same, Int.zero_add, Int.add_comm n])))
      (pss_cons (ps_if (pt_cmpR op_ne (pe_callB (call_show (show Calm _ from calm) (room_show hr)) (by rfl) mr (by decide +kernel) (pa_cons (pv 7) pa_nil)) (pe_callB (call_show (show Calm _ from calm) (room_show hr)) (by rfl) mr (by decide +kernel) (pa_cons (pe_lst (pa_cons (pv 6) (pa_cons (pe_op op_add (pv 6) (pv 1)) (pa_cons (pe_op op_add (pv 6) (pv 1)) pa_nil)))) pa_nil)) (nomark _)) (pss_one (ps_ret pe_bl)) pss_nil)
      (pss_cons (ps_expr (pe_bm0 PySem.F.plainAttrs_list PySem.F.slot_list_clear PySem.F.type_list_clear mt_clear (pv 5)))
      (pss_cons (ps_if (pt_imp (tNeQ CQ 3 0 10) (pt_cmpR op_ne (pe_callB (call_show (show Calm _ from calm) (room_show hr)) (by rfl) mr (by decide +kernel) (pa_cons (pe_lc (own := [("_law_one", 10)]) (g := gName 10) rfl scListsR.nd (pi_list (pv 3)) (blkOk_by (N := NListsR) (sc := defScope sListsR) (by decide +kernel))
            (fun _ _ _ _ _ => pg_name (i := 10) scListsR.nd rfl (Or.inl rfl)) (fun _ _ _ _ _ => pts_nil) (fun _ _ _ _ _ => pe_call (E := E0) GP r1 (by rfl) gP kP bP .nil pass0 (pa_cons (pv 10) pa_nil))) pa_nil)) (pe_callB (call_show (show Calm _ from calm) (room_show hr)) (by rfl) mr (by decide +kernel) (pa_cons (pv 0) pa_nil)) (nomark _)) (fun σ H Q h => ne_imp _ _ _ h)) (pss_one (ps_ret pe_bl)) pss_nil)
      (pss_cons (ps_expr (pe_bm0 PySem.F.plainAttrs_list PySem.F.slot_list_reverse PySem.F.type_list_reverse mt_reverse (pv 3)))
      (pss_cons (ps_set (i := 8) scListsR.nd rfl (.inl rfl) (pe_callK0 (E := E0) GB r5 (by rfl) gB kB (kBy FB) pass_no (pk_cons (pe_callTy call_tuple_of (by rfl) mt PyProof.Rows.boot_tuple (pa_cons (pv 2) pa_nil)) pk_nil)))
      (pss_one (ps_ret (pe_and (pe_callB call_isi (by rfl) mi (by decide +kernel) (pa_cons (pv 8) (pa_cons (pe_bltn (v := .ty "list") (by rfl) mli PyProof.Rows.boot_list rfl) pa_nil)))
          (pe_one (pe_imp (tEqQ CQ 8 4 10) (pe_cmpR op_eq (pe_callB (call_show (show Calm _ from calm) (room_show hr)) (by rfl) mr (by decide +kernel) (pa_cons (pe_lc (own := [("_law_one", 10)]) (g := gName 10) rfl scListsR.nd (pi_list (pv 8)) (blkOk_by (N := NListsR) (sc := defScope sListsR) (by decide +kernel))
            (fun _ _ _ _ _ => pg_name (i := 10) scListsR.nd rfl (Or.inl rfl)) (fun _ _ _ _ _ => pts_nil) (fun _ _ _ _ _ => pe_call (E := E0) GP r1 (by rfl) gP kP bP .nil pass0 (pa_cons (pv 10) pa_nil))) pa_nil)) (pe_callB (call_show (show Calm _ from calm) (room_show hr)) (by rfl) mr (by decide +kernel) (pa_cons (pv 4) pa_nil)) (nomark _)) (fun σ H Q h => eq_imp _ _ _ h)))))))))))))))))), ?_⟩
    have ln := R.len
    have kl : PySem.W.kitOne K (.type "list") (.type "list") = some true := kit_ty (by decide +kernel : kitB "list" "list" = some true)
    refine ⟨l, rs, k, rfl, by show 9 < 11; decide, R, k50, fun m ps H1 s1 L sn => ?_⟩
    have R1 := R.same s1
    refine ⟨_, rfl, m, _, rfl, .inl (SqL.of L.at_), fun hd nh => ?_⟩
    have s2 := same_upd (o := .lst (ps.map fun p => V.ref p.1)) nh
    have Lh : QsAt CQ (upd H1 hd (.lst (ps.map fun p => V.ref p.1))) hd ps := ⟨upd_same, fun p hp => (L.all p hp).same s2, L.len⟩
    have mh : m ≠ hd := ne_of_none L.at_ nh
    have lh : l ≠ hd := ne_of_none R1.at_ nh
    show tSeq _ _ _ _ (upd H1 hd (.lst (ps.map fun p => V.ref p.1)))
    generalize upd H1 hd (.lst (ps.map fun p => V.ref p.1)) = H2 at s2 Lh ⊢
    have R2 := R1.same s2
    have L2' := L.same s2
    refine ⟨_, rfl, l, rs, k, rfl, R2, k50, fun du H3 nd s3 Rd => ?_⟩
    have dh : du ≠ hd := fun e => by rw [e, Lh.at_] at nd; cases nd
    have Lh3 := Lh.same s3
    have R3 := R2.same s3
    have L3 := L2'.same s3
    refine ⟨_, rfl, .ref hd, rfl, .qs rfl Lh3.a fun fo H4 nf s4 Lf => ?_⟩
    have hf : hd ≠ fo := ne_of_none Lh3.at_ nf
    have lf : l ≠ fo := ne_of_none R3.at_ nf
    have mf : m ≠ fo := ne_of_none L3.at_ nf
    have df : du ≠ fo := ne_of_none Rd.at_ nf
    have Lh4 := Lh3.same s4
    have R4 := R3.same s4
    have L4 := L3.same s4
    have Rd4 := Rd.same s4
    refine ⟨_, rfl, _, _, _, _, true, rfl, .ty _, .base (.lst Lf.at_), kl, _, rfl, iteF' (by simp) ?_⟩
    refine ⟨fo, du, sortQ ps, sortQ rs, k, rfl, rfl, by show 10 < 11; decide, Lf, Rd4, by omega, sort_snd sn, fun H5 s5 => iteF ?_⟩
    refine ⟨hd, l, ps, rs, k, rfl, rfl, by show 10 < 11; decide, Lh4.same s5, R4.same s5, by omega, sn, fun H6 s6 => iteF ?_⟩
    have s46 := s5.trans s6
    refine ⟨l, rs, k, rfl, by show 9 < 11; decide, R4.same s46, by omega, fun H7 s7 => ?_⟩
    have s47 := s46.trans s7
    refine ⟨hd, ps, n, rfl, rfl, Lh4.same s47, fun to H8 s8 hto => ?_⟩
    rw [toils_snd sn] at hto
    obtain ⟨a0, a9⟩ := toils_small R.all
    have ia : (toils rs).sum.natAbs.log2 < 1920 := by
      have := hn ((toils rs).sum) a0 (by omega)
      refine Nat.lt_of_le_of_lt (Nat.log2_le_self _) ?_
      omega
    have ian := hn ((toils rs).sum) a0 (by omega)
    have sw : ∀ {G : Hp} {t : Addr}, G t = some (.lst [.int (toils rs).sum, .int ((toils rs).sum + n), .int ((toils rs).sum + n)]) → Shows K G (.ref t) (.list [.int (toils rs).sum, .int ((toils rs).sum + n), .int ((toils rs).sum + n)]) := fun {G t} h => (ShowsL.intW ia (ShowsL.intW ian (ShowsL.intW ian (ShowsL.nil (k := 0))))).allL h (by decide) (by decide)
    have w1 := sw hto
    refine ⟨_, rfl, .ref to, _, rfl, w1.dq, w1.sh, w1.dp, w1.sz, ?_⟩
    refine ⟨_, rfl, _, rfl, _, rfl, _, n, rfl, rfl, _, rfl, _, rfl, _, n, rfl, rfl, by show 3 ≤ sizeLine; decide, fun t9 n9 => ?_⟩
    have s9 := same_upd (o := .lst [.int (toils rs).sum, .int ((toils rs).sum + n), .int ((toils rs).sum + n)]) n9
    have w2 := sw (upd_same (H := H8) (a := t9) (o := .lst [.int (toils rs).sum, .int ((toils rs).sum + n), .int ((toils rs).sum + n)]))
    refine ⟨.ref t9, _, rfl, w2.dq, w2.sh, w2.dp, w2.sz, rfl, _, rfl, iteF' (by simp) ?_⟩
    generalize upd H8 t9 (.lst [.int (toils rs).sum, .int ((toils rs).sum + n), .int ((toils rs).sum + n)]) = H9 at s9 w2 ⊢
    have s49 := (s47.trans s8).trans s9
    have Lf9 := Lf.same s49
    have Lh9 := Lh4.same s49
    have R9 := R4.same s49
    have L9 := L4.same s49
    have Rd9 := Rd4.same s49
    refine ⟨_, rfl, .inl ⟨rfl, _, SqL.of Lf9.at_⟩, fo, _, rfl, rfl, Lf9.at_, ?_⟩
    have Lh10 := Lh9.upd (M := []) Lf9.at_ hf
    have R10 := R9.upd (M := []) Lf9.at_ lf
    have L10 := L9.upd (M := []) Lf9.at_ mf
    have Rd10 := Rd9.upd (M := []) Lf9.at_ df
    have kp10 : ∀ b o, b ≠ fo → H9 b = some o → upd H9 fo (.lst []) b = some o := fun b o nb e => by rw [upd_ne nb]; exact e
    show tSeq _ _ _ _ (upd H9 fo (.lst []))
    generalize upd H9 fo (.lst []) = H10 at Lh10 R10 L10 Rd10 kp10 ⊢
    refine ⟨hd, l, ps, rs, k, rfl, rfl, by show 10 < 11; decide, Lh10, R10, by omega, sn, fun H11 s11 => iteF ?_⟩
    have Lh11 := Lh10.same s11
    refine ⟨_, rfl, .inl ⟨rfl, _, SqL.of Lh11.at_⟩, hd, _, rfl, rfl, Lh11.at_, ?_⟩
    have L12 := (L10.same s11).upd (M := (ps.map fun p => V.ref p.1).reverse) Lh11.at_ mh
    have Rd12 := (Rd10.same s11).upd (M := (ps.map fun p => V.ref p.1).reverse) Lh11.at_ dh
    have kp12 : ∀ b o, b ≠ hd → H11 b = some o → upd H11 hd (.lst (ps.map fun p => V.ref p.1).reverse) b = some o := fun b o nb e => by rw [upd_ne nb]; exact e
    show tSeq _ _ _ _ (upd H11 hd (.lst (ps.map fun p => V.ref p.1).reverse))
    generalize upd H11 hd (.lst (ps.map fun p => V.ref p.1).reverse) = H12 at L12 Rd12 kp12 ⊢
    refine ⟨_, rfl, m, _, rfl, .inl ⟨SqL.of L12.at_, fun tu nt => ?_⟩⟩
    have s13 := same_upd (o := .tup (ps.map fun p => V.ref p.1)) nt
    have L13 := L12.same s13
    have htu : upd H12 tu (.tup (ps.map fun p => V.ref p.1)) tu = some (.tup (ps.map fun p => V.ref p.1)) := upd_same
    generalize upd H12 tu (.tup (ps.map fun p => V.ref p.1)) = H13 at s13 L13 htu ⊢
    refine ⟨.ref tu, rfl, .qs rfl ⟨.inr htu, L13.all, L13.len⟩ fun ag H14 na s14 La => ?_⟩
    refine ⟨_, rfl, _, _, _, _, true, rfl, .ty _, .base (.lst La.at_), kl, _, rfl, iteT' (by simp) ?_⟩
    refine ⟨ag, du, sortQ ps, sortQ rs, k, rfl, rfl, by show 10 < 11; decide, La, (Rd12.same s13).same s14, by omega, sort_snd sn, fun H15 s15 => fin H15 fun b o e => ?_⟩
    have e1 := s1 _ _ e
    have bh : b ≠ hd := ne_of_none e1 nh
    have e3 := s3 _ _ (s2 _ _ e1)
    have bf : b ≠ fo := ne_of_none e3 nf
    exact s15 _ _ (s14 _ _ (s13 _ _ (kp12 _ _ bh (s11 _ _ (kp10 _ _ bf (s49 _ _ (s4 _ _ e3)))))))
end
end Pk
/-! ### repr of lists and tuples that hold instances with a repr of their own -/
namespace Pk
open PySem PySem.Spec L2
/-- a special found on the class of an instance, called by a way of its own -/
theorem ifBoundBy_K {M : Model} {K : PySem.W.Frag} {A : Around} {E : Value → Shared → Prop} {s : Shared} {x C f : Addr} {ox : Obj} {od : Option Obj} {name : Str} {last : Value → List Value → Sem Value} {Q : Option Value → Shared → Prop} (X : K.In s.heap) (I : PySem.W.InstAt s.heap x ox C od) (hs : PySem.W.findIn K (.ref C) name = some (some (.ref f))) (hf : PySem.W.isFn K (.ref f) = true)
    (h : wpAny M A (last (.ref f) [.ref x]) (fun v => Q (some v)) E s) : wpAny M A (callSpecialIfBoundBy? last (.ref x) name) Q E s := by
  simp only [callSpecialIfBoundBy?, bindSpecialIfBound?]
  refine wpAny_holding (wpAny_bind (wpAny_bind (wpAny_bind (I.type.here ((PySem.W.looks_findIn X hs).here ?_)))))
  refine wpAny_bind (wpAny_askSetting (wpAny_ite ?_))
  have fin : wpAny M A (last (.ref f) [.ref x] >>= fun v => pure (some v)) Q E s := wpAny_bind (wpAny_mono h (fun v s' h' => wpAny_pure h') fun _ _ h' => h')
  split
  · exact wpAny_bind ((PySem.W.bind_fn X _ (beq_iff_eq.mp hf)).here (wpAny_pure (by exact fin)))
  · exact wpAny_tryCatch (wpAny_bind ((PySem.W.bind_fn X _ (beq_iff_eq.mp hf)).here (wpAny_pure (by exact fin))))
theorem reprUnder_K {K : PySem.W.Frag} {prog : Program} {w : World} {A : Around} {E : Value → Shared → Prop} {s : Shared} {x C f : Addr} {ox : Obj} {od : Option Obj} {b : Nat} {Q : Value → Shared → Prop} (hu : A.units < cLine) (X : K.In s.heap) (I : PySem.W.InstAt s.heap x ox C od) (hs : PySem.W.findIn K (.ref C) "__repr__" = some (some (.ref f))) (hf : PySem.W.isFn K (.ref f) = true)
    (h : wpAny (model prog w) A (call (.ref f) [.ref x]) (fun v s' => (∃ z t, v = .str z t) ∧ Q v s') E s) : wpAny (model prog w) A (pyReprObjUnder b (.ref x)) Q E s := by
  unfold pyReprObjUnder pyReprObjBy
  refine wpAny_bind (wpAny_cRoomFor hu ?_)
  refine wpAny_bind (wpAny_bind (I.type.here ((PySem.W.looks_findIn X hs).here ?_)))
  show wpAny _ _ (if (some (Value.ref f)).isNone = true then _ else _) _ _ _
  rw [if_neg (by simp)]
  refine wpAny_bind (m := callSpecialIfBoundBy? _ (.ref x) (Str.ofString "__repr__")) (ifBoundBy_K X I hs hf ?_)
  show wpAny _ _ (call (.ref f) [.ref x]) _ _ _
  refine wpAny_mono h (fun v s' hv => ?_) fun _ _ y => y
  obtain ⟨⟨z, t, rfl⟩, hq⟩ := hv
  exact wpAny_bind (wpAny_isInstance (T := "str") (b := true) rfl isSubtype_str_str (wpAny_pure hq))
theorem under_fr (A : Around) (id : String) (args : Args) : (A.under (.builtin id args)).frames = A.frames := by
  first | rfl | simp [Around.under, Code.envs, Code.isFrame, pushEnvs]
theorem sub_under {X : Cx} {n : Nat} {A : Around} {id : String} {args : Args} (s : Sub X (n + 1) A) (hu : (A.under (.builtin id args)).units = A.units + 1) (hw : (Code.builtin id args).weight = 1) : Sub X n (A.under (.builtin id args)) := by
  obtain ⟨⟨h1, h2, h3⟩, h4⟩ := s
  refine ⟨⟨?_, ?_, by rw [hu]; omega⟩, (under_fr A id args).trans h4⟩
  · first | exact h1 | simpa [Around.under] using h1
  · have e : (A.under (.builtin id args)).depth = A.depth + 1 := by
      simp [Around.under, Code.frames, Code.isFrame, hw]
    rw [e]
    omega
/-- x shows as t, wherever the law stands -/
def Runs (X : Cx) (H : Hp) (n : Nat) (as : List Addr) (x : V) (t : Str) : Prop :=
  ∀ (base : Nat), base + t.length ≤ sizeLine → ∀ (A : Around) (g : List Code) (E : Value → Shared → Prop) (pins : List (Addr × Obj)) (s : Shared) (σ : St) (H' : Hp) (u : Value) (Q : Str → Shared → Prop), A.guards = some g → (∀ b ∈ as, Clear g b) → Sub X n A → Inv X pins σ H' s → Same H H' → RelV x u →
    (∀ s' H'', Inv X pins σ H'' s' → Same H' H'' → Q t s') → wpAny (model X.prog X.w) A (pyReprUnder base u) Q E s
section
variable {X : Cx} {H : Hp} {n : Nat} {as : List Addr} {x : V} {t : Str}
theorem Runs.more {as' : List Addr} {m : Nat} (h : Runs X H n as x t) (hs : ∀ b ∈ as, b ∈ as') (hm : n ≤ m) : Runs X H m as' x t :=
  fun base hz A g E pins s σ H' u Q hg hcl sb I sm r fin => h base hz A g E pins s σ H' u Q hg (fun b hb => hcl b (hs b hb)) (sb.mono hm) I sm r fin
theorem Runs.is (h : ∀ u, RelV x u → ReprIs X.prog X.w u t) : Runs X H n as x t :=
  fun base hz A g E pins s σ H' u Q hg hcl sb I sm r fin => h u r base hz A E s Q fun tk => fin _ _ (I.tok tk) (Same.refl _)
theorem Runs.non : Runs X H n as .non "None" := .is fun u r => by
  cases r
  exact ReprIs.none
theorem Runs.bl (b : Bool) : Runs X H n as (.bl b) (if b then "True" else "False") := .is fun u r => by
  cases r
  exact ReprIs.bool b
theorem Runs.int {i : Int} (h : i.natAbs.log2 < 1920) : Runs X H n as (.int i) (toString i) := .is fun u r => by
  obtain ⟨k, rfl⟩ := r
  exact ReprIs.int k h
theorem Runs.str {z : Str} (h : (reprText z).length ≤ sizeLine) : Runs X H n as (.str z) (reprText z) := .is fun u r => by
  obtain ⟨k, rfl⟩ := r
  exact ReprIs.str z k h
/-- an instance, by its own repr -/
theorem Runs.own {k : Nat} {f C a dx : Addr} {fd : FuncData} {sp : Sp} {fs : List (Str × V)} (F : FnOk X.prog X.w X.K X.mg X.base CX0 k f fd ["self"] sp) (hs : PySem.W.findIn X.K (.ref C) "__repr__" = some (some (.ref f))) (hf : PySem.W.isFn X.K (.ref f) = true) (hb : Binds X.K fd ["self"] [])
    (ha : H a = some (.ins C dx fs)) (q : ∀ H', Same H H' → sp [.ref a] H' (fun v H2 => v = .str t ∧ Same H' H2) E0) : Runs X H k as (.ref a) t := by
  intro base hz A g E pins s σ H' u Q hg hcl sb I sm r fin
  cases r
  obtain ⟨mA, J, _⟩ := ins_get I.hok (sm _ _ ha)
  obtain ⟨od, J, _⟩ := J.look
  refine wpAny_pyReprUnder_ref (by omega) (reprUnder_K (by have := sb.room.un; omega) I.kIn J hs hf ?_)
  refine wpAny_mono (call_in F hb sb I (x := .ref a) (u := .ref a) rfl (q H' sm) E) (fun v s' hv => ?_) fun _ _ y => y
  obtain ⟨y, H2, I2, ry, rfl, s2⟩ := hv
  obtain ⟨k, rfl⟩ := ry
  exact ⟨⟨_, _, rfl⟩, _, _, rfl, fin _ _ I2 s2⟩
/-- {} -/
theorem Runs.emp {a : Addr} (ha : H a = some (.dK [])) : Runs X H n [a] (.ref a) "{}" := by
  intro base hz A g E pins s σ H' u Q hg hcl sb I sm r fin
  cases r
  obtain ⟨_, ns, vs, kv, o, es, ep, h1, h2, h3, h4⟩ := I.hok a _ (sm _ _ ha)
  cases kv
  have e0 : es.toList = [] := by
    have z := h4.2.1
    cases hes : es.toList with
    | nil => rfl
    | cons e r =>
      rw [hes] at z
      cases z
  have ek : ReprEntriesK X.prog X.w [] s.heap 0 es.toList [] := by
    rw [e0]
    exact .nil
  have rk := ReprK.dict (prog := X.prog) (w := X.w) (as := []) (d := 0) h1 h2.1 h3 ns (by simp) ek
  exact rk base hz A g E s Q hg hcl (by have := sb.room.un; omega) (fun _ _ e => e) fun h' tk kp => fin _ _ (I.kept kp) (Same.refl _)
end
theorem weight_loop (args : Args) : (Code.builtin "list.__repr__.loop" args).weight = 1 := by
  first | rfl | simp [Code.weight, Code.frames, Code.isFrame, Code.isCreation, Code.isGuard, Code.isCaller, guardIds]
theorem weight_tup (args : Args) : (Code.builtin "tuple.__repr__" args).weight = 1 := by
  first | rfl | simp [Code.weight, Code.frames, Code.isFrame, Code.isCreation, Code.isGuard, Code.isCaller, guardIds]
theorem weight_tupU (args : Args) : (Code.builtin "tuple.__repr__.under" args).weight = 1 := by
  first | rfl | simp [Code.weight, Code.frames, Code.isFrame, Code.isCreation, Code.isGuard, Code.isCaller, guardIds]
/-! ### lists -/
section
variable {X : Cx} {H : Hp} {n : Nat} {as : List Addr} {xs : List V} {ts : List Str} {pins : List (Addr × Obj)} {σ : St}
theorem loop_own {A : Around} {R : Result → Shared → Prop} {a P : Addr} {base : Nat} {g : List Code} (hg : A.guards = some g) (hcl : ∀ b ∈ as, Clear g b) (sb : Sub X (n + 1) A) (hna : a ∉ as) (hl : SqL X.K H a xs) (hlen : ts.length = xs.length)
    (hT : ∀ (i : Nat) x, xs[i]? = some x → ∃ t, ts[i]? = some t ∧ Runs X H n as x t) (hsz : base + (listText ts).length ≤ sizeLine) :
    ∀ (k i : Nat) (s : Shared) (H' : Hp) (acc : Array Value) (c : Nat) (done : List (Str × Tok)), xs.length - i = k → i ≤ xs.length → Inv X pins σ H' s → Same H H' → FpOk X pins H' P →
    s.heap.get? P = some { cls := .type "list", dict := none, data := .seq acc c, slots := #[] } → acc.toList = strValues done → done.map (·.1) = ts.take i →
    (∀ s' H'' u, Inv X pins σ H'' s' → Same H' H'' → R (.ok (.ret (.str (listText ts) u))) s') →
    codeAny (model X.prog X.w) A (.builtin "list.__repr__.loop" ⟨[.ref a, rawInt i, .ref P, rawInt ((base + piled (ts.take i) : Nat) : Int)], []⟩) R s := by
  have hX : (listText ts).length = (textFrom 0 "[" ts).length + 1 := by
    show (textFrom 0 "[" ts ++ "]").length = _
    rw [strLen_append]; rfl
  have hL := textFrom_len ts 0 "["
  have hsz1 : xs.length ≤ sizeLine := by
    have h1 := hL.1
    rw [if_neg (Nat.lt_irrefl 0)] at h1
    omega
  have hsz2 : ∀ t ∈ ts, t.length ≤ sizeLine := fun t ht => by
    have h2 := hL.2.1 t ht
    omega
  have hsz3 : (listText ts).length ≤ sizeLine := by omega
  have hp3 := piled_le_listText ts
  intro k
  induction k with
  | zero =>
    intro i s H' acc c done hk hi I sm fp hP hacc hdone hR
    have hin : i = xs.length := by omega
    obtain ⟨its, rv, ⟨oa, na, ha, hc, hd, hda⟩, _⟩ := I.list (SqL.ext hl sm)
    have lv := rv.length
    refine codeAny_builtin PySem.F.entry_list_repr_loop ?_
    show wpAny _ _ (PySem.Builtin.«list.__repr__.loop» ⟨[.ref a, .int i 0, .ref P, .int ((base + piled (ts.take i) : Nat) : Int) 0], []⟩) _ _ s
    rw [repr_loop_tree]
    refine wpAny_bind (wpAny_listItems ha hda ?_)
    have hnone : its.toArray[(i : Int).toNat]? = none := by simp; omega
    simp only [hnone]
    unfold reprEnd
    refine wpAny_bind (wpAny_listItems hP rfl ?_)
    rw [hacc, repr_fold]
    refine wpAny_bind (wpAny_pure ?_)
    have hall : done.map (·.1) = ts := by rw [hdone, hin, ← hlen, List.take_length]
    rw [hall]
    refine wpAny_bind (wpAny_mkStr (wpAny_pure ?_) hsz3)
    exact hR _ _ _ (I.tok _) (Same.refl _)
  | succ k ih =>
    intro i s H' acc c done hk hi I sm fp hP hacc hdone hR
    have hlt : i < xs.length := by omega
    obtain ⟨t, ht, hrep⟩ := hT i xs[i] (List.getElem?_eq_getElem hlt)
    have hp1 := piled_take_succ ht
    have hp2 := piled_take_le ts (i + 1)
    obtain ⟨its, rv, ⟨oa, na, ha, hc, hd, hda⟩, _⟩ := I.list (SqL.ext hl sm)
    have lv := rv.length
    obtain ⟨u, hu, ru⟩ := rv.get (i := i) (x := xs[i]) (List.getElem?_eq_getElem hlt)
    refine codeAny_builtin PySem.F.entry_list_repr_loop ?_
    show wpAny _ _ (PySem.Builtin.«list.__repr__.loop» ⟨[.ref a, .int i 0, .ref P, .int ((base + piled (ts.take i) : Nat) : Int) 0], []⟩) _ _ s
    rw [repr_loop_tree]
    refine wpAny_bind (wpAny_listItems ha hda ?_)
    have hsome : its.toArray[(i : Int).toNat]? = some u := by simpa using hu
    simp only [hsome]
    rw [Int.toNat_natCast]
    have Ip : Inv X ((P, { cls := .type "list", dict := none, data := .seq acc c, slots := #[] }) :: pins) σ H' s := I.pins_of fun p hp => by
      rcases List.mem_cons.mp hp with rfl | hp
      · exact ⟨hP, fp.1, fp.2.1, fp.2.2.1, fun v z => by cases z⟩
      · exact I.pin p (List.mem_append_right _ hp)
    refine wpAny_bind (wpAny_holding (hrep (base + piled (ts.take i) + 1) (by omega) _ _ _ _ s σ H' u _ (guards_under_guard (isGuard_list_loop _) hg) (fun b hb => (hcl b hb).cons (a := a) fun e => hna (e ▸ hb)) (sub_under sb (units_under_list_loop _ _) (weight_loop _)) Ip sm ru fun s2 H2 I2 sm2 => ?_))
    obtain ⟨hP2, g2, _⟩ := I2.pin (P, _) (List.mem_append_right _ (List.mem_cons_self ..))
    have I3 : Inv X pins σ H2 s2 := I2.pins_of fun p hp => I2.pin p (List.mem_append_right _ (List.mem_cons_of_mem _ hp))
    refine wpAny_bind (wpAny_mkStr ?_ (hsz2 t (List.mem_of_getElem? ht)))
    refine wpAny_bind ?_
    show wpAny _ _ (updateSeq P _) _ _ _
    have hasz : acc.size ≤ sizeLine := by
      have e1 : acc.toList.length = acc.size := by simp
      have e2 : (strValues done).length = done.length := by simp [strValues]
      have e3 : done.length = (ts.take i).length := by rw [← hdone, List.length_map]
      have e4 : (ts.take i).length ≤ i := by rw [List.length_take]; omega
      rw [hacc] at e1; omega
    refine wpAny_updateSeq hP2 rfl (wpAny_pure ⟨PySem.F.quiet_list_repr_loop _, ?_⟩) hasz
    have e1 : ((i : Int) + 1) = ((i + 1 : Nat) : Int) := by omega
    have e2 : base + piled (ts.take i) + (t.length + 2) = base + piled (ts.take (i + 1)) := by omega
    rw [e1, e2]
    have fp2 := fp_of fp g2
    refine ih (i + 1) _ H2 (acc.push (.str t s2.toks)) _ (done ++ [(t, s2.toks)]) (by omega) hlt ((I3.tok _).turnedL (ch := [P]) (fun b o hb e => (Heap.get?_update_other _ _ (fun h : P = b => hb (by simp [h]))).trans e) (fun b hb => by rw [List.mem_singleton.mp hb]; exact fp2)) (sm.trans sm2) fp2 (Heap.get?_update_self _ hP2 rfl) (by simp [hacc, strValues]) (by simp [List.take_add_one, ht, hdone]) fun s' H'' u I' s' => hR _ _ _ I' (sm2.trans s')
theorem list_at_own {A : Around} {R : Result → Shared → Prop} {a : Addr} {base : Nat} {g : List Code} {s : Shared} {H' : Hp} (hg : A.guards = some g) (hcl : ∀ b ∈ a :: as, Clear g b) (sb : Sub X (n + 1) A) (I : Inv X pins σ H' s) (sm : Same H H') (hna : a ∉ as) (hl : SqL X.K H a xs) (hlen : ts.length = xs.length)
    (hT : ∀ (i : Nat) x, xs[i]? = some x → ∃ t, ts[i]? = some t ∧ Runs X H n as x t) (hsz : base + (listText ts).length ≤ sizeLine)
    (hR : ∀ s' H'' u, Inv X pins σ H'' s' → Same H' H'' → R (.ok (.ret (.str (listText ts) u))) s') :
    wpAny (model X.prog X.w) A.in1 (Builtin.listReprAt base ⟨[.ref a], []⟩) (fun fin s' => match fin with | .done f => R (.ok f) s' | .again c' => c'.quiet = true ∧ codeAny (model X.prog X.w) A c' R s') (fun e s' => R (.error e) s') s := by
  obtain ⟨its, rv, ⟨oa, na, ha, hc, hd, hda⟩, _⟩ := I.list (SqL.ext hl sm)
  have lv := rv.length
  cases its with
  | nil =>
    cases ts with
    | nil =>
      rw [listText_nil] at hR
      exact wpAny_list_repr_empty ha hda (hR _ _ _ (I.tok _) (Same.refl _))
    | cons t r =>
      rw [List.length_cons] at hlen
      rw [List.length_nil] at lv
      omega
  | cons x l =>
    have hca : Clear g a := hcl a (.head _)
    refine wpAny_list_repr_head (A := A.in1) hg (fun v rest kw hm => listSameRef_of_ne (hca _ _ _ _ hm)) ha hda ?_
    refine wpAny_bind (m := newList []) (wpAny_newObj_type ?_)
    refine wpAny_pure ⟨PySem.F.quiet_list_repr_loop _, ?_⟩
    have hn : H' s.heap.objs.size = none := I.hok.fresh (Nat.le_refl _)
    refine loop_own (P := s.heap.objs.size) hg (fun b hb => hcl b (.tail _ hb)) sb hna hl hlen hT hsz _ 0 _ H' #[] _ [] rfl (Nat.zero_le _) (I.kept (t' := s.toks) fun b o e => Heap.get?_push_of_some _ e) sm (I.fpOk (Nat.le_refl _) hn) (Heap.get?_push_size _ rfl) rfl (by simp) hR
theorem Runs.lst {a : Addr} (hna : a ∉ as) (hl : SqL X.K H a xs) (hlen : ts.length = xs.length) (hT : ∀ (i : Nat) x, xs[i]? = some x → ∃ t, ts[i]? = some t ∧ Runs X H n as x t) : Runs X H (n + 1) (a :: as) (.ref a) (listText ts) := by
  intro base hz A g E pins s σ H' u Q hg hcl sb I sm r fin
  cases r
  obtain ⟨its, rv, ⟨oa, na, ha, hc, hd, hda⟩, _⟩ := I.list (SqL.ext hl sm)
  have hTy : s.TypeIs (.ref a) "list" := ⟨oa, ha, hc⟩
  refine wpAny_pyReprUnder_ref (by omega) (wpAny_pyReprObjUnder_twin (twin := "list.__repr__.under") hTy PySem.F.slot_list_repr.toG rfl (by have := sb.room.un; omega) ?_)
  exact call_twin_plain PySem.F.plain_list_repr_under PySem.F.entry_list_repr_under PySem.F.check_list_repr_under hTy PySem.F.slot_list_repr.toG (PySem.F.args_list_repr_1 _)
    (list_at_own (R := callEnd _ E) hg hcl sb I sm hna hl hlen hT hz fun s' H'' u I' s2 => ⟨⟨_, _, rfl⟩, _, _, rfl, fin _ _ I' s2⟩)
/-! ### tuples -/
theorem fold_own {A : Around} {E : Value → Shared → Prop} {g : List Code} (hg : A.guards = some g) (hcl : ∀ b ∈ as, Clear g b) (sb : Sub X n A) : ∀ (xs : List V) (l : List Value) (ts : List Str) (acc : Array Str) (k : Nat) (s : Shared) (H' : Hp) (Q : (Array Str × Nat) → Shared → Prop), Vals xs l → ts.length = xs.length → (∀ (i : Nat) x, xs[i]? = some x → ∃ t, ts[i]? = some t ∧ Runs X H n as x t) → k + piled ts ≤ sizeLine →
    Inv X pins σ H' s → Same H H' → (∀ s' H'', Inv X pins σ H'' s' → Same H' H'' → Q ⟨acc ++ ts.toArray, k + piled ts⟩ s') →
    wpAny (model X.prog X.w) A (forIn l (⟨acc, k⟩ : (Array Str × Nat)) tupBody) Q E s
  | [], _, ts, acc, k, s, H', Q, .nil, hlen, hT, hk, I, sm, h => by
    have : ts = [] := List.length_eq_zero_iff.mp hlen
    subst this
    simp only [List.forIn_nil]
    exact wpAny_pure (by simpa [piled] using h s H' I (Same.refl _))
  | x :: xs, _, [], _, _, _, _, _, .cons r rs, hlen, _, _, _, _, _ => by cases hlen
  | x :: xs, _, t :: ts, acc, k, s, H', Q, .cons r rs, hlen, hT, hk, I, sm, h => by
    obtain ⟨t', e, hx⟩ := hT 0 x rfl
    cases e
    rw [piled_cons] at hk
    rw [List.forIn_cons]
    refine wpAny_bind (wpAny_bind (hx (k + 1) (by omega) A g E pins s σ H' _ _ hg hcl sb I sm r fun s2 H2 I2 sm2 => wpAny_pure ?_))
    refine fold_own hg hcl sb xs _ ts (acc.push t) (k + (t.length + 2)) s2 H2 Q rs (Nat.succ.inj hlen) (fun i x hi => hT (i + 1) x hi) (by omega) I2 (sm.trans sm2) fun s3 H3 I3 sm3 => ?_
    have h1 := h s3 H3 I3 (sm2.trans sm3)
    have e : k + piled (t :: ts) = k + (t.length + 2) + piled ts := by rw [piled_cons]; omega
    rw [e] at h1
    simpa using h1
theorem tup_at_own {A : Around} {R : Result → Shared → Prop} {a : Addr} {base : Nat} {g : List Code} {s : Shared} {H' : Hp} {id : String} {rest : List Value} (hcg : (Code.builtin id ⟨.ref a :: rest, []⟩).isGuard = true) (hcu : (A.under (.builtin id ⟨.ref a :: rest, []⟩)).units = A.units + 1) (hw : (Code.builtin id ⟨.ref a :: rest, []⟩).weight = 1)
    (hg : A.guards = some g) (hcl : ∀ b ∈ a :: as, Clear g b) (sb : Sub X (n + 1) A) (I : Inv X pins σ H' s) (sm : Same H H') (hna : a ∉ as) (hl : SqT X.K H a xs) (hlen : ts.length = xs.length)
    (hT : ∀ (i : Nat) x, xs[i]? = some x → ∃ t, ts[i]? = some t ∧ Runs X H n as x t) (hsz : base + (tupleText ts).length ≤ sizeLine)
    (hR : ∀ s' H'' u, Inv X pins σ H'' s' → Same H' H'' → R (.ok (.ret (.str (tupleText ts) u))) s') :
    wpOwn (model X.prog X.w) A (.builtin id ⟨.ref a :: rest, []⟩) (Builtin.tupleReprAt base ⟨[.ref a], []⟩) (fun fin s' => match fin with | .done f => R (.ok f) s' | .again c' => c'.quiet = true ∧ codeAny (model X.prog X.w) A c' R s') (fun e s' => R (.error e) s') s := by
  have hca : Clear g a := hcl a (.head _)
  obtain ⟨its, rv, ⟨o, ha, hc, m, hd⟩, _⟩ := I.tuple (SqT.ext hl sm)
  have lv := rv.length
  have hp := piled_le_tupleText ts
  have hsz0 : (tupleText ts).length ≤ sizeLine := by omega
  rw [tuple_repr_tree, tupleReprUnderWay_eq]
  refine wpOwn_bind (wpOwn_stackTailAny hg (tupGuardF_off _) (tupGuardF_pos _) ?_)
  have hn : (g.any fun c => tupGuardF (.ref a) (c, default)) = false := by
    rw [List.any_eq_false]
    intro c hcm
    rw [tupGuardF_of_clear hca c hcm]
    exact Bool.false_ne_true
  rw [hn]
  refine wpOwn_of_wpAny ?_
  show wpAny _ _ (tupleReprRest base (.ref a)) _ _ s
  unfold tupleReprRest Builtin.Tuple.tupleItemsOf
  refine wpAny_bind (wpAny_bind (wpAny_seqItems ha hd (wpAny_pure ?_)))
  rw [← Array.forIn_toList]
  refine wpAny_bind (fold_own (pins := pins) (σ := σ) (guards_under_guard hcg hg) (fun b hb => (hcl b (.tail _ hb)).cons (a := a) fun e => hna (e ▸ hb)) (sub_under sb hcu hw) xs _ ts _ _ s H' _ (by simpa using rv) hlen hT (by omega) I sm fun s2 H2 I2 sm2 => ?_)
  have sz : its.toArray.size = ts.length := by
    rw [List.size_toArray]
    omega
  refine wpAny_bind (wpAny_mkStr (wpAny_pure ?_) (by simpa [tupleText, sz] using hsz0))
  have h1 := hR _ _ s2.toks (I2.tok (s2.toks + 1)) sm2
  simpa [tupleText, sz] using h1
theorem Runs.tup {a : Addr} (hna : a ∉ as) (hl : SqT X.K H a xs) (hlen : ts.length = xs.length) (hT : ∀ (i : Nat) x, xs[i]? = some x → ∃ t, ts[i]? = some t ∧ Runs X H n as x t) : Runs X H (n + 1) (a :: as) (.ref a) (tupleText ts) := by
  intro base hz A g E pins s σ H' u Q hg hcl sb I sm r fin
  cases r
  obtain ⟨its, rv, ⟨o, ha, hc, m, hd⟩, _⟩ := I.tuple (SqT.ext hl sm)
  have hTy : s.TypeIs (.ref a) "tuple" := ⟨o, ha, hc⟩
  refine wpAny_pyReprUnder_ref (by omega) (wpAny_pyReprObjUnder_twin (twin := "tuple.__repr__.under") hTy PySem.F.slot_tuple_repr rfl (by have := sb.room.un; omega) ?_)
  exact call_twin_own (PySem.F.quiet_tuple_repr_under _) PySem.F.entry_tuple_repr_under PySem.F.check_tuple_repr_under hTy PySem.F.slot_tuple_repr (PySem.F.args_tuple_repr_1 _)
    (tup_at_own (R := callEnd _ E) (isGuard_tuple_repr_under _) (units_under_tuple_repr_under _ _) (weight_tupU _) hg hcl sb I sm hna hl hlen hT hz fun s' H'' u I' s2 => ⟨⟨_, _, rfl⟩, _, _, rfl, fin _ _ I' s2⟩)
/-! ### repr(x), nothing being shown -/
def rReprL (X : Cx) (n : Nat) : List V → Hp → VK → Prop := fun vs H Q => ∃ (a : Addr) (xs : List V) (ts : List Str) (as : List Addr), vs = [.ref a] ∧ a ∉ as ∧ ts.length = xs.length ∧ (∀ (i : Nat) x, xs[i]? = some x → ∃ t, ts[i]? = some t ∧ Runs X H n as x t) ∧
  ((SqL X.K H a xs ∧ (listText ts).length ≤ sizeLine ∧ ∀ H', Same H H' → Q (.str (listText ts)) H') ∨ (SqT X.K H a xs ∧ (tupleText ts).length ≤ sizeLine ∧ ∀ H', Same H H' → Q (.str (tupleText ts)) H'))
theorem call_reprL (calm : Calm X.A) (hr : Room (n + 2) X.A) : CallR X (.builtin "repr") (rReprL X n) := by
  rintro pins s σ H xs us Q I r ⟨a, ys, ts, as, rfl, hna, hlen, hT, h⟩
  obtain ⟨u, rfl, rx⟩ := vals1 r
  cases rx
  have sb : Sub X (n + 1) X.A.in1 := Sub.in1 ⟨hr, rfl⟩
  have hg : X.A.in1.guards = some [] := calm
  rcases h with ⟨hl, hz, q⟩ | ⟨hl, hz, q⟩
  · obtain ⟨its, rv, ⟨oa, na, ha, hc, hd, hda⟩, _⟩ := I.list hl
    have hTy : s.TypeIs (.ref a) "list" := ⟨oa, ha, hc⟩
    refine call_repr_slot (by have := hr.un; omega) hTy PySem.F.slot_list_repr.toG ?_
    exact wpAny_call (codeAny_call_builtin PySem.F.slot_list_repr.plain PySem.F.entry_list_repr (PySem.F.slot_list_repr.check _ _ _ _ _ _ _ _ hTy (PySem.F.args_list_repr_1 _)
      (list_at_own (base := 0) (R := callEnd _ X.xe) hg (fun b _ => Clear.nil b) sb I (Same.refl H) hna hl hlen hT (by omega) fun s' H'' u I' s2 => ⟨_, _, rfl, .str (listText ts), H'', I', ⟨_, rfl⟩, q _ s2⟩)))
  · obtain ⟨its, rv, ⟨o, ha, hc, m, hd⟩, _⟩ := I.tuple hl
    have hTy : s.TypeIs (.ref a) "tuple" := ⟨o, ha, hc⟩
    refine call_repr_slot (by have := hr.un; omega) hTy PySem.F.slot_tuple_repr ?_
    exact wpAny_call (codeAny_call_builtin_own (Code.quiet_builtin _ (by decide +kernel)) PySem.F.entry_tuple_repr (PySem.F.slot_tuple_repr.check _ _ _ _ _ _ _ _ hTy (PySem.F.args_tuple_repr_1 _)
      (tup_at_own (base := 0) (R := callEnd _ X.xe) (isGuard_tuple_repr _) (units_under_tuple_repr _ _) (weight_tup _) hg (fun b _ => Clear.nil b) sb I (Same.refl H) hna hl hlen hT (by omega) fun s' H'' u I' s2 => ⟨_, _, rfl, .str (tupleText ts), H'', I', ⟨_, rfl⟩, q _ s2⟩)))
end
end Pk
namespace Pk
open PySem L2
/-! ### a list with a thing within that is no question, shown -/
theorem Runs.same {X : Cx} {H H1 : Hp} {n : Nat} {as : List Addr} {x : V} {t : Str} (h : Runs X H n as x t) (s : Same H H1) : Runs X H1 n as x t :=
  fun base hz A g E pins st σ H' u Q hg hcl sb I sm r fin => h base hz A g E pins st σ H' u Q hg hcl sb I (s.trans sm) r fin
/-- the class tells its own repr -/
def RO (X : Cx) (CQ : Addr) : Prop := ∃ (f : Addr) (fd : FuncData), FnOk X.prog X.w X.K X.mg X.base CX0 1 f fd ["self"] (spQRepr CQ) ∧ PySem.W.findIn X.K (.ref CQ) "__repr__" = some (some (.ref f)) ∧ PySem.W.isFn X.K (.ref f) = true ∧ Binds X.K fd ["self"] []
def qTxt (q : QD) : Str := ("Question(" ++ q.nm) ++ ")"
theorem runs_q {X : Cx} {CQ : Addr} (ro : RO X CQ) {H : Hp} {x : Addr} {q : QD} (J : QJ CQ H x q) (as : List Addr) : Runs X H 1 as (.ref x) (qTxt q) := by
  obtain ⟨f, fd, G, hs, hf, hb⟩ := ro
  obtain ⟨dx, a, hx, _⟩ := J.at
  exact Runs.own G hs hf hb hx fun H' s' => ⟨x, q, rfl, (J.same s').qi, J.v.b, rfl, Same.refl _⟩
theorem qTxt_len {q : QD} (v : QV q) : (qTxt q).length ≤ 40 := by
  have b := v.b.n1
  unfold qTxt
  rw [app_len, app_len, show (("Question(" : String) : Str).length = 9 by decide +kernel, show ((")" : String) : Str).length = 1 by decide +kernel]
  have := v.nm
  unfold nameT at this
  simp only [Bool.and_eq_true, decide_eq_true_iff] at this
  omega
inductive OddOne (H : Hp) (x : Addr) : V → Prop
  | non : OddOne H x .non
  | int : OddOne H x (.int 5)
  | str : OddOne H x (.str "a")
  | row {p b : Addr} (h : H p = some (.tup [.str "a", .str "b", .ref b, .int 0, .int 1, .int 1, .str ""])) (hb : H b = some (.tup [.str "c", .str "d"])) : OddOne H x (.ref p)
  | lst {p : Addr} (h : H p = some (.lst [.ref x])) : OddOne H x (.ref p)
  | tup {p : Addr} (h : H p = some (.tup [.ref x])) : OddOne H x (.ref p)
  | dct {p : Addr} (h : H p = some (.dK [])) : OddOne H x (.ref p)
  | bl : OddOne H x (.bl true)
theorem OddOne.same {H H' : Hp} {x : Addr} {y : V} (o : OddOne H x y) (s : Same H H') : OddOne H' x y := by
  cases o with
  | non => exact .non
  | int => exact .int
  | str => exact .str
  | row h hb => exact .row (s _ _ h) (s _ _ hb)
  | lst h => exact .lst (s _ _ h)
  | tup h => exact .tup (s _ _ h)
  | dct h => exact .dct (s _ _ h)
  | bl => exact .bl
theorem OddOne.odd {H : Hp} {x : Addr} {y : V} (o : OddOne H x y) : ∃ T, Odd H y T := by
  cases o with
  | non => exact ⟨_, .non⟩
  | int => exact ⟨_, .int _⟩
  | str => exact ⟨_, .str _⟩
  | row h hb => exact ⟨_, .tup h⟩
  | lst h => exact ⟨_, .lst h⟩
  | tup h => exact ⟨_, .tup h⟩
  | dct h => exact ⟨_, .dct h⟩
  | bl => exact ⟨_, .bl _⟩
inductive RunsL (X : Cx) (H : Hp) (n : Nat) (as : List Addr) : List V → List Str → Prop
  | nil : RunsL X H n as [] []
  | cons {x : V} {t : Str} {xs : List V} {ts : List Str} (h : Runs X H n as x t) (hs : RunsL X H n as xs ts) : RunsL X H n as (x :: xs) (t :: ts)
theorem RunsL.len {X : Cx} {H : Hp} {n : Nat} {as : List Addr} {xs : List V} {ts : List Str} (h : RunsL X H n as xs ts) : ts.length = xs.length := by
  induction h with
  | nil => rfl
  | cons h hs ih => rw [List.length_cons, List.length_cons, ih]
theorem RunsL.at {X : Cx} {H : Hp} {n : Nat} {as : List Addr} {xs : List V} {ts : List Str} (h : RunsL X H n as xs ts) : ∀ (i : Nat) x, xs[i]? = some x → ∃ t, ts[i]? = some t ∧ Runs X H n as x t := by
  induction h with
  | nil => exact fun i x hx => by simp at hx
  | cons h hs ih =>
    intro i x hx
    cases i with
    | zero => cases hx; exact ⟨_, rfl, h⟩
    | succ i => exact ih i x hx
theorem RunsL.app {X : Cx} {H : Hp} {n : Nat} {as : List Addr} {xs ys : List V} {ts us : List Str} (h : RunsL X H n as xs ts) (g : RunsL X H n as ys us) : RunsL X H n as (xs ++ ys) (ts ++ us) := by
  induction h with
  | nil => exact g
  | cons h hs ih => exact .cons h ih
/-- the text of the odd thing; x shows as z -/
inductive OddTxt (H : Hp) (x : Addr) (z : Str) : V → List Addr → Str → Prop
  | non : OddTxt H x z .non [] "None"
  | int : OddTxt H x z (.int 5) [] (toString (5 : Int))
  | str : OddTxt H x z (.str "a") [] (reprText "a")
  | row {p b : Addr} (h : H p = some (.tup [.str "a", .str "b", .ref b, .int 0, .int 1, .int 1, .str ""])) (hb : H b = some (.tup [.str "c", .str "d"])) : OddTxt H x z (.ref p) [p, b] (tupleText [reprText "a", reprText "b", tupleText [reprText "c", reprText "d"], toString (0 : Int), toString (1 : Int), toString (1 : Int), reprText ""])
  | lst {p : Addr} (h : H p = some (.lst [.ref x])) : OddTxt H x z (.ref p) [p] (listText [z])
  | tup {p : Addr} (h : H p = some (.tup [.ref x])) : OddTxt H x z (.ref p) [p] (tupleText [z])
  | dct {p : Addr} (h : H p = some (.dK [])) : OddTxt H x z (.ref p) [p] "{}"
  | bl : OddTxt H x z (.bl true) [] (if true then "True" else "False")
theorem OddOne.txt {H : Hp} {x : Addr} {y : V} (z : Str) (o : OddOne H x y) : ∃ as t, OddTxt H x z y as t := by
  cases o with
  | non => exact ⟨_, _, .non⟩
  | int => exact ⟨_, _, .int⟩
  | str => exact ⟨_, _, .str⟩
  | row h hb => exact ⟨_, _, .row h hb⟩
  | lst h => exact ⟨_, _, .lst h⟩
  | tup h => exact ⟨_, _, .tup h⟩
  | dct h => exact ⟨_, _, .dct h⟩
  | bl => exact ⟨_, _, .bl⟩
theorem OddTxt.there {H : Hp} {x : Addr} {z : Str} {y : V} {as : List Addr} {t : Str} (o : OddTxt H x z y as t) : ∀ a ∈ as, ∃ o, H a = some o := by
  intro a ha
  cases o <;> simp only [List.mem_cons, List.not_mem_nil, or_false] at ha
  case row h hb =>
    rcases ha with rfl | rfl
    · exact ⟨_, h⟩
    · exact ⟨_, hb⟩
  case lst h => subst ha; exact ⟨_, h⟩
  case tup h => subst ha; exact ⟨_, h⟩
  case dct h => subst ha; exact ⟨_, h⟩
theorem OddTxt.len {H : Hp} {x : Addr} {z : Str} {y : V} {as : List Addr} {t : Str} (o : OddTxt H x z y as t) (hz : z.length ≤ 40) : t.length ≤ 200 := by
  cases o with
  | non => decide +kernel
  | int => decide +kernel
  | str => decide +kernel
  | row h hb => decide +kernel
  | lst h =>
    have := listText_len_le [z]
    simp at this
    omega
  | tup h =>
    have := tup_le [z]
    simp at this
    omega
  | dct h => decide +kernel
  | bl => decide +kernel
theorem OddTxt.runs {X : Cx} {H : Hp} {x : Addr} {z : Str} {y : V} {as : List Addr} {t : Str} (o : OddTxt H x z y as t) (hx : ∀ as, Runs X H 1 as (.ref x) z) : Runs X H 3 as y t := by
  cases o with
  | non => exact .non
  | int => exact .int (by decide +kernel)
  | str => exact .str (by decide +kernel)
  | @row p b h hb =>
    have nb : p ≠ b := fun e => by
      rw [e, hb] at h
      cases h
    have rb : Runs X H 2 [b] (.ref b) (tupleText [reprText "c", reprText "d"]) := Runs.tup (as := []) (n := 1) (by simp) (SqT.of hb) rfl (RunsL.at (.cons (.str (by decide +kernel)) (.cons (.str (by decide +kernel)) .nil)))
    exact Runs.tup (n := 2) (by simpa using nb) (SqT.of h) rfl (RunsL.at (.cons (.str (by decide +kernel)) (.cons (.str (by decide +kernel)) (.cons rb (.cons (.int (by decide +kernel)) (.cons (.int (by decide +kernel)) (.cons (.int (by decide +kernel)) (.cons (.str (by decide +kernel)) .nil))))))))
  | lst h => exact (Runs.lst (as := []) (n := 1) (by simp) (SqL.of h) rfl (RunsL.at (.cons (hx _) .nil))).more (fun _ h => h) (by decide)
  | tup h => exact (Runs.tup (as := []) (n := 1) (by simp) (SqT.of h) rfl (RunsL.at (.cons (hx _) .nil))).more (fun _ h => h) (by decide)
  | dct h => exact .emp h
  | bl => exact .bl true
theorem runs_qs {X : Cx} {CQ : Addr} (ro : RO X CQ) {H : Hp} {as : List Addr} : ∀ {ps : List (Addr × QD)}, (∀ p ∈ ps, QJ CQ H p.1 p.2) → RunsL X H 3 as (ps.map fun p => V.ref p.1) (ps.map fun p => qTxt p.2)
  | [], _ => .nil
  | p :: ps, h => .cons ((runs_q ro (h p List.mem_cons_self) as).more (fun _ h => h) (by decide)) (runs_qs ro fun x hx => h x (List.mem_cons_of_mem _ hx))
end Pk
namespace Pk
open PySem L2
theorem sum_le : ∀ {ts : List Str} {c : Nat}, (∀ t ∈ ts, t.length ≤ c) → (ts.map (·.length)).sum ≤ c * ts.length
  | [], c, _ => Nat.zero_le _
  | t :: ts, c, h => by
    have h1 := h t List.mem_cons_self
    have h2 := sum_le (ts := ts) fun x hx => h x (List.mem_cons_of_mem _ hx)
    rw [List.map_cons, List.sum_cons, List.length_cons, Nat.mul_add]
    omega
theorem rp_some {CQ : Addr} {H H1 : Hp} {x m so : Addr} {q : QD} {y : V} {ps : List (Addr × QD)} {c : Nat} (J : QJ CQ H x q) (o : OddOne H x y) (L : QsAt CQ H m ps) (ns : H so = none) (s1 : Same H H1) (hso : H1 so = some (.lst (((ps.take c).map fun p => V.ref p.1) ++ [y] ++ (ps.drop c).map fun p => V.ref p.1))) :
    ∃ z : Str, ∀ (X : Cx), RO X CQ → ∀ (G : Hp) (Q : VK), Same H1 G → (∀ G', Same G G' → Q (.str z) G') → rReprL X 3 [.ref so] G Q := by
  obtain ⟨as, t, ot⟩ := o.txt (qTxt q)
  refine ⟨listText (((ps.take c).map fun p => qTxt p.2) ++ [t] ++ (ps.drop c).map fun p => qTxt p.2), fun X ro G Q sG fin => ?_⟩
  have s0 := s1.trans sG
  have LG := L.same s0
  have na : so ∉ as := fun h => by
    obtain ⟨o, e⟩ := ot.there so h
    rw [ns] at e
    cases e
  have rl : RunsL X G 3 as (((ps.take c).map fun p => V.ref p.1) ++ [y] ++ (ps.drop c).map fun p => V.ref p.1) (((ps.take c).map fun p => qTxt p.2) ++ [t] ++ (ps.drop c).map fun p => qTxt p.2) :=
    ((runs_qs ro fun p hp => LG.all p (List.mem_of_mem_take hp)).app (.cons ((ot.runs fun as => runs_q ro J as).same s0) .nil)).app (runs_qs ro fun p hp => LG.all p (List.mem_of_mem_drop hp))
  have ln := L.len
  refine ⟨so, _, _, as, rfl, na, rl.len, rl.at, .inl ⟨SqL.of (sG _ _ hso), ?_, fin⟩⟩
  have hl := listText_len_le (((ps.take c).map fun p => qTxt p.2) ++ [t] ++ (ps.drop c).map fun p => qTxt p.2)
  have tl := ot.len (qTxt_len J.v)
  have hs := sum_le (ts := ((ps.take c).map fun p => qTxt p.2) ++ [t] ++ (ps.drop c).map fun p => qTxt p.2) (c := 200) (fun u hu => by
    rcases List.mem_append.mp hu with hu | hu
    · rcases List.mem_append.mp hu with hu | hu
      · obtain ⟨p, hp, rfl⟩ := List.mem_map.mp hu
        have := qTxt_len (L.all p (List.mem_of_mem_take hp)).v
        omega
      · rw [List.mem_singleton.mp hu]
        exact tl
    · obtain ⟨p, hp, rfl⟩ := List.mem_map.mp hu
      have := qTxt_len (L.all p (List.mem_of_mem_drop hp)).v
      omega)
  have lc : (((ps.take c).map fun p => qTxt p.2) ++ [t] ++ (ps.drop c).map fun p => qTxt p.2).length ≤ 61 := by
    rw [List.length_append, List.length_append, List.length_map, List.length_map, List.length_take, List.length_drop, List.length_singleton]
    omega
  rw [sizeLine_eq]
  omega
def q0 : QD := ⟨"a", "b", ["c", "d"], 0, 1, 1, ""⟩
theorem q0_v : QV q0 := ⟨by decide +kernel, by decide +kernel, by decide, by decide, fun w hw => by
  simp only [q0, List.mem_cons, List.not_mem_nil, or_false] at hw
  rcases hw with rfl | rfl <;> decide +kernel, by decide, by decide, by decide, by decide, by decide, by decide, by decide +kernel⟩
/-- said of an odd thing -/
def tOdds (CQ : Addr) : TT := fun σ H Q => ∃ (x : Addr) (q : QD) (y : V) (T : String), σ[3]? = some (some (.ref x)) ∧ σ[4]? = some (some y) ∧ QJ CQ H x q ∧ Odd H y T ∧ ∀ H', Same H H' → Q false H'
def spRefusedR (CQ : Addr) : Sp := fun vs H Q _ => ∃ (s l : Addr) (rs : List (Addr × QD)) (n : Nat) (t : Int), vs = [.ref s, .ref l] ∧ StrmAt H s t ∧ 0 ≤ t ∧ t ≤ 9000 ∧ l ≠ s ∧ Rows H l rs n ∧ n ≤ 50 ∧ ∀ H', But s H H' → Q (.bl true) H'
end Pk
namespace Pk
open PySem L2
def kd (z : Str) : PyData := .tuple [.str "kind", .str z]
theorem kd_dp {K : PySem.W.Frag} {H : Hp} {t : Addr} {z : Str} (h : H t = some (.tup [.str "kind", .str z])) : Dp K H (.ref t) (kd z) := .tup (SqT.of h) (.cons (.str _) (.cons (.str _) .nil))
/-- the odd thing drawn -/
def tOddD (CQ : Addr) : TE := fun σ H Q => ∃ (s x : Addr) (q : QD) (t : Int), σ[0]? = some (some (.ref s)) ∧ σ[3]? = some (some (.ref x)) ∧ StrmAt H s t ∧ 0 ≤ t ∧ t ≤ 50000 ∧ QJ CQ H x q ∧ ∀ (y : V) (H' : Hp), OddOne H' x y → But s H H' → StrmAt H' s (t + 1) → Q y H'
theorem QJ.but {CQ : Addr} {H H' : Hp} {x s : Addr} {q : QD} {t : Int} (h : QJ CQ H x q) (k : But s H H') (st : StrmAt H s t) : QJ CQ H' x q := by
  obtain ⟨⟨dx, a, h1, h2, h3⟩, v, nd⟩ := h
  obtain ⟨b, c, m, hs⟩ := st
  exact ⟨⟨dx, a, k _ _ (fun e => by rw [e, hs] at h1; cases h1) h1, k _ _ (fun e => by rw [e, hs] at h2; cases h2) h2, h3⟩, v, nd⟩
theorem QsAt.but {CQ : Addr} {H H' : Hp} {l s : Addr} {ps : List (Addr × QD)} {t : Int} (h : QsAt CQ H l ps) (k : But s H H') (st : StrmAt H s t) : QsAt CQ H' l ps := by
  have ne : l ≠ s := fun e => by
    obtain ⟨b, c, m, hs⟩ := st
    have h1 := h.at_
    rw [e, hs] at h1
    cases ps with
    | nil => simp at h1
    | cons p ps => simp at h1
  exact ⟨k _ _ ne h.at_, fun p hp => (h.all p hp).but k st, h.len⟩
theorem tNil_eq {σ : St} {H : Hp} {k : List V → Hp → Prop} {x : V} : ((fun (x : V) (H1 : Hp) => tNil σ H1 fun xs H2 => k (x :: xs) H2) x H) = k [x] H := rfl
theorem kd_eq (z : Str) : PyData.eqv (kd z) (kd z) = true := by
  simp [kd, PyData.eqv, PyData.eqvAll]
section
variable {P : Program} {w : World} {K : PySem.W.Frag} {mg : Str → Option Value} {base : Heap}
abbrev NRef : List Str := ["_law_stream_here", "_law_rows", "_law_things", "_law_one", "_law_odd", "_law_at", "_law_some", "_law_kept", "_law_which", "_law_none", "_law_row"]
theorem scRef : FnScope NRef ["_law_stream_here", "_law_rows"] (defScope sRefusedR) := ⟨rfl, rfl, rfl, by decide +kernel, rfl, by decide +kernel, by decide +kernel⟩
theorem ok_refusedR {f fO fT fS CQ : Addr} {fd fdO fdT fdS : FuncData} (F : Fun K "_law_refused_right" "_law_refused_right" sRefusedR f fd) (W : QW K P w mg base CQ) (ml : mg "len" = none) (mr : mg "repr" = none)
    (GO : FnOk P w K mg base CX0 7 fO fdO ["_law_parts_here"] (spOf CQ)) (kO : PySem.W.keepIn K (.ref fO) = true) (bO : Binds K fdO ["_law_parts_here"] []) (gO : mg "_law_of" = some (.ref fO))
    (GT : FnOk P w K mg base CX0 2 fT fdT ["_law_stream_here", "_law_many"] spTake) (kT : PySem.W.keepIn K (.ref fT) = true) (bT : Binds K fdT ["_law_stream_here", "_law_many"] []) (gT : mg "_law_take" = some (.ref fT))
    (GS : FnOk P w K mg base CX0 7 fS fdS psAsk (spSaid CQ)) (kS : PySem.W.keepIn K (.ref fS) = true) (bS : Binds K fdS psAsk []) (gS : mg "_law_said" = some (.ref fS)) :
    FnG P w K mg base CX0 8 f fd ["_law_stream_here", "_law_rows"] (spRefusedR CQ) := by
  refine okG F scRef (fun vs H Q E h => ?_) (fun cdv A calm outer s H vs Q E hr h => ?_)
  · obtain ⟨a, l, rs, n, t, rfl, _⟩ := h
    rfl
  · obtain ⟨a, l, rs, n, t, rfl, st, t0, t1, nla, R, n50, fin⟩ := h
    have r2 : Room 2 _ := hr.mono (by decide)
    have r5 : Room 5 _ := hr.mono (by decide)
    have hu64 : _ + 64 < cLine := Nat.lt_of_le_of_lt (Nat.add_le_add_left (by decide) _) (room_show hr)
    refine ⟨_, pss_cons (ps_imp (tAsg (tThings CQ 1 10) (gName 2)) (ps_setLc (i := 2) (own := [("_law_row", 10)]) (g := gName 10) rfl scRef.nd rfl rfl (sw_true rfl rfl rfl (by decide +kernel)) (pi_list (pv 1)) (blkOk_by (N := NRef) (sc := defScope sRefusedR) (by decide +kernel))
          (fun _ _ _ _ _ => pg_name (i := 10) scRef.nd rfl (Or.inl rfl)) (fun _ _ _ _ _ => pts_nil) (fun _ _ _ _ _ => pe_call (E := E0) GO hr (by rfl) gO kO bO .nil pass0 (pa_cons (pv 10) pa_nil))) (fun D σ H h => things_lc _ _ _ h))
      (pss_cons (ps_set (i := 3) scRef.nd rfl (.inl rfl) (pe_call GO hr (by rfl) gO kO bO .nil pass0 (pa_cons (pe_tup (pa_cons pe_str (pa_cons pe_str (pa_cons (pe_tup (pa_cons pe_str (pa_cons pe_str pa_nil))) (pa_cons pe_int (pa_cons pe_int (pa_cons pe_int (pa_cons pe_str pa_nil)))))))) pa_nil)))
      (pss_cons (ps_set (i := 4) scRef.nd rfl (.inl rfl) (pe_imp (tOddD CQ) (pe_ix ix_list (pe_lst (pa_cons pe_non (pa_cons pe_int (pa_cons pe_str (pa_cons (pe_tup (pa_cons pe_str (pa_cons pe_str (pa_cons (pe_tup (pa_cons pe_str (pa_cons pe_str pa_nil))) (pa_cons pe_int (pa_cons pe_int (pa_cons pe_int (pa_cons pe_str pa_nil)))))))) (pa_cons (pe_lst (pa_cons (pv 3) pa_nil)) (pa_cons (pe_tup (pa_cons (pv 3) pa_nil)) (pa_cons pe_dnewK (pa_cons pe_bl pa_nil))))))))) (pe_call GT r2 (by rfl) gT kT bT .nil pass0 (pa_cons (pv 0) (pa_cons pe_int pa_nil))) (fun _ _ => rfl)) (by
          rintro σ H Q ⟨s, x, q, t, e0, e3, st, t0, t1, J, fin⟩
          refine ⟨by show 2 ≤ sizeLine; decide, fun b nb => ?_⟩
          have s1 := same_upd (o := .tup [.str "c", .str "d"]) nb
          have hb : upd H b (.tup [.str "c", .str "d"]) b = some (.tup [.str "c", .str "d"]) := upd_same
          generalize upd H b (.tup [.str "c", .str "d"]) = H1 at s1 hb ⊢
          refine ⟨by show 7 ≤ sizeLine; decide, fun p1 n1 => ?_⟩
          have s2 := same_upd (o := .tup [.str "a", .str "b", .ref b, .int 0, .int 1, .int 1, .str ""]) n1
          have h1 : upd H1 p1 (.tup [.str "a", .str "b", .ref b, .int 0, .int 1, .int 1, .str ""]) p1 = some (.tup [.str "a", .str "b", .ref b, .int 0, .int 1, .int 1, .str ""]) := upd_same
          generalize upd H1 p1 (.tup [.str "a", .str "b", .ref b, .int 0, .int 1, .int 1, .str ""]) = H2 at s2 h1 ⊢
          refine ⟨_, e3, by show 1 ≤ sizeLine; decide, fun p2 n2 => ?_⟩
          have q2 := strm_ne (strm_same st (s1.trans s2)) n2
          have s3 := same_upd (o := .lst [.ref x]) n2
          have h2 : upd H2 p2 (.lst [.ref x]) p2 = some (.lst [.ref x]) := upd_same
          generalize upd H2 p2 (.lst [.ref x]) = H3 at s3 h2 ⊢
          refine ⟨_, e3, by show 1 ≤ sizeLine; decide, fun p3 n3 => ?_⟩
          have q3 := strm_ne (strm_same st ((s1.trans s2).trans s3)) n3
          have s4 := same_upd (o := .tup [.ref x]) n3
          have h3 : upd H3 p3 (.tup [.ref x]) p3 = some (.tup [.ref x]) := upd_same
          generalize upd H3 p3 (.tup [.ref x]) = H4 at s4 h3 ⊢
          refine fun p4 n4 => ?_
          have q4 := strm_ne (strm_same st (((s1.trans s2).trans s3).trans s4)) n4
          have s5 := same_upd (o := .dK []) n4
          have h4 : upd H4 p4 (.dK []) p4 = some (.dK []) := upd_same
          generalize upd H4 p4 (.dK []) = H5 at s5 h4 ⊢
          refine ⟨by show 8 ≤ sizeLine; decide, fun pl nl => ?_⟩
          have s15 := (((s1.trans s2).trans s3).trans s4).trans s5
          have ql := strm_ne (strm_same st s15) nl
          have s6 := same_upd (o := .lst [.non, .int 5, .str "a", .ref p1, .ref p2, .ref p3, .ref p4, .bl true]) nl
          have hl : upd H5 pl (.lst [.non, .int 5, .str "a", .ref p1, .ref p2, .ref p3, .ref p4, .bl true]) pl = some (.lst [.non, .int 5, .str "a", .ref p1, .ref p2, .ref p3, .ref p4, .bl true]) := upd_same
          generalize upd H5 pl (.lst [.non, .int 5, .str "a", .ref p1, .ref p2, .ref p3, .ref p4, .bl true]) = H6 at s6 hl ⊢
          have s16 := s15.trans s6
          have st6 := strm_same st s16
          have neT : ∀ {c : Addr} {L : List V}, H6 c = some (.tup L) → c ≠ s := fun {c L} e z => by
            obtain ⟨_, _, _, hs⟩ := st6
            rw [z, hs] at e
            cases e
          refine ⟨_, e0, s, t, 8, rfl, st6, t0, by omega, by decide, by decide, fun v G v0 v8 u stG => ?_⟩
          have hlG := u _ _ ql hl
          have uG := (But.same s16).trans u
          have g1 : G p1 = some (.tup [.str "a", .str "b", .ref b, .int 0, .int 1, .int 1, .str ""]) := by
            have e := s6 _ _ (s5 _ _ (s4 _ _ (s3 _ _ h1)))
            exact u _ _ (neT e) e
          have gb : G b = some (.tup [.str "c", .str "d"]) := by
            have e := s6 _ _ (s5 _ _ (s4 _ _ (s3 _ _ (s2 _ _ hb))))
            exact u _ _ (neT e) e
          have g2 := u _ _ q2 (s6 _ _ (s5 _ _ (s4 _ _ h2)))
          have g3 := u _ _ q3 (s6 _ _ (s5 _ _ h3))
          have g4 := u _ _ q4 (s6 _ _ h4)
          obtain rfl | rfl | rfl | rfl | rfl | rfl | rfl | rfl : v = 0 ∨ v = 1 ∨ v = 2 ∨ v = 3 ∨ v = 4 ∨ v = 5 ∨ v = 6 ∨ v = 7 := by omega
          · exact ⟨pl, _, _, _, rfl, rfl, SqL.of hlG, rfl, fin _ _ .non uG stG⟩
          · exact ⟨pl, _, _, _, rfl, rfl, SqL.of hlG, rfl, fin _ _ .int uG stG⟩
          · exact ⟨pl, _, _, _, rfl, rfl, SqL.of hlG, rfl, fin _ _ .str uG stG⟩
          · exact ⟨pl, _, _, _, rfl, rfl, SqL.of hlG, rfl, fin _ _ (.row g1 gb) uG stG⟩
          · exact ⟨pl, _, _, _, rfl, rfl, SqL.of hlG, rfl, fin _ _ (.lst g2) uG stG⟩
          · exact ⟨pl, _, _, _, rfl, rfl, SqL.of hlG, rfl, fin _ _ (.tup g3) uG stG⟩
          · exact ⟨pl, _, _, _, rfl, rfl, SqL.of hlG, rfl, fin _ _ (.dct g4) uG stG⟩
          · exact ⟨pl, _, _, _, rfl, rfl, SqL.of hlG, rfl, fin _ _ .bl uG stG⟩)))
      (pss_cons (ps_if (pt_imp (tOdds CQ) (pt_cmpR (op_neD hu64) (pe_lst (pa_cons (pe_call GS hr (by rfl) gS kS bS .nil pass0 (pa_cons pe_int (pa_cons (pv 3) (pa_cons (pv 4) pa_nil)))) (pa_cons (pe_call GS hr (by rfl) gS kS bS .nil pass0 (pa_cons pe_int (pa_cons (pv 3) (pa_cons (pv 4) pa_nil)))) (pa_cons (pe_call GS hr (by rfl) gS kS bS .nil pass0 (pa_cons pe_int (pa_cons pe_non (pa_cons (pv 4) pa_nil)))) pa_nil)))) (pe_op op_rep (pe_lst (pa_cons (pe_tup (pa_cons pe_str (pa_cons pe_str pa_nil))) pa_nil)) pe_int) (nomark _)) (by
          rintro σ H Q ⟨x, q, y, T, e3, e4, J, od, fin⟩
          refine ⟨_, e3, _, e4, 0, _, _, .kind "Question", rfl, .kinO J od, fun t1 H1 s1 h1 => ?_⟩
          refine ⟨_, e3, _, e4, 1, _, _, .kind "Question", rfl, .needO (.inl rfl) (od.same s1), fun t2 H2 s2 h2 => ?_⟩
          refine ⟨_, e4, 4, _, _, .kind "Question", rfl, .needO (.inr rfl) (od.same (s1.trans s2)), fun t3 H3 s3 h3 => ?_⟩
          refine ⟨by show 3 ≤ sizeLine; decide, fun l1 n1 => ?_⟩
          have s4 := same_upd (o := .lst [.ref t1, .ref t2, .ref t3]) n1
          have hl1 : upd H3 l1 (.lst [.ref t1, .ref t2, .ref t3]) l1 = some (.lst [.ref t1, .ref t2, .ref t3]) := upd_same
          generalize upd H3 l1 (.lst [.ref t1, .ref t2, .ref t3]) = H4 at s4 hl1 ⊢
          refine ⟨by show 2 ≤ sizeLine; decide, fun t5 n5 => ?_⟩
          have s5 := same_upd (o := .tup [.str "kind", .str "Question"]) n5
          have ht5 : upd H4 t5 (.tup [.str "kind", .str "Question"]) t5 = some (.tup [.str "kind", .str "Question"]) := upd_same
          generalize upd H4 t5 (.tup [.str "kind", .str "Question"]) = H5 at s5 ht5 ⊢
          refine ⟨by show 1 ≤ sizeLine; decide, fun l2 n6 => ?_⟩
          have s6 := same_upd (o := .lst [.ref t5]) n6
          have hl2 : upd H5 l2 (.lst [.ref t5]) l2 = some (.lst [.ref t5]) := upd_same
          generalize upd H5 l2 (.lst [.ref t5]) = H6 at s6 hl2 ⊢
          refine ⟨l2, 3, _, rfl, rfl, hl2, by decide, by decide, by show 1 * 3 ≤ sizeLine; decide, fun l3 n7 => ?_⟩
          rw [show (List.replicate (Int.toNat 3) [V.ref t5]).flatten = [V.ref t5, V.ref t5, V.ref t5] from rfl]
          have s7 := same_upd (o := .lst [.ref t5, .ref t5, .ref t5]) n7
          have hl3 : upd H6 l3 (.lst [.ref t5, .ref t5, .ref t5]) l3 = some (.lst [.ref t5, .ref t5, .ref t5]) := upd_same
          generalize upd H6 l3 (.lst [.ref t5, .ref t5, .ref t5]) = H7 at s7 hl3 ⊢
          have s47 := (s5.trans s6).trans s7
          have s37 := s4.trans s47
          have k5 := kd_dp (K := K) (s7 _ _ (s6 _ _ ht5))
          refine ⟨.list [kd "Question", kd "Question", kd "Question"], .list [kd "Question", kd "Question", kd "Question"], .lst (SqL.of (s47 _ _ hl1)) (.cons (kd_dp (s37 _ _ (s3 _ _ (s2 _ _ h1)))) (.cons (kd_dp (s37 _ _ (s3 _ _ h2))) (.cons (kd_dp (s37 _ _ h3)) .nil))), .lst (SqL.of hl3) (.cons k5 (.cons k5 (.cons k5 .nil))), by decide +kernel, by decide +kernel, _, rfl, ?_⟩
          have ef : (!PyData.eqv (.list [kd "Question", kd "Question", kd "Question"]) (.list [kd "Question", kd "Question", kd "Question"])) = false := by decide +kernel
          rw [ef]
          exact fin _ (((s1.trans s2).trans s3).trans s37))) (pss_one (ps_ret pe_bl)) pss_nil)
      (pss_cons (ps_set (i := 5) scRef.nd rfl (.inl rfl) (pe_call GT r2 (by rfl) gT kT bT .nil pass0 (pa_cons (pv 0) (pa_cons (pe_op op_add (pe_callB call_len_seq (by rfl) ml PySem.boot_len (pa_cons (pv 2) pa_nil)) pe_int) pa_nil))))
      (pss_cons (ps_set (i := 6) scRef.nd rfl (.inl rfl) (pe_op op_catS (pe_op op_catS (pe_slice sl_list (pv 2) po_none (po_some (pv 5))) (pe_lst (pa_cons (pv 4) pa_nil))) (pe_slice sl_list (pv 2) (po_some (pv 5)) po_none)))
      (pss_cons (ps_set (i := 7) scRef.nd rfl (.inl rfl) (pe_callB (call_reprL (n := 3) (show Calm _ from calm) r5) (by rfl) mr (by decide +kernel) (pa_cons (pv 6) pa_nil)))
      (pss_cons (ps_for PassesOwn.never rfl (pi_tup (pe_tup (pa_cons pe_int (pa_cons pe_int pa_nil)))) (pg_name (i := 8) scRef.nd rfl (.inl rfl))
        (pss_cons (ps_if (PW.pt (pw_or (pt_cmpR (op_neD hu64) (pe_call GS hr (by rfl) gS kS bS .nil pass0 (pa_cons (pv 8) (pa_cons pe_non (pa_cons (pv 6) pa_nil)))) (pe_tup (pa_cons pe_str (pa_cons pe_str pa_nil))) (nomark _)) (pw_or1 (pt_cmpR op_ne (pe_callB (call_reprL (n := 3) (show Calm _ from calm) r5) (by rfl) mr (by decide +kernel) (pa_cons (pv 6) pa_nil)) (pv 7) (nomark _))))) (pss_one (ps_ret pe_bl)) pss_nil)
        (pss_one (ps_for PassesOwn.never rfl (pi_tup (pe_tup (pa_cons pe_non (pa_cons pe_int (pa_cons pe_str (pa_cons pe_dnewK (pa_cons (pv 3) (pa_cons pe_bl pa_nil)))))))) (pg_name (i := 9) scRef.nd rfl (.inl rfl))
          (pss_one (ps_if (pt_cmpR (op_neD hu64) (pe_call GS hr (by rfl) gS kS bS .nil pass0 (pa_cons (pv 8) (pa_cons pe_non (pa_cons (pv 9) pa_nil)))) (pe_tup (pa_cons pe_str (pa_cons pe_str pa_nil))) (nomark _)) (pss_one (ps_ret pe_bl)) pss_nil))))))
      (pss_one (ps_ret pe_bl))))))))), ?_⟩
    refine ⟨l, rs, n, rfl, by show 10 < 11; decide, R, n50, fun m ps H1 s1 L sn => ?_⟩
    have st1 := strm_same st s1
    refine ⟨by show 2 ≤ sizeLine; decide, fun b nb => ?_⟩
    have s2 := same_upd (o := .tup [.str "c", .str "d"]) nb
    have hb : upd H1 b (.tup [.str "c", .str "d"]) b = some (.tup [.str "c", .str "d"]) := upd_same
    generalize upd H1 b (.tup [.str "c", .str "d"]) = H2 at s2 hb ⊢
    refine ⟨by show 7 ≤ sizeLine; decide, fun p np => ?_⟩
    have s3 := same_upd (o := .tup [.str "a", .str "b", .ref b, .int 0, .int 1, .int 1, .str ""]) np
    have hp : upd H2 p (.tup [.str "a", .str "b", .ref b, .int 0, .int 1, .int 1, .str ""]) p = some (.tup [.str "a", .str "b", .ref b, .int 0, .int 1, .int 1, .str ""]) := upd_same
    generalize upd H2 p (.tup [.str "a", .str "b", .ref b, .int 0, .int 1, .int 1, .str ""]) = H3 at s3 hp ⊢
    have ro : RowAt H3 p q0 := ⟨b, hp, s3 _ _ hb⟩
    have u0 : unlike q0.ws q0.ws.length = q0.ws.length := by decide +kernel
    obtain ⟨aw, hp', ha', qk⟩ := row_qok ro q0_v u0
    refine ⟨p, _, _, _, _, _, _, _, rfl, hp', qk, fun x dx H4 s4 hx => ?_⟩
    have J4 : QJ CQ H4 x q0 := qj_of q0_v (nodup_of_unlike u0) hx (s4 _ _ ha')
    have s14 := (s2.trans s3).trans s4
    have st4 := strm_same st1 s14
    have L4 := L.same s14
    refine ⟨a, x, q0, t, rfl, rfl, st4, t0, by omega, J4, fun y H5 od u5 st5 => ?_⟩
    have J5 := J4.but u5 st4
    have L5 := L4.but u5 st4
    obtain ⟨T, oT⟩ := od.odd
    refine ⟨x, q0, y, T, rfl, rfl, J5, oT, fun H6 s6 => iteF ?_⟩
    have J6 := J5.same s6
    have L6 := L5.same s6
    have od6 := od.same s6
    have st6 := strm_same st5 s6
    have ln := L.len
    have lm : (ps.map fun p => V.ref p.1).length = ps.length := List.length_map _
    refine ⟨_, rfl, _, rfl, m, _, rfl, .inl (SqL.of L6.at_), _, 1, rfl, rfl, a, t + 1, _, rfl, st6, by omega, by omega, by omega, by omega, fun ci H7 c0 c1 u7 st7 => ?_⟩
    have J7 := J6.but u7 st6
    have L7 := L6.but u7 st6
    have od7 : OddOne H7 x y := by
      have nT : ∀ {c : Addr} {L : List V}, H6 c = some (.tup L) → H7 c = some (.tup L) := fun {c L} e => u7 _ _ (fun z => by
        obtain ⟨_, _, _, hs⟩ := st6
        rw [z, hs] at e
        cases e) e
      cases od6 with
      | non => exact .non
      | int => exact .int
      | str => exact .str
      | row h hb => exact .row (nT h) (nT hb)
      | lst h => exact .lst (u7 _ _ (fun z => by
          obtain ⟨_, _, _, hs⟩ := st6
          rw [z, hs] at h
          cases h) h)
      | tup h => exact .tup (nT h)
      | dct h => exact .dct (u7 _ _ (fun z => by
          obtain ⟨_, _, _, hs⟩ := st6
          rw [z, hs] at h
          cases h) h)
      | bl => exact .bl
    have u17 : But a H H7 := (((But.same (s1.trans s14)).trans u5).trans (But.same s6)).trans u7
    obtain ⟨c, rfl⟩ : ∃ c : Nat, ci = (c : Int) := ⟨ci.toNat, by omega⟩
    have cl : c ≤ ps.length := by omega
    refine ⟨_, rfl, _, rfl, (c : Int), rfl, m, _, rfl, SqL.of L7.at_, fun p1 n1 => ?_⟩
    have c1' : cutV (ps.map fun r => V.ref r.1) none (some (c : Int)) = (ps.take c).map fun r => V.ref r.1 := by
      rw [cut_lo (by omega), Int.toNat_natCast, List.map_take]
    rw [c1']
    have s8 := same_upd (o := .lst ((ps.take c).map fun r => V.ref r.1)) n1
    have hp1 : upd H7 p1 (.lst ((ps.take c).map fun r => V.ref r.1)) p1 = some (.lst ((ps.take c).map fun r => V.ref r.1)) := upd_same
    generalize upd H7 p1 (.lst ((ps.take c).map fun r => V.ref r.1)) = H8 at s8 hp1 ⊢
    refine ⟨_, rfl, by show 1 ≤ sizeLine; decide, fun p2 n2 => ?_⟩
    have s9 := same_upd (o := .lst [y]) n2
    have hp2 : upd H8 p2 (.lst [y]) p2 = some (.lst [y]) := upd_same
    generalize upd H8 p2 (.lst [y]) = H9 at s9 hp2 ⊢
    have sl := sizeLine_eq
    refine ⟨p1, p2, _, _, rfl, rfl, SqL.of (s9 _ _ hp1), SqL.of hp2, by rw [List.length_map, List.length_take, List.length_singleton]; omega, fun p3 n3 => ?_⟩
    have s10 := same_upd (o := .lst (((ps.take c).map fun r => V.ref r.1) ++ [y])) n3
    have hp3 : upd H9 p3 (.lst (((ps.take c).map fun r => V.ref r.1) ++ [y])) p3 = some (.lst (((ps.take c).map fun r => V.ref r.1) ++ [y])) := upd_same
    generalize upd H9 p3 (.lst (((ps.take c).map fun r => V.ref r.1) ++ [y])) = H10 at s10 hp3 ⊢
    refine ⟨_, rfl, _, rfl, (c : Int), rfl, m, _, rfl, SqL.of (((L7.same s8).same s9).same s10).at_, fun p4 n4 => ?_⟩
    have c2' : cutV (ps.map fun r => V.ref r.1) (some (c : Int)) none = (ps.drop c).map fun r => V.ref r.1 := by
      rw [cut_hi (by omega), Int.toNat_natCast, List.map_drop]
    rw [c2']
    have s11 := same_upd (o := .lst ((ps.drop c).map fun r => V.ref r.1)) n4
    have hp4 : upd H10 p4 (.lst ((ps.drop c).map fun r => V.ref r.1)) p4 = some (.lst ((ps.drop c).map fun r => V.ref r.1)) := upd_same
    generalize upd H10 p4 (.lst ((ps.drop c).map fun r => V.ref r.1)) = H11 at s11 hp4 ⊢
    refine ⟨p3, p4, _, _, rfl, rfl, SqL.of (s11 _ _ hp3), SqL.of hp4, by rw [List.length_append, List.length_map, List.length_map, List.length_take, List.length_drop, List.length_singleton]; omega, fun so ns => ?_⟩
    have s711 := ((s8.trans s9).trans s10).trans s11
    have J11 := J7.same s711
    have L11 := L7.same s711
    have od11 := od7.same s711
    have s12 := same_upd (o := .lst (((ps.take c).map fun r => V.ref r.1) ++ [y] ++ (ps.drop c).map fun r => V.ref r.1)) ns
    have hso : upd H11 so (.lst (((ps.take c).map fun r => V.ref r.1) ++ [y] ++ (ps.drop c).map fun r => V.ref r.1)) so = some (.lst (((ps.take c).map fun r => V.ref r.1) ++ [y] ++ (ps.drop c).map fun r => V.ref r.1)) := upd_same
    show tSeq _ _ _ _ (upd H11 so (.lst (((ps.take c).map fun r => V.ref r.1) ++ [y] ++ (ps.drop c).map fun r => V.ref r.1)))
    generalize upd H11 so (.lst (((ps.take c).map fun r => V.ref r.1) ++ [y] ++ (ps.drop c).map fun r => V.ref r.1)) = H12 at s12 hso ⊢
    obtain ⟨z, rp⟩ := rp_some J11 od11 L11 ns s12 hso
    refine ⟨_, rfl, ?_⟩
    dsimp only [tNil]
    refine rp _ (by exact W.repr) _ _ (Same.refl _) fun H13 s13 => ?_
    have qo : ∀ {G : Hp}, Same H12 G → QsO CQ G so (ps.take c) y ((ps.drop c).map fun r => V.ref r.1) := fun {G} sG => by
      refine ⟨?_, fun p hp => ((L11.same s12).same sG).all p (List.mem_of_mem_take hp), ?_, ?_⟩
      · rw [sG _ _ hso, List.append_assoc]
        rfl
      · obtain ⟨T', o'⟩ := ((od11.same s12).same sG).odd
        exact ⟨T', o'⟩
      · rw [List.length_map, List.length_take, List.length_drop]
        have lp : ps.length = rs.length := by simpa using congrArg List.length sn
        have := R.len
        omega
    have kQ : SeqAt.shaped (kd "Question") = true := by decide +kernel
    have kL : SeqAt.shaped (kd "list") = true := by decide +kernel
    -- by each of the two
    refine ⟨by show 2 ≤ sizeLine; decide, fun tw nw => ⟨tw, rfl, ⟨_, SqT.of upd_same⟩, ?_⟩⟩
    have s14' := same_upd (o := .tup [.int 2, .int 3]) nw
    have htw : upd H13 tw (.tup [.int 2, .int 3]) tw = some (.tup [.int 2, .int 3]) := upd_same
    generalize upd H13 tw (.tup [.int 2, .int 3]) = H14 at s14' htw ⊢
    refine for_it (walk_tup (K := K) (a := tw) (xs := [.int 2, .int 3])) (fun j σ G => ∃ v8 v9, σ = [some (.ref a), some (.ref l), some (.ref m), some (.ref x), some y, some (.int (c : Int)), some (.ref so), some (.str z), v8, v9, none] ∧ Same H14 G) ⟨_, _, rfl, Same.refl _⟩ (fun j σ G _ ⟨_, _, _, e⟩ => SqT.of (e _ _ htw)) ?_ ?_
    · rintro i wv σ G1 G2 hi ⟨v8, v9, rfl, g⟩ ⟨rfl, fy⟩
      obtain ⟨wi, rfl, hw⟩ : ∃ wi : Int, wv = .int wi ∧ (wi = 2 ∨ wi = 3) := by
        match i, fy with
        | 0, fy => cases fy; exact ⟨2, rfl, .inl rfl⟩
        | 1, fy => cases fy; exact ⟨3, rfl, .inr rfl⟩
        | k + 2, fy => cases fy
      have sg := (s13.trans s14').trans g
      refine ⟨_, rfl, _, rfl, wi, .non, _, .kind "Question", rfl, .lsO hw (qo sg), fun t1 G3 s3' h1 => ?_⟩
      refine ⟨by show 2 ≤ sizeLine; decide, fun t2 n2' => ?_⟩
      have s4' := same_upd (o := .tup [.str "kind", .str "Question"]) n2'
      refine ⟨kd "Question", kd "Question", kd_dp (s4' _ _ h1), kd_dp upd_same, kQ, kQ, _, rfl, ?_⟩
      rw [kd_eq]
      refine iteF ?_
      generalize upd G3 t2 (.tup [.str "kind", .str "Question"]) = G4 at s4' ⊢
      have sg4 := (sg.trans s3').trans s4'
      refine ⟨_, rfl, ?_⟩
      dsimp only [tNil]
      refine rp _ (by exact W.repr) _ _ sg4 fun G5 s5' => ⟨_, rfl, rfl, _, rfl, iteF' (by simp) ?_⟩
      refine fun dd ndd => ?_
      have s6' := same_upd (o := .dK []) ndd
      have hdd : upd G5 dd (.dK []) dd = some (.dK []) := upd_same
      generalize upd G5 dd (.dK []) = G6 at s6' hdd ⊢
      refine ⟨_, rfl, by show 6 ≤ sizeLine; decide, fun tn ntn => ⟨tn, rfl, ⟨_, SqT.of upd_same⟩, ?_⟩⟩
      have s7' := same_upd (o := .tup [.non, .int 5, .str "a", .ref dd, .ref x, .bl true]) ntn
      have htn : upd G6 tn (.tup [.non, .int 5, .str "a", .ref dd, .ref x, .bl true]) tn = some (.tup [.non, .int 5, .str "a", .ref dd, .ref x, .bl true]) := upd_same
      generalize upd G6 tn (.tup [.non, .int 5, .str "a", .ref dd, .ref x, .bl true]) = G7 at s7' htn ⊢
      have sg7 := ((sg4.trans s5').trans s6').trans s7'
      have J7' := (J11.same s12).same sg7
      have hdd7 := s7' _ _ hdd
      refine for_it (walk_tup (K := K) (a := tn) (xs := [.non, .int 5, .str "a", .ref dd, .ref x, .bl true])) (fun j σ G => ∃ v9, σ = [some (.ref a), some (.ref l), some (.ref m), some (.ref x), some y, some (.int (c : Int)), some (.ref so), some (.str z), some (.int wi), v9, none] ∧ Same G7 G) ⟨_, rfl, Same.refl _⟩ (fun j σ G _ ⟨_, _, e⟩ => SqT.of (e _ _ htn)) ?_ ?_
      · rintro j yv σ K1 K2 hj ⟨v9, rfl, k1⟩ ⟨rfl, fz⟩
        have no : NoSeq CQ K2 yv := by
          match j, fz with
          | 0, fz => cases fz; exact .inl ⟨_, .non, by decide, by decide⟩
          | 1, fz => cases fz; exact .inl ⟨_, .int _, by decide, by decide⟩
          | 2, fz => cases fz; exact .inl ⟨_, .str _, by decide, by decide⟩
          | 3, fz => cases fz; exact .inl ⟨_, .dct (k1 _ _ hdd7), by decide, by decide⟩
          | 4, fz => cases fz; exact .inr ⟨x, q0, rfl, J7'.same k1⟩
          | 5, fz => cases fz; exact .inl ⟨_, .bl _, by decide, by decide⟩
          | k + 6, fz => cases fz
        refine ⟨_, rfl, _, rfl, wi, .non, _, .kind "list", rfl, .lsN hw no, fun t1 K3 s3'' h1'' => ?_⟩
        refine ⟨by show 2 ≤ sizeLine; decide, fun t2' n2'' => ?_⟩
        have s4'' := same_upd (o := .tup [.str "kind", .str "list"]) n2''
        refine ⟨kd "list", kd "list", kd_dp (s4'' _ _ h1''), kd_dp upd_same, kL, kL, _, rfl, ?_⟩
        rw [kd_eq]
        exact iteF ⟨_, rfl, (k1.trans s3'').trans s4''⟩
      · rintro σ K1 ⟨v9, rfl, k1⟩
        exact ⟨_, _, rfl, ((((((g.trans s3').trans s4').trans s5').trans s6').trans s7').trans k1)⟩
    · rintro σ G ⟨v8, v9, rfl, g⟩
      exact fin _ (((u17.trans (But.same (s711.trans s12))).trans (But.same (s13.trans s14'))).trans (But.same g))
end
end Pk
namespace Pk
open PySem L2
abbrev NLaw : List Str := ["_law_script", "_law_k", "_law_cell", "_law_stream_here", "_law_rows", "_law_number"]
def spLaw (K : PySem.W.Frag) : Sp := fun vs H Q _ => ∃ (a : Addr) (ns : List Int), vs = [.ref a] ∧ SqL K H a (ns.map V.int) ∧ ns.length ≤ 63 ∧ ∀ H', Q (.bl true) H'
def okN (n : Int) : Prop := -5 ≤ n ∧ n ≤ 10 ^ 30
theorem okN_log {n : Int} (h : okN n) : ∀ i : Int, 0 ≤ i → i ≤ 1000 → (i + n).natAbs.log2 < 1920 := by
  intro i i0 i1
  obtain ⟨h1, h2⟩ := h
  have e : (i + n).natAbs < 2 ^ 200 := by
    have h3 : (10 : Int) ^ 30 = 1000000000000000000000000000000 := by decide +kernel
    have h4 : (2 : Nat) ^ 200 = 1606938044258990275541962092341162602522202993782792835301376 := by decide +kernel
    rw [h3] at h2
    rw [h4]
    omega
  by_cases z : (i + n).natAbs = 0
  · rw [z]
    decide
  · have := (Nat.log2_lt z).mpr e
    omega
def tNum : TE := fun σ H Q => ∃ (s : Addr) (t : Int), σ[3]? = some (some (.ref s)) ∧ StrmAt H s t ∧ 0 ≤ t ∧ t ≤ 50000 ∧ ∀ (n : Int) (H' : Hp), okN n → But s H H' → StrmAt H' s (t + 2) → Q (.int n) H'
section
variable {P : Program} {w : World} {K : PySem.W.Frag} {mg : Str → Option Value} {base : Heap}
theorem scLaw : FnScope NLaw ["_law_script"] (defScope sLaw) := ⟨rfl, rfl, rfl, by decide +kernel, rfl, by decide +kernel, by decide +kernel⟩
theorem ok_law {f fS fT fB fU fL fK fR CQ : Addr} {fd fdS fdT fdB fdU fdL fdK fdR : FuncData} (F : Fun K "law" "law" sLaw f fd) (me : mg "enumerate" = none)
    (GS : FnOk P w K mg base CX0 2 fS fdS ["_law_cell", "_law_k"] spStream) (kS : PySem.W.keepIn K (.ref fS) = true) (bS : Binds K fdS ["_law_cell", "_law_k"] []) (gS : mg "_law_stream" = some (.ref fS))
    (GT : FnOk P w K mg base CX0 2 fT fdT ["_law_stream_here", "_law_many"] spTake) (kT : PySem.W.keepIn K (.ref fT) = true) (bT : Binds K fdT ["_law_stream_here", "_law_many"] []) (gT : mg "_law_take" = some (.ref fT))
    (GB : FnOk P w K mg base CX0 6 fB fdB ["_law_stream_here"] spRowsBy) (kB : PySem.W.keepIn K (.ref fB) = true) (bB : Binds K fdB ["_law_stream_here"] []) (gB : mg "_law_rows_by" = some (.ref fB))
    (GU : FnOk P w K mg base CX0 2 fU fdU ["_law_rows"] spPut) (kU : PySem.W.keepIn K (.ref fU) = true) (bU : Binds K fdU ["_law_rows"] []) (gU : mg "_law_put" = some (.ref fU))
    (GL : FnG P w K mg base CX0 8 fL fdL ["_law_rows", "_law_number"] (spListsR CQ)) (kL : PySem.W.keepIn K (.ref fL) = true) (bL : Binds K fdL ["_law_rows", "_law_number"] []) (gL : mg "_law_lists_right" = some (.ref fL))
    (GK : FnG P w K mg base CX0 8 fK fdK ["_law_rows"] (spKinR CQ)) (kK : PySem.W.keepIn K (.ref fK) = true) (bK : Binds K fdK ["_law_rows"] []) (gK : mg "_law_kin_right" = some (.ref fK))
    (GR : FnG P w K mg base CX0 8 fR fdR ["_law_stream_here", "_law_rows"] (spRefusedR CQ)) (kR : PySem.W.keepIn K (.ref fR) = true) (bR : Binds K fdR ["_law_stream_here", "_law_rows"] []) (gR : mg "_law_refused_right" = some (.ref fR)) :
    FnG P w K mg base CX0 9 f fd ["_law_script"] (spLaw K) := by
  refine okG F scLaw (fun vs H Q E h => ?_) (fun cdv A calm outer s H vs Q E hr h => ?_)
  · obtain ⟨a, ns, rfl, _⟩ := h
    rfl
  · obtain ⟨a, ns, rfl, hS, hlen, q⟩ := h
    have r2 : Room 2 _ := hr.mono (by decide)
    have r6 : Room 6 _ := hr.mono (by decide)
    refine ⟨_, pss_cons (ps_for PassesOwn.never rfl (pi_enum (by rfl) me (pa_cons (pe_slice sl_list (pe_op op_catS (pv 0) (pe_lst (pa_cons pe_int pa_nil))) po_none (po_some pe_int)) pa_nil)) (pg_tup rfl (pgs_cons (pg_name (i := 1) scLaw.nd rfl (.inl rfl)) (pgs_cons (pg_name (i := 2) scLaw.nd rfl (.inl rfl)) pgs_nil)))
        (pss_cons (ps_set (i := 3) scLaw.nd rfl (.inl rfl) (pe_call GS r2 (by rfl) gS kS bS .nil pass0 (pa_cons (pv 2) (pa_cons (pv 1) pa_nil))))
        (pss_cons (ps_set (i := 4) scLaw.nd rfl (.inl rfl) (pe_call GB r6 (by rfl) gB kB bB .nil pass0 (pa_cons (pv 3) pa_nil)))
        (pss_cons (ps_set (i := 5) scLaw.nd rfl (.inl rfl) (pe_imp tNum (pe_ix ix_list (pe_lst (pa_cons pe_int (pa_cons (pe_un un_neg pe_int) (pa_cons (pe_call GT r2 (by rfl) gT kT bT .nil pass0 (pa_cons (pv 3) (pa_cons pe_int pa_nil))) (pa_cons (pe_op op_pow pe_int pe_int) pa_nil))))) (pe_call GT r2 (by rfl) gT kT bT .nil pass0 (pa_cons (pv 3) (pa_cons pe_int pa_nil))) (fun _ _ => rfl)) (by
            rintro σ H Q ⟨s, t, e3, st, t0, t1, fin⟩
            refine ⟨_, rfl, _, e3, s, t, 1000, rfl, st, t0, by omega, by decide, by decide, fun v H1 v0 v1 u1 st1 => ?_⟩
            refine ⟨_, _, rfl, rfl, ⟨by decide, by decide, by decide⟩, by show 4 ≤ sizeLine; decide, fun l nl => ?_⟩
            have nls := strm_ne st1 nl
            have s2 := same_upd (o := .lst [.int 0, .int (-5), .int v, .int ((10 : Int) ^ (30 : Int).toNat)]) nl
            have hl : upd H1 l (.lst [.int 0, .int (-5), .int v, .int ((10 : Int) ^ (30 : Int).toNat)]) l = some (.lst [.int 0, .int (-5), .int v, .int ((10 : Int) ^ (30 : Int).toNat)]) := upd_same
            refine ⟨_, e3, s, t + 1, 4, rfl, strm_same st1 s2, by omega, by omega, by decide, by decide, fun i H3 i0 i4 u3 st3 => ?_⟩
            have hl3 := u3 _ _ nls hl
            have uA := (u1.trans (But.same s2)).trans u3
            have st3' : StrmAt H3 s (t + 2) := by
              rw [show t + 2 = t + 1 + 1 by omega]
              exact st3
            have big1 : (1000 : Int) ≤ 10 ^ 30 := by decide +kernel
            have bigE : ((10 : Int) ^ (30 : Int).toNat) = 10 ^ 30 := rfl
            have big5 : (-5 : Int) ≤ 10 ^ 30 := by decide +kernel
            obtain rfl | rfl | rfl | rfl : i = 0 ∨ i = 1 ∨ i = 2 ∨ i = 3 := by omega
            · exact ⟨l, _, _, .int 0, rfl, rfl, SqL.of hl3, rfl, fin _ _ ⟨by decide, by decide +kernel⟩ uA st3'⟩
            · exact ⟨l, _, _, .int (-5), rfl, rfl, SqL.of hl3, rfl, fin _ _ ⟨by decide, by decide +kernel⟩ uA st3'⟩
            · exact ⟨l, _, _, .int v, rfl, rfl, SqL.of hl3, rfl, fin _ _ ⟨by omega, Int.le_trans (Int.le_of_lt v1) big1⟩ uA st3'⟩
            · exact ⟨l, _, _, .int ((10 : Int) ^ (30 : Int).toNat), rfl, rfl, SqL.of hl3, rfl, fin _ _ ⟨by decide +kernel, by decide +kernel⟩ uA st3'⟩)))
        (pss_cons (ps_if (PW.pt (pw_or (pt_not (pt_val (pe_callG GL (show Calm _ from calm) hr (by rfl) gL kL bL .nil pass0 (pa_cons (pv 4) (pa_cons (pv 5) pa_nil))))) (pw_or1 (pt_not (pt_val (pe_callG GL (show Calm _ from calm) hr (by rfl) gL kL bL .nil pass0 (pa_cons (pe_call GU r2 (by rfl) gU kU bU .nil pass0 (pa_cons (pv 4) pa_nil)) (pa_cons (pv 5) pa_nil)))))))) (pss_one (ps_ret pe_bl)) pss_nil)
        (pss_one (ps_if (PW.pt (pw_or (pt_not (pt_val (pe_callG GK (show Calm _ from calm) hr (by rfl) gK kK bK .nil pass0 (pa_cons (pv 4) pa_nil)))) (pw_or1 (pt_not (pt_val (pe_callG GR (show Calm _ from calm) hr (by rfl) gR kR bR .nil pass0 (pa_cons (pv 3) (pa_cons (pv 4) pa_nil)))))))) (pss_one (ps_ret pe_bl)) pss_nil)))))))
      (pss_one (ps_ret pe_bl)), ?_⟩
    refine ⟨_, rfl, by show 1 ≤ sizeLine; decide, fun l hl => ?_⟩
    have s2 := same_upd (o := .lst [.int 0]) hl
    refine ⟨a, l, ns.map V.int, [.int 0], rfl, rfl, s2.seq hS, SqL.of upd_same, by rw [List.length_map, sizeLine_eq]; show ns.length + 1 ≤ _; omega, fun m hm => ?_⟩
    refine ⟨63, rfl, m, _, rfl, SqL.of upd_same, fun n hn => ?_⟩
    refine ⟨n, _, rfl, SqL.of upd_same, ?_⟩
    generalize hcut : cutV (ns.map V.int ++ [V.int 0]) none (some 63) = cut
    have cutI : ∀ x ∈ cut, ∃ i : Int, x = V.int i := fun x hx => by
      rw [← hcut] at hx
      exact cut_int hx
    have cutL : cut.length ≤ 64 := by
      have h := cutV_length (ns.map V.int ++ [V.int 0]) none (some 63)
      rw [hcut, List.length_append, List.length_map, List.length_singleton] at h
      omega
    refine for_it (walk_enum (K := K) (a := n) (xs := cut)) (fun i σ H' => ∃ v1 v2 v3 v4 v5, σ = [some (.ref a), v1, v2, v3, v4, v5] ∧ H' n = some (.lst cut)) ⟨_, _, _, _, _, rfl, upd_same⟩ (fun i σ H' _ ⟨_, _, _, _, _, _, e⟩ => SqL.of e) ?_ ?_
    · rintro i x σ H3 H4 hi ⟨v1, v2, v3, v4, v5, rfl, en⟩ ⟨T0, x1, x2, rfl, nT, rfl, f1, f2⟩
      dsimp only at f1 f2
      obtain ⟨cell, rfl⟩ := cutI x2 (List.mem_of_getElem? f2)
      obtain rfl := Option.some.inj f1
      have sT := same_upd (o := .tup [.int (i : Nat), .int cell]) nT
      have en4 := sT _ _ en
      refine ⟨T0, _, rfl, SqT.of upd_same, rfl, _, _, rfl, _, _, rfl, rfl, ?_⟩
      generalize upd H3 T0 (.tup [.int (i : Nat), .int cell]) = H4 at sT en4 ⊢
      refine ⟨_, rfl, _, rfl, cell, i, rfl, by omega, by omega, fun ps o hps st5 => ?_⟩
      have s5 := same_upd (o := o) hps
      have en5 := s5 _ _ en4
      have nps : n ≠ ps := ne_of_none en4 hps
      generalize upd H4 ps o = H5 at st5 s5 en5 ⊢
      refine ⟨_, rfl, ps, rfl, st5, fun lr rs H6 t6 R6 nl u6 st6 t60 t61 => ?_⟩
      have en6 := u6 _ _ nps en5
      refine ⟨ps, t6, rfl, st6, t60, by omega, fun nn H7 hN u7 st7 => ?_⟩
      have R7 := R6.but u7 st6 nl
      have en7 := u7 _ _ nps en6
      refine ⟨_, rfl, _, rfl, lr, rs, 9, nn, rfl, R7, by decide, okN_log hN, fun H8 s8 => ⟨_, rfl, iteF' (by simp) ?_⟩⟩
      have R8 := R7.same s8
      refine ⟨_, rfl, lr, rs, 9, rfl, R8, by decide, fun du H9 nd s9 Rd => ?_⟩
      refine ⟨_, rfl, du, sortQ rs, 9, nn, rfl, Rd, by decide, okN_log hN, fun H10 s10 => ⟨_, rfl, iteF' (by simp) ?_⟩⟩
      have s710 := (s8.trans s9).trans s10
      have R10 := R7.same s710
      refine ⟨_, rfl, lr, rs, 9, rfl, R10, by decide, fun H11 s11 => ⟨_, rfl, iteF' (by simp) ?_⟩⟩
      have s711 := s710.trans s11
      refine ⟨_, rfl, _, rfl, ps, lr, rs, 9, t6 + 2, rfl, strm_same st7 s711, by omega, by omega, nl, R7.same s711, by decide, fun H12 u12 => ⟨_, rfl, ?_⟩⟩
      simp only [Bool.not_true]
      exact iteF ⟨_, _, _, _, _, rfl, u12 _ _ nps (s711 _ _ en7)⟩
    · rintro σ H' ⟨v1, v2, v3, v4, v5, rfl, en⟩
      exact q _
end
end Pk
namespace Pk
open PySem L2
/-! ### what the top has left -/
def kitsB (K : PySem.W.Frag) (c : Nat → Addr) (D : Addr) (bs : Nat → Bool) : Bool := (List.range 14).all fun i => PySem.W.kitOne K (.ref D) (.ref (c i)) == some (bs i)
theorem kits_of {K : PySem.W.Frag} {c : Nat → Addr} {D : Addr} {bs : Nat → Bool} (h : kitsB K c D bs = true) : Kits K c D bs := fun i hi => beq_iff_eq.mp (List.all_eq_true.mp h i (List.mem_range.mpr hi))
def pick (l : List Addr) : Nat → Addr := fun i => l.getD i 0
def isNone : Option (Option Value) → Bool
  | some none => true
  | _ => false
theorem isNone_of {x : Option (Option Value)} (h : isNone x = true) : x = some none := by
  cases x with
  | none => cases h
  | some y =>
    cases y with
    | none => rfl
    | some z => cases h
def noneB (K : PySem.W.Frag) (C : Addr) (l : List Str) : Bool := l.all fun f => isNone (PySem.W.findIn K (.ref C) f)
theorem none_of {K : PySem.W.Frag} {C : Addr} {l : List Str} (h : noneB K C l = true) : ∀ f ∈ l, NoAttr K C f := fun f hf => isNone_of (List.all_eq_true.mp h f hf)
theorem va_line : Line VaLine VaLine := ⟨fun _ => rfl, F.store_ValueError.passes, by decide +kernel⟩
theorem ty_line : Line TyLine TyLine := ⟨fun _ => rfl, F.store_TypeError.passes, by decide +kernel⟩
theorem all_mk {l : PySem.W.OpenLaw} {w : World} {K : PySem.W.Frag} {h : Heap} {mg : Str → Option Value} {fa cB fI fJ fW tW CQ fQ tQ fE fL fZ fR fK fY tY c0 c1 c2 c3 c4 c5 c6 c7 c8 c9 c10 c11 c12 c13 f1 f2 f3 f4 f5 f6 f7 f8 f9 f10 f11 f12 f13 f14 f15 f16 f17 f18 f19 f20 f21 f22 f23 f24 f25 f26 f27 : Addr} (X : K.In h) (G : h.Ns mainGlobals mg) (hfa : mg "law" = some (.ref fa))
    {od1 an1 od2 an2 od3 an3 od4 an4 od5 an5 od6 an6 od7 an7 od8 an8 od9 an9 od10 an10 od11 an11 od12 an12 od13 an13 od14 an14 od15 an15 od16 an16 od17 an17 od18 an18 od19 an19 od20 an20 od21 an21 od22 an22 od23 an23 od24 an24 od25 an25 od26 an26 od27 an27 odI anI odJ anJ odW anW odY anY odQ anQ odE anE odL anL odZ anZ odR anR odK anK odT odU odX : Option Addr} {sl1 sl2 sl3 sl4 sl5 sl6 sl7 sl8 sl9 sl10 sl11 sl12 sl13 sl14 sl15 sl16 sl17 sl18 sl19 sl20 sl21 sl22 sl23 sl24 sl25 sl26 sl27 slI slJ slW slY slQ slE slL slZ slR slK slT slU slX : Array (Option Value)} {oc1 kV1 dc1 pm1 cd1 ct1 oc2 kV2 dc2 pm2 cd2 ct2 oc3 kV3 dc3 pm3 cd3 ct3 oc4 kV4 dc4 pm4 cd4 ct4 oc5 kV5 dc5 pm5 cd5 ct5 oc6 kV6 dc6 pm6 cd6 ct6 oc7 kV7 dc7 pm7 cd7 ct7 oc8 kV8 dc8 pm8 cd8 ct8 oc9 kV9 dc9 pm9 cd9 ct9 oc10 kV10 dc10 pm10 cd10 ct10 oc11 kV11 dc11 pm11 cd11 ct11 oc12 kV12 dc12 pm12 cd12 ct12 oc13 kV13 dc13 pm13 cd13 ct13 oc14 kV14 dc14 pm14 cd14 ct14 oc15 kV15 dc15 pm15 cd15 ct15 oc16 kV16 dc16 pm16 cd16 ct16 oc17 kV17 dc17 pm17 cd17 ct17 oc18 kV18 dc18 pm18 cd18 ct18 oc19 kV19 dc19 pm19 cd19 ct19 oc20 kV20 dc20 pm20 cd20 ct20 oc21 kV21 dc21 pm21 cd21 ct21 oc22 kV22 dc22 pm22 cd22 ct22 oc23 kV23 dc23 pm23 cd23 ct23 oc24 kV24 dc24 pm24 cd24 ct24 oc25 kV25 dc25 pm25 cd25 ct25 oc26 kV26 dc26 pm26 cd26 ct26 oc27 kV27 dc27 pm27 cd27 ct27 ocI dcI pmI cdI ctI ocJ dcJ pmJ cdJ ctJ ocW kVW dcW pmW cdW ctW ocY kVY dcY pmY cdY ctY ocQ kVQ dcQ pmQ cdQ ctQ ocE kVE dcE pmE cdE ctE ocL kVL dcL pmL cdL ctL ocZ kVZ dcZ pmZ cdZ ctZ ocR kVR dcR pmR cdR ctR ocK kVK dcK pmK cdK ctK ocT ocU ocX : Value}
    {nm q : Str} {N : Addr} {bs : List Value} {sn : List Str} {sub : List Value} {ab : Bool} {col : Option Bool} {dd : Option Addr} {m0 m1 m2 m3 m5 : Option Value} {nm' q' : Str} {N' : Addr} {bs' : List Value} {sn' : List Str} {sub' : List Value} {ab' : Bool} {col' : Option Bool} {dd' : Option Addr} {m0' m1' m2' m3' m5' : Option Value} {u0 u1 uM uS uP u2 u6 w0 w1 w2 w3 x0 : Tok} {nT nU nX : Nat} {zE : Str}
    (gB : PySem.W.nsIn K mainGlobals "BankError" = some (some (.ref cB)))
    (g0 : PySem.W.nsIn K mainGlobals "BadWish" = some (some (.ref c0)))
    (g1 : PySem.W.nsIn K mainGlobals "BadPaper" = some (some (.ref c1)))
    (g2 : PySem.W.nsIn K mainGlobals "BadSheet" = some (some (.ref c2)))
    (g3 : PySem.W.nsIn K mainGlobals "BadLine" = some (some (.ref c3)))
    (g4 : PySem.W.nsIn K mainGlobals "Gone" = some (some (.ref c4)))
    (g5 : PySem.W.nsIn K mainGlobals "BadQuestion" = some (some (.ref c5)))
    (g6 : PySem.W.nsIn K mainGlobals "BadText" = some (some (.ref c6)))
    (g7 : PySem.W.nsIn K mainGlobals "NoSuch" = some (some (.ref c7)))
    (g8 : PySem.W.nsIn K mainGlobals "NoPlace" = some (some (.ref c8)))
    (g9 : PySem.W.nsIn K mainGlobals "TooMany" = some (some (.ref c9)))
    (g10 : PySem.W.nsIn K mainGlobals "BadKind" = some (some (.ref c10)))
    (g11 : PySem.W.nsIn K mainGlobals "Unmet" = some (some (.ref c11)))
    (g12 : PySem.W.nsIn K mainGlobals "NoAnswers" = some (some (.ref c12)))
    (g13 : PySem.W.nsIn K mainGlobals "Twice" = some (some (.ref c13)))
    (e1_5 : PySem.W.findIn K (.ref c5) "__getattribute__" = some (some (.builtin "BaseException.__getattribute__")))
    (e2_5 : PySem.W.findIn K (.ref c5) "__getattr__" = some none)
    (e3_5 : PySem.W.subIn K (.ref c5) (.type "BaseException") = some true)
    (e4_5 : PySem.W.hasDictIn K c5 = true)
    (e5_5 : PySem.W.findIn K (.ref c5) "__class__" = some (some (.builtin "object.__class__")))
    (e8_5 : PySem.W.mroIn K c5 (.type "object") = some true)
    (kt_5 : kitsB K (pick [c0, c1, c2, c3, c4, c5, c6, c7, c8, c9, c10, c11, c12, c13]) c5 (fun i => decide (i = 5)) = true)
    (ca_5 : PySem.W.exmAny K (.ref c5) (caughtBy cB (pick [c0, c1, c2, c3, c4, c5, c6, c7, c8, c9, c10, c11, c12, c13])) = some true)
    (e1_10 : PySem.W.findIn K (.ref c10) "__getattribute__" = some (some (.builtin "BaseException.__getattribute__")))
    (e2_10 : PySem.W.findIn K (.ref c10) "__getattr__" = some none)
    (e3_10 : PySem.W.subIn K (.ref c10) (.type "BaseException") = some true)
    (e4_10 : PySem.W.hasDictIn K c10 = true)
    (e5_10 : PySem.W.findIn K (.ref c10) "__class__" = some (some (.builtin "object.__class__")))
    (e8_10 : PySem.W.mroIn K c10 (.type "object") = some true)
    (kt_10 : kitsB K (pick [c0, c1, c2, c3, c4, c5, c6, c7, c8, c9, c10, c11, c12, c13]) c10 (fun i => decide (i = 10)) = true)
    (ca_10 : PySem.W.exmAny K (.ref c10) (caughtBy cB (pick [c0, c1, c2, c3, c4, c5, c6, c7, c8, c9, c10, c11, c12, c13])) = some true)
    (kv : PySem.W.kitOne K (.ref c5) (.type "ValueError") = some true)
    (e6 : PySem.W.specialIn K (.builtin "object.__class__") "__get__" = some (some (.builtin "getset_descriptor.__get__")))
    (e7 : PySem.W.takesIn K (.builtin "object.__class__") = some true)
    (xL : K.lookup c5 = some (excClassObj nm q c5 N bs VaLine true sn sub ab col dd m0 m1 m2 m3 m5 "ValueError.__new__"))
    (sa : PySem.W.findIn K (.ref c5) "__setattr__" = some (some (.builtin "object.__setattr__")))
    (nb : PySem.W.findIn K (.ref c5) "part" = some none)
    (aI : PySem.W.findIn K (.ref c5) "__init__" = some (some (.ref fI)))
    (tI : PySem.W.typeIn K (.ref fI) = some (.type "function"))
    (kI : PySem.W.keepIn K (.ref c5) = true)
    (yI : PySem.W.typeIn K (.ref c5) = some (.type "type"))
    (lI : K.lookup fI = some ⟨ocI, odI, .func (PySem.W.fnOf "__init__" "BadQuestion.__init__" (Of_part.iA ⟨28, 17, 28, 21⟩ ⟨28, 23, 28, 27⟩) (Of_part.iB ⟨29, 8, 29, 12⟩ ⟨29, 8, 29, 17⟩ ⟨29, 20, 29, 24⟩ ⟨29, 8, 29, 24⟩) Of_part.iS .none .none dcI pmI anI cdI ctI), slI⟩)
    (qI : PySem.W.codeIn K cdI "BadQuestion.__init__" = true)
    (xL10 : K.lookup c10 = some (excClassObj nm' q' c10 N' bs' TyLine true sn' sub' ab' col' dd' m0' m1' m2' m3' m5' "TypeError.__new__"))
    (sa10 : PySem.W.findIn K (.ref c10) "__setattr__" = some (some (.builtin "object.__setattr__")))
    (nb10 : PySem.W.findIn K (.ref c10) "wanted" = some none)
    (aJ : PySem.W.findIn K (.ref c10) "__init__" = some (some (.ref fJ)))
    (tJ : PySem.W.typeIn K (.ref fJ) = some (.type "function"))
    (kJ : PySem.W.keepIn K (.ref c10) = true)
    (yJ : PySem.W.typeIn K (.ref c10) = some (.type "type"))
    (lJ : K.lookup fJ = some ⟨ocJ, odJ, .func (PySem.W.fnOf "__init__" "BadKind.__init__" (Of_wanted.iA ⟨55, 17, 55, 21⟩ ⟨55, 23, 55, 29⟩) (Of_wanted.iB ⟨56, 8, 56, 12⟩ ⟨56, 8, 56, 19⟩ ⟨56, 22, 56, 28⟩ ⟨56, 8, 56, 28⟩) Of_wanted.iS .none .none dcJ pmJ anJ cdJ ctJ), slJ⟩)
    (qJ : PySem.W.codeIn K cdJ "BadKind.__init__" = true)
    (gQ : PySem.W.nsIn K mainGlobals "Question" = some (some (.ref CQ)))
    (cc1 : PySem.W.findIn K (.ref CQ) "__class__" = some (some (.builtin "object.__class__")))
    (cc2 : PySem.W.mroIn K CQ (.type "object") = some true)
    (cc3 : PySem.W.kitOne K (.ref CQ) (.ref CQ) = some true)
    (aE : PySem.W.findIn K (.ref CQ) "__eq__" = some (some (.ref fE)))
    (hE : PySem.W.isFn K (.ref fE) = true)
    (lE : K.lookup fE = some ⟨ocE, odE, .func (PySem.W.fnOf "__eq__" "Question.__eq__" (defArgs sQEq) (defBody sQEq) (defScope sQEq) .none kVE dcE pmE anE cdE ctE), slE⟩)
    (qE : PySem.W.codeIn K cdE "Question.__eq__" = true)
    (kE : PySem.W.keepIn K (.ref fE) = true)
    (aL : PySem.W.findIn K (.ref CQ) "__len__" = some (some (.ref fL)))
    (hL : PySem.W.isFn K (.ref fL) = true)
    (lL : K.lookup fL = some ⟨ocL, odL, .func (PySem.W.fnOf "__len__" "Question.__len__" (defArgs sQLen) (defBody sQLen) (defScope sQLen) .none kVL dcL pmL anL cdL ctL), slL⟩)
    (qL : PySem.W.codeIn K cdL "Question.__len__" = true)
    (kL : PySem.W.keepIn K (.ref fL) = true)
    (aZ : PySem.W.findIn K (.ref CQ) "__str__" = some (some (.ref fZ)))
    (hZ : PySem.W.isFn K (.ref fZ) = true)
    (lZ : K.lookup fZ = some ⟨ocZ, odZ, .func (PySem.W.fnOf "__str__" "Question.__str__" (defArgs sQStr) (defBody sQStr) (defScope sQStr) .none kVZ dcZ pmZ anZ cdZ ctZ), slZ⟩)
    (qZ : PySem.W.codeIn K cdZ "Question.__str__" = true)
    (kZ : PySem.W.keepIn K (.ref fZ) = true)
    (aR : PySem.W.findIn K (.ref CQ) "__repr__" = some (some (.ref fR)))
    (hR : PySem.W.isFn K (.ref fR) = true)
    (lR : K.lookup fR = some ⟨ocR, odR, .func (PySem.W.fnOf "__repr__" "Question.__repr__" (defArgs sQRepr) (defBody sQRepr) (defScope sQRepr) .none kVR dcR pmR anR cdR ctR), slR⟩)
    (qR : PySem.W.codeIn K cdR "Question.__repr__" = true)
    (kR : PySem.W.keepIn K (.ref fR) = true)
    (aK : PySem.W.findIn K (.ref CQ) "is_kin" = some (some (.ref fK)))
    (hK : PySem.W.isFn K (.ref fK) = true)
    (lK : K.lookup fK = some ⟨ocK, odK, .func (PySem.W.fnOf "is_kin" "Question.is_kin" (defArgs sQKin) (defBody sQKin) (defScope sQKin) .none kVK dcK pmK anK cdK ctK), slK⟩)
    (qK : PySem.W.codeIn K cdK "Question.is_kin" = true)
    (kK : PySem.W.keepIn K (.ref fK) = true)
    (neQ : PySem.W.findIn K (.ref CQ) "__ne__" = some (some (.builtin "object.__ne__")))
    (obQ : oddB K CQ = true)
    (klQ : PySem.W.kitAny K (.ref CQ) [.type "list", .type "tuple"] = some false)
    (kte : PySem.W.kitOne K (.ref c10) (.type "TypeError") = some true)
    (aY : PySem.W.nsIn K mainGlobals "toil_sum" = some (some (.ref fY)))
    (lY : K.lookup fY = some ⟨ocY, odY, .func (PySem.W.fnOf "toil_sum" "toil_sum" (defArgs sToilSum) (defBody sToilSum) (defScope sToilSum) (.ref tY) kVY dcY pmY anY cdY ctY), slY⟩)
    (qY : PySem.W.codeIn K cdY "toil_sum" = true)
    (kY : PySem.W.keepIn K (.ref fY) = true)
    (lX : K.lookup tY = some ⟨ocX, odX, .seq #[.int 0 x0] nX, slX⟩)
    (p1 : PySem.W.plainGet K CQ Str.empty = true)
    (p2 : PySem.W.hasDictIn K CQ = true)
    (p3 : PySem.W.plainOver K CQ = true)
    (p4 : PySem.W.findIn K (.ref CQ) "__setattr__" = some (some (.builtin "object.__setattr__")))
    (p5 : noneB K CQ ["name", "matter", "answers", "right", "toil", "marks", "kin"] = true)
    (p6 : PySem.W.makesIn K CQ = true)
    (aQ : PySem.W.findIn K (.ref CQ) "__init__" = some (some (.ref fQ)))
    (p7 : PySem.W.isFn K (.ref fQ) = true)
    (p8 : PySem.W.keepIn K (.ref CQ) = true)
    (lQ : K.lookup fQ = some ⟨ocQ, odQ, .func (PySem.W.fnOf "__init__" "Question.__init__" (defArgs sQInit) (defBody sQInit) (defScope sQInit) (.ref tQ) kVQ dcQ pmQ anQ cdQ ctQ), slQ⟩)
    (yQ : kVQ = .none)
    (qQ : PySem.W.codeIn K cdQ "Question.__init__" = true)
    (kQ : PySem.W.keepIn K (.ref fQ) = true)
    (lU : K.lookup tQ = some ⟨ocU, odU, .seq #[.int 0 w0, .int 5 w1, .int 1 w2, .str zE w3] nU, slU⟩)
    (yU : zE = "")
    (z0 : PySem.W.nsIn K mainGlobals "isinstance" = some none)
    (z1 : PySem.W.nsIn K mainGlobals "ValueError" = some none)
    (z2 : PySem.W.nsIn K mainGlobals "zip" = some none)
    (z3 : PySem.W.nsIn K mainGlobals "len" = some none)
    (z4 : PySem.W.nsIn K mainGlobals "str" = some none)
    (z5 : PySem.W.nsIn K mainGlobals "int" = some none)
    (z6 : PySem.W.nsIn K mainGlobals "bool" = some none)
    (z7 : PySem.W.nsIn K mainGlobals "tuple" = some none)
    (z8 : PySem.W.nsIn K mainGlobals "list" = some none)
    (z9 : PySem.W.nsIn K mainGlobals "set" = some none)
    (z10 : PySem.W.nsIn K mainGlobals "range" = some none)
    (z11 : PySem.W.nsIn K mainGlobals "enumerate" = some none)
    (z12 : PySem.W.nsIn K mainGlobals "all" = some none)
    (z13 : PySem.W.nsIn K mainGlobals "ord" = some none)
    (z14 : PySem.W.nsIn K mainGlobals "repr" = some none)
    (zx0 : PySem.W.nsIn K mainGlobals "sorted" = some none)
    (zx1 : PySem.W.nsIn K mainGlobals "sum" = some none)
    (zx2 : PySem.W.nsIn K mainGlobals "TypeError" = some none)
    (yM : PySem.W.nsIn K mainGlobals "MOST_LETTERS" = some (some (.int 8 uM)))
    (yS : PySem.W.nsIn K mainGlobals "MOST_SIGNS" = some (some (.int 30 uS)))
    (yP : PySem.W.nsIn K mainGlobals "PERCENT" = some (some (.int 37 uP)))
    (y2 : PySem.W.nsIn K mainGlobals "LEAST_ANSWERS" = some (some (.int 2 u2)))
    (y6 : PySem.W.nsIn K mainGlobals "MOST_ANSWERS" = some (some (.int 6 u6)))
    (aW : PySem.W.nsIn K mainGlobals "is_whole" = some (some (.ref fW)))
    (lW : K.lookup fW = some ⟨ocW, odW, .func (PySem.W.fnOf "is_whole" "is_whole" (defArgs sIsWhole) (defBody sIsWhole) (defScope sIsWhole) (.ref tW) kVW dcW pmW anW cdW ctW), slW⟩)
    (qW : PySem.W.codeIn K cdW "is_whole" = true)
    (kW : PySem.W.keepIn K (.ref fW) = true)
    (lT : K.lookup tW = some ⟨ocT, odT, .seq #[.int 0 u0, .int 9999 u1] nT, slT⟩)
    (a1 : PySem.W.nsIn K mainGlobals "is_number" = some (some (.ref f1)))
    (l1 : K.lookup f1 = some ⟨oc1, od1, .func (PySem.W.fnOf "is_number" "is_number" (defArgs sIsNumber) (defBody sIsNumber) (defScope sIsNumber) .none kV1 dc1 pm1 an1 cd1 ct1), sl1⟩)
    (q1 : PySem.W.codeIn K cd1 "is_number" = true)
    (k1 : PySem.W.keepIn K (.ref f1) = true)
    (a2 : PySem.W.nsIn K mainGlobals "is_name" = some (some (.ref f2)))
    (l2 : K.lookup f2 = some ⟨oc2, od2, .func (PySem.W.fnOf "is_name" "is_name" (defArgs sIsName) (defBody sIsName) (defScope sIsName) .none kV2 dc2 pm2 an2 cd2 ct2), sl2⟩)
    (q2 : PySem.W.codeIn K cd2 "is_name" = true)
    (k2 : PySem.W.keepIn K (.ref f2) = true)
    (a3 : PySem.W.nsIn K mainGlobals "is_name_or_empty" = some (some (.ref f3)))
    (l3 : K.lookup f3 = some ⟨oc3, od3, .func (PySem.W.fnOf "is_name_or_empty" "is_name_or_empty" (defArgs sIsNameE) (defBody sIsNameE) (defScope sIsNameE) .none kV3 dc3 pm3 an3 cd3 ct3), sl3⟩)
    (q3 : PySem.W.codeIn K cd3 "is_name_or_empty" = true)
    (k3 : PySem.W.keepIn K (.ref f3) = true)
    (a4 : PySem.W.nsIn K mainGlobals "is_text" = some (some (.ref f4)))
    (l4 : K.lookup f4 = some ⟨oc4, od4, .func (PySem.W.fnOf "is_text" "is_text" (defArgs sIsText) (defBody sIsText) (defScope sIsText) .none kV4 dc4 pm4 an4 cd4 ct4), sl4⟩)
    (q4 : PySem.W.codeIn K cd4 "is_text" = true)
    (k4 : PySem.W.keepIn K (.ref f4) = true)
    (a5 : PySem.W.nsIn K mainGlobals "are_answers" = some (some (.ref f5)))
    (l5 : K.lookup f5 = some ⟨oc5, od5, .func (PySem.W.fnOf "are_answers" "are_answers" (defArgs sAreAnswers) (defBody sAreAnswers) (defScope sAreAnswers) .none kV5 dc5 pm5 an5 cd5 ct5), sl5⟩)
    (q5 : PySem.W.codeIn K cd5 "are_answers" = true)
    (k5 : PySem.W.keepIn K (.ref f5) = true)
    (a6 : PySem.W.nsIn K mainGlobals "need_question" = some (some (.ref f6)))
    (l6 : K.lookup f6 = some ⟨oc6, od6, .func (PySem.W.fnOf "need_question" "need_question" (defArgs sNeedQ) (defBody sNeedQ) (defScope sNeedQ) .none kV6 dc6 pm6 an6 cd6 ct6), sl6⟩)
    (q6 : PySem.W.codeIn K cd6 "need_question" = true)
    (k6 : PySem.W.keepIn K (.ref f6) = true)
    (a7 : PySem.W.nsIn K mainGlobals "need_questions" = some (some (.ref f7)))
    (l7 : K.lookup f7 = some ⟨oc7, od7, .func (PySem.W.fnOf "need_questions" "need_questions" (defArgs sNeedQs) (defBody sNeedQs) (defScope sNeedQs) .none kV7 dc7 pm7 an7 cd7 ct7), sl7⟩)
    (q7 : PySem.W.codeIn K cd7 "need_questions" = true)
    (k7 : PySem.W.keepIn K (.ref f7) = true)
    (a8 : PySem.W.nsIn K mainGlobals "toil_order" = some (some (.ref f8)))
    (l8 : K.lookup f8 = some ⟨oc8, od8, .func (PySem.W.fnOf "toil_order" "toil_order" (defArgs sToilOrd) (defBody sToilOrd) (defScope sToilOrd) .none kV8 dc8 pm8 an8 cd8 ct8), sl8⟩)
    (q8 : PySem.W.codeIn K cd8 "toil_order" = true)
    (k8 : PySem.W.keepIn K (.ref f8) = true)
    (a9 : PySem.W.nsIn K mainGlobals "by_toil" = some (some (.ref f9)))
    (l9 : K.lookup f9 = some ⟨oc9, od9, .func (PySem.W.fnOf "by_toil" "by_toil" (defArgs sByToil) (defBody sByToil) (defScope sByToil) .none kV9 dc9 pm9 an9 cd9 ct9), sl9⟩)
    (q9 : PySem.W.codeIn K cd9 "by_toil" = true)
    (k9 : PySem.W.keepIn K (.ref f9) = true)
    (a10 : PySem.W.nsIn K mainGlobals "_law_mixed" = some (some (.ref f10)))
    (l10 : K.lookup f10 = some ⟨oc10, od10, .func (PySem.W.fnOf "_law_mixed" "_law_mixed" (defArgs sMixed) (defBody sMixed) (defScope sMixed) .none kV10 dc10 pm10 an10 cd10 ct10), sl10⟩)
    (q10 : PySem.W.codeIn K cd10 "_law_mixed" = true)
    (k10 : PySem.W.keepIn K (.ref f10) = true)
    (a11 : PySem.W.nsIn K mainGlobals "_law_stream" = some (some (.ref f11)))
    (l11 : K.lookup f11 = some ⟨oc11, od11, .func (PySem.W.fnOf "_law_stream" "_law_stream" (defArgs sStream) (defBody sStream) (defScope sStream) .none kV11 dc11 pm11 an11 cd11 ct11), sl11⟩)
    (q11 : PySem.W.codeIn K cd11 "_law_stream" = true)
    (k11 : PySem.W.keepIn K (.ref f11) = true)
    (a12 : PySem.W.nsIn K mainGlobals "_law_take" = some (some (.ref f12)))
    (l12 : K.lookup f12 = some ⟨oc12, od12, .func (PySem.W.fnOf "_law_take" "_law_take" (defArgs sTake) (defBody sTake) (defScope sTake) .none kV12 dc12 pm12 an12 cd12 ct12), sl12⟩)
    (q12 : PySem.W.codeIn K cd12 "_law_take" = true)
    (k12 : PySem.W.keepIn K (.ref f12) = true)
    (a13 : PySem.W.nsIn K mainGlobals "_law_word" = some (some (.ref f13)))
    (l13 : K.lookup f13 = some ⟨oc13, od13, .func (PySem.W.fnOf "_law_word" "_law_word" (defArgs sWord) (defBody sWord) (defScope sWord) .none kV13 dc13 pm13 an13 cd13 ct13), sl13⟩)
    (q13 : PySem.W.codeIn K cd13 "_law_word" = true)
    (k13 : PySem.W.keepIn K (.ref f13) = true)
    (a14 : PySem.W.nsIn K mainGlobals "_law_name_by" = some (some (.ref f14)))
    (l14 : K.lookup f14 = some ⟨oc14, od14, .func (PySem.W.fnOf "_law_name_by" "_law_name_by" (defArgs sNameBy) (defBody sNameBy) (defScope sNameBy) .none kV14 dc14 pm14 an14 cd14 ct14), sl14⟩)
    (q14 : PySem.W.codeIn K cd14 "_law_name_by" = true)
    (k14 : PySem.W.keepIn K (.ref f14) = true)
    (a15 : PySem.W.nsIn K mainGlobals "_law_text_by" = some (some (.ref f15)))
    (l15 : K.lookup f15 = some ⟨oc15, od15, .func (PySem.W.fnOf "_law_text_by" "_law_text_by" (defArgs sTextBy) (defBody sTextBy) (defScope sTextBy) .none kV15 dc15 pm15 an15 cd15 ct15), sl15⟩)
    (q15 : PySem.W.codeIn K cd15 "_law_text_by" = true)
    (k15 : PySem.W.keepIn K (.ref f15) = true)
    (a16 : PySem.W.nsIn K mainGlobals "_law_answers_by" = some (some (.ref f16)))
    (l16 : K.lookup f16 = some ⟨oc16, od16, .func (PySem.W.fnOf "_law_answers_by" "_law_answers_by" (defArgs sAnswersBy) (defBody sAnswersBy) (defScope sAnswersBy) .none kV16 dc16 pm16 an16 cd16 ct16), sl16⟩)
    (q16 : PySem.W.codeIn K cd16 "_law_answers_by" = true)
    (k16 : PySem.W.keepIn K (.ref f16) = true)
    (a17 : PySem.W.nsIn K mainGlobals "_law_parts_by" = some (some (.ref f17)))
    (l17 : K.lookup f17 = some ⟨oc17, od17, .func (PySem.W.fnOf "_law_parts_by" "_law_parts_by" (defArgs sPartsBy) (defBody sPartsBy) (defScope sPartsBy) .none kV17 dc17 pm17 an17 cd17 ct17), sl17⟩)
    (q17 : PySem.W.codeIn K cd17 "_law_parts_by" = true)
    (k17 : PySem.W.keepIn K (.ref f17) = true)
    (a18 : PySem.W.nsIn K mainGlobals "_law_of" = some (some (.ref f18)))
    (l18 : K.lookup f18 = some ⟨oc18, od18, .func (PySem.W.fnOf "_law_of" "_law_of" (defArgs sOf) (defBody sOf) (defScope sOf) .none kV18 dc18 pm18 an18 cd18 ct18), sl18⟩)
    (q18 : PySem.W.codeIn K cd18 "_law_of" = true)
    (k18 : PySem.W.keepIn K (.ref f18) = true)
    (a19 : PySem.W.nsIn K mainGlobals "_law_rows_by" = some (some (.ref f19)))
    (l19 : K.lookup f19 = some ⟨oc19, od19, .func (PySem.W.fnOf "_law_rows_by" "_law_rows_by" (defArgs sRowsBy) (defBody sRowsBy) (defScope sRowsBy) .none kV19 dc19 pm19 an19 cd19 ct19), sl19⟩)
    (q19 : PySem.W.codeIn K cd19 "_law_rows_by" = true)
    (k19 : PySem.W.keepIn K (.ref f19) = true)
    (a20 : PySem.W.nsIn K mainGlobals "_law_parts" = some (some (.ref f20)))
    (l20 : K.lookup f20 = some ⟨oc20, od20, .func (PySem.W.fnOf "_law_parts" "_law_parts" (defArgs sParts) (defBody sParts) (defScope sParts) .none kV20 dc20 pm20 an20 cd20 ct20), sl20⟩)
    (q20 : PySem.W.codeIn K cd20 "_law_parts" = true)
    (k20 : PySem.W.keepIn K (.ref f20) = true)
    (a21 : PySem.W.nsIn K mainGlobals "_law_asked" = some (some (.ref f21)))
    (l21 : K.lookup f21 = some ⟨oc21, od21, .func (PySem.W.fnOf "_law_asked" "_law_asked" (defArgs sAsked) (defBody sAsked) (defScope sAsked) .none kV21 dc21 pm21 an21 cd21 ct21), sl21⟩)
    (q21 : PySem.W.codeIn K cd21 "_law_asked" = true)
    (k21 : PySem.W.keepIn K (.ref f21) = true)
    (a22 : PySem.W.nsIn K mainGlobals "_law_said" = some (some (.ref f22)))
    (l22 : K.lookup f22 = some ⟨oc22, od22, .func (PySem.W.fnOf "_law_said" "_law_said" (defArgs sSaid) (defBody sSaid) (defScope sSaid) .none kV22 dc22 pm22 an22 cd22 ct22), sl22⟩)
    (q22 : PySem.W.codeIn K cd22 "_law_said" = true)
    (k22 : PySem.W.keepIn K (.ref f22) = true)
    (a23 : PySem.W.nsIn K mainGlobals "_law_put" = some (some (.ref f23)))
    (l23 : K.lookup f23 = some ⟨oc23, od23, .func (PySem.W.fnOf "_law_put" "_law_put" (defArgs sPut) (defBody sPut) (defScope sPut) .none kV23 dc23 pm23 an23 cd23 ct23), sl23⟩)
    (q23 : PySem.W.codeIn K cd23 "_law_put" = true)
    (k23 : PySem.W.keepIn K (.ref f23) = true)
    (a24 : PySem.W.nsIn K mainGlobals "_law_lists_right" = some (some (.ref f24)))
    (l24 : K.lookup f24 = some ⟨oc24, od24, .func (PySem.W.fnOf "_law_lists_right" "_law_lists_right" (defArgs sListsR) (defBody sListsR) (defScope sListsR) .none kV24 dc24 pm24 an24 cd24 ct24), sl24⟩)
    (q24 : PySem.W.codeIn K cd24 "_law_lists_right" = true)
    (k24 : PySem.W.keepIn K (.ref f24) = true)
    (a25 : PySem.W.nsIn K mainGlobals "_law_kin_right" = some (some (.ref f25)))
    (l25 : K.lookup f25 = some ⟨oc25, od25, .func (PySem.W.fnOf "_law_kin_right" "_law_kin_right" (defArgs sKinR) (defBody sKinR) (defScope sKinR) .none kV25 dc25 pm25 an25 cd25 ct25), sl25⟩)
    (q25 : PySem.W.codeIn K cd25 "_law_kin_right" = true)
    (k25 : PySem.W.keepIn K (.ref f25) = true)
    (a26 : PySem.W.nsIn K mainGlobals "_law_refused_right" = some (some (.ref f26)))
    (l26 : K.lookup f26 = some ⟨oc26, od26, .func (PySem.W.fnOf "_law_refused_right" "_law_refused_right" (defArgs sRefusedR) (defBody sRefusedR) (defScope sRefusedR) .none kV26 dc26 pm26 an26 cd26 ct26), sl26⟩)
    (q26 : PySem.W.codeIn K cd26 "_law_refused_right" = true)
    (k26 : PySem.W.keepIn K (.ref f26) = true)
    (a27 : PySem.W.nsIn K mainGlobals "law" = some (some (.ref f27)))
    (l27 : K.lookup f27 = some ⟨oc27, od27, .func (PySem.W.fnOf "law" "law" (defArgs sLaw) (defBody sLaw) (defScope sLaw) .none kV27 dc27 pm27 an27 cd27 ct27), sl27⟩)
    (q27 : PySem.W.codeIn K cd27 "law" = true)
    (k27 : PySem.W.keepIn K (.ref f27) = true) :
    ∃ fd : FuncData, (∀ (s : Shared) (v : Value), BindsTo s fd ⟨[v], []⟩ [("_law_script", v)]) ∧ ∀ base : Heap, K.In base → base.Ns mainGlobals mg → FnG l.prog w K mg base CX0 9 fa fd ["_law_script"] (spLaw K) := by
  have e := hfa.symm.trans (PySem.W.mg_of X G a27)
  cases e
  subst yU yQ
  have F1 := fun_mk (st := sIsNumber) l1 q1 k1
  have b1 := F1.binds (ps := (["thing"] : List Str)) fun _ _ _ _ _ _ us hl => match us, hl with | [_], _ => rfl
  have F2 := fun_mk (st := sIsName) l2 q2 k2
  have b2 := F2.binds (ps := (["thing"] : List Str)) fun _ _ _ _ _ _ us hl => match us, hl with | [_], _ => rfl
  have F3 := fun_mk (st := sIsNameE) l3 q3 k3
  have b3 := F3.binds (ps := (["thing"] : List Str)) fun _ _ _ _ _ _ us hl => match us, hl with | [_], _ => rfl
  have F4 := fun_mk (st := sIsText) l4 q4 k4
  have b4 := F4.binds (ps := (["thing"] : List Str)) fun _ _ _ _ _ _ us hl => match us, hl with | [_], _ => rfl
  have F5 := fun_mk (st := sAreAnswers) l5 q5 k5
  have b5 := F5.binds (ps := (["thing"] : List Str)) fun _ _ _ _ _ _ us hl => match us, hl with | [_], _ => rfl
  have F6 := fun_mk (st := sNeedQ) l6 q6 k6
  have b6 := F6.binds (ps := (["thing"] : List Str)) fun _ _ _ _ _ _ us hl => match us, hl with | [_], _ => rfl
  have F7 := fun_mk (st := sNeedQs) l7 q7 k7
  have b7 := F7.binds (ps := (["things"] : List Str)) fun _ _ _ _ _ _ us hl => match us, hl with | [_], _ => rfl
  have F8 := fun_mk (st := sToilOrd) l8 q8 k8
  have b8 := F8.binds (ps := (["question"] : List Str)) fun _ _ _ _ _ _ us hl => match us, hl with | [_], _ => rfl
  have F9 := fun_mk (st := sByToil) l9 q9 k9
  have b9 := F9.binds (ps := (["questions"] : List Str)) fun _ _ _ _ _ _ us hl => match us, hl with | [_], _ => rfl
  have F10 := fun_mk (st := sMixed) l10 q10 k10
  have b10 := F10.binds (ps := (["_law_number", "_law_k"] : List Str)) fun _ _ _ _ _ _ us hl => match us, hl with | [_, _], _ => rfl
  have F11 := fun_mk (st := sStream) l11 q11 k11
  have b11 := F11.binds (ps := (["_law_cell", "_law_k"] : List Str)) fun _ _ _ _ _ _ us hl => match us, hl with | [_, _], _ => rfl
  have F12 := fun_mk (st := sTake) l12 q12 k12
  have b12 := F12.binds (ps := (["_law_stream_here", "_law_many"] : List Str)) fun _ _ _ _ _ _ us hl => match us, hl with | [_, _], _ => rfl
  have F13 := fun_mk (st := sWord) l13 q13 k13
  have b13 := F13.binds (ps := (["_law_error"] : List Str)) fun _ _ _ _ _ _ us hl => match us, hl with | [_], _ => rfl
  have F14 := fun_mk (st := sNameBy) l14 q14 k14
  have b14 := F14.binds (ps := (["_law_stream_here"] : List Str)) fun _ _ _ _ _ _ us hl => match us, hl with | [_], _ => rfl
  have F15 := fun_mk (st := sTextBy) l15 q15 k15
  have b15 := F15.binds (ps := (["_law_stream_here"] : List Str)) fun _ _ _ _ _ _ us hl => match us, hl with | [_], _ => rfl
  have F16 := fun_mk (st := sAnswersBy) l16 q16 k16
  have b16 := F16.binds (ps := (["_law_stream_here"] : List Str)) fun _ _ _ _ _ _ us hl => match us, hl with | [_], _ => rfl
  have F17 := fun_mk (st := sPartsBy) l17 q17 k17
  have b17 := F17.binds (ps := (["_law_stream_here"] : List Str)) fun _ _ _ _ _ _ us hl => match us, hl with | [_], _ => rfl
  have F18 := fun_mk (st := sOf) l18 q18 k18
  have b18 := F18.binds (ps := (["_law_parts_here"] : List Str)) fun _ _ _ _ _ _ us hl => match us, hl with | [_], _ => rfl
  have F19 := fun_mk (st := sRowsBy) l19 q19 k19
  have b19 := F19.binds (ps := (["_law_stream_here"] : List Str)) fun _ _ _ _ _ _ us hl => match us, hl with | [_], _ => rfl
  have F20 := fun_mk (st := sParts) l20 q20 k20
  have b20 := F20.binds (ps := (["_law_one"] : List Str)) fun _ _ _ _ _ _ us hl => match us, hl with | [_], _ => rfl
  have F21 := fun_mk (st := sAsked) l21 q21 k21
  have b21 := F21.binds (ps := (["_law_which", "_law_one", "_law_second"] : List Str)) fun _ _ _ _ _ _ us hl => match us, hl with | [_, _, _], _ => rfl
  have F22 := fun_mk (st := sSaid) l22 q22 k22
  have b22 := F22.binds (ps := (["_law_which", "_law_one", "_law_second"] : List Str)) fun _ _ _ _ _ _ us hl => match us, hl with | [_, _, _], _ => rfl
  have F23 := fun_mk (st := sPut) l23 q23 k23
  have b23 := F23.binds (ps := (["_law_rows"] : List Str)) fun _ _ _ _ _ _ us hl => match us, hl with | [_], _ => rfl
  have F24 := fun_mk (st := sListsR) l24 q24 k24
  have b24 := F24.binds (ps := (["_law_rows", "_law_number"] : List Str)) fun _ _ _ _ _ _ us hl => match us, hl with | [_, _], _ => rfl
  have F25 := fun_mk (st := sKinR) l25 q25 k25
  have b25 := F25.binds (ps := (["_law_rows"] : List Str)) fun _ _ _ _ _ _ us hl => match us, hl with | [_], _ => rfl
  have F26 := fun_mk (st := sRefusedR) l26 q26 k26
  have b26 := F26.binds (ps := (["_law_stream_here", "_law_rows"] : List Str)) fun _ _ _ _ _ _ us hl => match us, hl with | [_, _], _ => rfl
  have F27 := fun_mk (st := sLaw) l27 q27 k27
  have FE := fun_mk (st := sQEq) lE qE kE
  have FL := fun_mk (st := sQLen) lL qL kL
  have FZ := fun_mk (st := sQStr) lZ qZ kZ
  have FR := fun_mk (st := sQRepr) lR qR kR
  have FK := fun_mk (st := sQKin) lK qK kK
  have bE := FE.binds (ps := (["self", "other"] : List Str)) fun _ _ _ _ _ _ us hl => match us, hl with | [_, _], _ => rfl
  have bK := FK.binds (ps := (["self", "other"] : List Str)) fun _ _ _ _ _ _ us hl => match us, hl with | [_, _], _ => rfl
  have bL := FL.binds (ps := (["self"] : List Str)) fun _ _ _ _ _ _ us hl => match us, hl with | [_], _ => rfl
  have bZ := FZ.binds (ps := (["self"] : List Str)) fun _ _ _ _ _ _ us hl => match us, hl with | [_], _ => rfl
  have bR := FR.binds (ps := (["self"] : List Str)) fun _ _ _ _ _ _ us hl => match us, hl with | [_], _ => rfl
  have FY : FunDf K "toil_sum" sToilSum [.int 0] fY _ := ⟨⟨ocY, odY, .ref tY, kVY, dcY, pmY, anY, cdY, ctY, slY, rfl, lY, qY, .inr ⟨(fun z => nomatch z), tY, _, [.int 0 x0], nX, rfl, lX, rfl, .cons ⟨_, rfl⟩ .nil⟩, .inl rfl⟩, kY⟩
  have FW : FunDf K "is_whole" sIsWhole [.int 0, .int 9999] fW _ := ⟨⟨ocW, odW, .ref tW, kVW, dcW, pmW, anW, cdW, ctW, slW, rfl, lW, qW, .inr ⟨(fun z => nomatch z), tW, _, [.int 0 u0, .int 9999 u1], nT, rfl, lT, rfl, .cons ⟨_, rfl⟩ (.cons ⟨_, rfl⟩ .nil)⟩, .inl rfl⟩, kW⟩
  have FQ : FunQ K fQ _ := ⟨⟨ocQ, odQ, .ref tQ, .none, dcQ, pmQ, anQ, cdQ, ctQ, slQ, rfl, lQ, qQ, .inr ⟨(fun z => nomatch z), tQ, _, [.int 0 w0, .int 5 w1, .int 1 w2, .str "" w3], nU, rfl, lU, rfl, .cons ⟨_, rfl⟩ (.cons ⟨_, rfl⟩ (.cons ⟨_, rfl⟩ (.cons ⟨_, rfl⟩ .nil)))⟩, .inl rfl⟩, kQ⟩
  have bW : ∃ ds, Vals ([] : List V) ds ∧ Binds K _ ["thing", "least", "most"] ds := FW.binds1 3 2 (fun z => nomatch z) rfl fun T kV doc pm an cdv ct us its l1 l2 => match us, its, l1, l2 with
    | [_, _, _], [_, _], _, _ => ⟨_, rfl, rfl⟩
  have x5 : ExcC K c5 := ⟨e1_5, e2_5, e3_5, e4_5, e5_5, e6, e7, e8_5⟩
  have x10 : ExcC K c10 := ⟨e1_10, e2_10, e3_10, e4_10, e5_10, e6, e7, e8_10⟩
  have bk : Of_wanted.Tx K mg "BadKind" "BadKind.__init__" c10 fJ "TypeError" "TypeError.__new__" "TypeError.__init__" TyLine :=
    { base := PySem.F.excBase_TypeError, gC := PySem.W.mg_of X G g10, cls := ⟨nm', q', N', bs', _, sn', sub', ab', col', dd', m0', m1', m2', m3', m5', xL10, ty_line⟩, sa := sa10, ex := x10, noN := nb10, iC := aJ, tC := tJ, kC := kJ, tyC := yJ, fn := ⟨_, _, _, _, _, _, _, _, _, _, _, _, _, _, lJ, qJ⟩ }
  have bq : Of_part.Tx K mg "BadQuestion" "BadQuestion.__init__" c5 fI "ValueError" "ValueError.__new__" "ValueError.__init__" VaLine :=
    { base := PySem.F.excBase_ValueError, gC := PySem.W.mg_of X G g5, cls := ⟨nm, q, N, bs, _, sn, sub, ab, col, dd, m0, m1, m2, m3, m5, xL, va_line⟩, sa := sa, ex := x5, noN := nb, iC := aI, tC := tI, kC := kI, tyC := yI, fn := ⟨_, _, _, _, _, _, _, _, _, _, _, _, _, _, lI, qI⟩ }
  have T : Txq K mg cB fI (pick [c0, c1, c2, c3, c4, c5, c6, c7, c8, c9, c10, c11, c12, c13]) :=
    { gB := PySem.W.mg_of X G gB, cl := ⟨PySem.W.mg_of X G g0, PySem.W.mg_of X G g1, PySem.W.mg_of X G g2, PySem.W.mg_of X G g3, PySem.W.mg_of X G g4, PySem.W.mg_of X G g5, PySem.W.mg_of X G g6, PySem.W.mg_of X G g7, PySem.W.mg_of X G g8, PySem.W.mg_of X G g9, PySem.W.mg_of X G g10, PySem.W.mg_of X G g11, PySem.W.mg_of X G g12, PySem.W.mg_of X G g13⟩, bq := bq, kt := kits_of kt_5, ca := ca_5, kv := kv,
      isi := PySem.W.mg_none_of X G z0, val := PySem.W.mg_none_of X G z1, zip := PySem.W.mg_none_of X G z2, len := PySem.W.mg_none_of X G z3, str := PySem.W.mg_none_of X G z4, int := PySem.W.mg_none_of X G z5, bool := PySem.W.mg_none_of X G z6, tuple := PySem.W.mg_none_of X G z7, list := PySem.W.mg_none_of X G z8, set := PySem.W.mg_none_of X G z9, range := PySem.W.mg_none_of X G z10, enum := PySem.W.mg_none_of X G z11, all := PySem.W.mg_none_of X G z12, ord := PySem.W.mg_none_of X G z13, repr := PySem.W.mg_none_of X G z14, gM := ⟨_, PySem.W.mg_of X G yM⟩, gS := ⟨_, PySem.W.mg_of X G yS⟩, gP := ⟨_, PySem.W.mg_of X G yP⟩, g2 := ⟨_, PySem.W.mg_of X G y2⟩, g6 := ⟨_, PySem.W.mg_of X G y6⟩ }
  have CC : QCls K CQ := ⟨⟨p1, p2, p3, p4⟩, fun f hf => none_of p5 _ (List.mem_map_of_mem hf)⟩
  have M : Mk K CQ fQ := ⟨p6, aQ, p7, p8⟩
  refine ⟨PySem.W.fnOf "law" "law" (defArgs sLaw) (defBody sLaw) (defScope sLaw) .none kV27 dc27 pm27 an27 cd27 ct27, fun s v => .of_eq rfl, fun base _ _ => ?_⟩
  have G_is_name : FnOk l.prog w K mg base CX0 1 f2 _ ["thing"] spIsName := ok_isName F2 T.isi T.str T.len T.gM
  have G_is_whole : FnOk l.prog w K mg base CX0 2 fW _ ["thing", "least", "most"] spIsWhole := ok_isWhole FW F1 b1 (PySem.W.mg_of X G a1) T.isi T.int T.bool
  have G_is_name_or_empty : FnOk l.prog w K mg base CX0 2 f3 _ ["thing"] spIsNameE := ok_isNameE F3 F2 b2 (PySem.W.mg_of X G a2) T.isi T.str T.len T.gM
  have G_is_text : FnOk l.prog w K mg base CX0 2 f4 _ ["thing"] spIsText := ok_isText F4 T.isi T.str T.len T.all T.ord T.gP T.gS
  have G_are_answers : FnOk l.prog w K mg base CX0 3 f5 _ ["thing"] spAreAnswers := ok_areAnswers F5 G_is_text k4 b4 (PySem.W.mg_of X G a4) T.isi T.tuple T.len T.all T.set T.g2 T.g6
  have TK : Txk K mg cB fJ (pick [c0, c1, c2, c3, c4, c5, c6, c7, c8, c9, c10, c11, c12, c13]) := ⟨bk, kits_of kt_10, ca_10⟩
  have CT : QTy K CQ := ⟨cc1, e6, e7, cc2, cc3⟩
  have G_is_number : FnOk l.prog w K mg base CX0 1 f1 _ ["thing"] spIsNumber := ok_isNumber F1 T.isi T.int T.bool
  have G_init : FnOk l.prog w K mg base (L2.CX l.prog w) 5 fQ _ psQ (spQInit CQ c5) := ok_qInit FQ bq CC G_is_name k2 b2 (PySem.W.mg_of X G a2) G_are_answers k5 b5 (PySem.W.mg_of X G a5) G_is_whole kW bW (PySem.W.mg_of X G aW) G_is_name_or_empty k3 b3 (PySem.W.mg_of X G a3) T.len T.tuple
  have QQ : QW K l.prog w mg base CQ := ⟨CC, CT, neQ, ⟨fE, _, ok_qEq FE CC CT T.isi (PySem.W.mg_of X G gQ), aE, hE, bE⟩, ⟨fL, _, ok_qLen FL CC T.len, aL, hL, bL⟩, ⟨fZ, _, ok_qStr FZ CC, aZ, hZ, bZ⟩, ⟨fR, _, ok_qRepr FR CC, aR, hR, bR⟩⟩
  have G_need_question : FnOk l.prog w K mg base (L2.CX l.prog w) 3 f6 _ ["thing"] (spNeedQ CQ c10) := ok_needQ F6 CC CT obQ bk T.isi (PySem.W.mg_of X G gQ)
  have G_need_questions : FnOk l.prog w K mg base (L2.CX l.prog w) 4 f7 _ ["things"] (spNeedQs CQ c10) := ok_needQs F7 CC CT klQ bk T.isi T.list T.tuple G_need_question k6 b6 (PySem.W.mg_of X G a6)
  have G_toil_order : FnOk l.prog w K mg base CX0 1 f8 _ ["question"] (spToilOrd CQ) := ok_toilOrd F8 CC
  have G_by_toil : FnOk l.prog w K mg base (L2.CX l.prog w) 5 f9 _ ["questions"] (spByToil CQ c10) := ok_byToil F9 (PySem.W.mg_none_of X G zx0) G_need_questions k7 b7 (PySem.W.mg_of X G a7) G_toil_order b8 (PySem.W.mg_of X G a8)
  have G_toil_sum : FnOk l.prog w K mg base (L2.CX l.prog w) 5 fY _ ["questions", "start"] (spToilSum CQ c10) := ok_toilSum FY CC (PySem.W.mg_none_of X G zx1) G_need_questions k7 b7 (PySem.W.mg_of X G a7)
  have G_kin : FnOk l.prog w K mg base (L2.CX l.prog w) 4 fK _ ["self", "other"] (spKin CQ c10) := ok_kin FK CC G_need_question k6 b6 (PySem.W.mg_of X G a6)
  have MK : Meth K CQ "is_kin" fK := ⟨aK, hK, kK⟩
  have G__law_of : FnOk l.prog w K mg base CX0 7 f18 _ ["_law_parts_here"] (spOf CQ) := ok_of F18 FQ G_init M (PySem.W.mg_of X G gQ)
  have G__law_parts : FnOk l.prog w K mg base CX0 1 f20 _ ["_law_one"] (spParts CQ) := ok_parts F20 CC
  have G__law_asked : FnOk l.prog w K mg base (L2.CX l.prog w) 6 f21 _ ["_law_which", "_law_one", "_law_second"] (spAsked CQ c10) := ok_asked (fY := fY) F21 CC F6 G_need_question k6 b6 (PySem.W.mg_of X G a6) G_kin MK bK G_by_toil k9 b9 (PySem.W.mg_of X G a9) G_toil_sum FY kY (PySem.W.mg_of X G aY)
  have G__law_said : FnOk l.prog w K mg base CX0 7 f22 _ ["_law_which", "_law_one", "_law_second"] (spSaid CQ) := ok_said F22 T TK kte (PySem.W.mg_none_of X G zx2) G__law_asked k21 b21 (PySem.W.mg_of X G a21) F13 b13 (PySem.W.mg_of X G a13)
  have G__law_take : FnOk l.prog w K mg base CX0 2 f12 _ ["_law_stream_here", "_law_many"] spTake := ok_take F12 F10 b10 (PySem.W.mg_of X G a10)
  have G__law_stream : FnOk l.prog w K mg base CX0 2 f11 _ ["_law_cell", "_law_k"] spStream := ok_stream F11 F10 b10 (PySem.W.mg_of X G a10)
  have G__law_name_by : FnOk l.prog w K mg base CX0 3 f14 _ ["_law_stream_here"] (spByP (fun z => nameT z = true) 9) := ok_nameBy F14 T.range F12 b12 (PySem.W.mg_of X G a12) F10 b10 (PySem.W.mg_of X G a10)
  have G__law_text_by : FnOk l.prog w K mg base CX0 3 f15 _ ["_law_stream_here"] (spByP (fun z => textT z = true) 33) := ok_textBy F15 T.range T.len F12 b12 (PySem.W.mg_of X G a12) F10 b10 (PySem.W.mg_of X G a10)
  have G__law_answers_by : FnOk l.prog w K mg base CX0 4 f16 _ ["_law_stream_here"] spAnswersBy := ok_answersBy F16 T.range T.tuple G__law_take k12 b12 (PySem.W.mg_of X G a12) G__law_text_by k15 b15 (PySem.W.mg_of X G a15)
  have G__law_parts_by : FnOk l.prog w K mg base CX0 5 f17 _ ["_law_stream_here"] spPartsBy := ok_partsBy F17 T.len G__law_take k12 b12 (PySem.W.mg_of X G a12) G__law_answers_by k16 b16 (PySem.W.mg_of X G a16) G__law_name_by k14 b14 (PySem.W.mg_of X G a14)
  have G__law_rows_by : FnOk l.prog w K mg base CX0 6 f19 _ ["_law_stream_here"] spRowsBy := ok_rowsBy F19 T.range T.len G__law_take k12 b12 (PySem.W.mg_of X G a12) G__law_parts_by k17 b17 (PySem.W.mg_of X G a17)
  have G__law_put : FnOk l.prog w K mg base CX0 2 f23 _ ["_law_rows"] spPut := ok_put F23 T.len
  have G__law_lists_right : FnG l.prog w K mg base CX0 8 f24 _ ["_law_rows", "_law_number"] (spListsR CQ) := ok_listsR F24 T.isi T.list T.tuple T.repr (PySem.W.mg_none_of X G zx1) G__law_of k18 b18 (PySem.W.mg_of X G a18) G__law_parts k20 b20 (PySem.W.mg_of X G a20) G__law_put k23 b23 (PySem.W.mg_of X G a23) F9 G_by_toil k9 b9 (PySem.W.mg_of X G a9) G_toil_sum FY kY (PySem.W.mg_of X G aY)
  have G__law_kin_right : FnG l.prog w K mg base CX0 8 f25 _ ["_law_rows"] (spKinR CQ) := ok_kinR F25 CC T.enum T.repr G__law_of k18 b18 (PySem.W.mg_of X G a18) G__law_said k22 b22 (PySem.W.mg_of X G a22) FK G_kin MK
  have G__law_refused_right : FnG l.prog w K mg base CX0 8 f26 _ ["_law_stream_here", "_law_rows"] (spRefusedR CQ) := ok_refusedR F26 QQ T.len T.repr G__law_of k18 b18 (PySem.W.mg_of X G a18) G__law_take k12 b12 (PySem.W.mg_of X G a12) G__law_said k22 b22 (PySem.W.mg_of X G a22)
  exact ok_law F27 T.enum G__law_stream k11 b11 (PySem.W.mg_of X G a11) G__law_take k12 b12 (PySem.W.mg_of X G a12) G__law_rows_by k19 b19 (PySem.W.mg_of X G a19) G__law_put k23 b23 (PySem.W.mg_of X G a23) G__law_lists_right k24 b24 (PySem.W.mg_of X G a24) G__law_kin_right k25 b25 (PySem.W.mg_of X G a25) G__law_refused_right k26 b26 (PySem.W.mg_of X G a26)
end Pk
open PySem PySem.W PyProof.Rows
set_option maxRecDepth 100000 in
set_option maxHeartbeats 0 in
theorem PySem.Challenge.cw_paperkin_k07_lists_of_questions_holds : PySem.Challenge.rw_paperkin_k07_lists_of_questions.Holds := by
  w_on; o_law; k_head; (case hw => w_witness2)
  k_fill
  refine Pk.walkG (l := PySem.Challenge.rw_paperkin_k07_lists_of_questions) (n := 63) (k := 9) (x := "_law_script") (sp := Pk.spLaw) rfl (by decide) rfl ⟨rfl, by decide, by decide⟩ (fun w h Y => PySem.W.kIn_of Y) ?F (fun _ _ a ns hl hS => ⟨a, ns, rfl, hS, hl, fun _ => rfl⟩)
  case F =>
    intro w mg fa h KX G hmg
    refine' Pk.all_mk KX G hmg ?pk_gB ?pk_g0 ?pk_g1 ?pk_g2 ?pk_g3 ?pk_g4 ?pk_g5 ?pk_g6 ?pk_g7 ?pk_g8 ?pk_g9 ?pk_g10 ?pk_g11 ?pk_g12 ?pk_g13 ?pk_e1_5 ?pk_e2_5 ?pk_e3_5 ?pk_e4_5 ?pk_e5_5 ?pk_e8_5 ?pk_kt_5 ?pk_ca_5 ?pk_e1_10 ?pk_e2_10 ?pk_e3_10 ?pk_e4_10 ?pk_e5_10 ?pk_e8_10 ?pk_kt_10 ?pk_ca_10 ?pk_kv ?pk_e6 ?pk_e7 ?pk_xL ?pk_sa ?pk_nb ?pk_aI ?pk_tI ?pk_kI ?pk_yI ?pk_lI ?pk_qI ?pk_xL10 ?pk_sa10 ?pk_nb10 ?pk_aJ ?pk_tJ ?pk_kJ ?pk_yJ ?pk_lJ ?pk_qJ ?pk_gQ ?pk_cc1 ?pk_cc2 ?pk_cc3 ?pk_aE ?pk_hE ?pk_lE ?pk_qE ?pk_kE ?pk_aL ?pk_hL ?pk_lL ?pk_qL ?pk_kL ?pk_aZ ?pk_hZ ?pk_lZ ?pk_qZ ?pk_kZ ?pk_aR ?pk_hR ?pk_lR ?pk_qR ?pk_kR ?pk_aK ?pk_hK ?pk_lK ?pk_qK ?pk_kK ?pk_neQ ?pk_obQ ?pk_klQ ?pk_kte ?pk_aY ?pk_lY ?pk_qY ?pk_kY ?pk_lX ?pk_p1 ?pk_p2 ?pk_p3 ?pk_p4 ?pk_p5 ?pk_p6 ?pk_aQ ?pk_p7 ?pk_p8 ?pk_lQ ?pk_yQ ?pk_qQ ?pk_kQ ?pk_lU ?pk_yU ?pk_z0 ?pk_z1 ?pk_z2 ?pk_z3 ?pk_z4 ?pk_z5 ?pk_z6 ?pk_z7 ?pk_z8 ?pk_z9 ?pk_z10 ?pk_z11 ?pk_z12 ?pk_z13 ?pk_z14 ?pk_zx0 ?pk_zx1 ?pk_zx2 ?pk_yM ?pk_yS ?pk_yP ?pk_y2 ?pk_y6 ?pk_aW ?pk_lW ?pk_qW ?pk_kW ?pk_lT ?pk_a1 ?pk_l1 ?pk_q1 ?pk_k1 ?pk_a2 ?pk_l2 ?pk_q2 ?pk_k2 ?pk_a3 ?pk_l3 ?pk_q3 ?pk_k3 ?pk_a4 ?pk_l4 ?pk_q4 ?pk_k4 ?pk_a5 ?pk_l5 ?pk_q5 ?pk_k5 ?pk_a6 ?pk_l6 ?pk_q6 ?pk_k6 ?pk_a7 ?pk_l7 ?pk_q7 ?pk_k7 ?pk_a8 ?pk_l8 ?pk_q8 ?pk_k8 ?pk_a9 ?pk_l9 ?pk_q9 ?pk_k9 ?pk_a10 ?pk_l10 ?pk_q10 ?pk_k10 ?pk_a11 ?pk_l11 ?pk_q11 ?pk_k11 ?pk_a12 ?pk_l12 ?pk_q12 ?pk_k12 ?pk_a13 ?pk_l13 ?pk_q13 ?pk_k13 ?pk_a14 ?pk_l14 ?pk_q14 ?pk_k14 ?pk_a15 ?pk_l15 ?pk_q15 ?pk_k15 ?pk_a16 ?pk_l16 ?pk_q16 ?pk_k16 ?pk_a17 ?pk_l17 ?pk_q17 ?pk_k17 ?pk_a18 ?pk_l18 ?pk_q18 ?pk_k18 ?pk_a19 ?pk_l19 ?pk_q19 ?pk_k19 ?pk_a20 ?pk_l20 ?pk_q20 ?pk_k20 ?pk_a21 ?pk_l21 ?pk_q21 ?pk_k21 ?pk_a22 ?pk_l22 ?pk_q22 ?pk_k22 ?pk_a23 ?pk_l23 ?pk_q23 ?pk_k23 ?pk_a24 ?pk_l24 ?pk_q24 ?pk_k24 ?pk_a25 ?pk_l25 ?pk_q25 ?pk_k25 ?pk_a26 ?pk_l26 ?pk_q26 ?pk_k26 ?pk_a27 ?pk_l27 ?pk_q27 ?pk_k27
    (case pk_gB => k_is)
    (case pk_g0 => k_is)
    (case pk_g1 => k_is)
    (case pk_g2 => k_is)
    (case pk_g3 => k_is)
    (case pk_g4 => k_is)
    (case pk_g5 => k_is)
    (case pk_g6 => k_is)
    (case pk_g7 => k_is)
    (case pk_g8 => k_is)
    (case pk_g9 => k_is)
    (case pk_g10 => k_is)
    (case pk_g11 => k_is)
    (case pk_g12 => k_is)
    (case pk_g13 => k_is)
    (case pk_e1_5 => k_is)
    (case pk_e2_5 => k_is)
    (case pk_e3_5 => k_is)
    (case pk_e4_5 => k_is)
    (case pk_e5_5 => k_is)
    (case pk_e8_5 => k_is)
    (case pk_kt_5 => kernel_rfl)
    (case pk_ca_5 => kernel_rfl)
    (case pk_e1_10 => k_is)
    (case pk_e2_10 => k_is)
    (case pk_e3_10 => k_is)
    (case pk_e4_10 => k_is)
    (case pk_e5_10 => k_is)
    (case pk_e8_10 => k_is)
    (case pk_kt_10 => kernel_rfl)
    (case pk_ca_10 => kernel_rfl)
    (case pk_kv => kernel_rfl)
    (case pk_e6 => k_is)
    (case pk_e7 => k_is)
    (case pk_xL => k_is)
    (case pk_sa => k_is)
    (case pk_nb => k_is)
    (case pk_aI => k_is)
    (case pk_tI => k_is)
    (case pk_kI => k_is)
    (case pk_yI => k_is)
    (case pk_lI => k_is)
    (case pk_qI => k_is)
    (case pk_xL10 => k_is)
    (case pk_sa10 => k_is)
    (case pk_nb10 => k_is)
    (case pk_aJ => k_is)
    (case pk_tJ => k_is)
    (case pk_kJ => k_is)
    (case pk_yJ => k_is)
    (case pk_lJ => k_is)
    (case pk_qJ => k_is)
    (case pk_gQ => k_is)
    (case pk_cc1 => k_is)
    (case pk_cc2 => k_is)
    (case pk_cc3 => kernel_rfl)
    (case pk_aE => k_is)
    (case pk_hE => k_is)
    (case pk_lE => k_is)
    (case pk_qE => k_is)
    (case pk_kE => k_is)
    (case pk_aL => k_is)
    (case pk_hL => k_is)
    (case pk_lL => k_is)
    (case pk_qL => k_is)
    (case pk_kL => k_is)
    (case pk_aZ => k_is)
    (case pk_hZ => k_is)
    (case pk_lZ => k_is)
    (case pk_qZ => k_is)
    (case pk_kZ => k_is)
    (case pk_aR => k_is)
    (case pk_hR => k_is)
    (case pk_lR => k_is)
    (case pk_qR => k_is)
    (case pk_kR => k_is)
    (case pk_aK => k_is)
    (case pk_hK => k_is)
    (case pk_lK => k_is)
    (case pk_qK => k_is)
    (case pk_kK => k_is)
    (case pk_neQ => k_is)
    (case pk_obQ => kernel_rfl)
    (case pk_klQ => kernel_rfl)
    (case pk_kte => kernel_rfl)
    (case pk_aY => k_is)
    (case pk_lY => k_is)
    (case pk_qY => k_is)
    (case pk_kY => k_is)
    (case pk_lX => k_is)
    (case pk_p1 => k_is)
    (case pk_p2 => k_is)
    (case pk_p3 => k_is)
    (case pk_p4 => k_is)
    (case pk_p5 => kernel_rfl)
    (case pk_p6 => k_is)
    (case pk_aQ => k_is)
    (case pk_p7 => k_is)
    (case pk_p8 => k_is)
    (case pk_lQ => k_is)
    (case pk_yQ => rfl)
    (case pk_qQ => k_is)
    (case pk_kQ => k_is)
    (case pk_lU => k_is)
    (case pk_yU => decide +kernel)
    (case pk_z0 => k_is)
    (case pk_z1 => k_is)
    (case pk_z2 => k_is)
    (case pk_z3 => k_is)
    (case pk_z4 => k_is)
    (case pk_z5 => k_is)
    (case pk_z6 => k_is)
    (case pk_z7 => k_is)
    (case pk_z8 => k_is)
    (case pk_z9 => k_is)
    (case pk_z10 => k_is)
    (case pk_z11 => k_is)
    (case pk_z12 => k_is)
    (case pk_z13 => k_is)
    (case pk_z14 => k_is)
    (case pk_zx0 => k_is)
    (case pk_zx1 => k_is)
    (case pk_zx2 => k_is)
    (case pk_yM => k_is)
    (case pk_yS => k_is)
    (case pk_yP => k_is)
    (case pk_y2 => k_is)
    (case pk_y6 => k_is)
    (case pk_aW => k_is)
    (case pk_lW => k_is)
    (case pk_qW => k_is)
    (case pk_kW => k_is)
    (case pk_lT => k_is)
    (case pk_a1 => k_is)
    (case pk_l1 => k_is)
    (case pk_q1 => k_is)
    (case pk_k1 => k_is)
    (case pk_a2 => k_is)
    (case pk_l2 => k_is)
    (case pk_q2 => k_is)
    (case pk_k2 => k_is)
    (case pk_a3 => k_is)
    (case pk_l3 => k_is)
    (case pk_q3 => k_is)
    (case pk_k3 => k_is)
    (case pk_a4 => k_is)
    (case pk_l4 => k_is)
    (case pk_q4 => k_is)
    (case pk_k4 => k_is)
    (case pk_a5 => k_is)
    (case pk_l5 => k_is)
    (case pk_q5 => k_is)
    (case pk_k5 => k_is)
    (case pk_a6 => k_is)
    (case pk_l6 => k_is)
    (case pk_q6 => k_is)
    (case pk_k6 => k_is)
    (case pk_a7 => k_is)
    (case pk_l7 => k_is)
    (case pk_q7 => k_is)
    (case pk_k7 => k_is)
    (case pk_a8 => k_is)
    (case pk_l8 => k_is)
    (case pk_q8 => k_is)
    (case pk_k8 => k_is)
    (case pk_a9 => k_is)
    (case pk_l9 => k_is)
    (case pk_q9 => k_is)
    (case pk_k9 => k_is)
    (case pk_a10 => k_is)
    (case pk_l10 => k_is)
    (case pk_q10 => k_is)
    (case pk_k10 => k_is)
    (case pk_a11 => k_is)
    (case pk_l11 => k_is)
    (case pk_q11 => k_is)
    (case pk_k11 => k_is)
    (case pk_a12 => k_is)
    (case pk_l12 => k_is)
    (case pk_q12 => k_is)
    (case pk_k12 => k_is)
    (case pk_a13 => k_is)
    (case pk_l13 => k_is)
    (case pk_q13 => k_is)
    (case pk_k13 => k_is)
    (case pk_a14 => k_is)
    (case pk_l14 => k_is)
    (case pk_q14 => k_is)
    (case pk_k14 => k_is)
    (case pk_a15 => k_is)
    (case pk_l15 => k_is)
    (case pk_q15 => k_is)
    (case pk_k15 => k_is)
    (case pk_a16 => k_is)
    (case pk_l16 => k_is)
    (case pk_q16 => k_is)
    (case pk_k16 => k_is)
    (case pk_a17 => k_is)
    (case pk_l17 => k_is)
    (case pk_q17 => k_is)
    (case pk_k17 => k_is)
    (case pk_a18 => k_is)
    (case pk_l18 => k_is)
    (case pk_q18 => k_is)
    (case pk_k18 => k_is)
    (case pk_a19 => k_is)
    (case pk_l19 => k_is)
    (case pk_q19 => k_is)
    (case pk_k19 => k_is)
    (case pk_a20 => k_is)
    (case pk_l20 => k_is)
    (case pk_q20 => k_is)
    (case pk_k20 => k_is)
    (case pk_a21 => k_is)
    (case pk_l21 => k_is)
    (case pk_q21 => k_is)
    (case pk_k21 => k_is)
    (case pk_a22 => k_is)
    (case pk_l22 => k_is)
    (case pk_q22 => k_is)
    (case pk_k22 => k_is)
    (case pk_a23 => k_is)
    (case pk_l23 => k_is)
    (case pk_q23 => k_is)
    (case pk_k23 => k_is)
    (case pk_a24 => k_is)
    (case pk_l24 => k_is)
    (case pk_q24 => k_is)
    (case pk_k24 => k_is)
    (case pk_a25 => k_is)
    (case pk_l25 => k_is)
    (case pk_q25 => k_is)
    (case pk_k25 => k_is)
    (case pk_a26 => k_is)
    (case pk_l26 => k_is)
    (case pk_q26 => k_is)
    (case pk_k26 => k_is)
    (case pk_a27 => k_is)
    (case pk_l27 => k_is)
    (case pk_q27 => k_is)
    (case pk_k27 => k_is)
