import PyProof.Rows.All
import Wide.All
import OpenK.AllK
import Wide.FinOn
import KE.KTryMore
import HandS.Base
import HandS.Call
import HandS.List
import HandS.Exc
import HandS.Text
import HandS.ForMost
import HandS.ForExc
import HandS.Defaults
import KE.KExcInit
import KE.KExcIs
import HandS.ExcIs
import HandS.IsInst
import HandS.Walk
import HandS.Strs
import PyProof.StrLawsRepr
import HandS.StrMore
import PyProof.Rows.StrCut
import HandS.Comp
import HandS.OwnEq
import HandS.More
import PyProof.InstNe
import HandS.Deep
import PyProof.Rows.SortStrRead
import PyProof.Rows.StrMeet
import PyProof.Rows.SortStr
import PyProof.FString5
import KE.KCallOwn
import HandS.FStr
import PyProof.ExcClass
import HandS.ExcInit
import HandS.ExcValue
import PyProof.ReprRoads
import PyProof.CallStr
import PyProof.CallFns
import PyProof.FitsInt
import HandS.Dict
import KE.KEqDict
import HandS.Iter
import HandS.WordsDict
import HandS.MakeKwOnly
import HandS.DictComp
import HandS.TupAny
import HandS.MakeKw
import HandS.Style
import HandS.Star
import HandS.SortInts
import HandS.Finally
import PyProof.NeKinds
import HandS.DeepEq
import HandS.Zip
import KE.KDictZip
import KE.KDictPairs
import HandS.Lambda
import HandS.EndBits
import HandS.EndTab
import HandS.EndOwn
import KE.KNestM
import PySem.Challenge.RW_paperkin_k72_whole_banks
set_option Elab.async false
set_option linter.all false
set_option maxRecDepth 100000
set_option maxHeartbeats 4000000
namespace Pk
open PySem PySem.Spec PyProof.Rows L2
open PySem.W (Looks Frag exmOne exmAny)
/-! ### a text, so many times -/
theorem op_times {X : Cx} : OpR X (binaryOp .Mult) (fun x y H Q => ∃ z n, x = .str z ∧ y = .int n ∧ MulOk z n ∧ Q (.str (Txt.mul z n)) H) := by
  rintro pins s σ H x y v u Q I rx ry ⟨z, n, ex, ey, ok, q⟩
  subst ex ey
  obtain ⟨t1, rfl⟩ := rx
  obtain ⟨t2, rfl⟩ := ry
  exact SB.mul ok fun t3 k => ⟨.str (Txt.mul z n), H, I.tok k, ⟨t3, rfl⟩, q⟩
/-! ### except (A, B, ..): the tuple's classes, one after the other -/
section
variable {M : Model} {K : Frag} {h : Heap}
theorem looks_every {β : Type} {cs : List Value} {b0 : β} {f : Value → β → Sem (ForInStep β)} (hf : ∀ c ∈ cs, Looks M h (f c b0) (.yield b0)) : Looks M h (forIn cs b0 f) b0 := by
  induction cs with
  | nil =>
    rw [List.forIn_nil]
    exact .now
  | cons c r ih =>
    rw [List.forIn_cons]
    exact (hf c List.mem_cons_self).andThen (ih fun d hd => hf d (List.mem_cons_of_mem _ hd))
theorem looks_first {β : Type} {b0 b1 : β} {f : Value → β → Sem (ForInStep β)} {g : Value → Bool} : ∀ {cs : List Value}, (∀ c ∈ cs, Looks M h (f c b0) (if g c = true then .done b1 else .yield b0)) → Looks M h (forIn cs b0 f) (if cs.any g = true then b1 else b0)
  | [], _ => by
    rw [List.forIn_nil]
    exact .now
  | c :: r, hf => by
    rw [List.forIn_cons]
    have h1 := hf c List.mem_cons_self
    have h2 := looks_first (cs := r) fun d hd => hf d (List.mem_cons_of_mem _ hd)
    rw [List.any_cons]
    cases hg : g c with
    | true =>
      rw [hg] at h1
      exact h1.andThen .now
    | false =>
      rw [hg] at h1
      rw [Bool.false_or]
      exact h1.andThen h2
theorem exm_all {cls : Value} : ∀ {cs : List Value} {b : Bool}, exmAny K cls cs = some b → ∀ c ∈ cs, exmOne K cls c = some ((exmOne K cls c).getD false)
  | [], _, _, _, hc => by cases hc
  | d :: r, b, e, c, hc => by
    obtain ⟨b1, d1, x1, y1, _⟩ := PySem.W.exmAny_cons e
    rcases List.mem_cons.mp hc with q | q
    · subst q
      rw [x1]
      rfl
    · exact exm_all y1 c q
theorem exm_any {cls : Value} : ∀ {cs : List Value} {b : Bool}, exmAny K cls cs = some b → b = cs.any fun c => (exmOne K cls c).getD false
  | [], b, e => (Option.some.inj e).symm
  | d :: r, b, e => by
    obtain ⟨b1, d1, x1, y1, z⟩ := PySem.W.exmAny_cons e
    rw [List.any_cons, x1, ← exm_any y1, z]
    rfl
/-- an exception held against a tuple of classes, however many -/
theorem exm_tuple {cls : Value} {cs : List Value} {tp e : Addr} {b : Bool} {n : Nat} {ot : Obj} (X : K.In h) (LT : Looks M h (typeOf (.ref e)) cls) (hp : h.get? tp = some ot) (hc : ot.cls = .type "tuple") (hd : ot.data = .seq cs.toArray n) (hx : exmAny K cls cs = some b) :
    Looks M h (excMatches (.ref e) (.ref tp)) b := by
  have LT0 : Looks M h (isInstance (.ref tp) (.type "tuple")) true := ((Looks.ld hp).andThen (by rw [hc]; exact .now)).andThen (Looks.of_pure isSubtype_tuple_tuple)
  have LS : Looks M h (seqItems? (.ref tp)) (some cs.toArray) := fun A Q E s k q => wpAny_seqItems (k _ _ hp) hd q
  have hall := exm_all hx
  have hany := exm_any hx
  unfold excMatches
  refine LT0.andThen ?_
  dsimp only
  rw [if_pos rfl]
  refine LS.andThen (Looks.andThen (a := cs) (by rw [Option.getD_some, List.toList_toArray]; exact .now) ?_)
  refine (looks_every (b0 := PUnit.unit) fun c hc => ?_).andThen ?_
  · refine (PySem.W.exm_cls X (hall c hc)).1.andThen ?_
    exact .now
  · refine LT.andThen ?_
    refine (looks_first (b0 := ((none, ()) : Option Bool × Unit)) (b1 := (some true, ())) (g := fun c => (exmOne K cls c).getD false) fun c hc => ?_).andThen ?_
    · refine (PySem.W.exm_cls X (hall c hc)).2.andThen ?_
      cases (exmOne K cls c).getD false with
      | true => exact .now
      | false => exact .now
    · rw [← hany]
      cases b with
      | true => exact .now
      | false => exact .now
end

/-! ### a caught exception that is kept -/
/-- an exception that was caught and is held as a value at a: its class, its own dict -/
def ExH (cls : Value) (d : Option Addr) (a : Addr) : HO := .ext fun h => ∃ (oe : Obj) (vs : Array Value), h.get? a = some oe ∧ Zc cls d oe ∧ oe.data = .fields vs
section
variable {X : Cx} {pins : List (Addr × Obj)} {σ : L2.St} {H : Hp} {s : Shared}
theorem held_ok {P : Program} {w : World} {h : Heap} {a : Addr} {cls : Value} {d : Option Addr} {oe : Obj} {vs : Array Value} (e : h.get? a = some oe) (z : Zc cls d oe) (hv : oe.data = .fields vs) : ObjOk P w H h a (ExH cls d a) :=
  ⟨⟨oe, vs, e, z, hv⟩, ⟨oe, e⟩, fun _ _ ⟨o, v, q, r⟩ k => ⟨o, v, k o q, r⟩⟩
/-- what was pinned is tracked -/
theorem inv_hold {a : Addr} {oe : Obj} {vs : Array Value} {cls : Value} {d : Option Addr} (J : Inv X ((a, oe) :: pins) σ H s) (z : Zc cls d oe) (hv : oe.data = .fields vs)
    (n0 : ∀ b o, X.s_0.heap.get? b = some o → b ∉ X.ex → b ≠ a) (nc : ∀ x c, X.env.cells.lookup x = some c → c ≠ a) (np : ∀ p ∈ X.pn ++ pins, p.1 ≠ a) : Inv X pins σ (upd H a (ExH cls d a)) s := by
  obtain ⟨ea, na, aL, aF, _⟩ := J.pin (a, oe) (List.mem_append_right _ List.mem_cons_self)
  have ne : ∀ {b : Addr} {o : HO}, H b = some o → b ≠ a := fun {b o} q => ne_of_none q na
  refine ⟨J.ok, J.os, J.bare, ⟨J.base.keep, J.base.slot, ?_, J.base.there, ?_, ?_, ?_⟩, J.loc, J.cell, ?_, ?_, ?_, ?_, J.len⟩
  · intro b o e n hx
    rw [upd_ne (n0 b o e hx)]
    exact J.base.free b o e n hx
  · intro b xs e
    have q := J.base.tups b xs e
    rw [upd_ne (ne q)]
    exact q
  · intro b o u e
    have q := J.base.frzs b o u e
    rw [upd_ne (ne q)]
    exact q
  · intro b ps e
    obtain ⟨m, q⟩ := J.base.tbls b ps e
    exact ⟨m, by rw [upd_ne (ne q)]; exact q⟩
  · rw [upd_ne (Ne.symm aL)]
    exact J.free
  · intro x c e
    rw [upd_ne (nc x c e)]
    exact J.freeC x c e
  · intro p hp
    have hq : p ∈ X.pn ++ (a, oe) :: pins := by
      rcases List.mem_append.mp hp with q | q
      · exact List.mem_append_left _ q
      · exact List.mem_append_right _ (List.mem_cons_of_mem _ q)
    obtain ⟨e, n, r⟩ := J.pin p hq
    exact ⟨e, by rw [upd_ne (np p hp)]; exact n, r⟩
  · intro b u e
    by_cases hb : b = a
    · subst hb
      rw [upd_same] at e
      cases e
      exact held_ok ea z hv
    · rw [upd_ne hb] at e
      exact (J.hok b u e).stay (fun _ _ _ q => q) (fun c q => by rw [upd_ne (ne q)]; exact q) fun c xs q => by rw [upd_ne (ne q)]; exact q
end
/-- what 'except (A, B, ..) as n: suite' wishes of an exception of the body, where the suite may keep it: behind the suite it is tracked -/
def wHeld (K : Frag) (cs : List Value) (i : Nat) (ts : Addr → Value → Option Addr → TS) (Wout : WX) (D : Ends) : WX := fun cls d σ H =>
  ∃ b, exmAny K cls cs = some b ∧
    (b = true → ∀ a, H a = none → ts a cls d { nx := fun σ' H' => H' a = none → D.nx (σ'.set i none) (upd H' a (ExH cls d a)), rt := fun _ _ => False, bk := fun _ _ => False, ct := fun _ _ => False } (σ.set i (some (.ref a))) H) ∧
    (b = false → Wout cls d σ H)
/-- the names of a written tuple of classes -/
inductive NamesAll (X : Cx) : List Expr → List Value → Prop
  | nil : NamesAll X [] []
  | cons {x : Str} {c : Value} {np : Pos} {es : List Expr} {cs : List Value} (hg : Gl X x) (hd : (x == ("__debug__" : Str)) = false) (hm : X.mg x = some c) (r : NamesAll X es cs) : NamesAll X (.Name x np :: es) (c :: cs)
section
variable {X : Cx} {n : Str} {cs : List Value} {es : List Expr} {i kk : Nat} {body suite : List Stmt} {b₀ : Stmt} {tpos pos pos' : Pos} {tb : WX → TS} {ts : Addr → Value → Option Addr → TS} {Wout : WX}
/-- the tuple of the clause is laid, nothing else is done -/
theorem names_run {a : Addr} {pn : List (Addr × Obj)} {σ : L2.St} {H : Hp} {s : Shared} {pins : List (Addr × Obj)} {E : Value → Shared → Prop} (S : Inv (X.suite a pn) pins σ H s) : ∀ {es : List Expr} {cs : List Value}, NamesAll X es cs → ∀ {Q : List Value → Shared → Prop}, Q cs s →
    wpAny (model X.prog X.w) (X.A.mark (some (.ref a))) (spliced (backTo tpos (starEach es X.env))) Q E s
  | _, _, .nil, Q, q => wpAny_items_nil q
  | _, _, .cons hg hd hm r, Q, q => wpAny_items_cons (ld_glob (X := X.suite a pn) S hg hm (names_run S r q) hd)
theorem names_len : ∀ {es : List Expr} {cs : List Value}, NamesAll X es cs → cs.length = es.length
  | _, _, .nil => rfl
  | _, _, .cons _ _ _ r => by rw [List.length_cons, List.length_cons, names_len r]
theorem flying_more {B : Heap} {l : List Env} {a : Addr} {Z : Obj → Prop} {h h' : Heap} (k : ∀ b o, h.get? b = some o → h'.get? b = some o) (f : HandSPX.FlyingZ B l a Z h) : HandSPX.FlyingZ B l a Z h' := by
  obtain ⟨f1, f2, f3, oe, vs, T, oT, tts, e1, e2, e3, e4, e5, e6, e7, e8⟩ := f
  exact ⟨fun b o q => k b o (f1 b o q), f2, f3.of_keeps fun b o q _ => ⟨o, k b o q, rfl⟩, oe, vs, T, oT, tts, k _ _ e1, e2, e3, e4, e5, e6, k _ _ e7, e8⟩
theorem ps_try_held (hs : X.stack = X.env :: X.outer) (hf : X.env.frame = some X.env.locals) (hN : X.N.Nodup) (hi : X.N[i]? = some n) (hln : X.env.kindOf n = some .local) (hc : NamesAll X es cs) (hz : es.length ≤ 1000) (tk : Takes X Wout)
    (hb : ∀ (W : WX) (pn : List (Addr × Obj)) (xe : Value → Shared → Prop), Takes (X.tr pn xe) W → PassesOwn (model X.prog X.w) X.A X.env xe → PSs (X.tr pn xe) body (tb W))
    (hsu : ∀ (a : Addr) (oe : Obj) (cls : Value) (d : Option Addr) (pn : List (Addr × Obj)), Zc cls d oe → (∃ vs, oe.data = .fields vs) → PSs (X.suite a ((a, oe) :: pn)) (b₀ :: suite) (ts a cls d)) :
    PS X (.Try body [.ExceptHandler (some (.Tuple es kk tpos)) (some n) (b₀ :: suite) pos'] [] [] pos) (fun D σ H => tb (wHeld X.K cs i ts Wout D) D σ H) := by
  constructor
  intro pins s σ H D I h
  have ok := I.ok
  have hfr : X.A.frames = some (X.env :: X.outer) := ok.frames.trans (congrArg some hs)
  refine wpAny_Try_except ?_
  have body_ := hb (wHeld X.K cs i ts Wout D) (X.pn ++ pins) (fun e s₁ => wpAny (model X.prog X.w) X.A (noteFrame e X.env) (fun _ s₂ => wpAny (model X.prog X.w) X.A (setFlight e none)
    (fun _ s₃ => wpAny (model X.prog X.w) X.A (handleBy e X.env [.ExceptHandler (some (.Tuple es kk tpos)) (some n) (b₀ :: suite) pos']) (SP X pins D) X.xe s₃) X.xe s₂) X.xe s₁) ?caught PassesOwn.looking
  refine wpAny_mono (body_.run [] s σ H D (I.toTry _) h) ?through fun e s1 he => he
  case through =>
    intro f s1 hsp
    cases f with
    | next =>
      obtain ⟨σ', H', J', q⟩ := hsp
      exact wpAny_execs_nil ⟨σ', H', J'.ofTry ok, q⟩
    | brk =>
      obtain ⟨σ', H', J', q⟩ := hsp
      exact ⟨σ', H', J'.ofTry ok, q⟩
    | cont =>
      obtain ⟨σ', H', J', q⟩ := hsp
      exact ⟨σ', H', J'.ofTry ok, q⟩
    | ret u =>
      obtain ⟨v, σ', H', J', r, q⟩ := hsp
      exact ⟨v, σ', H', J'.ofTry ok, r, q⟩
  case caught =>
    rintro u s' ⟨a, B, sI, pins', σ', H', cls, d, rfl, J', nb, up, sky, na, os, ag, b, hb1, hyes, hno⟩
    have J : Inv X pins σ' H' sI := J'.ofTry ok
    rw [hs] at sky
    show wpAny (model X.prog X.w) X.A (noteFrame (.ref a) X.env) _ _ _
    refine Sky.land Zc.steady hfr hf sky fun h3 fl3 up3 => ?_
    obtain ⟨oe3, vs3, he3, hz3, hd3⟩ := fl3.there
    -- where the exception stands: in no frame, new
    have nfr : a ∉ frs (X.env :: X.outer) := fun hm => by
      obtain ⟨_, o', e', hnf⟩ := fl3.2.2.1.mem hm
      rw [he3] at e'
      cases e'
      exact hnf _ hd3
    have nL : a ≠ X.env.locals := fun z => nfr (List.mem_filterMap.mpr ⟨X.env, List.mem_cons_self, by rw [hf, z]⟩)
    have nF : a ∉ X.fs := fun hm => by
      obtain ⟨e, he, q⟩ := List.mem_filterMap.mp hm
      exact nfr (List.mem_filterMap.mpr ⟨e, List.mem_cons_of_mem _ he, q⟩)
    have new : sI.heap.get? a = none := by
      cases q : sI.heap.get? a with
      | none => rfl
      | some o =>
        have z := nb a o q (by rw [hs]; exact nfr)
        rw [fl3.2.1] at z
        cases z
    have ne_ : ∀ {b : Addr} {o : Obj}, sI.heap.get? b = some o → b ≠ a := fun {b o} q z => by
      rw [z, new] at q
      cases q
    have n0 : ∀ b o, X.s_0.heap.get? b = some o → b ∉ X.ex → b ≠ a := fun b o e hx => by
      obtain ⟨o', q⟩ := J.base.there b o e hx
      exact ne_ q
    have nc : ∀ x c, X.env.cells.lookup x = some c → c ≠ a := fun x c e => by
      obtain ⟨v, o, q, _⟩ := J.cell x c e
      exact ne_ q
    have np : ∀ p ∈ X.pn ++ pins, p.1 ≠ a := fun p hp => ne_ (J.pin p hp).1
    have J3 : Inv X pins σ' H' { s' with heap := h3 } := J.landed nb fl3.1 (up.trans up3) os ag
    have S3 := J3.suite he3 hd3 na nL nF
    refine wpAny_handleBy_cons (codeAny_handlers_test ?_) (by intro q; cases q)
    -- the tuple
    refine wpAny_Tuple (names_run S3 hc ⟨by rw [names_len hc]; exact Nat.le_trans hz (by decide), ?_⟩)
    have kp : ∀ q o, h3.get? q = some o → (h3.push { cls := .type "tuple", data := .seq cs.toArray }).get? q = some o := fun _ _ z => Heap.get?_push_of_some _ z
    have fl5 := flying_more kp fl3
    have up5 : sI.heap.UpToSlots (h3.push { cls := .type "tuple", data := .seq cs.toArray }) := (up.trans up3).trans (.of_keeps kp)
    generalize hh5 : h3.push { cls := .type "tuple", data := .seq cs.toArray } = h5 at kp fl5 up5
    have htp : h5.get? h3.objs.size = some { cls := .type "tuple", data := .seq cs.toArray } := by
      rw [← hh5]
      exact Heap.get?_push_size h3 rfl
    have J5 : Inv X pins σ' H' { s' with heap := h5 } := J.landed nb fl5.1 up5 os ag
    have LT : Looks (model X.prog X.w) h5 (typeOf (.ref a)) cls := fun A Q E s k q => wpAny_typeOf_ref (k _ _ (kp _ _ he3)) (by rw [hz3.1]; exact q)
    refine (exm_tuple J5.kIn LT htp rfl rfl hb1).here ?_
    cases b with
    | true =>
      refine codeAny_handlers_suite_as ?_
      refine HandSPX.lands_againZ fl5 fun h4 fl4 up4 => ?_
      have J4 : Inv X pins σ' H' { s' with heap := h4 } := J.landed nb fl4.1 (up5.trans up4) os ag
      obtain ⟨oe4, vs4, he4, hz4, hd4⟩ := fl4.there
      have S4 := J4.suite he4 hd4 na nL nF
      refine store_ok (X := X.suite a ((a, oe4) :: (X.pn ++ pins))) (v := .ref a) S4 hN hi (.inl hln) rfl (fun s5 S5 => ?_) (.inr hln)
      refine wpAny_mono ((hsu a oe4 cls d (X.pn ++ pins) hz4 ⟨_, hd4⟩).run [] s5 _ H' _ S5 (hyes rfl a na)) (fun f s6 hsp => ?_) fun _ _ z => False.elim z
      cases f with
      | next =>
        obtain ⟨σ6, H6, S6, q6⟩ := hsp
        have U6 : Inv X ((a, oe4) :: pins) σ6 H6 s6 := ⟨ok, S6.os, S6.bare, S6.base, S6.loc, S6.cell, S6.free, S6.freeC, fun p hp => S6.pin p (by
          rw [List.append_nil]
          rcases List.mem_append.mp hp with q | q
          · exact List.mem_cons_of_mem _ (List.mem_append_left _ q)
          · rcases List.mem_cons.mp q with q | q
            · rw [q]
              exact List.mem_cons_self
            · exact List.mem_cons_of_mem _ (List.mem_append_right _ q)), S6.hok, S6.len⟩
        refine gone_ok U6 hN hi hln fun s7 J7 => ?_
        have na7 := (J7.pin (a, oe4) (List.mem_append_right _ List.mem_cons_self)).2.1
        exact ⟨_, _, inv_hold J7 hz4 hd4 n0 nc np, q6 na7⟩
      | brk =>
        obtain ⟨σ6, H6, S6, q6⟩ := hsp
        exact q6.elim
      | cont =>
        obtain ⟨σ6, H6, S6, q6⟩ := hsp
        exact q6.elim
      | ret u =>
        obtain ⟨v6, σ6, H6, S6, r6, q6⟩ := hsp
        exact q6.elim
    | false =>
      show wpAny _ X.A (handleBy (.ref a) X.env []) _ _ _
      refine wpAny_handleBy_nil ?_
      obtain ⟨k1, k2, k3, oe, vs, T, oT, tts, he, hz, hd, h1, hr⟩ := id fl5
      unfold PySem.passOn
      refine wpAny_bind (wpAny_field he hd h1 ?_)
      rw [if_neg (show ¬ ((Value.ref T == Value.none) = true) from by simp)]
      have fin : wpAny (model X.prog X.w) X.A (setFlight (.ref a) X.env.frame) (fun _ s4 => wpAny (model X.prog X.w) X.A (throw (.ref a) : Sem Flow) (SP X pins D) X.xe s4) X.xe { s' with heap := h5 } := by
        rw [hf]
        refine HandSPX.setFlight_upZ fl5 fun h4 hh4 up4 => wpAny_throw (tk _ _ ?_)
        exact ⟨a, B, sI, pins, σ', H', cls, d, rfl, J, nb, up5.trans up4, .inr (.inr (by rw [hs]; exact hh4)), na, os, ag, hno rfl⟩
      first
        | exact wpAny_bind (wpAny_pure (wpAny_bind fin))
        | exact wpAny_bind fin
end
end Pk
/-! Defs that are called while nothing is being shown (no repr runs around them): for repr of lists. -/
namespace Pk
open PySem PySem.Spec PyProof.Rows L2
/-- nothing is being shown around -/
def Calm (A : Around) : Prop := A.guards = some []
/-- a def's promise, where nothing is being shown around its call -/
structure FnG (P : Program) (w : World) (K : PySem.W.Frag) (mg : Str → Option Value) (base : Heap) (CX : CXT) (k : Nat) (f : Addr) (fd : FuncData) (ps : List Str) (sp : Sp) : Prop where
  size : ∀ vs H Q E, sp vs H Q E → vs.length = ps.length
  go : ∀ (A : Around), Calm A → Room k A → ∀ (outer : List Env) (s : Shared) (H : Hp) (args : Args) (us : List Value) (vs : List V) (Q : VK) (E : XK), Env0 P w K mg base A outer s H →
    BindsTo s fd args (ps.zip us) → Vals vs us → sp vs H Q E → codeAny (model P w) A (.call (.ref f) args) (CR CX outer P w H s Q E) s
section
variable {P : Program} {w : World} {K : PySem.W.Frag} {mg : Str → Option Value} {base : Heap} {CX : CXT} {k : Nat} {f : Addr} {fd : FuncData} {ps : List Str} {sp : Sp}
theorem FnG.of (F : FnOk P w K mg base CX k f fd ps sp) : FnG P w K mg base CX k f fd ps sp := ⟨F.len, fun A _ hr outer s H args us vs Q E e0 hb r h => F.run A outer s H args us vs Q E hr e0 hb r h⟩
/-- a def by its body -/
theorem fnG_of {name qual : Str} {params : Arguments} {body : List Stmt} {scope : Scope} {dV kV doc pm cdv ct oc : Value} {an od : Option Addr} {osl : Array (Option Value)} {N : List Str}
    (lk : K.lookup f = some ⟨oc, od, .func (PySem.W.fnOf name qual params body scope dV kV doc pm an cdv ct), osl⟩) (hcd : PySem.W.codeIn K cdv qual = true) (S : FnScope N ps scope) (size : ∀ vs H Q E, sp vs H Q E → vs.length = ps.length)
    (hbody : ∀ (A : Around), Calm A → ∀ (outer : List Env) (s : Shared) (H : Hp) (vs : List V) (Q : VK) (E : XK), Room k (A.deeper (envOfC qual scope s.heap.objs.size f cdv)) → sp vs H Q E →
      ∃ t, PSs (cxOf CX P w K mg base N qual scope f cdv A outer s H E) body t ∧ t { nx := fun _ H' => Q .non H', rt := Q } (start N vs) H) :
    FnG P w K mg base CX (k + 1) f (PySem.W.fnOf name qual params body scope dV kV doc pm an cdv ct) ps sp := by
  refine ⟨size, ?_⟩
  intro A calm hr outer s H args us vs Q E e0 hb r hsp
  have keep := fun b o e => (e0.bs b o e).1
  have KX := e0.mod.kin.keeps keep
  obtain ⟨t, ht, hq⟩ := hbody A calm outer s H vs Q E (hr.deeper _) hsp
  refine codeAny_call_function hr.depth (KX _ _ lk) rfl S.co S.gen rfl (PySem.W.codeRec_of KX hcd) (hb _ _ _ _ (wpAny_newFunctionEnv_cells S.kind ?kinds ?inside))
  case kinds =>
    rintro ⟨n, v⟩ hy
    rcases S.par n (List.of_mem_zip hy).1 with q | q
    · exact .inl q
    · exact .inr ⟨q, PySem.W.cellsFrom_some _ _ _ (.inl q)⟩
  case inside =>
    rintro env rfl s1 x
    refine ⟨(e0.mod.nolimit.keeps keep).keeps x.toInCall.keep, codeAny_func ?_⟩
    have I := inv_start (CX := CX) (E := E) S hr.hd e0 (size _ _ _ _ hsp) r x
    refine wpAny_mono (ht.run [] s1 (start N vs) H _ I hq) ?_ fun e s' hs => hs
    intro fl s' hs
    cases fl with
    | ret u =>
      obtain ⟨v, σ', H', J, rv, q⟩ := hs
      exact ⟨v, H', J.os, J.bare, J.base, J.hok, rv, q⟩
    | next =>
      obtain ⟨σ', H', J, q⟩ := hs
      exact ⟨.non, H', J.os, J.bare, J.base, J.hok, rfl, q⟩
    | brk =>
      obtain ⟨_, _, _, q⟩ := hs
      exact q.elim
    | cont =>
      obtain ⟨_, _, _, q⟩ := hs
      exact q.elim
/-- as Fun.ok -/
theorem okG {x qual : Str} {st : Stmt} {N : List Str} (F : Fun K x qual st f fd) (S : FnScope N ps (defScope st)) (size : ∀ vs H Q E, sp vs H Q E → vs.length = ps.length)
    (hbody : ∀ (cdv : Value) (A : Around), Calm A → ∀ (outer : List Env) (s : Shared) (H : Hp) (vs : List V) (Q : VK) (E : XK), Room k (A.deeper (envOfC qual (defScope st) s.heap.objs.size f cdv)) → sp vs H Q E →
      ∃ t, PSs (cxOf CX0 P w K mg base N qual (defScope st) f cdv A outer s H E).nox (defBody st) t ∧ t { nx := fun _ H' => Q .non H', rt := Q } (start N vs) H) : FnG P w K mg base CX0 (k + 1) f fd ps sp := by
  obtain ⟨oc, od, kV, doc, pm, an, cdv, ct, osl, rfl, lk, hcd⟩ := F.ex
  refine fnG_of lk hcd S size ?_
  intro A calm outer s H vs Q E hr hsp
  obtain ⟨t, h, q⟩ := hbody cdv A calm outer s H vs Q E hr hsp
  exact ⟨t, h.nox, q⟩
end
/-! ### calls of such defs -/
section
variable {X : Cx} {CX : CXT} {k : Nat} {f : Addr} {fd : FuncData} {ps ks : List Str} {sp : Sp} {E : XK} {x : Str} {p pos : Pos} {e : Expr} {es : List Expr} {t tk : TA} {ds : List Value} {dvs : List V}
theorem runG {pins : List (Addr × Obj)} {σ : L2.St} {H : Hp} {s : Shared} {Q : VK} {us : List Value} {vs : List V} (F : FnG X.prog X.w X.K X.mg X.base CX k f fd ps sp) (calm : Calm X.A) (hr : Room k X.A) (hb : Binds X.K fd ps ds) (hd : Vals dvs ds) (hx : Passes CX X E)
    (I : L2.Inv X pins σ H s) (r : Vals vs us) (h : sp (vs ++ dvs) H Q E) : wpAny (model X.prog X.w) X.A (call (.ref f) us) (EP X pins σ Q) X.xe s := by
  have r2 := r.append hd
  have hl : (us ++ ds).length = ps.length := r2.length.symm.trans (F.size _ _ _ _ h)
  refine wpAny_call (codeAny_mono (F.go X.A calm hr X.stack s H ⟨us, []⟩ (us ++ ds) (vs ++ dvs) Q E I.env0 (hb s us I.kIn hl) r2 h) ?_)
  intro r s' hq
  match r, hq with
  | .error e, hq => exact hx pins σ H s e s' I hq
  | .ok (.ret u), hq => exact I.after hq
  | .ok .next, hq => exact hq.elim
  | .ok .brk, hq => exact hq.elim
  | .ok .cont, hq => exact hq.elim
theorem pe_callG (F : FnG X.prog X.w X.K X.mg X.base CX k f fd ps sp) (calm : Calm X.A) (hr : Room k X.A) (hg : Gl X x) (hm : X.mg x = some (.ref f)) (hk : PySem.W.keepIn X.K (.ref f) = true) (hb : Binds X.K fd ps ds) (hd : Vals dvs ds) (hx : Passes CX X E)
    (ha : PA X (e :: es) t) (hdb : (x == ("__debug__" : Str)) = false := by decide) (he : starEach (e :: es) X.env = (false, eval e X.env) :: starEach es X.env := by rfl) (hpl : (backTo pos (starEach es X.env)).any (·.1) = false := by rfl) :
    PE X (.Call (.Name x p) (e :: es) [] pos) (tCall sp dvs E t) := by
  constructor
  intro pins s σ H Q I h
  refine wpAny_Call_Name_kw (ld_glob I hg hm (PySem.W.callWith_K (h₀ := X.base) I.ok.mod.kin hk (thn (ha.run pos pins s σ H _ I h) ?_) he hpl) hdb)
  rintro us s1 ⟨vs, H1, I1, r, q⟩
  exact ⟨I1.kIn, runG F calm hr hb hd hx I1 r q⟩
theorem pe_call0G (F : FnG X.prog X.w X.K X.mg X.base CX k f fd ps sp) (calm : Calm X.A) (hr : Room k X.A) (hg : Gl X x) (hm : X.mg x = some (.ref f)) (hk : PySem.W.keepIn X.K (.ref f) = true) (hb : Binds X.K fd ps ds) (hd : Vals dvs ds) (hx : Passes CX X E)
    (hdb : (x == ("__debug__" : Str)) = false := by decide) : PE X (.Call (.Name x p) [] [] pos) (tCall sp dvs E tNil) := by
  constructor
  intro pins s σ H Q I h
  refine wpAny_Call_Name_kw (ld_glob I hg hm ?_ hdb)
  exact PySem.W.callWith_K0 I.kIn hk (runG (us := []) (vs := []) F calm hr hb hd hx I .nil h)
end
/-! ### repr -/
section
variable {X : Cx}
/-- data as it is shown: of texts, numbers, truths, None, lists and tuples; or an empty dict; or a text and an empty dict in a tuple -/
inductive Dq (K : PySem.W.Frag) (H : Hp) : V → PyData → Prop
  | of {v : V} {d : PyData} (h : Dp K H v d) (n : d.hasDict = false) : Dq K H v d
  | emp {a : Addr} (h : H a = some (.dK [])) : Dq K H (.ref a) (.dict [])
  | tupE {p a : Addr} {x : Str} (h : H p = some (.tup [.str x, .ref a])) (h2 : H a = some (.dK [])) : Dq K H (.ref p) (.tuple [.str x, .dict []])
/-- repr(x) -/
def rShow (K : PySem.W.Frag) : List V → Hp → VK → Prop := fun xs H Q => ∃ x d, xs = [x] ∧ Dq K H x d ∧ d.showable = true ∧ d.depth ≤ 64 ∧ d.shown.length ≤ sizeLine ∧ Q (.str d.shown) H
theorem call_show (calm : Calm X.A) (hu : X.A.units + 70 < cLine) : CallR X (.builtin "repr") (rShow X.K) := by
  rintro pins s σ H xs us Q I r ⟨x, d, rfl, hd, hs, hdep, hsz, q⟩
  obtain ⟨u, rfl, rx⟩ := vals1 r
  have leaf : ∀ {t k : Nat}, EP X pins σ Q (.str d.shown t) { s with toks := k } := fun {t k} => ⟨.str d.shown, H, I.tok _, ⟨_, rfl⟩, q⟩
  have big : ∀ {a : Addr} {as : List Addr}, u = .ref a → Reads s.heap (.ref a) d as → (d.hasDict = true → sysModules ∉ as) → wpAny (model X.prog X.w) X.A (call (.builtin "repr") [u]) (EP X pins σ Q) X.xe s := by
    intro a as e rd nd
    subst e
    exact repr_of_reads' rd hs nd calm (by omega) (fun _ _ z => z) (fun h' t tk keep => ⟨.str d.shown, H, I.kept keep, ⟨_, rfl⟩, q⟩) hsz
  cases hd with
  | of h n =>
    obtain ⟨as, rd⟩ := Dp.reads I d x u h rx
    cases h with
    | non =>
      cases rx
      exact P.repr_of_none leaf
    | bl b =>
      cases rx
      exact P.repr_of_bool leaf
    | int i =>
      obtain ⟨t, rfl⟩ := rx
      exact P.repr_of_int (of_decide_eq_true hs) leaf
    | str y =>
      obtain ⟨t, rfl⟩ := rx
      exact P.repr_of_str leaf hsz
    | lst h1 h2 =>
      cases rx
      exact big rfl rd fun z => by rw [n] at z; cases z
    | tup h1 h2 =>
      cases rx
      exact big rfl rd fun z => by rw [n] at z; cases z
  | @emp a h =>
    cases rx
    obtain ⟨_, ns, vs, kv, o, es, ep, h1, h2, h3, h4⟩ := I.hok a _ h
    cases kv
    have e0 : es.toList = [] := by
      have z := h4.2.1
      cases hes : es.toList with
      | nil => rfl
      | cons e r =>
        rw [hes] at z
        cases z
    have rd : Reads s.heap (.ref a) (.dict []) (a :: [] ++ []) := .dict h1 h2.1 h3 (by rw [e0]; exact .nil) (by rw [e0]; exact .nil)
    refine big rfl rd fun _ hm => ?_
    rw [List.append_nil, List.mem_singleton] at hm
    rw [hm, beq_self_eq_true] at ns
    cases ns
  | @tupE p a x h g =>
    cases rx
    obtain ⟨its, rv, ⟨op, hop, hcp, np, hdp⟩, _⟩ := I.tuple (SqT.of h)
    obtain ⟨_, ns, vs, kv, o, es, ep, h1, h2, h3, h4⟩ := I.hok a _ g
    cases kv
    have e0 : es.toList = [] := by
      have z := h4.2.1
      cases hes : es.toList with
      | nil => rfl
      | cons e r =>
        rw [hes] at z
        cases z
    have rd : Reads s.heap (.ref a) (.dict []) (a :: [] ++ []) := .dict h1 h2.1 h3 (by rw [e0]; exact .nil) (by rw [e0]; exact .nil)
    cases rv with
    | cons r1 r2 =>
      obtain ⟨t, rfl⟩ := r1
      cases r2 with
      | cons r3 r4 =>
        cases r3
        cases r4
        refine big rfl (.tuple hop hcp hdp (ReadsAll.cons (Reads.str x t) (ReadsAll.cons rd ReadsAll.nil))) fun _ hm => ?_
        simp only [List.append_nil, List.nil_append, List.mem_singleton] at hm
        rw [hm, beq_self_eq_true] at ns
        cases ns
end
/-! ### the end: the law is called while nothing is being shown -/
section
variable {P : Program} {w : World} {K : PySem.W.Frag} {mg mb : Str → Option Value} {k : Nat} {fa a : Addr} {fd : FuncData} {x : Str} {sp : Sp} {s : Shared} {vs : List Value} {ns : List Int}
/-- at the law's call at most the script is tracked -/
theorem lawG_at (H : Hp) (only : Only H) (just : ∀ b, H b ≠ none → b = a) (apart : H a ≠ none → K.lookup a = none) (hok : HOk P w H s.heap) (kin : K.In s.heap) (gl : s.heap.Ns mainGlobals mg) (bl : s.heap.Ns builtinsNs mb) (bb : ∀ x : Str, x ≠ "__name__" → mb x = bootBuiltins x)
    (lim : s.heap.NoLimit) (gens : s.gens = #[]) (obj : s.heap.get? a = some { cls := .type "list", data := .seq vs.toArray }) (room : Room k callerA) (F : ∀ base : Heap, K.In base → base.Ns mainGlobals mg → FnG P w K mg base CX0 k fa fd [x] sp)
    (bind : ∀ (s : Shared) (u : Value), BindsTo s fd ⟨[u], []⟩ [(x, u)]) (hsp : sp [.ref a] H (fun v _ => v = .bl true) fun _ _ _ => False) :
    codeAny (model P w) callerA (.call (.ref fa) ⟨[.ref a], []⟩) (fun r s' => r = .ok (.ret (.bool true)) ∧ OldK s.heap s'.heap ∧ s'.os = s.os ∧ AllBare s'.gens) s := by
  have at_a : ∀ {b : Addr} {u : HO}, H b = some u → b = a := fun {b u} q => just b (by rw [q]; exact fun z => nomatch z)
  have untracked : ∀ {b : Addr} {o : Obj} {es : Array DictEntry} {n : Nat}, s.heap.get? b = some o → o.data = .dict es n → H b = none := by
    intro b o es n e d
    cases q : H b with
    | none => rfl
    | some u =>
      rw [at_a q, obj] at e
      cases e
      cases d
  have names : ∀ {b : Addr} {m : Str → Option Value}, s.heap.Ns b m → (hidT s.heap H).Ns b m := by
    rintro b m ⟨o, es, n, e, d, r⟩
    exact ⟨o, es, n, hidT_get e (untracked e d), d, r⟩
  have kin' : K.In (hidT s.heap H) := by
    intro b o e
    refine hidT_get (kin b o e) ?_
    cases q : H b with
    | none => rfl
    | some u =>
      have z := apart (by rw [← at_a q, q]; exact fun z => nomatch z)
      rw [at_a q, z] at e
      cases e
  obtain ⟨mc, lm, lv⟩ := lim
  have md : Mod K mg (hidT s.heap H) := ⟨kin', names gl, ⟨mb, names bl, bb⟩, ⟨mc, names lm, lv⟩⟩
  have env : Env0 P w K mg (hidT s.heap H) callerA [] s H := ⟨rfl, md, fun b o e => of_hidT e, Nat.le_of_eq (hidT_size _ _), trivial, (fun b hb => by cases hb), hok, AllBare.of_eq gens⟩
  refine codeAny_mono ((F _ kin' (names gl)).go callerA rfl room [] s H ⟨[.ref a], []⟩ [.ref a] [.ref a] _ _ env (bind s (.ref a)) (.cons rfl .nil) hsp) ?_
  intro r s' h
  match r, h with
  | .error e, h => exact h.elim
  | .ok .next, h => exact h.elim
  | .ok .brk, h => exact h.elim
  | .ok .cont, h => exact h.elim
  | .ok (.ret u), ⟨v, H', os, bare, un, hok', rv, q⟩ =>
    have q' : v = .bl true := q
    subst q'
    cases (show u = Value.bool true from rv)
    refine ⟨rfl, OldK.of_keep fun b o e => ?_, os, bare⟩
    rcases only b with z | ⟨ob, xs, z⟩
    · exact un.keep b o e z (fun m => by cases m) (fun m => by cases m)
    · have e1 := (hok b _ z).1
      have e2 := (hok' b _ (un.frzs b ob _ z)).1
      rw [e] at e1
      cases e1
      exact e2
theorem lawG_call (kin : K.In s.heap) (gl : s.heap.Ns mainGlobals mg) (bl : s.heap.Ns builtinsNs mb) (bb : ∀ x : Str, x ≠ "__name__" → mb x = bootBuiltins x) (lim : s.heap.NoLimit) (gens : s.gens = #[]) (obj : s.heap.get? a = some { cls := .type "list", data := .seq vs.toArray })
    (hin : IntsAre vs ns) (short : ns.length ≤ sizeLine) (room : Room k callerA) (F : ∀ base : Heap, K.In base → base.Ns mainGlobals mg → FnG P w K mg base CX0 k fa fd [x] sp) (bind : ∀ (s : Shared) (u : Value), BindsTo s fd ⟨[u], []⟩ [(x, u)])
    (hsp : ∀ H : Hp, SqL K H a (ns.map V.int) → sp [.ref a] H (fun v _ => v = .bl true) fun _ _ _ => False) :
    codeAny (model P w) callerA (.call (.ref fa) ⟨[.ref a], []⟩) (fun r s' => r = .ok (.ret (.bool true)) ∧ OldK s.heap s'.heap ∧ s'.os = s.os ∧ AllBare s'.gens) s := by
  have rv := vals_ints hin
  have len := hin.length
  cases hk : K.lookup a with
  | some o =>
    have e := kin a o hk
    rw [obj] at e
    cases e
    refine lawG_at (fun _ => none) (fun _ => .inl rfl) (fun b z => absurd rfl z) (fun z => absurd rfl z) (fun b u z => by cases z) kin gl bl bb lim gens obj room F bind (hsp _ (.inr ?_))
    exact ⟨_, vs.toArray, _, hk, rfl, rfl, rfl, by rw [List.size_toArray, len]; exact short, by simpa using rv⟩
  | none =>
    let ob : Obj := { cls := .type "list", data := .seq vs.toArray }
    have at_ : ∀ {b : Addr} {u : HO}, upd (fun _ => none) a (.frz ob (.lst (ns.map V.int))) b = some u → b = a ∧ u = .frz ob (.lst (ns.map V.int)) := by
      intro b u e
      by_cases hb : b = a
      · subst hb
        rw [upd_same] at e
        cases e
        exact ⟨rfl, rfl⟩
      · rw [upd_ne hb] at e
        cases e
    refine lawG_at (upd (fun _ => none) a (.frz ob (.lst (ns.map V.int)))) (fun b => ?_) (fun b z => ?_) (fun _ => hk) (fun b u e => ?_) kin gl bl bb lim gens obj room F bind (hsp _ (.inl (.inr ⟨ob, upd_same⟩)))
    · by_cases hb : b = a
      · rw [hb]
        exact .inr ⟨ob, ns.map V.int, upd_same⟩
      · exact .inl (upd_ne hb)
    · cases q : upd (fun _ => none) a (.frz ob (.lst (ns.map V.int))) b with
      | none => exact absurd q z
      | some u => exact (at_ q).1
    · obtain ⟨rfl, rfl⟩ := at_ e
      exact ⟨obj, by rw [List.length_map]; exact short, vs, _, rv, obj⟩
end
theorem walkG {l : PySem.W.OpenLaw} {n k : Nat} {q : Program} {loose : List Str} {XP : (Str → Option Value) → Heap → Prop} {YP : World → Heap → Prop} {d : DefRec} {K : Params → PySem.W.Frag} {sp : PySem.W.Frag → Sp} {x : Str} (hn : l.most = some n) (hn2 : n ≤ sizeLine) (hdf : d.params.defaults = []) (hr : Room k callerA)
    (hY : ∀ (w : World) (h : Heap), YP w h → (K w.params).In h)
    (F : ∀ (w : World) (mg : Str → Option Value) (fa : Addr) (h : Heap), (K w.params).In h → h.Ns mainGlobals mg → mg d.name = some (.ref fa) →
      ∃ fd : FuncData, (∀ (s : Shared) (u : Value), BindsTo s fd ⟨[u], []⟩ [(x, u)]) ∧ ∀ base : Heap, (K w.params).In base → base.Ns mainGlobals mg → FnG l.prog w (K w.params) mg base CX0 k fa fd [x] (sp (K w.params)))
    (hsp : ∀ (K : PySem.W.Frag) (H : Hp) (a : Addr) (ns : List Int), ns.length ≤ n → SqL K H a (ns.map V.int) → sp K [.ref a] H (fun v _ => v = .bl true) fun _ _ _ => False) :
    PySem.W.WalkO q loose XP YP l.row.toRowW d [] (fun f vs => PySem.call f vs) := by
  refine Att.attach_call hn hdf ?_
  intro w s₀ s₁ mg mb fa o pm cd doc a vs ns G Y ho hd hcd hmg hobj hints hlen hg
  obtain ⟨fd, hb, hF⟩ := F w mg fa _ (hY w _ Y) G.T.g hmg
  exact lawG_call (hY w _ Y) G.T.g G.T.b G.T.builtins G.T.nolimit hg hobj hints (Nat.le_trans hlen hn2) hr hF hb fun H hS => hsp _ H a ns hlen hS
end Pk
/-! Own errors that keep what they are made of in one field: made, raised, caught, kept, read. -/
namespace Pk
open PySem PySem.Spec PySem.W PySem.Calls PyProof.Rows PySem.HandSPX
open Builtin Builtin.ObjectAttr
/-- what a class's line of ancestors must bear, so that its errors are made and their fields stored -/
structure Line (bm bmB : List Value) : Prop where
  has : ∀ X : String, bm.contains (.type X) = bmB.contains (.type X)
  pass : ∀ self : Value, refuseLoop self "__setattr__" bm = pure ()
  obj : bmB.contains (.type "object") = true
theorem Line.own {bm bmB : List Value} {c : Addr} (l : Line bm bmB) : Line (.ref c :: bm) bmB where
  has := fun X => by
    rw [List.contains_cons, l.has X]
    rfl
  pass := fun self => by
    rw [refuseLoop_ref]
    exact l.pass self
  obj := l.obj
section
variable {prog : Program} {w : World} {A : Around} {E : Value → Shared → Prop} {R : Result → Shared → Prop} {hp : Heap} {g : Array GenState} {d : Drawn} {t : Nat} {os : OsState}
/-- self.name = v on an error that has no dict yet, whatever its built-in base -/
theorem store_err {K : Frag} {name : Str} {tk : Tok} {v : Value} {x C : Addr} {fv : Array Value} {cd : ClassData} {bmB : List Value} (X : K.In hp) (hx : hp.get? x = some { cls := .ref C, data := .fields fv }) (hcd : clsIn K C = some cd) (ln : Line cd.mro bmB) (ne : cd.mro.isEmpty = false)
    (hh : cd.hasDict = true) (ha : findIn K (.ref C) name = some none)
    (hq : ∀ h' tk' dx, (∀ b o, b ≠ x → hp.get? b = some o → h'.get? b = some o) → hp.objs.size ≤ dx → dx ≠ x → h'.get? x = some { cls := .ref C, dict := some dx, data := .fields fv } → h'.Ns1 dx (fun y => if y = name then some v else none) → R (.ok (.ret .none)) ⟨h', g, d, tk', os⟩) :
    codeAny (model prog w) A (.call (.builtin "object.__setattr__") ⟨[.ref x, .str name tk, v], []⟩) R ⟨hp, g, d, t, os⟩ := by
  have I : InstAt hp x { cls := .ref C, data := .fields fv } C none := ⟨hx, rfl, rfl, trivial⟩
  have hob : cd.mro.contains (.type "object") = true := (ln.has "object").trans ln.obj
  have hxs : x ≠ hp.objs.size := Nat.ne_of_lt (Heap.lt_size hx)
  have mro_ : mroIn K C (.type "object") = some true := by
    unfold mroIn
    rw [hcd, Option.bind_some, if_neg (by rw [ne]; exact Bool.false_ne_true), hob]
  have isObj : Looks (model prog w) hp (isInstance (.ref x) (.type "object")) true := I.type.andThen (looks_mroIn X mro_)
  refine codeAny_call_builtin F.store_object.slot.plain F.store_object.entry (@check_slot (model prog w) _ _ ⟨hp, g, d, t, os⟩ "object.__setattr__" "object" "__setattr__" (.ref x) [.str name tk, v] [] _ F.store_object.kind F.store_object.split isObj (F.store_object.args (.ref x) (.str name tk) v) ?_)
  have Lm : Looks (model prog w) hp (mroOf (.ref C)) cd.mro := (looks_clsIn X hcd).andThen .now
  have Lt : Looks (model prog w) hp (storeTaker? none) none := .now
  have Lc : Looks (model prog w) hp (classData C) cd := looks_clsIn X hcd
  rw [osa_eq, refuse_eq]
  refine wpAny_bind (wpAny_bind (I.type.at (wpAny_bind (Lm.at ?_))))
  rw [ln.pass]
  refine wpAny_pure (wpAny_bind (I.type.at (wpAny_bind ((looks_findIn X ha).at (wpAny_bind (Lt.at ?_))))))
  show wpAny _ _ (storeInOwnDict (.ref x) (.ref C) (.str name tk) name v false) _ _ _
  obtain ⟨nm, bs, mro, ns, qn, hd, sn, sb, ab, col, del⟩ := cd
  dsimp only at hh
  subst hh
  unfold storeInOwnDict ownDictForStores
  repeat (first | with_reducible refine store_in_new ?_ ?_ | with_reducible refine wpAny_loadPart_at hx ?_ | with_reducible refine Lc.at ?_ | wp_step)
  · exact ⟨_, #[], _, (Heap.get?_update_ne _ _ _ _ hxs.symm).trans (Heap.get?_push_at rfl rfl), rfl, fun e he => absurd he (by simp), fun _ => rfl⟩
  · intro h' tk' hn' hs
    refine hq h' tk' hp.objs.size ?_ (Nat.le_refl _) hxs.symm ?_ hn'
    · intro b o hb ho
      exact (hs.2 b (Nat.ne_of_lt (Heap.lt_size ho))).trans ((Heap.get?_update_ne _ _ _ _ hb).trans (Heap.get?_push_of_some _ ho))
    · exact (hs.2 x hxs).trans (Heap.get?_update_self _ (Heap.get?_push_of_some _ hx) rfl)
end
theorem one_size (v : Value) : [v].length ≤ sizeLine := by
  rw [sizeLine_eq]
  exact (by decide : 1 ≤ 16777216)
theorem ldC {M : Model} {s : Shared} {name : Str} {scope : Scope} {L a : Addr} {cd : Value} {m : Str → Option Value} {x : Str} {pos : Pos} {v : Value} {Q : Value → Shared → Prop} {A : Around} {E : Value → Shared → Prop} (hn : s.heap.Ns L m) (hv : m x = some v) (h : Q v s)
    (hk : scope.kind = .function := by rfl) (hl : (envOfC name scope L a cd).kindOf x = some .local := by rfl) (hd : (x == ("__debug__" : Str)) = false := by decide) :
    wpAny M A (eval (.Name x pos) (envOfC name scope L a cd)) Q E s := wpAny_Name (wpAny_loadName_local hk hl hn hv h) hd
end Pk
namespace Pk
open PySem PySem.Spec PyProof.Rows L2
/-! ### isinstance of an error that is kept, with a dict of its own or without -/
/-- where the dict of a kept error is tracked, if it has one -/
def DictOk (H : Hp) (d : Option Addr) : Prop := d = none ∨ ∃ (dd : Addr) (fs : List (Str × V)), d = some dd ∧ H dd = some (.xd fs)
def rIsK (K : PySem.W.Frag) : List V → Hp → VK → Prop := fun xs H Q => ∃ (a D : Addr) (d : Option Addr) (c : V) (cv : Value) (b : Bool), xs = [.ref a, c] ∧ H a = some (ExH (.ref D) d a) ∧ DictOk H d ∧ ExcC K D ∧ ClsV c cv ∧ PySem.W.kitOne K (.ref D) cv = some b ∧ Q (.bl b) H
theorem held_at {X : Cx} {pins : List (Addr × Obj)} {σ : L2.St} {H : Hp} {s : Shared} {a D : Addr} {d : Option Addr} (I : L2.Inv X pins σ H s) (hH : H a = some (ExH (.ref D) d a)) (hd : DictOk H d) : ∃ oe od, PySem.W.InstAt s.heap a oe D od ∧ (∀ dd fs, d = some dd → H dd = some (.xd fs) → ∃ o, od = some o ∧ s.heap.get? dd = some o) := by
  obtain ⟨⟨oe, vs, hget, hz, hv⟩, _, _⟩ := I.hok a _ hH
  obtain ⟨oc, odt, oda, osl⟩ := oe
  obtain ⟨h1, h2⟩ := hz
  dsimp only at h1 h2 hv
  subst h1 h2 hv
  rcases hd with rfl | ⟨dd, fs, rfl, hdd⟩
  · exact ⟨_, none, ⟨hget, rfl, rfl, trivial⟩, fun _ _ z => nomatch z⟩
  · obtain ⟨mA, hns, hr⟩ := I.hok dd _ hdd
    obtain ⟨o, ho, _⟩ := lookIn_ns hns
    refine ⟨_, some o, ⟨hget, rfl, rfl, ho⟩, fun dd' fs' e _ => ?_⟩
    cases e
    exact ⟨o, rfl, ho⟩
theorem call_isK {X : Cx} : CallR X (.builtin "isinstance") (rIsK X.K) := by
  rintro pins s σ H xs us Q I r ⟨a, D, d, c, cv, b, rfl, hH, hd, C, hc, e, q⟩
  obtain ⟨u1, u2, rfl, r1, r2⟩ := vals2 r
  cases (show u1 = Value.ref a from r1)
  have ec := hc.eq r2
  subst ec
  obtain ⟨oe, od, J, _⟩ := held_at I hH hd
  have hcl : (PySem.W.clsIn X.K D).isSome = true := by
    have z := C.hd
    unfold PySem.W.hasDictIn at z
    cases hq : PySem.W.clsIn X.K D with
    | none =>
      rw [hq] at z
      cases z
    | some c => rfl
  exact PySem.W.kia_one (PySem.W.kitx_exc hcl C.hg C.hk C.hs C.ha C.hn C.ht C.hm) I.kIn J e (fun z => nomatch z) fun tk => ⟨.bl b, H, I.tok tk, rfl, q⟩
/-! ### errors of the field part -/
namespace Of_part
open PySem.W PySem.Calls PySem.HandSPX
def iA (p1 p2 : Pos) : Arguments := { posonlyargs := [], args := [{ arg := "self", annotation := none, pos := p1 }, { arg := "part", annotation := none, pos := p2 }], vararg := none, kwonlyargs := [], kw_defaults := [], kwarg := none, defaults := [] }
def iB (q1 q2 q3 q4 : Pos) : List Stmt := [.Assign [.Attribute (.Name "self" q1) "part" q2] (.Name "part" q3) q4]
def iS : Scope := { kind := .function, names := [(PySem.Str.ofString "self", .local), (PySem.Str.ofString "part", .local)], isGenerator := false, isCoroutine := false, more := [] }
/-- the class called nm, at C, and its __init__, at fI, as the top has left them -/
structure Tx (K : Frag) (mg : Str → Option Value) (nm ql : Str) (C fI : Addr) (B newId initId : String) (bmB : List Value) : Prop where
  base : ExcBaseFacts B newId initId bmB
  gC : mg nm = some (.ref C)
  cls : ∃ n1 q N bs bm sn sub ab col dd k0 k1 k2 k3 k5, K.lookup C = some (excClassObj n1 q C N bs bm true sn sub ab col dd k0 k1 k2 k3 k5 newId) ∧ Line bm bmB
  sa : findIn K (.ref C) "__setattr__" = some (some (.builtin "object.__setattr__"))
  ex : ExcC K C
  noN : findIn K (.ref C) "part" = some none
  iC : findIn K (.ref C) "__init__" = some (some (.ref fI))
  tC : typeIn K (.ref fI) = some (.type "function")
  kC : keepIn K (.ref C) = true
  tyC : typeIn K (.ref C) = some (.type "type")
  fn : ∃ (oc : Value) (od : Option Addr) (doc pm : Value) (an : Option Addr) (cdv ct : Value) (osl : Array (Option Value)) (p1 p2 q1 q2 q3 q4 : Pos),
    K.lookup fI = some ⟨oc, od, .func (fnOf "__init__" ql (iA p1 p2) (iB q1 q2 q3 q4) iS .none .none doc pm an cdv ct), osl⟩ ∧ codeIn K cdv ql = true
/-- an error made of v, at e, its own dict at d -/
structure Made (h h' : Heap) (e C d : Addr) (v : Value) : Prop where
  keep : ∀ b o, h.get? b = some o → h'.get? b = some o
  new : h.objs.size ≤ e
  obj : ∃ oe vs, h'.get? e = some oe ∧ oe.cls = .ref C ∧ oe.dict = some d ∧ oe.data = .fields vs ∧ vs[1]? = some .none
  dbig : h.objs.size ≤ d
  dne : d ≠ e
  ns : h'.Ns1 d (fun y => if y = "part" then some v else none)
section
variable {prog : Program} {w : World} {A : Around} {E : Value → Shared → Prop} {R : Result → Shared → Prop} {s : Shared} {K : Frag} {mg : Str → Option Value} {nm ql : Str} {C fI : Addr} {B newId initId : String} {bmB : List Value}
theorem made (T : Tx K mg nm ql C fI B newId initId bmB) {v : Value} (X : K.In s.heap) (hlim : s.heap.NoLimit) (hroom : A.depth + 1 < recursionLimit) (hq : ∀ h' tk e d, Made s.heap h' e C d v → R (.ok (.ret (.ref e))) { s with heap := h', toks := tk }) :
    codeAny (model prog w) A (.call (.ref C) ⟨[v], []⟩) R s := by
  obtain ⟨n1, q, N, bs, bm, sn, sub, ab, col, dd, k0, k1, k2, k3, k5, hC, ln⟩ := T.cls
  obtain ⟨oc, od, doc, pm, an, cdv, ct, osl, p1, p2, q1, q2, q3, q4, ho, hcd⟩ := T.fn
  have hcl : clsIn K C = some { name := n1, bases := bs, mro := .ref C :: bm, ns := N, qualname := q, hasDict := true, slotNames := sn, subclasses := sub, abstract := ab, collection := col, hasDel := false } := by
    unfold clsIn
    rw [hC]
  obtain ⟨hp, g, dr, tk, os⟩ := s
  have k : ∀ b o, hp.get? b = some o → ((hp.push (kdv_tup [v])).push (excO C hp.objs.size)).get? b = some o := fun b o e => Heap.get?_push_of_some _ (Heap.get?_push_of_some _ e)
  have hx : ((hp.push (kdv_tup [v])).push (excO C hp.objs.size)).get? (hp.objs.size + 1) = some (excO C hp.objs.size) := by heap_get
  refine call_own T.base ln.has (X _ _ hC) (looks_findIn X T.iC) (fun self => bind_fn X self T.tC) (one_size v) ?_
  have X1 := X.keeps k
  have lim1 : ((hp.push (kdv_tup [v])).push (excO C hp.objs.size)).NoLimit := hlim.keeps k
  have size1 : ((hp.push (kdv_tup [v])).push (excO C hp.objs.size)).objs.size = hp.objs.size + 1 + 1 := by rw [Heap.size_push, Heap.size_push]
  generalize (hp.push (kdv_tup [v])).push (excO C hp.objs.size) = h1 at k hx X1 lim1 size1 ⊢
  refine Att.call_fn (binds := [("self", .ref (hp.objs.size + 1)), ("part", v)]) X1 lim1 ho hcd hroom (BindsTo.of_eq (by first | rfl | with_unfolding_all rfl)) (by first | rfl | decide | with_unfolding_all rfl) (fun s₁ IC => ?_) rfl rfl rfl
  obtain ⟨h₁, tk₁, rfl⟩ := IC.toInCall.same
  have k1' : ∀ b o, h1.get? b = some o → h₁.get? b = some o := IC.toInCall.keep
  have hn := IC.toInCall.ns
  show wpAny _ _ (execs _ _) _ _ _
  refine wpAny_execs_cons (plainObj_wpAny_Assign_Attribute ?_)
  refine ldC (v := v) hn (by first | rfl | with_unfolding_all rfl | kernel_rfl) (ldC (v := .ref (hp.objs.size + 1)) hn (by first | rfl | with_unfolding_all rfl | kernel_rfl) ?_)
  refine set_plain (X1.keeps k1') (ox := excO C hp.objs.size) (od := none) ⟨k1' _ _ hx, rfl, rfl, trivial⟩ T.sa ?_
  refine store_err (X1.keeps k1') (k1' _ _ hx) hcl (bmB := bmB) ln.own rfl rfl T.noN (fun h₃ tk₃ dx k₃ dn dne hx₃ hn₃ => ?_)
  show wpAny _ _ (execs _ _) _ _ _
  have z : h1.objs.size < h₁.objs.size := hn.lt
  have lt_ : ∀ {b : Addr} {o : Obj}, hp.get? b = some o → b ≠ hp.objs.size + 1 := fun {b o} e => Nat.ne_of_lt (Nat.lt_succ_of_lt (Heap.lt_size e))
  refine wpAny_execs_nil ⟨rfl, hq h₃ tk₃ (hp.objs.size + 1) dx ⟨fun b o e => k₃ b o (lt_ e) (k1' b o (k b o e)), Nat.le_succ _, ⟨_, _, hx₃, rfl, rfl, rfl, rfl⟩, ?_, dne, hn₃⟩⟩
  have dn' : h₁.objs.size ≤ dx := dn
  show hp.objs.size ≤ dx
  omega
end
end Of_part
section
variable {X : Cx} {nm ql : Str} {C fI : Addr} {B newId initId : String} {bmB : List Value}
theorem relO_part {v : V} {v' : Value} (r : RelV v v') (f : Str) : RelO (List.lookup f [(("part" : Str), v)]) (if f = "part" then some v' else none) := by
  by_cases hw : f = "part"
  · subst hw
    rw [if_pos rfl]
    have q : List.lookup ("part" : Str) [(("part" : Str), v)] = some v := by simp [List.lookup]
    rw [q]
    exact r
  · rw [if_neg hw]
    have qw : (f == ("part" : Str)) = false := by simpa using hw
    have q2 : List.lookup f [(("part" : Str), v)] = none := by simp [List.lookup, qw]
    rw [q2]
    trivial
/-- nm(e) -/
def tMk_part (C : Addr) (ta : TA) : L2.St → Hp → XK → Prop := fun σ H Q => ta σ H fun vs H1 => ∃ v, vs = [v] ∧ ∀ d, H1 d = none → Q (.ref C) (some d) (upd H1 d (.xd [(("part" : Str), v)]))
theorem pmk_part {a : Expr} {ta : TA} {p pos : Pos} {k : Nat} (T : Of_part.Tx X.K X.mg nm ql C fI B newId initId bmB) (hr : Room k X.A) (ha : PA X [a] ta) (hg : Gl X nm := by rfl) (hdb : (nm == ("__debug__" : Str)) = false := by decide)
    (he : starEach (a :: []) X.env = (false, eval a X.env) :: starEach [] X.env := by rfl) (hpl : (backTo pos (starEach [] X.env)).any (·.1) = false := by rfl) :
    PMk X (.Call (.Name nm p) [a] [] pos) (tMk_part C ta) := by
  intro pins s σ H Q I h
  refine wpAny_Call_Name_kw (ld_glob I hg T.gC ?_ hdb)
  refine PySem.W.callWith_K (h₀ := X.base) I.ok.mod.kin T.kC (thn (ha.run pos pins s σ H _ I h) fun us s1 hh => ?_) he hpl
  obtain ⟨vs, H1, I1, r1, v, ev, q1⟩ := hh
  subst ev
  refine ⟨I1.kIn, ?_⟩
  cases r1 with
  | cons rv rn =>
    rename_i v' us'
    cases rn
    show wpAny _ _ (call (.ref C) [v']) _ _ _
    have hlim := I1.nolimit
    obtain ⟨hp, g, dr, tk, os⟩ := s1
    refine wpAny_call (Of_part.made T I1.kIn hlim (by have := hr.dp; omega) fun h' tk' e d M => ?_)
    show MkP X pins σ Q (.ref e) ⟨h', g, dr, tk', os⟩
    obtain ⟨oe, fv, hoe, hc, hd, hdat, h1⟩ := M.obj
    have hns := M.ns
    obtain ⟨G', g1, g2⟩ := restrict h' fun b => decide (b ≠ e)
    have gk : ∀ b, b ≠ e → G'.get? b = h'.get? b := fun b hb => g1 b (decide_eq_true hb)
    have ge : G'.get? e = none := g2 e (by simp)
    have old : ∀ b o, hp.get? b = some o → G'.get? b = some o := fun b o q => (gk b (Nat.ne_of_lt (Nat.lt_of_lt_of_le (Heap.lt_size q) M.new))).trans (M.keep b o q)
    have ob : ObjOk X.prog X.w (upd H1 d (.xd [(("part" : Str), v)])) G' d (.xd [(("part" : Str), v)]) :=
      ⟨_, hns.at (fun o q => (gk d M.dne).trans q), fun f => relO_part rv f⟩
    have J : L2.Inv X pins σ (upd H1 d (.xd [(("part" : Str), v)])) ⟨G', g, dr, tk', os⟩ := I1.laid (t' := tk') old M.dbig ob
    refine ⟨e, oe, fv, ⟨G', g, dr, tk', os⟩, _, .ref C, some d, rfl, J, fun b o q => ?_, ge, hoe, ⟨hc, hd⟩, hdat, h1, ?_, rfl, I1.bare, raises_own T.ex.hs T.tyC, q1 d (I1.hok.fresh M.dbig)⟩
    · by_cases hb : b = e
      · have q' : G'.get? b = some o := q
        rw [hb, ge] at q'
        cases q'
      · exact (gk b hb).symm.trans q
    · rw [upd_ne (Ne.symm M.dne)]
      exact I1.hok.fresh M.new
/-- raise nm(e) -/
def tRaise_part (C : Addr) (W : WX) (ta : TA) : TS := fun _ σ H => tMk_part C ta σ H fun cls d H' => W cls d σ H'
theorem ps_raise_part {a : Expr} {ta : TA} {W : WX} {p pos pos2 : Pos} {k : Nat} (hc : X.calm = true) (T : Of_part.Tx X.K X.mg nm ql C fI B newId initId bmB) (hr : Room k X.A) (tk : Takes X W) (ha : PA X [a] ta) (hg : Gl X nm := by rfl) (hdb : (nm == ("__debug__" : Str)) = false := by decide)
    (he : starEach (a :: []) X.env = (false, eval a X.env) :: starEach [] X.env := by rfl) (hpl : (backTo pos (starEach [] X.env)).any (·.1) = false := by rfl) :
    PS X (.Raise (some (.Call (.Name nm p) [a] [] pos)) none pos2) (tRaise_part C W ta) := ps_raise hc tk (pmk_part T hr ha hg hdb he hpl)
/-- e.part, e a kept error -/
def tGet_part (K : PySem.W.Frag) (te : TE) : TE := fun σ H Q => te σ H fun x H1 => ∃ (a C dd : Addr) (v : V), x = .ref a ∧ H1 a = some (ExH (.ref C) (some dd) a) ∧ ExcC K C ∧ PySem.W.findIn K (.ref C) "part" = some none ∧ H1 dd = some (.xd [(("part" : Str), v)]) ∧ Q v H1
theorem pe_get_part {e : Expr} {te : TE} {pos : Pos} (he : PE X e te) (hb : attributeBase e "part" X.env (eval e X.env) = eval e X.env := by rfl) : PE X (.Attribute e "part" pos) (tGet_part X.K te) := by
  constructor
  intro pins s σ H Q I h
  refine attr_of hb (thn (he.run pins s σ H _ I h) ?_)
  rintro u s1 ⟨x, H1, I1, rx, a, C, dd, v, rfl, ha, EC, noN, hdd, q⟩
  cases (show u = Value.ref a from rx)
  obtain ⟨oe, od, J, hod⟩ := held_at I1 ha (.inr ⟨dd, _, rfl, hdd⟩)
  obtain ⟨mA, hns, hr⟩ := I1.hok dd _ hdd
  obtain ⟨o, ho, hl⟩ := lookIn_ns hns
  obtain ⟨o', eo, ho'⟩ := hod dd _ rfl hdd
  rw [ho] at ho'
  cases ho'
  subst eo
  have l : List.lookup ("part" : Str) [(("part" : Str), v)] = some v := by simp [List.lookup]
  obtain ⟨u, hu, ru⟩ := RelO.some_of (v := v) (o := mA "part") (by rw [← l]; exact hr "part")
  exact HandSPX.exc_get I1.kIn J EC.hg EC.hk EC.hs (PySem.W.findObj_own EC.hd noN rfl (by rw [hl, hu])) (handed_of ru) ⟨v, H1, I1.tok _, ru, q⟩
end
/-! ### errors of the field wanted -/
namespace Of_wanted
open PySem.W PySem.Calls PySem.HandSPX
def iA (p1 p2 : Pos) : Arguments := { posonlyargs := [], args := [{ arg := "self", annotation := none, pos := p1 }, { arg := "wanted", annotation := none, pos := p2 }], vararg := none, kwonlyargs := [], kw_defaults := [], kwarg := none, defaults := [] }
def iB (q1 q2 q3 q4 : Pos) : List Stmt := [.Assign [.Attribute (.Name "self" q1) "wanted" q2] (.Name "wanted" q3) q4]
def iS : Scope := { kind := .function, names := [(PySem.Str.ofString "self", .local), (PySem.Str.ofString "wanted", .local)], isGenerator := false, isCoroutine := false, more := [] }
/-- the class called nm, at C, and its __init__, at fI, as the top has left them -/
structure Tx (K : Frag) (mg : Str → Option Value) (nm ql : Str) (C fI : Addr) (B newId initId : String) (bmB : List Value) : Prop where
  base : ExcBaseFacts B newId initId bmB
  gC : mg nm = some (.ref C)
  cls : ∃ n1 q N bs bm sn sub ab col dd k0 k1 k2 k3 k5, K.lookup C = some (excClassObj n1 q C N bs bm true sn sub ab col dd k0 k1 k2 k3 k5 newId) ∧ Line bm bmB
  sa : findIn K (.ref C) "__setattr__" = some (some (.builtin "object.__setattr__"))
  ex : ExcC K C
  noN : findIn K (.ref C) "wanted" = some none
  iC : findIn K (.ref C) "__init__" = some (some (.ref fI))
  tC : typeIn K (.ref fI) = some (.type "function")
  kC : keepIn K (.ref C) = true
  tyC : typeIn K (.ref C) = some (.type "type")
  fn : ∃ (oc : Value) (od : Option Addr) (doc pm : Value) (an : Option Addr) (cdv ct : Value) (osl : Array (Option Value)) (p1 p2 q1 q2 q3 q4 : Pos),
    K.lookup fI = some ⟨oc, od, .func (fnOf "__init__" ql (iA p1 p2) (iB q1 q2 q3 q4) iS .none .none doc pm an cdv ct), osl⟩ ∧ codeIn K cdv ql = true
/-- an error made of v, at e, its own dict at d -/
structure Made (h h' : Heap) (e C d : Addr) (v : Value) : Prop where
  keep : ∀ b o, h.get? b = some o → h'.get? b = some o
  new : h.objs.size ≤ e
  obj : ∃ oe vs, h'.get? e = some oe ∧ oe.cls = .ref C ∧ oe.dict = some d ∧ oe.data = .fields vs ∧ vs[1]? = some .none
  dbig : h.objs.size ≤ d
  dne : d ≠ e
  ns : h'.Ns1 d (fun y => if y = "wanted" then some v else none)
section
variable {prog : Program} {w : World} {A : Around} {E : Value → Shared → Prop} {R : Result → Shared → Prop} {s : Shared} {K : Frag} {mg : Str → Option Value} {nm ql : Str} {C fI : Addr} {B newId initId : String} {bmB : List Value}
theorem made (T : Tx K mg nm ql C fI B newId initId bmB) {v : Value} (X : K.In s.heap) (hlim : s.heap.NoLimit) (hroom : A.depth + 1 < recursionLimit) (hq : ∀ h' tk e d, Made s.heap h' e C d v → R (.ok (.ret (.ref e))) { s with heap := h', toks := tk }) :
    codeAny (model prog w) A (.call (.ref C) ⟨[v], []⟩) R s := by
  obtain ⟨n1, q, N, bs, bm, sn, sub, ab, col, dd, k0, k1, k2, k3, k5, hC, ln⟩ := T.cls
  obtain ⟨oc, od, doc, pm, an, cdv, ct, osl, p1, p2, q1, q2, q3, q4, ho, hcd⟩ := T.fn
  have hcl : clsIn K C = some { name := n1, bases := bs, mro := .ref C :: bm, ns := N, qualname := q, hasDict := true, slotNames := sn, subclasses := sub, abstract := ab, collection := col, hasDel := false } := by
    unfold clsIn
    rw [hC]
  obtain ⟨hp, g, dr, tk, os⟩ := s
  have k : ∀ b o, hp.get? b = some o → ((hp.push (kdv_tup [v])).push (excO C hp.objs.size)).get? b = some o := fun b o e => Heap.get?_push_of_some _ (Heap.get?_push_of_some _ e)
  have hx : ((hp.push (kdv_tup [v])).push (excO C hp.objs.size)).get? (hp.objs.size + 1) = some (excO C hp.objs.size) := by heap_get
  refine call_own T.base ln.has (X _ _ hC) (looks_findIn X T.iC) (fun self => bind_fn X self T.tC) (one_size v) ?_
  have X1 := X.keeps k
  have lim1 : ((hp.push (kdv_tup [v])).push (excO C hp.objs.size)).NoLimit := hlim.keeps k
  have size1 : ((hp.push (kdv_tup [v])).push (excO C hp.objs.size)).objs.size = hp.objs.size + 1 + 1 := by rw [Heap.size_push, Heap.size_push]
  generalize (hp.push (kdv_tup [v])).push (excO C hp.objs.size) = h1 at k hx X1 lim1 size1 ⊢
  refine Att.call_fn (binds := [("self", .ref (hp.objs.size + 1)), ("wanted", v)]) X1 lim1 ho hcd hroom (BindsTo.of_eq (by first | rfl | with_unfolding_all rfl)) (by first | rfl | decide | with_unfolding_all rfl) (fun s₁ IC => ?_) rfl rfl rfl
  obtain ⟨h₁, tk₁, rfl⟩ := IC.toInCall.same
  have k1' : ∀ b o, h1.get? b = some o → h₁.get? b = some o := IC.toInCall.keep
  have hn := IC.toInCall.ns
  show wpAny _ _ (execs _ _) _ _ _
  refine wpAny_execs_cons (plainObj_wpAny_Assign_Attribute ?_)
  refine ldC (v := v) hn (by first | rfl | with_unfolding_all rfl | kernel_rfl) (ldC (v := .ref (hp.objs.size + 1)) hn (by first | rfl | with_unfolding_all rfl | kernel_rfl) ?_)
  refine set_plain (X1.keeps k1') (ox := excO C hp.objs.size) (od := none) ⟨k1' _ _ hx, rfl, rfl, trivial⟩ T.sa ?_
  refine store_err (X1.keeps k1') (k1' _ _ hx) hcl (bmB := bmB) ln.own rfl rfl T.noN (fun h₃ tk₃ dx k₃ dn dne hx₃ hn₃ => ?_)
  show wpAny _ _ (execs _ _) _ _ _
  have z : h1.objs.size < h₁.objs.size := hn.lt
  have lt_ : ∀ {b : Addr} {o : Obj}, hp.get? b = some o → b ≠ hp.objs.size + 1 := fun {b o} e => Nat.ne_of_lt (Nat.lt_succ_of_lt (Heap.lt_size e))
  refine wpAny_execs_nil ⟨rfl, hq h₃ tk₃ (hp.objs.size + 1) dx ⟨fun b o e => k₃ b o (lt_ e) (k1' b o (k b o e)), Nat.le_succ _, ⟨_, _, hx₃, rfl, rfl, rfl, rfl⟩, ?_, dne, hn₃⟩⟩
  have dn' : h₁.objs.size ≤ dx := dn
  show hp.objs.size ≤ dx
  omega
end
end Of_wanted
section
variable {X : Cx} {nm ql : Str} {C fI : Addr} {B newId initId : String} {bmB : List Value}
theorem relO_wanted {v : V} {v' : Value} (r : RelV v v') (f : Str) : RelO (List.lookup f [(("wanted" : Str), v)]) (if f = "wanted" then some v' else none) := by
  by_cases hw : f = "wanted"
  · subst hw
    rw [if_pos rfl]
    have q : List.lookup ("wanted" : Str) [(("wanted" : Str), v)] = some v := by simp [List.lookup]
    rw [q]
    exact r
  · rw [if_neg hw]
    have qw : (f == ("wanted" : Str)) = false := by simpa using hw
    have q2 : List.lookup f [(("wanted" : Str), v)] = none := by simp [List.lookup, qw]
    rw [q2]
    trivial
/-- nm(e) -/
def tMk_wanted (C : Addr) (ta : TA) : L2.St → Hp → XK → Prop := fun σ H Q => ta σ H fun vs H1 => ∃ v, vs = [v] ∧ ∀ d, H1 d = none → Q (.ref C) (some d) (upd H1 d (.xd [(("wanted" : Str), v)]))
theorem pmk_wanted {a : Expr} {ta : TA} {p pos : Pos} {k : Nat} (T : Of_wanted.Tx X.K X.mg nm ql C fI B newId initId bmB) (hr : Room k X.A) (ha : PA X [a] ta) (hg : Gl X nm := by rfl) (hdb : (nm == ("__debug__" : Str)) = false := by decide)
    (he : starEach (a :: []) X.env = (false, eval a X.env) :: starEach [] X.env := by rfl) (hpl : (backTo pos (starEach [] X.env)).any (·.1) = false := by rfl) :
    PMk X (.Call (.Name nm p) [a] [] pos) (tMk_wanted C ta) := by
  intro pins s σ H Q I h
  refine wpAny_Call_Name_kw (ld_glob I hg T.gC ?_ hdb)
  refine PySem.W.callWith_K (h₀ := X.base) I.ok.mod.kin T.kC (thn (ha.run pos pins s σ H _ I h) fun us s1 hh => ?_) he hpl
  obtain ⟨vs, H1, I1, r1, v, ev, q1⟩ := hh
  subst ev
  refine ⟨I1.kIn, ?_⟩
  cases r1 with
  | cons rv rn =>
    rename_i v' us'
    cases rn
    show wpAny _ _ (call (.ref C) [v']) _ _ _
    have hlim := I1.nolimit
    obtain ⟨hp, g, dr, tk, os⟩ := s1
    refine wpAny_call (Of_wanted.made T I1.kIn hlim (by have := hr.dp; omega) fun h' tk' e d M => ?_)
    show MkP X pins σ Q (.ref e) ⟨h', g, dr, tk', os⟩
    obtain ⟨oe, fv, hoe, hc, hd, hdat, h1⟩ := M.obj
    have hns := M.ns
    obtain ⟨G', g1, g2⟩ := restrict h' fun b => decide (b ≠ e)
    have gk : ∀ b, b ≠ e → G'.get? b = h'.get? b := fun b hb => g1 b (decide_eq_true hb)
    have ge : G'.get? e = none := g2 e (by simp)
    have old : ∀ b o, hp.get? b = some o → G'.get? b = some o := fun b o q => (gk b (Nat.ne_of_lt (Nat.lt_of_lt_of_le (Heap.lt_size q) M.new))).trans (M.keep b o q)
    have ob : ObjOk X.prog X.w (upd H1 d (.xd [(("wanted" : Str), v)])) G' d (.xd [(("wanted" : Str), v)]) :=
      ⟨_, hns.at (fun o q => (gk d M.dne).trans q), fun f => relO_wanted rv f⟩
    have J : L2.Inv X pins σ (upd H1 d (.xd [(("wanted" : Str), v)])) ⟨G', g, dr, tk', os⟩ := I1.laid (t' := tk') old M.dbig ob
    refine ⟨e, oe, fv, ⟨G', g, dr, tk', os⟩, _, .ref C, some d, rfl, J, fun b o q => ?_, ge, hoe, ⟨hc, hd⟩, hdat, h1, ?_, rfl, I1.bare, raises_own T.ex.hs T.tyC, q1 d (I1.hok.fresh M.dbig)⟩
    · by_cases hb : b = e
      · have q' : G'.get? b = some o := q
        rw [hb, ge] at q'
        cases q'
      · exact (gk b hb).symm.trans q
    · rw [upd_ne (Ne.symm M.dne)]
      exact I1.hok.fresh M.new
/-- raise nm(e) -/
def tRaise_wanted (C : Addr) (W : WX) (ta : TA) : TS := fun _ σ H => tMk_wanted C ta σ H fun cls d H' => W cls d σ H'
theorem ps_raise_wanted {a : Expr} {ta : TA} {W : WX} {p pos pos2 : Pos} {k : Nat} (hc : X.calm = true) (T : Of_wanted.Tx X.K X.mg nm ql C fI B newId initId bmB) (hr : Room k X.A) (tk : Takes X W) (ha : PA X [a] ta) (hg : Gl X nm := by rfl) (hdb : (nm == ("__debug__" : Str)) = false := by decide)
    (he : starEach (a :: []) X.env = (false, eval a X.env) :: starEach [] X.env := by rfl) (hpl : (backTo pos (starEach [] X.env)).any (·.1) = false := by rfl) :
    PS X (.Raise (some (.Call (.Name nm p) [a] [] pos)) none pos2) (tRaise_wanted C W ta) := ps_raise hc tk (pmk_wanted T hr ha hg hdb he hpl)
/-- e.wanted, e a kept error -/
def tGet_wanted (K : PySem.W.Frag) (te : TE) : TE := fun σ H Q => te σ H fun x H1 => ∃ (a C dd : Addr) (v : V), x = .ref a ∧ H1 a = some (ExH (.ref C) (some dd) a) ∧ ExcC K C ∧ PySem.W.findIn K (.ref C) "wanted" = some none ∧ H1 dd = some (.xd [(("wanted" : Str), v)]) ∧ Q v H1
theorem pe_get_wanted {e : Expr} {te : TE} {pos : Pos} (he : PE X e te) (hb : attributeBase e "wanted" X.env (eval e X.env) = eval e X.env := by rfl) : PE X (.Attribute e "wanted" pos) (tGet_wanted X.K te) := by
  constructor
  intro pins s σ H Q I h
  refine attr_of hb (thn (he.run pins s σ H _ I h) ?_)
  rintro u s1 ⟨x, H1, I1, rx, a, C, dd, v, rfl, ha, EC, noN, hdd, q⟩
  cases (show u = Value.ref a from rx)
  obtain ⟨oe, od, J, hod⟩ := held_at I1 ha (.inr ⟨dd, _, rfl, hdd⟩)
  obtain ⟨mA, hns, hr⟩ := I1.hok dd _ hdd
  obtain ⟨o, ho, hl⟩ := lookIn_ns hns
  obtain ⟨o', eo, ho'⟩ := hod dd _ rfl hdd
  rw [ho] at ho'
  cases ho'
  subst eo
  have l : List.lookup ("wanted" : Str) [(("wanted" : Str), v)] = some v := by simp [List.lookup]
  obtain ⟨u, hu, ru⟩ := RelO.some_of (v := v) (o := mA "wanted") (by rw [← l]; exact hr "wanted")
  exact HandSPX.exc_get I1.kIn J EC.hg EC.hk EC.hs (PySem.W.findObj_own EC.hd noN rfl (by rw [hl, hu])) (handed_of ru) ⟨v, H1, I1.tok _, ru, q⟩
end
/-! ### errors of the field at -/
namespace Of_at
open PySem.W PySem.Calls PySem.HandSPX
def iA (p1 p2 : Pos) : Arguments := { posonlyargs := [], args := [{ arg := "self", annotation := none, pos := p1 }, { arg := "at", annotation := none, pos := p2 }], vararg := none, kwonlyargs := [], kw_defaults := [], kwarg := none, defaults := [] }
def iB (q1 q2 q3 q4 : Pos) : List Stmt := [.Assign [.Attribute (.Name "self" q1) "at" q2] (.Name "at" q3) q4]
def iS : Scope := { kind := .function, names := [(PySem.Str.ofString "self", .local), (PySem.Str.ofString "at", .local)], isGenerator := false, isCoroutine := false, more := [] }
/-- the class called nm, at C, and its __init__, at fI, as the top has left them -/
structure Tx (K : Frag) (mg : Str → Option Value) (nm ql : Str) (C fI : Addr) (B newId initId : String) (bmB : List Value) : Prop where
  base : ExcBaseFacts B newId initId bmB
  gC : mg nm = some (.ref C)
  cls : ∃ n1 q N bs bm sn sub ab col dd k0 k1 k2 k3 k5, K.lookup C = some (excClassObj n1 q C N bs bm true sn sub ab col dd k0 k1 k2 k3 k5 newId) ∧ Line bm bmB
  sa : findIn K (.ref C) "__setattr__" = some (some (.builtin "object.__setattr__"))
  ex : ExcC K C
  noN : findIn K (.ref C) "at" = some none
  iC : findIn K (.ref C) "__init__" = some (some (.ref fI))
  tC : typeIn K (.ref fI) = some (.type "function")
  kC : keepIn K (.ref C) = true
  tyC : typeIn K (.ref C) = some (.type "type")
  fn : ∃ (oc : Value) (od : Option Addr) (doc pm : Value) (an : Option Addr) (cdv ct : Value) (osl : Array (Option Value)) (p1 p2 q1 q2 q3 q4 : Pos),
    K.lookup fI = some ⟨oc, od, .func (fnOf "__init__" ql (iA p1 p2) (iB q1 q2 q3 q4) iS .none .none doc pm an cdv ct), osl⟩ ∧ codeIn K cdv ql = true
/-- an error made of v, at e, its own dict at d -/
structure Made (h h' : Heap) (e C d : Addr) (v : Value) : Prop where
  keep : ∀ b o, h.get? b = some o → h'.get? b = some o
  new : h.objs.size ≤ e
  obj : ∃ oe vs, h'.get? e = some oe ∧ oe.cls = .ref C ∧ oe.dict = some d ∧ oe.data = .fields vs ∧ vs[1]? = some .none
  dbig : h.objs.size ≤ d
  dne : d ≠ e
  ns : h'.Ns1 d (fun y => if y = "at" then some v else none)
section
variable {prog : Program} {w : World} {A : Around} {E : Value → Shared → Prop} {R : Result → Shared → Prop} {s : Shared} {K : Frag} {mg : Str → Option Value} {nm ql : Str} {C fI : Addr} {B newId initId : String} {bmB : List Value}
theorem made (T : Tx K mg nm ql C fI B newId initId bmB) {v : Value} (X : K.In s.heap) (hlim : s.heap.NoLimit) (hroom : A.depth + 1 < recursionLimit) (hq : ∀ h' tk e d, Made s.heap h' e C d v → R (.ok (.ret (.ref e))) { s with heap := h', toks := tk }) :
    codeAny (model prog w) A (.call (.ref C) ⟨[v], []⟩) R s := by
  obtain ⟨n1, q, N, bs, bm, sn, sub, ab, col, dd, k0, k1, k2, k3, k5, hC, ln⟩ := T.cls
  obtain ⟨oc, od, doc, pm, an, cdv, ct, osl, p1, p2, q1, q2, q3, q4, ho, hcd⟩ := T.fn
  have hcl : clsIn K C = some { name := n1, bases := bs, mro := .ref C :: bm, ns := N, qualname := q, hasDict := true, slotNames := sn, subclasses := sub, abstract := ab, collection := col, hasDel := false } := by
    unfold clsIn
    rw [hC]
  obtain ⟨hp, g, dr, tk, os⟩ := s
  have k : ∀ b o, hp.get? b = some o → ((hp.push (kdv_tup [v])).push (excO C hp.objs.size)).get? b = some o := fun b o e => Heap.get?_push_of_some _ (Heap.get?_push_of_some _ e)
  have hx : ((hp.push (kdv_tup [v])).push (excO C hp.objs.size)).get? (hp.objs.size + 1) = some (excO C hp.objs.size) := by heap_get
  refine call_own T.base ln.has (X _ _ hC) (looks_findIn X T.iC) (fun self => bind_fn X self T.tC) (one_size v) ?_
  have X1 := X.keeps k
  have lim1 : ((hp.push (kdv_tup [v])).push (excO C hp.objs.size)).NoLimit := hlim.keeps k
  have size1 : ((hp.push (kdv_tup [v])).push (excO C hp.objs.size)).objs.size = hp.objs.size + 1 + 1 := by rw [Heap.size_push, Heap.size_push]
  generalize (hp.push (kdv_tup [v])).push (excO C hp.objs.size) = h1 at k hx X1 lim1 size1 ⊢
  refine Att.call_fn (binds := [("self", .ref (hp.objs.size + 1)), ("at", v)]) X1 lim1 ho hcd hroom (BindsTo.of_eq (by first | rfl | with_unfolding_all rfl)) (by first | rfl | decide | with_unfolding_all rfl) (fun s₁ IC => ?_) rfl rfl rfl
  obtain ⟨h₁, tk₁, rfl⟩ := IC.toInCall.same
  have k1' : ∀ b o, h1.get? b = some o → h₁.get? b = some o := IC.toInCall.keep
  have hn := IC.toInCall.ns
  show wpAny _ _ (execs _ _) _ _ _
  refine wpAny_execs_cons (plainObj_wpAny_Assign_Attribute ?_)
  refine ldC (v := v) hn (by first | rfl | with_unfolding_all rfl | kernel_rfl) (ldC (v := .ref (hp.objs.size + 1)) hn (by first | rfl | with_unfolding_all rfl | kernel_rfl) ?_)
  refine set_plain (X1.keeps k1') (ox := excO C hp.objs.size) (od := none) ⟨k1' _ _ hx, rfl, rfl, trivial⟩ T.sa ?_
  refine store_err (X1.keeps k1') (k1' _ _ hx) hcl (bmB := bmB) ln.own rfl rfl T.noN (fun h₃ tk₃ dx k₃ dn dne hx₃ hn₃ => ?_)
  show wpAny _ _ (execs _ _) _ _ _
  have z : h1.objs.size < h₁.objs.size := hn.lt
  have lt_ : ∀ {b : Addr} {o : Obj}, hp.get? b = some o → b ≠ hp.objs.size + 1 := fun {b o} e => Nat.ne_of_lt (Nat.lt_succ_of_lt (Heap.lt_size e))
  refine wpAny_execs_nil ⟨rfl, hq h₃ tk₃ (hp.objs.size + 1) dx ⟨fun b o e => k₃ b o (lt_ e) (k1' b o (k b o e)), Nat.le_succ _, ⟨_, _, hx₃, rfl, rfl, rfl, rfl⟩, ?_, dne, hn₃⟩⟩
  have dn' : h₁.objs.size ≤ dx := dn
  show hp.objs.size ≤ dx
  omega
end
end Of_at
section
variable {X : Cx} {nm ql : Str} {C fI : Addr} {B newId initId : String} {bmB : List Value}
theorem relO_at {v : V} {v' : Value} (r : RelV v v') (f : Str) : RelO (List.lookup f [(("at" : Str), v)]) (if f = "at" then some v' else none) := by
  by_cases hw : f = "at"
  · subst hw
    rw [if_pos rfl]
    have q : List.lookup ("at" : Str) [(("at" : Str), v)] = some v := by simp [List.lookup]
    rw [q]
    exact r
  · rw [if_neg hw]
    have qw : (f == ("at" : Str)) = false := by simpa using hw
    have q2 : List.lookup f [(("at" : Str), v)] = none := by simp [List.lookup, qw]
    rw [q2]
    trivial
/-- nm(e) -/
def tMk_at (C : Addr) (ta : TA) : L2.St → Hp → XK → Prop := fun σ H Q => ta σ H fun vs H1 => ∃ v, vs = [v] ∧ ∀ d, H1 d = none → Q (.ref C) (some d) (upd H1 d (.xd [(("at" : Str), v)]))
theorem pmk_at {a : Expr} {ta : TA} {p pos : Pos} {k : Nat} (T : Of_at.Tx X.K X.mg nm ql C fI B newId initId bmB) (hr : Room k X.A) (ha : PA X [a] ta) (hg : Gl X nm := by rfl) (hdb : (nm == ("__debug__" : Str)) = false := by decide)
    (he : starEach (a :: []) X.env = (false, eval a X.env) :: starEach [] X.env := by rfl) (hpl : (backTo pos (starEach [] X.env)).any (·.1) = false := by rfl) :
    PMk X (.Call (.Name nm p) [a] [] pos) (tMk_at C ta) := by
  intro pins s σ H Q I h
  refine wpAny_Call_Name_kw (ld_glob I hg T.gC ?_ hdb)
  refine PySem.W.callWith_K (h₀ := X.base) I.ok.mod.kin T.kC (thn (ha.run pos pins s σ H _ I h) fun us s1 hh => ?_) he hpl
  obtain ⟨vs, H1, I1, r1, v, ev, q1⟩ := hh
  subst ev
  refine ⟨I1.kIn, ?_⟩
  cases r1 with
  | cons rv rn =>
    rename_i v' us'
    cases rn
    show wpAny _ _ (call (.ref C) [v']) _ _ _
    have hlim := I1.nolimit
    obtain ⟨hp, g, dr, tk, os⟩ := s1
    refine wpAny_call (Of_at.made T I1.kIn hlim (by have := hr.dp; omega) fun h' tk' e d M => ?_)
    show MkP X pins σ Q (.ref e) ⟨h', g, dr, tk', os⟩
    obtain ⟨oe, fv, hoe, hc, hd, hdat, h1⟩ := M.obj
    have hns := M.ns
    obtain ⟨G', g1, g2⟩ := restrict h' fun b => decide (b ≠ e)
    have gk : ∀ b, b ≠ e → G'.get? b = h'.get? b := fun b hb => g1 b (decide_eq_true hb)
    have ge : G'.get? e = none := g2 e (by simp)
    have old : ∀ b o, hp.get? b = some o → G'.get? b = some o := fun b o q => (gk b (Nat.ne_of_lt (Nat.lt_of_lt_of_le (Heap.lt_size q) M.new))).trans (M.keep b o q)
    have ob : ObjOk X.prog X.w (upd H1 d (.xd [(("at" : Str), v)])) G' d (.xd [(("at" : Str), v)]) :=
      ⟨_, hns.at (fun o q => (gk d M.dne).trans q), fun f => relO_at rv f⟩
    have J : L2.Inv X pins σ (upd H1 d (.xd [(("at" : Str), v)])) ⟨G', g, dr, tk', os⟩ := I1.laid (t' := tk') old M.dbig ob
    refine ⟨e, oe, fv, ⟨G', g, dr, tk', os⟩, _, .ref C, some d, rfl, J, fun b o q => ?_, ge, hoe, ⟨hc, hd⟩, hdat, h1, ?_, rfl, I1.bare, raises_own T.ex.hs T.tyC, q1 d (I1.hok.fresh M.dbig)⟩
    · by_cases hb : b = e
      · have q' : G'.get? b = some o := q
        rw [hb, ge] at q'
        cases q'
      · exact (gk b hb).symm.trans q
    · rw [upd_ne (Ne.symm M.dne)]
      exact I1.hok.fresh M.new
/-- raise nm(e) -/
def tRaise_at (C : Addr) (W : WX) (ta : TA) : TS := fun _ σ H => tMk_at C ta σ H fun cls d H' => W cls d σ H'
theorem ps_raise_at {a : Expr} {ta : TA} {W : WX} {p pos pos2 : Pos} {k : Nat} (hc : X.calm = true) (T : Of_at.Tx X.K X.mg nm ql C fI B newId initId bmB) (hr : Room k X.A) (tk : Takes X W) (ha : PA X [a] ta) (hg : Gl X nm := by rfl) (hdb : (nm == ("__debug__" : Str)) = false := by decide)
    (he : starEach (a :: []) X.env = (false, eval a X.env) :: starEach [] X.env := by rfl) (hpl : (backTo pos (starEach [] X.env)).any (·.1) = false := by rfl) :
    PS X (.Raise (some (.Call (.Name nm p) [a] [] pos)) none pos2) (tRaise_at C W ta) := ps_raise hc tk (pmk_at T hr ha hg hdb he hpl)
/-- e.at, e a kept error -/
def tGet_at (K : PySem.W.Frag) (te : TE) : TE := fun σ H Q => te σ H fun x H1 => ∃ (a C dd : Addr) (v : V), x = .ref a ∧ H1 a = some (ExH (.ref C) (some dd) a) ∧ ExcC K C ∧ PySem.W.findIn K (.ref C) "at" = some none ∧ H1 dd = some (.xd [(("at" : Str), v)]) ∧ Q v H1
theorem pe_get_at {e : Expr} {te : TE} {pos : Pos} (he : PE X e te) (hb : attributeBase e "at" X.env (eval e X.env) = eval e X.env := by rfl) : PE X (.Attribute e "at" pos) (tGet_at X.K te) := by
  constructor
  intro pins s σ H Q I h
  refine attr_of hb (thn (he.run pins s σ H _ I h) ?_)
  rintro u s1 ⟨x, H1, I1, rx, a, C, dd, v, rfl, ha, EC, noN, hdd, q⟩
  cases (show u = Value.ref a from rx)
  obtain ⟨oe, od, J, hod⟩ := held_at I1 ha (.inr ⟨dd, _, rfl, hdd⟩)
  obtain ⟨mA, hns, hr⟩ := I1.hok dd _ hdd
  obtain ⟨o, ho, hl⟩ := lookIn_ns hns
  obtain ⟨o', eo, ho'⟩ := hod dd _ rfl hdd
  rw [ho] at ho'
  cases ho'
  subst eo
  have l : List.lookup ("at" : Str) [(("at" : Str), v)] = some v := by simp [List.lookup]
  obtain ⟨u, hu, ru⟩ := RelO.some_of (v := v) (o := mA "at") (by rw [← l]; exact hr "at")
  exact HandSPX.exc_get I1.kIn J EC.hg EC.hk EC.hs (PySem.W.findObj_own EC.hd noN rfl (by rw [hl, hu])) (handed_of ru) ⟨v, H1, I1.tok _, ru, q⟩
end
/-! ### errors of the field name -/
namespace Of_name
open PySem.W PySem.Calls PySem.HandSPX
def iA (p1 p2 : Pos) : Arguments := { posonlyargs := [], args := [{ arg := "self", annotation := none, pos := p1 }, { arg := "name", annotation := none, pos := p2 }], vararg := none, kwonlyargs := [], kw_defaults := [], kwarg := none, defaults := [] }
def iB (q1 q2 q3 q4 : Pos) : List Stmt := [.Assign [.Attribute (.Name "self" q1) "name" q2] (.Name "name" q3) q4]
def iS : Scope := { kind := .function, names := [(PySem.Str.ofString "self", .local), (PySem.Str.ofString "name", .local)], isGenerator := false, isCoroutine := false, more := [] }
/-- the class called nm, at C, and its __init__, at fI, as the top has left them -/
structure Tx (K : Frag) (mg : Str → Option Value) (nm ql : Str) (C fI : Addr) (B newId initId : String) (bmB : List Value) : Prop where
  base : ExcBaseFacts B newId initId bmB
  gC : mg nm = some (.ref C)
  cls : ∃ n1 q N bs bm sn sub ab col dd k0 k1 k2 k3 k5, K.lookup C = some (excClassObj n1 q C N bs bm true sn sub ab col dd k0 k1 k2 k3 k5 newId) ∧ Line bm bmB
  sa : findIn K (.ref C) "__setattr__" = some (some (.builtin "object.__setattr__"))
  ex : ExcC K C
  noN : findIn K (.ref C) "name" = some none
  iC : findIn K (.ref C) "__init__" = some (some (.ref fI))
  tC : typeIn K (.ref fI) = some (.type "function")
  kC : keepIn K (.ref C) = true
  tyC : typeIn K (.ref C) = some (.type "type")
  fn : ∃ (oc : Value) (od : Option Addr) (doc pm : Value) (an : Option Addr) (cdv ct : Value) (osl : Array (Option Value)) (p1 p2 q1 q2 q3 q4 : Pos),
    K.lookup fI = some ⟨oc, od, .func (fnOf "__init__" ql (iA p1 p2) (iB q1 q2 q3 q4) iS .none .none doc pm an cdv ct), osl⟩ ∧ codeIn K cdv ql = true
/-- an error made of v, at e, its own dict at d -/
structure Made (h h' : Heap) (e C d : Addr) (v : Value) : Prop where
  keep : ∀ b o, h.get? b = some o → h'.get? b = some o
  new : h.objs.size ≤ e
  obj : ∃ oe vs, h'.get? e = some oe ∧ oe.cls = .ref C ∧ oe.dict = some d ∧ oe.data = .fields vs ∧ vs[1]? = some .none
  dbig : h.objs.size ≤ d
  dne : d ≠ e
  ns : h'.Ns1 d (fun y => if y = "name" then some v else none)
section
variable {prog : Program} {w : World} {A : Around} {E : Value → Shared → Prop} {R : Result → Shared → Prop} {s : Shared} {K : Frag} {mg : Str → Option Value} {nm ql : Str} {C fI : Addr} {B newId initId : String} {bmB : List Value}
theorem made (T : Tx K mg nm ql C fI B newId initId bmB) {v : Value} (X : K.In s.heap) (hlim : s.heap.NoLimit) (hroom : A.depth + 1 < recursionLimit) (hq : ∀ h' tk e d, Made s.heap h' e C d v → R (.ok (.ret (.ref e))) { s with heap := h', toks := tk }) :
    codeAny (model prog w) A (.call (.ref C) ⟨[v], []⟩) R s := by
  obtain ⟨n1, q, N, bs, bm, sn, sub, ab, col, dd, k0, k1, k2, k3, k5, hC, ln⟩ := T.cls
  obtain ⟨oc, od, doc, pm, an, cdv, ct, osl, p1, p2, q1, q2, q3, q4, ho, hcd⟩ := T.fn
  have hcl : clsIn K C = some { name := n1, bases := bs, mro := .ref C :: bm, ns := N, qualname := q, hasDict := true, slotNames := sn, subclasses := sub, abstract := ab, collection := col, hasDel := false } := by
    unfold clsIn
    rw [hC]
  obtain ⟨hp, g, dr, tk, os⟩ := s
  have k : ∀ b o, hp.get? b = some o → ((hp.push (kdv_tup [v])).push (excO C hp.objs.size)).get? b = some o := fun b o e => Heap.get?_push_of_some _ (Heap.get?_push_of_some _ e)
  have hx : ((hp.push (kdv_tup [v])).push (excO C hp.objs.size)).get? (hp.objs.size + 1) = some (excO C hp.objs.size) := by heap_get
  refine call_own T.base ln.has (X _ _ hC) (looks_findIn X T.iC) (fun self => bind_fn X self T.tC) (one_size v) ?_
  have X1 := X.keeps k
  have lim1 : ((hp.push (kdv_tup [v])).push (excO C hp.objs.size)).NoLimit := hlim.keeps k
  have size1 : ((hp.push (kdv_tup [v])).push (excO C hp.objs.size)).objs.size = hp.objs.size + 1 + 1 := by rw [Heap.size_push, Heap.size_push]
  generalize (hp.push (kdv_tup [v])).push (excO C hp.objs.size) = h1 at k hx X1 lim1 size1 ⊢
  refine Att.call_fn (binds := [("self", .ref (hp.objs.size + 1)), ("name", v)]) X1 lim1 ho hcd hroom (BindsTo.of_eq (by first | rfl | with_unfolding_all rfl)) (by first | rfl | decide | with_unfolding_all rfl) (fun s₁ IC => ?_) rfl rfl rfl
  obtain ⟨h₁, tk₁, rfl⟩ := IC.toInCall.same
  have k1' : ∀ b o, h1.get? b = some o → h₁.get? b = some o := IC.toInCall.keep
  have hn := IC.toInCall.ns
  show wpAny _ _ (execs _ _) _ _ _
  refine wpAny_execs_cons (plainObj_wpAny_Assign_Attribute ?_)
  refine ldC (v := v) hn (by first | rfl | with_unfolding_all rfl | kernel_rfl) (ldC (v := .ref (hp.objs.size + 1)) hn (by first | rfl | with_unfolding_all rfl | kernel_rfl) ?_)
  refine set_plain (X1.keeps k1') (ox := excO C hp.objs.size) (od := none) ⟨k1' _ _ hx, rfl, rfl, trivial⟩ T.sa ?_
  refine store_err (X1.keeps k1') (k1' _ _ hx) hcl (bmB := bmB) ln.own rfl rfl T.noN (fun h₃ tk₃ dx k₃ dn dne hx₃ hn₃ => ?_)
  show wpAny _ _ (execs _ _) _ _ _
  have z : h1.objs.size < h₁.objs.size := hn.lt
  have lt_ : ∀ {b : Addr} {o : Obj}, hp.get? b = some o → b ≠ hp.objs.size + 1 := fun {b o} e => Nat.ne_of_lt (Nat.lt_succ_of_lt (Heap.lt_size e))
  refine wpAny_execs_nil ⟨rfl, hq h₃ tk₃ (hp.objs.size + 1) dx ⟨fun b o e => k₃ b o (lt_ e) (k1' b o (k b o e)), Nat.le_succ _, ⟨_, _, hx₃, rfl, rfl, rfl, rfl⟩, ?_, dne, hn₃⟩⟩
  have dn' : h₁.objs.size ≤ dx := dn
  show hp.objs.size ≤ dx
  omega
end
end Of_name
section
variable {X : Cx} {nm ql : Str} {C fI : Addr} {B newId initId : String} {bmB : List Value}
theorem relO_name {v : V} {v' : Value} (r : RelV v v') (f : Str) : RelO (List.lookup f [(("name" : Str), v)]) (if f = "name" then some v' else none) := by
  by_cases hw : f = "name"
  · subst hw
    rw [if_pos rfl]
    have q : List.lookup ("name" : Str) [(("name" : Str), v)] = some v := by simp [List.lookup]
    rw [q]
    exact r
  · rw [if_neg hw]
    have qw : (f == ("name" : Str)) = false := by simpa using hw
    have q2 : List.lookup f [(("name" : Str), v)] = none := by simp [List.lookup, qw]
    rw [q2]
    trivial
/-- nm(e) -/
def tMk_name (C : Addr) (ta : TA) : L2.St → Hp → XK → Prop := fun σ H Q => ta σ H fun vs H1 => ∃ v, vs = [v] ∧ ∀ d, H1 d = none → Q (.ref C) (some d) (upd H1 d (.xd [(("name" : Str), v)]))
theorem pmk_name {a : Expr} {ta : TA} {p pos : Pos} {k : Nat} (T : Of_name.Tx X.K X.mg nm ql C fI B newId initId bmB) (hr : Room k X.A) (ha : PA X [a] ta) (hg : Gl X nm := by rfl) (hdb : (nm == ("__debug__" : Str)) = false := by decide)
    (he : starEach (a :: []) X.env = (false, eval a X.env) :: starEach [] X.env := by rfl) (hpl : (backTo pos (starEach [] X.env)).any (·.1) = false := by rfl) :
    PMk X (.Call (.Name nm p) [a] [] pos) (tMk_name C ta) := by
  intro pins s σ H Q I h
  refine wpAny_Call_Name_kw (ld_glob I hg T.gC ?_ hdb)
  refine PySem.W.callWith_K (h₀ := X.base) I.ok.mod.kin T.kC (thn (ha.run pos pins s σ H _ I h) fun us s1 hh => ?_) he hpl
  obtain ⟨vs, H1, I1, r1, v, ev, q1⟩ := hh
  subst ev
  refine ⟨I1.kIn, ?_⟩
  cases r1 with
  | cons rv rn =>
    rename_i v' us'
    cases rn
    show wpAny _ _ (call (.ref C) [v']) _ _ _
    have hlim := I1.nolimit
    obtain ⟨hp, g, dr, tk, os⟩ := s1
    refine wpAny_call (Of_name.made T I1.kIn hlim (by have := hr.dp; omega) fun h' tk' e d M => ?_)
    show MkP X pins σ Q (.ref e) ⟨h', g, dr, tk', os⟩
    obtain ⟨oe, fv, hoe, hc, hd, hdat, h1⟩ := M.obj
    have hns := M.ns
    obtain ⟨G', g1, g2⟩ := restrict h' fun b => decide (b ≠ e)
    have gk : ∀ b, b ≠ e → G'.get? b = h'.get? b := fun b hb => g1 b (decide_eq_true hb)
    have ge : G'.get? e = none := g2 e (by simp)
    have old : ∀ b o, hp.get? b = some o → G'.get? b = some o := fun b o q => (gk b (Nat.ne_of_lt (Nat.lt_of_lt_of_le (Heap.lt_size q) M.new))).trans (M.keep b o q)
    have ob : ObjOk X.prog X.w (upd H1 d (.xd [(("name" : Str), v)])) G' d (.xd [(("name" : Str), v)]) :=
      ⟨_, hns.at (fun o q => (gk d M.dne).trans q), fun f => relO_name rv f⟩
    have J : L2.Inv X pins σ (upd H1 d (.xd [(("name" : Str), v)])) ⟨G', g, dr, tk', os⟩ := I1.laid (t' := tk') old M.dbig ob
    refine ⟨e, oe, fv, ⟨G', g, dr, tk', os⟩, _, .ref C, some d, rfl, J, fun b o q => ?_, ge, hoe, ⟨hc, hd⟩, hdat, h1, ?_, rfl, I1.bare, raises_own T.ex.hs T.tyC, q1 d (I1.hok.fresh M.dbig)⟩
    · by_cases hb : b = e
      · have q' : G'.get? b = some o := q
        rw [hb, ge] at q'
        cases q'
      · exact (gk b hb).symm.trans q
    · rw [upd_ne (Ne.symm M.dne)]
      exact I1.hok.fresh M.new
/-- raise nm(e) -/
def tRaise_name (C : Addr) (W : WX) (ta : TA) : TS := fun _ σ H => tMk_name C ta σ H fun cls d H' => W cls d σ H'
theorem ps_raise_name {a : Expr} {ta : TA} {W : WX} {p pos pos2 : Pos} {k : Nat} (hc : X.calm = true) (T : Of_name.Tx X.K X.mg nm ql C fI B newId initId bmB) (hr : Room k X.A) (tk : Takes X W) (ha : PA X [a] ta) (hg : Gl X nm := by rfl) (hdb : (nm == ("__debug__" : Str)) = false := by decide)
    (he : starEach (a :: []) X.env = (false, eval a X.env) :: starEach [] X.env := by rfl) (hpl : (backTo pos (starEach [] X.env)).any (·.1) = false := by rfl) :
    PS X (.Raise (some (.Call (.Name nm p) [a] [] pos)) none pos2) (tRaise_name C W ta) := ps_raise hc tk (pmk_name T hr ha hg hdb he hpl)
/-- e.name, e a kept error -/
def tGet_name (K : PySem.W.Frag) (te : TE) : TE := fun σ H Q => te σ H fun x H1 => ∃ (a C dd : Addr) (v : V), x = .ref a ∧ H1 a = some (ExH (.ref C) (some dd) a) ∧ ExcC K C ∧ PySem.W.findIn K (.ref C) "name" = some none ∧ H1 dd = some (.xd [(("name" : Str), v)]) ∧ Q v H1
theorem pe_get_name {e : Expr} {te : TE} {pos : Pos} (he : PE X e te) (hb : attributeBase e "name" X.env (eval e X.env) = eval e X.env := by rfl) : PE X (.Attribute e "name" pos) (tGet_name X.K te) := by
  constructor
  intro pins s σ H Q I h
  refine attr_of hb (thn (he.run pins s σ H _ I h) ?_)
  rintro u s1 ⟨x, H1, I1, rx, a, C, dd, v, rfl, ha, EC, noN, hdd, q⟩
  cases (show u = Value.ref a from rx)
  obtain ⟨oe, od, J, hod⟩ := held_at I1 ha (.inr ⟨dd, _, rfl, hdd⟩)
  obtain ⟨mA, hns, hr⟩ := I1.hok dd _ hdd
  obtain ⟨o, ho, hl⟩ := lookIn_ns hns
  obtain ⟨o', eo, ho'⟩ := hod dd _ rfl hdd
  rw [ho] at ho'
  cases ho'
  subst eo
  have l : List.lookup ("name" : Str) [(("name" : Str), v)] = some v := by simp [List.lookup]
  obtain ⟨u, hu, ru⟩ := RelO.some_of (v := v) (o := mA "name") (by rw [← l]; exact hr "name")
  exact HandSPX.exc_get I1.kIn J EC.hg EC.hk EC.hs (PySem.W.findObj_own EC.hd noN rfl (by rw [hl, hu])) (handed_of ru) ⟨v, H1, I1.tok _, ru, q⟩
end
/-! ### errors of the field most -/
namespace Of_most
open PySem.W PySem.Calls PySem.HandSPX
def iA (p1 p2 : Pos) : Arguments := { posonlyargs := [], args := [{ arg := "self", annotation := none, pos := p1 }, { arg := "most", annotation := none, pos := p2 }], vararg := none, kwonlyargs := [], kw_defaults := [], kwarg := none, defaults := [] }
def iB (q1 q2 q3 q4 : Pos) : List Stmt := [.Assign [.Attribute (.Name "self" q1) "most" q2] (.Name "most" q3) q4]
def iS : Scope := { kind := .function, names := [(PySem.Str.ofString "self", .local), (PySem.Str.ofString "most", .local)], isGenerator := false, isCoroutine := false, more := [] }
/-- the class called nm, at C, and its __init__, at fI, as the top has left them -/
structure Tx (K : Frag) (mg : Str → Option Value) (nm ql : Str) (C fI : Addr) (B newId initId : String) (bmB : List Value) : Prop where
  base : ExcBaseFacts B newId initId bmB
  gC : mg nm = some (.ref C)
  cls : ∃ n1 q N bs bm sn sub ab col dd k0 k1 k2 k3 k5, K.lookup C = some (excClassObj n1 q C N bs bm true sn sub ab col dd k0 k1 k2 k3 k5 newId) ∧ Line bm bmB
  sa : findIn K (.ref C) "__setattr__" = some (some (.builtin "object.__setattr__"))
  ex : ExcC K C
  noN : findIn K (.ref C) "most" = some none
  iC : findIn K (.ref C) "__init__" = some (some (.ref fI))
  tC : typeIn K (.ref fI) = some (.type "function")
  kC : keepIn K (.ref C) = true
  tyC : typeIn K (.ref C) = some (.type "type")
  fn : ∃ (oc : Value) (od : Option Addr) (doc pm : Value) (an : Option Addr) (cdv ct : Value) (osl : Array (Option Value)) (p1 p2 q1 q2 q3 q4 : Pos),
    K.lookup fI = some ⟨oc, od, .func (fnOf "__init__" ql (iA p1 p2) (iB q1 q2 q3 q4) iS .none .none doc pm an cdv ct), osl⟩ ∧ codeIn K cdv ql = true
/-- an error made of v, at e, its own dict at d -/
structure Made (h h' : Heap) (e C d : Addr) (v : Value) : Prop where
  keep : ∀ b o, h.get? b = some o → h'.get? b = some o
  new : h.objs.size ≤ e
  obj : ∃ oe vs, h'.get? e = some oe ∧ oe.cls = .ref C ∧ oe.dict = some d ∧ oe.data = .fields vs ∧ vs[1]? = some .none
  dbig : h.objs.size ≤ d
  dne : d ≠ e
  ns : h'.Ns1 d (fun y => if y = "most" then some v else none)
section
variable {prog : Program} {w : World} {A : Around} {E : Value → Shared → Prop} {R : Result → Shared → Prop} {s : Shared} {K : Frag} {mg : Str → Option Value} {nm ql : Str} {C fI : Addr} {B newId initId : String} {bmB : List Value}
theorem made (T : Tx K mg nm ql C fI B newId initId bmB) {v : Value} (X : K.In s.heap) (hlim : s.heap.NoLimit) (hroom : A.depth + 1 < recursionLimit) (hq : ∀ h' tk e d, Made s.heap h' e C d v → R (.ok (.ret (.ref e))) { s with heap := h', toks := tk }) :
    codeAny (model prog w) A (.call (.ref C) ⟨[v], []⟩) R s := by
  obtain ⟨n1, q, N, bs, bm, sn, sub, ab, col, dd, k0, k1, k2, k3, k5, hC, ln⟩ := T.cls
  obtain ⟨oc, od, doc, pm, an, cdv, ct, osl, p1, p2, q1, q2, q3, q4, ho, hcd⟩ := T.fn
  have hcl : clsIn K C = some { name := n1, bases := bs, mro := .ref C :: bm, ns := N, qualname := q, hasDict := true, slotNames := sn, subclasses := sub, abstract := ab, collection := col, hasDel := false } := by
    unfold clsIn
    rw [hC]
  obtain ⟨hp, g, dr, tk, os⟩ := s
  have k : ∀ b o, hp.get? b = some o → ((hp.push (kdv_tup [v])).push (excO C hp.objs.size)).get? b = some o := fun b o e => Heap.get?_push_of_some _ (Heap.get?_push_of_some _ e)
  have hx : ((hp.push (kdv_tup [v])).push (excO C hp.objs.size)).get? (hp.objs.size + 1) = some (excO C hp.objs.size) := by heap_get
  refine call_own T.base ln.has (X _ _ hC) (looks_findIn X T.iC) (fun self => bind_fn X self T.tC) (one_size v) ?_
  have X1 := X.keeps k
  have lim1 : ((hp.push (kdv_tup [v])).push (excO C hp.objs.size)).NoLimit := hlim.keeps k
  have size1 : ((hp.push (kdv_tup [v])).push (excO C hp.objs.size)).objs.size = hp.objs.size + 1 + 1 := by rw [Heap.size_push, Heap.size_push]
  generalize (hp.push (kdv_tup [v])).push (excO C hp.objs.size) = h1 at k hx X1 lim1 size1 ⊢
  refine Att.call_fn (binds := [("self", .ref (hp.objs.size + 1)), ("most", v)]) X1 lim1 ho hcd hroom (BindsTo.of_eq (by first | rfl | with_unfolding_all rfl)) (by first | rfl | decide | with_unfolding_all rfl) (fun s₁ IC => ?_) rfl rfl rfl
  obtain ⟨h₁, tk₁, rfl⟩ := IC.toInCall.same
  have k1' : ∀ b o, h1.get? b = some o → h₁.get? b = some o := IC.toInCall.keep
  have hn := IC.toInCall.ns
  show wpAny _ _ (execs _ _) _ _ _
  refine wpAny_execs_cons (plainObj_wpAny_Assign_Attribute ?_)
  refine ldC (v := v) hn (by first | rfl | with_unfolding_all rfl | kernel_rfl) (ldC (v := .ref (hp.objs.size + 1)) hn (by first | rfl | with_unfolding_all rfl | kernel_rfl) ?_)
  refine set_plain (X1.keeps k1') (ox := excO C hp.objs.size) (od := none) ⟨k1' _ _ hx, rfl, rfl, trivial⟩ T.sa ?_
  refine store_err (X1.keeps k1') (k1' _ _ hx) hcl (bmB := bmB) ln.own rfl rfl T.noN (fun h₃ tk₃ dx k₃ dn dne hx₃ hn₃ => ?_)
  show wpAny _ _ (execs _ _) _ _ _
  have z : h1.objs.size < h₁.objs.size := hn.lt
  have lt_ : ∀ {b : Addr} {o : Obj}, hp.get? b = some o → b ≠ hp.objs.size + 1 := fun {b o} e => Nat.ne_of_lt (Nat.lt_succ_of_lt (Heap.lt_size e))
  refine wpAny_execs_nil ⟨rfl, hq h₃ tk₃ (hp.objs.size + 1) dx ⟨fun b o e => k₃ b o (lt_ e) (k1' b o (k b o e)), Nat.le_succ _, ⟨_, _, hx₃, rfl, rfl, rfl, rfl⟩, ?_, dne, hn₃⟩⟩
  have dn' : h₁.objs.size ≤ dx := dn
  show hp.objs.size ≤ dx
  omega
end
end Of_most
section
variable {X : Cx} {nm ql : Str} {C fI : Addr} {B newId initId : String} {bmB : List Value}
theorem relO_most {v : V} {v' : Value} (r : RelV v v') (f : Str) : RelO (List.lookup f [(("most" : Str), v)]) (if f = "most" then some v' else none) := by
  by_cases hw : f = "most"
  · subst hw
    rw [if_pos rfl]
    have q : List.lookup ("most" : Str) [(("most" : Str), v)] = some v := by simp [List.lookup]
    rw [q]
    exact r
  · rw [if_neg hw]
    have qw : (f == ("most" : Str)) = false := by simpa using hw
    have q2 : List.lookup f [(("most" : Str), v)] = none := by simp [List.lookup, qw]
    rw [q2]
    trivial
/-- nm(e) -/
def tMk_most (C : Addr) (ta : TA) : L2.St → Hp → XK → Prop := fun σ H Q => ta σ H fun vs H1 => ∃ v, vs = [v] ∧ ∀ d, H1 d = none → Q (.ref C) (some d) (upd H1 d (.xd [(("most" : Str), v)]))
theorem pmk_most {a : Expr} {ta : TA} {p pos : Pos} {k : Nat} (T : Of_most.Tx X.K X.mg nm ql C fI B newId initId bmB) (hr : Room k X.A) (ha : PA X [a] ta) (hg : Gl X nm := by rfl) (hdb : (nm == ("__debug__" : Str)) = false := by decide)
    (he : starEach (a :: []) X.env = (false, eval a X.env) :: starEach [] X.env := by rfl) (hpl : (backTo pos (starEach [] X.env)).any (·.1) = false := by rfl) :
    PMk X (.Call (.Name nm p) [a] [] pos) (tMk_most C ta) := by
  intro pins s σ H Q I h
  refine wpAny_Call_Name_kw (ld_glob I hg T.gC ?_ hdb)
  refine PySem.W.callWith_K (h₀ := X.base) I.ok.mod.kin T.kC (thn (ha.run pos pins s σ H _ I h) fun us s1 hh => ?_) he hpl
  obtain ⟨vs, H1, I1, r1, v, ev, q1⟩ := hh
  subst ev
  refine ⟨I1.kIn, ?_⟩
  cases r1 with
  | cons rv rn =>
    rename_i v' us'
    cases rn
    show wpAny _ _ (call (.ref C) [v']) _ _ _
    have hlim := I1.nolimit
    obtain ⟨hp, g, dr, tk, os⟩ := s1
    refine wpAny_call (Of_most.made T I1.kIn hlim (by have := hr.dp; omega) fun h' tk' e d M => ?_)
    show MkP X pins σ Q (.ref e) ⟨h', g, dr, tk', os⟩
    obtain ⟨oe, fv, hoe, hc, hd, hdat, h1⟩ := M.obj
    have hns := M.ns
    obtain ⟨G', g1, g2⟩ := restrict h' fun b => decide (b ≠ e)
    have gk : ∀ b, b ≠ e → G'.get? b = h'.get? b := fun b hb => g1 b (decide_eq_true hb)
    have ge : G'.get? e = none := g2 e (by simp)
    have old : ∀ b o, hp.get? b = some o → G'.get? b = some o := fun b o q => (gk b (Nat.ne_of_lt (Nat.lt_of_lt_of_le (Heap.lt_size q) M.new))).trans (M.keep b o q)
    have ob : ObjOk X.prog X.w (upd H1 d (.xd [(("most" : Str), v)])) G' d (.xd [(("most" : Str), v)]) :=
      ⟨_, hns.at (fun o q => (gk d M.dne).trans q), fun f => relO_most rv f⟩
    have J : L2.Inv X pins σ (upd H1 d (.xd [(("most" : Str), v)])) ⟨G', g, dr, tk', os⟩ := I1.laid (t' := tk') old M.dbig ob
    refine ⟨e, oe, fv, ⟨G', g, dr, tk', os⟩, _, .ref C, some d, rfl, J, fun b o q => ?_, ge, hoe, ⟨hc, hd⟩, hdat, h1, ?_, rfl, I1.bare, raises_own T.ex.hs T.tyC, q1 d (I1.hok.fresh M.dbig)⟩
    · by_cases hb : b = e
      · have q' : G'.get? b = some o := q
        rw [hb, ge] at q'
        cases q'
      · exact (gk b hb).symm.trans q
    · rw [upd_ne (Ne.symm M.dne)]
      exact I1.hok.fresh M.new
/-- raise nm(e) -/
def tRaise_most (C : Addr) (W : WX) (ta : TA) : TS := fun _ σ H => tMk_most C ta σ H fun cls d H' => W cls d σ H'
theorem ps_raise_most {a : Expr} {ta : TA} {W : WX} {p pos pos2 : Pos} {k : Nat} (hc : X.calm = true) (T : Of_most.Tx X.K X.mg nm ql C fI B newId initId bmB) (hr : Room k X.A) (tk : Takes X W) (ha : PA X [a] ta) (hg : Gl X nm := by rfl) (hdb : (nm == ("__debug__" : Str)) = false := by decide)
    (he : starEach (a :: []) X.env = (false, eval a X.env) :: starEach [] X.env := by rfl) (hpl : (backTo pos (starEach [] X.env)).any (·.1) = false := by rfl) :
    PS X (.Raise (some (.Call (.Name nm p) [a] [] pos)) none pos2) (tRaise_most C W ta) := ps_raise hc tk (pmk_most T hr ha hg hdb he hpl)
/-- e.most, e a kept error -/
def tGet_most (K : PySem.W.Frag) (te : TE) : TE := fun σ H Q => te σ H fun x H1 => ∃ (a C dd : Addr) (v : V), x = .ref a ∧ H1 a = some (ExH (.ref C) (some dd) a) ∧ ExcC K C ∧ PySem.W.findIn K (.ref C) "most" = some none ∧ H1 dd = some (.xd [(("most" : Str), v)]) ∧ Q v H1
theorem pe_get_most {e : Expr} {te : TE} {pos : Pos} (he : PE X e te) (hb : attributeBase e "most" X.env (eval e X.env) = eval e X.env := by rfl) : PE X (.Attribute e "most" pos) (tGet_most X.K te) := by
  constructor
  intro pins s σ H Q I h
  refine attr_of hb (thn (he.run pins s σ H _ I h) ?_)
  rintro u s1 ⟨x, H1, I1, rx, a, C, dd, v, rfl, ha, EC, noN, hdd, q⟩
  cases (show u = Value.ref a from rx)
  obtain ⟨oe, od, J, hod⟩ := held_at I1 ha (.inr ⟨dd, _, rfl, hdd⟩)
  obtain ⟨mA, hns, hr⟩ := I1.hok dd _ hdd
  obtain ⟨o, ho, hl⟩ := lookIn_ns hns
  obtain ⟨o', eo, ho'⟩ := hod dd _ rfl hdd
  rw [ho] at ho'
  cases ho'
  subst eo
  have l : List.lookup ("most" : Str) [(("most" : Str), v)] = some v := by simp [List.lookup]
  obtain ⟨u, hu, ru⟩ := RelO.some_of (v := v) (o := mA "most") (by rw [← l]; exact hr "most")
  exact HandSPX.exc_get I1.kIn J EC.hg EC.hk EC.hs (PySem.W.findObj_own EC.hd noN rfl (by rw [hl, hu])) (handed_of ru) ⟨v, H1, I1.tok _, ru, q⟩
end
end Pk
namespace Pk
open PySem L2
theorem same_upd {H : Hp} {p : Addr} {o : HO} (h : H p = none) : Same H (upd H p o) := fun b x e => by
  rw [upd_ne (ne_of_none e h)]
  exact e
end Pk
namespace Pk
open PySem L2
def top (i : Nat) : Stmt := PySem.Challenge.pw_paperkin_k72_whole_banks.main.body.getD i (.Pass ⟨0, 0, 0, 0⟩)
abbrev sIsNumber : Stmt := top 15
abbrev sIsWhole : Stmt := top 16
abbrev sIsName : Stmt := top 17
abbrev sIsNameE : Stmt := top 18
abbrev sIsText : Stmt := top 19
abbrev sNeedDay : Stmt := top 20
abbrev sAreAnswers : Stmt := top 24
abbrev sNeedQ : Stmt := top 26
abbrev sListed : Stmt := top 29
abbrev sMixed : Stmt := top 36
abbrev sBegun : Stmt := top 37
abbrev sTake : Stmt := top 38
abbrev sNames : Stmt := top 39
abbrev sRow : Stmt := top 40
abbrev sMade : Stmt := top 41
abbrev sParts : Stmt := top 42
abbrev sLaw : Stmt := top 48
abbrev sSuits : Stmt := top 31
abbrev sRestsOn : Stmt := top 32
abbrev sNeedBank : Stmt := top 33
abbrev sResting : Stmt := top 34
abbrev sLed : Stmt := top 43
abbrev sBackRight : Stmt := top 44
abbrev sPartsRight : Stmt := top 45
abbrev sCalled : Stmt := top 46
abbrev sCallsRight : Stmt := top 47
def inCls (st : Stmt) (i : Nat) : Stmt := match st with
  | .ClassDef (body := b) .. => b.getD i (.Pass ⟨0, 0, 0, 0⟩)
  | _ => st
abbrev sQInit : Stmt := inCls (top 25) 0
abbrev sQEq : Stmt := inCls (top 25) 1
abbrev sQLen : Stmt := inCls (top 25) 2
abbrev sQStr : Stmt := inCls (top 25) 3
abbrev sQRepr : Stmt := inCls (top 25) 4
abbrev sQAnswer : Stmt := inCls (top 25) 5
abbrev sQTurned : Stmt := inCls (top 25) 6
abbrev sQChanged : Stmt := inCls (top 25) 7
abbrev sQKin : Stmt := inCls (top 25) 8
abbrev sBInit : Stmt := inCls (top 30) 0
abbrev sBEq : Stmt := inCls (top 30) 1
abbrev sBLen : Stmt := inCls (top 30) 2
abbrev sBKnown : Stmt := inCls (top 30) 3
abbrev sBAdded : Stmt := inCls (top 30) 4
abbrev sBPut : Stmt := inCls (top 30) 5
abbrev sBOut : Stmt := inCls (top 30) 6
abbrev sBBack : Stmt := inCls (top 30) 7
abbrev sBDropped : Stmt := inCls (top 30) 8
abbrev sBUsed : Stmt := inCls (top 30) 9
abbrev sBUsedAll : Stmt := inCls (top 30) 10
abbrev sBUnused : Stmt := inCls (top 30) 11
abbrev sBNames : Stmt := inCls (top 30) 12
abbrev sBNamesIn : Stmt := inCls (top 30) 13
abbrev sBIsIn : Stmt := inCls (top 30) 14
abbrev sBWasUsed : Stmt := inCls (top 30) 15
abbrev sBOuts : Stmt := inCls (top 30) 16
abbrev sBQuestion : Stmt := inCls (top 30) 17
abbrev sBQuestionsBy : Stmt := inCls (top 30) 18
abbrev sBDaysOf : Stmt := inCls (top 30) 19
abbrev sBLastDay : Stmt := inCls (top 30) 20
abbrev sBMatters : Stmt := inCls (top 30) 21
abbrev sBFound : Stmt := inCls (top 30) 22
abbrev sBTwin : Stmt := inCls (top 30) 23
end Pk
namespace Pk
open PySem L2
theorem len_is (z : Str) : z.length = z.cps.toList.length := TL.len_tl z
theorem blank_tl : TL.tl (" " : Str) = [32] := by decide +kernel
theorem empty_tl : TL.tl ("" : Str) = [] := by decide +kernel
/-! ### a text so many times -/
theorem mul_ok {z : Str} {n : Int} (hz : z.length ≤ 100000) (n0 : 0 ≤ n) (n1 : n ≤ 100) : MulOk z n := by
  refine ⟨?_, fun h1 _ h3 => ?_, fun h1 _ => ?_⟩
  · rw [Bool.or_eq_false_iff]
    exact ⟨decide_eq_false (by omega), decide_eq_false (by omega)⟩
  · have : (100000 : Int) ≤ (2 ^ 63 - 1 : Int) / n := Int.le_ediv_of_mul_le (by omega) (by omega)
    omega
  · have h : z.length * n.toNat ≤ 100000 * 100 := Nat.mul_le_mul hz (by omega)
    show decide (z.length * n.toNat > sizeLine) = false
    refine decide_eq_false ?_
    rw [sizeLine_eq]
    omega
theorem fold_app : ∀ (n : Nat) (x : Array Nat) (a : Array Nat), ((List.replicate n x).foldl (· ++ ·) a).toList = a.toList ++ (List.replicate n x.toList).flatten
  | 0, x, a => by simp
  | n + 1, x, a => by
    rw [List.replicate_succ, List.foldl_cons, fold_app n x (a ++ x), Array.toList_append, List.replicate_succ, List.flatten_cons, List.append_assoc]
theorem mul_tl (z : Str) {n : Int} (n0 : 0 ≤ n) : TL.tl (Txt.mul z n) = (List.replicate n.toNat (TL.tl z)).flatten := by
  unfold Txt.mul
  by_cases h1 : n < 1
  · have e : n = 0 := by omega
    subst e
    rw [if_pos h1]
    rfl
  · rw [if_neg h1]
    by_cases h2 : n = 1
    · subst h2
      show z.cps.toList = _
      simp
    · by_cases h3 : z.length = 0
      · rw [if_pos (by simp [h3])]
        have e : TL.tl z = [] := List.length_eq_zero_iff.mp (by rw [← TL.len_tl]; exact h3)
        rw [e]
        simp
      · rw [if_neg (by simp [h2, h3])]
        show ((List.replicate n.toNat z.cps).foldl (· ++ ·) #[]).toList = _
        rw [fold_app]
        rfl
theorem mul_len (z : Str) {n : Int} (n0 : 0 ≤ n) : (Txt.mul z n).length = n.toNat * z.length := by
  rw [TL.len_tl, mul_tl z n0, TL.len_tl]
  simp
/-- all signs are code points -/
def SOk (z : Str) : Prop := ∀ c ∈ z.cps.toList, c < 0x110000
theorem sok_iff (z : Str) : PyData.strOk z = true ↔ SOk z := by
  unfold PyData.strOk SOk
  rw [← Array.all_toList, List.all_eq_true]
  exact ⟨fun h c hc => of_decide_eq_true (h c hc), fun h c hc => decide_eq_true (h c hc)⟩
theorem sok_app {x y : Str} (hx : SOk x) (hy : SOk y) : SOk (x ++ y) := fun c hc => by
  rw [show (x ++ y).cps.toList = x.cps.toList ++ y.cps.toList from TL.tl_append x y] at hc
  rcases List.mem_append.mp hc with h | h
  · exact hx c h
  · exact hy c h
theorem sok_mul {x : Str} (hx : SOk x) {n : Int} (n0 : 0 ≤ n) : SOk (Txt.mul x n) := fun c hc => by
  rw [show (Txt.mul x n).cps.toList = _ from mul_tl x n0] at hc
  obtain ⟨l, hl, h⟩ := List.mem_flatten.mp hc
  rw [(List.mem_replicate.mp hl).2] at h
  exact hx c h
theorem joinL_mem {c : Nat} : ∀ l : List (List Nat), c ∈ TL.joinL [] l → ∃ p ∈ l, c ∈ p
  | [], h => by cases h
  | [p], h => ⟨p, List.mem_cons_self, h⟩
  | p :: q :: r, h => by
    have h' : c ∈ p ++ ([] ++ TL.joinL [] (q :: r)) := h
    rcases List.mem_append.mp h' with h | h
    · exact ⟨p, List.mem_cons_self, h⟩
    · obtain ⟨x, hx, hc⟩ := joinL_mem (q :: r) h
      exact ⟨x, List.mem_cons_of_mem _ hx, hc⟩
theorem sok_join {ys : List Str} (h : ∀ y ∈ ys, SOk y) : SOk (Txt.join "" ys) := fun c hc => by
  rw [show (Txt.join "" ys).cps.toList = TL.joinL (TL.tl "") (ys.map TL.tl) from by rw [TL.join_eq]; exact TL.tl_join "" ys, empty_tl] at hc
  obtain ⟨p, hp, hm⟩ := joinL_mem _ hc
  obtain ⟨y, hy, rfl⟩ := List.mem_map.mp hp
  exact h y hy c hm
theorem sok_blank : SOk " " := fun c hc => by
  rw [show (" " : Str).cps.toList = [32] from blank_tl, List.mem_singleton] at hc
  rw [hc]
  decide
theorem at_some {α : Type} {l : List α} {i : Int} (h0 : 0 ≤ i) (h1 : i < l.length) : ∃ c, atI l i = some c ∧ c ∈ l := by
  obtain ⟨j, rfl⟩ := Int.eq_ofNat_of_zero_le h0
  have hj : j < l.length := by omega
  exact ⟨l[j], atI_nat (List.getElem?_eq_getElem hj), List.getElem_mem hj⟩
theorem joinL_len : ∀ l : List (List Nat), (TL.joinL [] l).length = (l.map List.length).sum
  | [] => rfl
  | [p] => by simp [TL.joinL]
  | p :: q :: r => by
    have ih := joinL_len (q :: r)
    show (p ++ ([] ++ TL.joinL [] (q :: r))).length = _
    rw [List.nil_append, List.length_append, ih]
    simp
theorem join0_len (ys : List Str) : (Txt.join "" ys).length = (ys.map (·.length)).sum := by
  rw [TL.len_tl, TL.join_eq, TL.tl_join, empty_tl, joinL_len, List.map_map]
  exact congrArg List.sum (List.map_congr_left fun p _ => (TL.len_tl p).symm)
theorem app_len (x y : Str) : (x ++ y).length = x.length + y.length := by
  rw [TL.len_tl, TL.tl_append, List.length_append, ← TL.len_tl, ← TL.len_tl]
def S (l : List Nat) : Str := ⟨l.toArray⟩
theorem S_tl (l : List Nat) : TL.tl (S l) = l := rfl
theorem S_len (l : List Nat) : (S l).length = l.length := TL.len_tl _
end Pk
namespace Pk
open PySem L2
/-! ### things that are handed in -/
/-- signs that the texts have: from the blank to ~ but the percent sign, and line ends -/
def Sgn (z : Str) : Prop := ∀ c ∈ z.cps.toList, (32 ≤ c ∧ c ≤ 126 ∧ c ≠ 37) ∨ c = 10
theorem Sgn.ok {z : Str} (h : Sgn z) : SOk z := fun c hc => by
  rcases h c hc with q | q
  · omega
  · rw [q]
    decide
inductive Itm (H : Hp) : V → Prop
  | non : Itm H .non
  | bl (b : Bool) : Itm H (.bl b)
  | int (i : Int) (h : i.natAbs.log2 < 300) : Itm H (.int i)
  | str (z : Str) (hl : z.length ≤ 100) (ho : Sgn z) : Itm H (.str z)
  | lst {a : Addr} {v : V} (h : H a = some (.lst [v])) (hv : v = .int 1 ∨ ∃ z, v = .str z ∧ z.length ≤ 100 ∧ Sgn z) : Itm H (.ref a)
  | tup {a : Addr} (h : H a = some (.tup [.int 1])) : Itm H (.ref a)
  | dct {a : Addr} (h : H a = some (.dK [])) : Itm H (.ref a)
theorem Itm.same {H H' : Hp} {x : V} (h : Itm H x) (s : Same H H') : Itm H' x := by
  cases h with
  | non => exact .non
  | bl b => exact .bl b
  | int i h => exact .int i h
  | str z hl ho => exact .str z hl ho
  | lst h hv => exact .lst (s _ _ h) hv
  | tup h => exact .tup (s _ _ h)
  | dct h => exact .dct (s _ _ h)
def vInt : V → Bool
  | .int _ => true
  | _ => false
def vBool : V → Bool
  | .bl _ => true
  | _ => false
def vStr : V → Bool
  | .str _ => true
  | _ => false
theorem Itm.ty {K : PySem.W.Frag} {H : Hp} {x : V} (h : Itm H x) : ∃ t : String, TyX K H x (.type t) ∧ kitB t "int" = some (vInt x || vBool x) ∧ kitB t "bool" = some (vBool x) ∧ kitB t "str" = some (vStr x) := by
  cases h with
  | non => exact ⟨_, .base .non, by decide +kernel, by decide +kernel, by decide +kernel⟩
  | bl b => exact ⟨_, .base (.bl b), (by decide +kernel : kitB "bool" "int" = some true), (by decide +kernel : kitB "bool" "bool" = some true), (by decide +kernel : kitB "bool" "str" = some false)⟩
  | int i h => exact ⟨_, .base (.int i), (by decide +kernel : kitB "int" "int" = some true), (by decide +kernel : kitB "int" "bool" = some false), (by decide +kernel : kitB "int" "str" = some false)⟩
  | str z hl ho => exact ⟨_, .base (.str z), (by decide +kernel : kitB "str" "int" = some false), (by decide +kernel : kitB "str" "bool" = some false), (by decide +kernel : kitB "str" "str" = some true)⟩
  | lst h hv => exact ⟨_, .base (.lst h), (by decide +kernel : kitB "list" "int" = some false), (by decide +kernel : kitB "list" "bool" = some false), (by decide +kernel : kitB "list" "str" = some false)⟩
  | tup h => exact ⟨_, .base (.tup h), (by decide +kernel : kitB "tuple" "int" = some false), (by decide +kernel : kitB "tuple" "bool" = some false), (by decide +kernel : kitB "tuple" "str" = some false)⟩
  | dct h => exact ⟨_, .base (.dK h), (by decide +kernel : kitB "dict" "int" = some false), (by decide +kernel : kitB "dict" "bool" = some false), (by decide +kernel : kitB "dict" "str" = some false)⟩
/-- whether it is a whole number from lo to hi -/
def whole (x : V) (lo hi : Int) : Bool := match x with
  | .int i => decide (lo ≤ i) && decide (i ≤ hi)
  | _ => false
def letters : Str := "abcdefghijklmnopqrstuvwxyz"
def nameT (z : Str) : Bool := decide (1 ≤ z.length) && decide (z.length ≤ 8) && z.cps.toList.all fun c => decide (c ∈ letters.cps.toList)
def nameV : V → Bool
  | .str z => nameT z
  | _ => false
def signOk (c : Nat) : Bool := decide (32 ≤ c) && decide (c ≤ 126) && !decide (c = 37)
def textT (z : Str) : Bool := decide (1 ≤ z.length) && decide (z.length ≤ 30) && !decide (z.cps.toList[0]? = some 32) && !decide (z.cps.toList.getLast? = some 32) && z.cps.toList.all signOk
def textV : V → Bool
  | .str z => textT z
  | _ => false
end Pk
/-! ### how many texts of a tuple are unlike: len(set(texts)) -/
namespace Pk
open PySem PyProof.Rows
/-- which of the first i there are, and how many unlike ones -/
def seen (zs : List Str) (i : Nat) (k : Str) : Bool := (zs.take i).any (· == k)
def unlike (zs : List Str) : Nat → Nat
  | 0 => 0
  | i + 1 => if seen zs i (zs.getD i Str.empty) = true then unlike zs i else unlike zs i + 1
theorem unlike_le (zs : List Str) : ∀ i, unlike zs i ≤ i
  | 0 => Nat.le_refl _
  | i + 1 => by
    have := unlike_le zs i
    unfold unlike
    split <;> omega
theorem seen_next {zs : List Str} {i : Nat} (h : i < zs.length) (k : Str) : (seen zs i k || decide (k = zs.getD i Str.empty)) = seen zs (i + 1) k := by
  unfold seen
  have e1 : zs.getD i Str.empty = zs[i] := by rw [List.getD_eq_getElem?_getD, List.getElem?_eq_getElem h]; rfl
  rw [List.take_add_one, List.getElem?_eq_getElem h, List.any_append, e1]
  show _ = (_ || ((zs[i] == k) || false))
  rw [Bool.or_false]
  congr 1
  by_cases e : k = zs[i]
  · rw [decide_eq_true e, e]
    exact (beq_self_eq_true _).symm
  · rw [decide_eq_false e]
    exact (beq_eq_false_iff_ne.mpr (fun q => e q.symm)).symm
section
variable {prog : Program} {w : World} {A : Around} {R : Result → Shared → Prop} {it : Addr} {fp wr : List Addr} {G : Array GenState → Array GenState → Prop} {n : Nat} {Pv : Nat → Value → Prop} {St : Nat → Shared → Prop}
theorem fill_texts (W : WalksS prog w A.in1 it fp wr G n Pv St) (b : Addr) (hb : b ∉ fp) (zs : List Str) (hz : zs.length = n) (room : n + 1 < scanBound)
    (hv : ∀ i v, Pv i v → ∃ t, v = .str (zs.getD i Str.empty) t) :
    ∀ (m i : Nat) (s : Shared), n - i = m → i ≤ n → St i s → s.heap.SetOf (PySem.strKind prog w) b (seen zs i) (unlike zs i) →
      (∀ s', Moved (b :: wr) G s s' → s'.heap.SetOf (PySem.strKind prog w) b (seen zs n) (unlike zs n) → R (.ok (.ret .none)) s') →
      codeAny (model prog w) A (.builtin "set.update.loop" ⟨[.ref b, .ref it], []⟩) R s := by
  have nw : b ∉ wr := fun h => hb (W.sub _ h)
  have up : ∀ c ∈ wr, c ∈ b :: wr := fun c hc => List.mem_cons_of_mem _ hc
  have keepS : ∀ {s s' : Shared} {i : Nat}, Moved wr G s s' → s.heap.SetOf (PySem.strKind prog w) b (seen zs i) (unlike zs i) → s'.heap.SetOf (PySem.strKind prog w) b (seen zs i) (unlike zs i) := fun mv hS => by
    obtain ⟨o, es, ep, t, ho, rest⟩ := hS
    exact ⟨o, es, ep, t, mv.heap b _ nw ho, rest⟩
  intro m
  induction m with
  | zero =>
    intro i s e1 e2 e3 e4 e5
    have e6 : i = n := by omega
    subst e6
    refine codeAny_builtin F.entry_set_update_loop ?_
    rw [Around.under_plainId F.plain_set_update_loop _]
    show wpAny _ A.in1 (pyNext (.ref it) >>= _) _ _ s
    refine wpAny_bind (W.done s _ _ e3 fun s' mv => ?_)
    show wpAny _ A.in1 (ret Value.none) _ _ s'
    exact wpAny_pure (e5 s' (mv.mono up) (keepS mv e4))
  | succ m ih =>
    intro i s e1 e2 e3 e4 e5
    have lt : i < n := by omega
    have li := unlike_le zs i
    refine codeAny_builtin F.entry_set_update_loop ?_
    rw [Around.under_plainId F.plain_set_update_loop _]
    show wpAny _ A.in1 (pyNext (.ref it) >>= _) _ _ s
    refine wpAny_bind (W.item i s _ _ lt e3 fun v s' pv st' mv => ?_)
    obtain ⟨t, rfl⟩ := hv i v pv
    have e7 : s'.heap.SetOf (PySem.strKind prog w) b (seen zs i) (unlike zs i) := keepS mv e4
    show wpAny _ A.in1 (holding [Value.str (zs.getD i Str.empty) t] (setAdd b (.str (zs.getD i Str.empty) t)) >>= _) _ _ s'
    refine wpAny_bind (wpAny_holding ?_)
    unfold setAdd
    refine wpAny_holding (wpAny_bind ((PySem.strKind prog w).pyHash (k := zs.getD i Str.empty) (strKind_is _ _ _ _) ?_))
    refine wpAny_setAddHashed_of (knd := PySem.strKind prog w) (s := { s' with toks := s'.toks + 1 }) (strKind_is _ _ _ _) rfl e7 (by omega) fun h' hsb hS2 => ?_
    have hSi : h'.SetOf (PySem.strKind prog w) b (seen zs (i + 1)) (unlike zs (i + 1)) :=
      SetOf_congr hS2 (fun k => seen_next (by omega) k) rfl
    refine wpAny_pure ⟨plainId_quiet F.plain_set_update_loop _, ih (i + 1) _ (by omega) lt (W.frame _ s' _ _ st' (Nat.le_succ _) fun c hc o e => ?_) hSi fun s'' mv2 hS3 => ?_⟩
    · rw [hsb.2 c (fun h : c = b => hb (h ▸ hc))]
      exact e
    · refine e5 s'' (Moved.trans W.gtrans ((mv.mono up).then_heap (Nat.le_succ _) fun c o hc e => ?_) mv2) hS3
      rw [hsb.2 c (fun h : c = b => hc (by rw [h]; exact List.mem_cons_self))]
      exact e
end

section
variable {prog : Program} {w : World} {A : Around} {E : Value → Shared → Prop} {s : Shared}
abbrev bare (d : Bool) : Obj := { cls := .type "set", dict := none, data := .set #[] 0 (.fresh 0 0 d) }
/-- set(texts), of a tuple of texts -/
theorem set_of_texts {l : Addr} {its : Array Value} {zs : List Str} {Q : Value → Shared → Prop} (hh : A.handled = none) (hl : s.heap.IsTuple l its) (hi : StrsAre its.toList zs) (room : zs.length + 1 < scanBound)
    (h : ∀ (h' : Heap) (tk : Nat), h'.SetOf (PySem.strKind prog w) s.heap.objs.size (seen zs zs.length) (unlike zs zs.length) →
      (∀ c o, c < s.heap.objs.size → s.heap.get? c = some o → h'.get? c = some o) → Q (.ref s.heap.objs.size) { s with heap := h', toks := tk }) :
    wpAny (model prog w) A (call (.type "set") [.ref l]) Q E s := by
  have hsz : zs.length = its.size := by rw [← StrsAre.len_eq hi, Array.length_toList]
  obtain ⟨c0, tl0, m0⟩ := PySem.F.called_set.mro
  have m1 := PySem.F.called_set.made
  have m2 := PySem.F.called_set.sub
  refine wpAny_call (codeAny_of_tree ?_)
  show wpAny _ _ (callAny (.type "set") _) _ _ _
  refine wpAny_pure ⟨Code.quiet_builtin _ (by decide +kernel), codeAny_builtin PySem.F.entry_type_call ?_⟩
  rw [Around.under_plain (weight_type_call_type "set" [.ref l] []) rfl]
  have m3 := PySem.F.called_set.notType
  have m4 := PySem.F.called_set.canCreate
  have m5 := PySem.F.typeCall_set_1 (.ref l)
  repeat (any_goals (first | assumption | wp_step))
  refine codeAny_mono (code_set_new_1 (.ref l) (E := E) (Q₁ := fun x s₁ => ∃ d : Bool, x = .ref s.heap.objs.size ∧ s₁ = { s with heap := s.heap.push (bare d) }) fun d => ⟨d, rfl, rfl⟩) fun r s₁ hr => ?_
  cases r with
  | error e => exact hr
  | ok fl =>
    cases fl with
    | ret x =>
      obtain ⟨d, rfl, rfl⟩ := hr
      have n1 : (s.heap.push (bare d)).get? s.heap.objs.size = some (bare d) := Heap.get?_push_size _ rfl
      have n2 : Shared.TypeIs { s with heap := s.heap.push (bare d) } (.ref s.heap.objs.size) "set" := ⟨_, n1, rfl⟩
      have n3 := PySem.F.called_set.init.lookup
      have n4 := PySem.F.called_set.init.bind (.ref s.heap.objs.size)
      repeat (any_goals (first | assumption | wp_step))
      refine codeAny_mono (codeAny_call_builtin (R := wants (fun r s₂ => r = .none ∧ ∃ h' tk, s₂ = { s with heap := h', toks := tk } ∧
          h'.SetOf (PySem.strKind prog w) s.heap.objs.size (seen zs zs.length) (unlike zs zs.length) ∧
          (∀ c o, c < s.heap.objs.size → s.heap.get? c = some o → h'.get? c = some o)) E) PySem.F.called_set.init.plain PySem.F.entry_set_init (check_set_init_1 n2 ?_)) fun r₂ s₂ hr₂ => ?_
      · obtain ⟨⟨oc, od, odt, osl⟩, hol, hcl, nl, hdl⟩ := hl
        simp only at hcl hdl
        subst hcl; subst hdl
        have k1 : (s.heap.push (bare d)).get? l = some { cls := .type "tuple", dict := od, data := .seq its nl, slots := osl } := Heap.get?_push_of_some _ hol
        have k2 := PySem.F.sub_tuple_set
        have k3 := PySem.F.sub_tuple_frozenset
        have k4 : (Value.type "tuple" == Value.type "dict") = false := by decide
        have k5 : (s.heap.push (bare d)).IsTuple l its := ⟨_, k1, rfl, nl, rfl⟩
        have k6 : l < s.heap.objs.size := Heap.lt_size hol
        unfold Builtin.«set.__init__» noKeywords Builtin.Frozenset.updateFrom
        generalize hPI : pyIter = PI
        wp_walk
        subst hPI
        refine wpAny_pyIter_tuple k5 ?_
        refine wpAny_bind (wpAny_runValue ?_)
        have k7 : l ≠ (s.heap.push (bare d)).objs.size := by
          rw [Heap.size_push]
          exact Nat.ne_of_lt (Nat.lt_succ_of_lt k6)
        have k8 : s.heap.objs.size ∉ [(s.heap.push (bare d)).objs.size, l] := by
          rw [Heap.size_push]
          intro q
          rcases List.mem_cons.mp q with q | q
          · exact absurd q (Nat.ne_of_lt (Nat.lt_succ_self _))
          · exact absurd (List.mem_singleton.mp q) (Nat.ne_of_gt k6)
        refine fill_texts ((Walks.tuple (by simp [hh]) _ l k7 its).toS) s.heap.objs.size k8 zs hsz (by omega)
          (fun i v hv => SS.strs_at hi i v (by rw [Array.getElem?_toList]; exact hv)) (its.size - 0) 0 _ (by omega) (Nat.zero_le _)
          ⟨⟨_, Heap.get?_push_size _ rfl, rfl, rfl⟩, k5.push _⟩ ?pk_s0 ?pk_s1
        case pk_s0 =>
          exact SetOf_congr ((setObjOf_fresh (knd := PySem.strKind prog w) d).setOf (Heap.get?_push_of_some _ n1) (by unfold scanBound; omega)) (fun _ => rfl) rfl
        case pk_s1 =>
          rintro ⟨h', g', d', tk', os'⟩ mv hS'
          obtain rfl : g' = s.gens := mv.gens
          obtain rfl : d' = s.drawn := mv.drawn
          obtain rfl : os' = s.os := mv.os
          show wpAny _ _ _ _ _ _
          refine wpAny_pure ?_
          show wpAny _ _ (ret Value.none) _ _ _
          refine wpAny_pure ⟨rfl, h', tk', rfl, by rw [hsz]; exact hS', fun c o hc e => ?_⟩
          refine mv.heap c o (fun q => ?_) (Heap.get?_push_of_some _ (Heap.get?_push_of_some _ e))
          rw [Heap.size_push] at q
          rcases List.mem_cons.mp q with q | q
          · exact absurd q (Nat.ne_of_lt hc)
          · exact absurd (List.mem_singleton.mp q) (Nat.ne_of_lt (Nat.lt_succ_of_lt hc))
      · cases r₂ with
        | error e => exact hr₂
        | ok fl₂ =>
          cases fl₂ with
          | ret r =>
            obtain ⟨rfl, h', tk, rfl, hS', hk'⟩ := hr₂
            repeat (any_goals (first | assumption | wp_step))
            exact h _ _ hS' hk'
          | _ => exact hr₂.elim
    | _ => exact hr.elim
end
end Pk
namespace Pk
open PySem PySem.Spec L2
/-- len(set(texts)) -/
def tLenTexts (K : PySem.W.Frag) (ta : TE) : TE := fun σ H Q => ta σ H fun x H1 => ∃ (l : Addr) (zs : List Str), x = .ref l ∧ SqT K H1 l (zs.map V.str) ∧ zs.length ≤ 1000 ∧ Q (.int (unlike zs zs.length : Nat)) H1
theorem pe_lenTexts {X : Cx} {a : Expr} {ta : TE} {p p2 q pos : Pos} (hg : Gl X "len") (hm : X.mg "len" = none) (hg2 : Gl X "set") (hm2 : X.mg "set" = none) (ha : PE X a ta) (hc : X.calm = true := by rfl)
    (na : starEach [a] X.env = (false, eval a X.env) :: starEach [] X.env := by rfl) : PE X (.Call (.Name "len" p) [.Call (.Name "set" p2) [a] [] q] [] pos) (tLenTexts X.K ta) := by
  constructor
  intro pins s σ H Q I h
  refine PyProof.Rows.Call_ (ld_blt I hg hm boot_len (PyProof.Rows.callWith_builtin1 (PyProof.Rows.args_cons ?_ rfl) rfl rfl))
  refine PyProof.Rows.Call_ (ld_blt I hg2 hm2 PyProof.Rows.boot_set ?_)
  refine PyProof.Rows.callWith_type1 (PyProof.Rows.args_cons (thn (ha.run pins s σ H _ I h) ?_) na) na rfl
  rintro v s1 ⟨x, H1, I1, r1, l, zs, rfl, hq, hl, q1⟩
  cases r1
  obtain ⟨its, r, pl, hz⟩ := I1.tuple hq
  refine PyProof.Rows.args_nil (set_of_texts (I1.ok.hd hc) pl (by simpa using strsAre_of r) (by unfold scanBound; omega) fun h' tk hS hk => PyProof.Rows.args_nil ?_)
  obtain ⟨o, es, ep, t, ho, hex, hd, _, _, _, hf, hn⟩ := hS
  have hu := unlike_le zs zs.length
  refine call_len_set ho hex hd hf (by rw [hn]; omega) ⟨.int (unlike zs zs.length : Nat), H1, (I1.kept fun c o e => hk c o (Heap.lt_size e) e).tok _, ⟨_, by rw [hn]⟩, q1⟩
end Pk
namespace Pk
open PySem L2
/-! ### things of any of the plain kinds -/
inductive Thg (H : Hp) : V → Prop
  | non : Thg H .non
  | bl (b : Bool) : Thg H (.bl b)
  | int (i : Int) : Thg H (.int i)
  | str (z : Str) (hl : z.length ≤ 1000) (ho : Sgn z) : Thg H (.str z)
  | lst {a : Addr} {vs : List V} (h : H a = some (.lst vs)) : Thg H (.ref a)
  | tup {a : Addr} {vs : List V} (h : H a = some (.tup vs)) : Thg H (.ref a)
  | dct {a : Addr} {kvs : List (Key × V)} (h : H a = some (.dK kvs)) : Thg H (.ref a)
theorem Thg.same {H H' : Hp} {x : V} (h : Thg H x) (s : Same H H') : Thg H' x := by
  cases h with
  | non => exact .non
  | bl b => exact .bl b
  | int i => exact .int i
  | str z hl ho => exact .str z hl ho
  | lst h => exact .lst (s _ _ h)
  | tup h => exact .tup (s _ _ h)
  | dct h => exact .dct (s _ _ h)
/-- the things of a tuple -/
def tupO : Option HO → Option (List V)
  | some (.tup vs) => some vs
  | _ => none
def tupV (H : Hp) : V → Option (List V)
  | .ref a => tupO (H a)
  | _ => none
theorem tupV_ref (H : Hp) (a : Addr) : tupV H (.ref a) = tupO (H a) := rfl
theorem tupV_at {H : Hp} {a : Addr} {vs : List V} (h : H a = some (.tup vs)) : tupV H (.ref a) = some vs := by
  rw [tupV_ref, h]
  rfl
theorem tupV_of {H : Hp} {x : V} {vs : List V} (h : tupV H x = some vs) : ∃ a, x = .ref a ∧ H a = some (.tup vs) := by
  cases x with
  | ref a =>
    rw [tupV_ref] at h
    refine ⟨a, rfl, ?_⟩
    generalize H a = o at h
    cases o with
    | none => cases h
    | some o =>
      cases o with
      | tup ws =>
        cases h
        rfl
      | _ => cases h
  | _ => cases h
theorem Thg.tupS {H H' : Hp} {x : V} (h : Thg H x) (s : Same H H') : tupV H' x = tupV H x := by
  cases h with
  | non => rfl
  | bl b => rfl
  | int i => rfl
  | str z hl ho => rfl
  | lst h =>
    have e := s _ _ h
    rw [tupV_ref, tupV_ref, h, e]
  | tup h => rw [tupV_at h, tupV_at (s _ _ h)]
  | dct h =>
    have e := s _ _ h
    rw [tupV_ref, tupV_ref, h, e]
theorem Thg.ty {K : PySem.W.Frag} {H : Hp} {x : V} (h : Thg H x) : ∃ t : String, TyX K H x (.type t) ∧ kitB t "int" = some (vInt x || vBool x) ∧ kitB t "bool" = some (vBool x) ∧ kitB t "str" = some (vStr x) ∧ kitB t "tuple" = some (tupV H x).isSome := by
  cases h with
  | non => exact ⟨_, .base .non, by decide +kernel, by decide +kernel, by decide +kernel, (by decide +kernel : kitB "NoneType" "tuple" = some false)⟩
  | bl b => exact ⟨_, .base (.bl b), (by decide +kernel : kitB "bool" "int" = some true), (by decide +kernel : kitB "bool" "bool" = some true), (by decide +kernel : kitB "bool" "str" = some false), (by decide +kernel : kitB "bool" "tuple" = some false)⟩
  | int i => exact ⟨_, .base (.int i), (by decide +kernel : kitB "int" "int" = some true), (by decide +kernel : kitB "int" "bool" = some false), (by decide +kernel : kitB "int" "str" = some false), (by decide +kernel : kitB "int" "tuple" = some false)⟩
  | str z hl ho => exact ⟨_, .base (.str z), (by decide +kernel : kitB "str" "int" = some false), (by decide +kernel : kitB "str" "bool" = some false), (by decide +kernel : kitB "str" "str" = some true), (by decide +kernel : kitB "str" "tuple" = some false)⟩
  | lst h =>
    refine ⟨_, .base (.lst h), (by decide +kernel : kitB "list" "int" = some false), (by decide +kernel : kitB "list" "bool" = some false), (by decide +kernel : kitB "list" "str" = some false), ?_⟩
    rw [tupV_ref, h]
    exact (by decide +kernel : kitB "list" "tuple" = some false)
  | tup h =>
    refine ⟨_, .base (.tup h), (by decide +kernel : kitB "tuple" "int" = some false), (by decide +kernel : kitB "tuple" "bool" = some false), (by decide +kernel : kitB "tuple" "str" = some false), ?_⟩
    rw [tupV_at h]
    exact (by decide +kernel : kitB "tuple" "tuple" = some true)
  | dct h =>
    refine ⟨_, .base (.dK h), (by decide +kernel : kitB "dict" "int" = some false), (by decide +kernel : kitB "dict" "bool" = some false), (by decide +kernel : kitB "dict" "str" = some false), ?_⟩
    rw [tupV_ref, h]
    exact (by decide +kernel : kitB "dict" "tuple" = some false)
def nameE (x : V) : Bool := nameV x || decide (x = .str "")
def strV : V → Str
  | .str z => z
  | _ => ""
/-- whether these things are two to six unlike texts -/
def answersL (vs : List V) : Bool := decide (2 ≤ vs.length) && decide (vs.length ≤ 6) && vs.all textV && decide (unlike (vs.map strV) vs.length = vs.length)
def answersV (H : Hp) (x : V) : Bool := match tupV H x with
  | some vs => answersL vs
  | none => false
theorem strs_of : ∀ {vs : List V}, vs.all textV = true → vs = (vs.map strV).map V.str
  | [], _ => rfl
  | v :: vs, h => by
    rw [List.all_cons, Bool.and_eq_true] at h
    obtain ⟨h1, h2⟩ := h
    rw [List.map_cons, List.map_cons, ← strs_of h2]
    congr 1
    cases v with
    | str z => rfl
    | _ => cases h1
end Pk
namespace Pk
open PySem L2
/-! ### how things are shown -/
theorem from_le : ∀ (ts : List Str) (k : Nat) (acc : Str), (textFrom k acc ts).length ≤ acc.length + (ts.map fun t => t.length + 2).sum
  | [], k, acc => by
    show acc.length ≤ _
    omega
  | t :: r, k, acc => by
    have h := from_le r (k + 1) (acc ++ (if k > 0 then ", " else "" : String) ++ t)
    rw [app_len, app_len] at h
    have h2 : ((if k > 0 then ", " else "" : String) : Str).length ≤ 2 := by
      split <;> decide +kernel
    rw [List.map_cons, List.sum_cons]
    have h3 : textFrom k acc (t :: r) = textFrom (k + 1) (acc ++ (if k > 0 then ", " else "" : String) ++ t) r := rfl
    rw [h3]
    omega
theorem list_le (ts : List Str) : (listText ts).length ≤ 2 + (ts.map fun t => t.length + 2).sum := by
  unfold listText
  rw [app_len, show ("]" : Str).length = 1 by decide +kernel]
  have := from_le ts 0 "["
  rw [show ("[" : Str).length = 1 by decide +kernel] at this
  omega
/-- fit to be shown -/
structure Shows (K : PySem.W.Frag) (H : Hp) (x : V) (d : PyData) : Prop where
  dq : Dq K H x d
  sh : d.showable = true
  dp : d.depth ≤ 64
  sz : d.shown.length ≤ sizeLine
theorem repr_le {z : Str} (hl : z.length ≤ 100) (ho : Sgn z) : (reprText z).length ≤ 1002 := by
  have h := StrLaws.reprText_len z fun c hc => by
    have := ho.ok c hc
    omega
  omega
theorem bools_le : ∀ bs : List Bool, ((PyData.shownAll (bs.map .bool)).map fun t => t.length + 2).sum ≤ 7 * bs.length
  | [] => Nat.le_refl _
  | b :: r => by
    have ih := bools_le r
    show ((PyData.shown (.bool b)).length + 2) + ((PyData.shownAll (r.map .bool)).map fun t => t.length + 2).sum ≤ 7 * (r.length + 1)
    have : (PyData.shown (.bool b)).length ≤ 5 := by
      cases b <;> decide +kernel
    omega
theorem bools_show : ∀ bs : List Bool, PyData.showableAll (bs.map .bool) = true
  | [] => by simp [PyData.showableAll]
  | b :: r => by simp [PyData.showableAll, PyData.showable, bools_show r]
theorem bools_depth : ∀ bs : List Bool, PyData.depthAll (bs.map .bool) = 0
  | [] => by simp [PyData.depthAll]
  | b :: r => by simp [PyData.depthAll, PyData.depth, bools_depth r]
theorem bools_dict : ∀ bs : List Bool, PyData.hasDictAll (bs.map .bool) = false
  | [] => by simp [PyData.hasDictAll]
  | b :: r => by simp [PyData.hasDictAll, PyData.hasDict, bools_dict r]
theorem bools_dp {K : PySem.W.Frag} {H : Hp} : ∀ bs : List Bool, DpAll K H (bs.map V.bl) (bs.map .bool)
  | [] => .nil
  | b :: r => .cons (.bl b) (bools_dp r)
/-- a list of truths -/
theorem shows_bools {K : PySem.W.Frag} {H : Hp} {p : Addr} (bs : List Bool) (h : H p = some (.lst (bs.map V.bl))) (n : bs.length ≤ 100) : Shows K H (.ref p) (.list (bs.map .bool)) where
  dq := .of (.lst (SqL.of h) (bools_dp bs)) (by simp [PyData.hasDict, bools_dict])
  sh := by simp [PyData.showable, bools_show]
  dp := by simp [PyData.depth, bools_depth]
  sz := by
    have h1 := list_le (PyData.shownAll (bs.map .bool))
    have h2 := bools_le bs
    have e : (PyData.list (bs.map .bool)).shown = listText (PyData.shownAll (bs.map .bool)) := by simp [PyData.shown]
    rw [e, sizeLine_eq]
    omega
theorem Itm.shows {K : PySem.W.Frag} {H : Hp} {x : V} (h : Itm H x) : ∃ d, Shows K H x d := by
  cases h with
  | non => exact ⟨.none, .of .non rfl, rfl, by decide, by decide +kernel⟩
  | bl b => exact ⟨.bool b, .of (.bl b) (by simp [PyData.hasDict]), by simp [PyData.showable], by simp [PyData.depth], by cases b <;> decide +kernel⟩
  | int i h =>
    refine ⟨.int i, .of (.int i) (by simp [PyData.hasDict]), decide_eq_true (by omega), by simp [PyData.depth], ?_⟩
    have e : (PyData.int i).shown = Str.ofString (toString i) := by simp [PyData.shown]
    rw [e]
    exact int_text_fits (by omega)
  | str z hl ho =>
    refine ⟨.str z, .of (.str z) (by simp [PyData.hasDict]), by simp [PyData.showable], by simp [PyData.depth], ?_⟩
    have e : (PyData.str z).shown = reprText z := by simp [PyData.shown]
    have := repr_le hl ho
    rw [e, sizeLine_eq]
    omega
  | @lst a v h hv =>
    rcases hv with rfl | ⟨z, rfl, hl, ho⟩
    · refine ⟨.list [.int 1], .of (.lst (SqL.of h) (.cons (.int 1) .nil)) (by simp [PyData.hasDict, PyData.hasDictAll]), by decide +kernel, by decide +kernel, by decide +kernel⟩
    · refine ⟨.list [.str z], .of (.lst (SqL.of h) (.cons (.str z) .nil)) (by simp [PyData.hasDict, PyData.hasDictAll]), by simp [PyData.showable, PyData.showableAll], by simp [PyData.depth, PyData.depthAll], ?_⟩
      have e : (PyData.list [.str z]).shown = listText [reprText z] := by simp [PyData.shown, PyData.shownAll]
      have h1 := list_le [reprText z]
      have h2 := repr_le hl ho
      rw [e, sizeLine_eq]
      simp at h1
      omega
  | tup h => exact ⟨.tuple [.int 1], .of (.tup (SqT.of h) (.cons (.int 1) .nil)) (by simp [PyData.hasDict, PyData.hasDictAll]), by decide +kernel, by decide +kernel, by decide +kernel⟩
  | dct h => exact ⟨.dict [], .emp h, by decide +kernel, by decide +kernel, by decide +kernel⟩
theorem Dq.same {K : PySem.W.Frag} {H H' : Hp} {x : V} {d : PyData} (s : Same H H') (h : Itm H x) (g : Shows K H x d) : True := trivial
end Pk
namespace Pk
open PySem L2
theorem room_show {k : Nat} {A : Around} (hr : Room k A) : A.units + 70 < cLine := by
  have := hr.un
  omega
/-- a reading that asks for more -/
theorem pe_imp {X : Cx} {e : Expr} {t : TE} (t' : TE) (h : PE X e t) (k : ∀ σ H Q, t' σ H Q → t σ H Q) : PE X e t' := ⟨fun pins s σ H Q I w => h.run pins s σ H Q I (k σ H Q w)⟩
/-- signs as texts -/
def sgnD (l : List Nat) : PyData := .list (l.map fun c => .str ⟨#[c]⟩)
theorem sgn_lay : ∀ l : List Nat, (∀ c ∈ l, c < 0x110000) → PyData.canLayAll0 (l.map fun c => .str ⟨#[c]⟩) = true
  | [], _ => by simp [PyData.canLayAll0]
  | c :: r, h => by
    have h1 : PyData.strOk ⟨#[c]⟩ = true := (sok_iff _).mpr fun d hd => by
      rw [List.mem_singleton.mp hd]
      exact h c List.mem_cons_self
    have h2 := sgn_lay r fun d hd => h d (List.mem_cons_of_mem _ hd)
    simp [PyData.canLayAll0, PyData.canLay0, h1, h2]
theorem sgn_depth : ∀ l : List Nat, PyData.depthAll (l.map fun c => .str ⟨#[c]⟩) = 0
  | [] => by simp [PyData.depthAll]
  | c :: r => by simp [PyData.depthAll, PyData.depth, sgn_depth r]
theorem sgn_shaped (l : List Nat) (h : ∀ c ∈ l, c < 0x110000) : SeqAt.shaped (sgnD l) = true := by
  unfold sgnD
  simp [SeqAt.shaped, PyData.canLay0, PyData.depth, sgn_lay l h, sgn_depth]
theorem sgn_dp {K : PySem.W.Frag} {H : Hp} {p : Addr} {l : List Nat} (h : H p = some (.lst (l.map fun c => V.str ⟨#[c]⟩))) : Dp K H (.ref p) (sgnD l) := by
  refine .lst (SqL.of h) ?_
  clear h
  induction l with
  | nil => exact .nil
  | cons c r ih => exact .cons (.str _) ih
theorem sgn_nil (l : List Nat) : PyData.eqv (sgnD l) (sgnD []) = decide (l = []) := by
  cases l with
  | nil => simp [sgnD, PyData.eqv, PyData.eqvAll]
  | cons c r => simp [sgnD, PyData.eqv, PyData.eqvAll]
theorem name_filter (z : Str) : nameT z = (decide (0 < z.length) && (decide (z.length < 9) && decide (z.cps.toList.filter (fun c => !decide (c ∈ letters.cps.toList)) = []))) := by
  unfold nameT
  have e : (z.cps.toList.all fun c => decide (c ∈ letters.cps.toList)) = decide (z.cps.toList.filter (fun c => !decide (c ∈ letters.cps.toList)) = []) := by
    rw [Bool.eq_iff_iff, List.all_eq_true, decide_eq_true_iff, List.filter_eq_nil_iff]
    constructor
    · intro h c hc
      rw [h c hc]
      decide
    · intro h c hc
      have := h c hc
      simpa using this
  rw [e]
  have e1 : decide (1 ≤ z.length) = decide (0 < z.length) := decide_eq_decide.mpr (by omega)
  have e2 : decide (z.length ≤ 8) = decide (z.length < 9) := decide_eq_decide.mpr (by omega)
  rw [e1, e2, Bool.and_assoc]
theorem sign_ten {z : Str} (ho : Sgn z) : z.cps.toList.all signOk = !decide (10 ∈ z.cps.toList) := by
  rw [Bool.eq_iff_iff, List.all_eq_true]
  constructor
  · intro h
    have : ¬ (10 ∈ z.cps.toList) := fun hm => by
      have := h 10 hm
      revert this
      decide
    rw [decide_eq_false this]
    rfl
  · intro h c hc
    have hn : ¬ (10 ∈ z.cps.toList) := by
      intro hm
      rw [decide_eq_true hm] at h
      cases h
    rcases ho c hc with q | q
    · unfold signOk
      rw [decide_eq_true q.1, decide_eq_true q.2.1, decide_eq_false q.2.2]
      rfl
    · rw [q] at hc
      exact absurd hc hn
theorem text_law {z : Str} (ho : Sgn z) : textT z = ((decide (0 < z.length) && (decide (z.length < 31) && !decide (10 ∈ z.cps.toList))) && (!decide (z.cps.toList[0]? = some 32) && !decide (z.cps.toList.getLast? = some 32))) := by
  unfold textT
  rw [sign_ten ho]
  have e1 : decide (1 ≤ z.length) = decide (0 < z.length) := decide_eq_decide.mpr (by omega)
  have e2 : decide (z.length ≤ 30) = decide (z.length < 31) := decide_eq_decide.mpr (by omega)
  rw [e1, e2]
  cases decide (0 < z.length) <;> cases decide (z.length < 31) <;> cases decide (10 ∈ z.cps.toList) <;> cases decide (z.cps.toList[0]? = some 32) <;> cases decide (z.cps.toList.getLast? = some 32) <;> rfl

theorem one_blank (c : Nat) : decide (V.str ⟨#[c]⟩ = V.str " ") = decide (c = 32) := decide_eq_decide.mpr ⟨fun z => by
  have e := congrArg TL.tl (V.str.inj z)
  rw [blank_tl] at e
  exact (List.cons.inj e).1, fun z => by rw [z]; exact congrArg V.str (by decide +kernel)⟩
theorem last_at {l : List Nat} (h : l ≠ []) : atI l (-1) = some (l.getLast h) :=
  (congrArg (fun x => atI x (-1)) (List.dropLast_concat_getLast h).symm).trans (atI_last _ _)
end Pk
namespace Pk
open PySem L2
/-! ### a text without blanks at its ends -/
theorem strip_is (x : Str) : ∃ lo hi, lo ≤ hi ∧ hi ≤ x.length ∧ (Txt.stripChars x " ").cps.toList = (x.cps.toList.drop lo).take (hi - lo) ∧ (lo = hi ∨ (x.cps.getD lo 0 ≠ 32 ∧ x.cps.getD (hi - 1) 0 ≠ 32)) := by
  have e : Txt.stripChars x " " = Txt.stripBy (" " : Str).cps.contains true true x := rfl
  obtain ⟨a1, a2, a3⟩ := PyProof.Rows.lo_facts (" " : Str).cps.contains x
  obtain ⟨b1, b2, b3, b4⟩ := PyProof.Rows.hi_facts (" " : Str).cps.contains x _ a1
  have no : ∀ c : Nat, (" " : Str).cps.contains c = false → c ≠ 32 := fun c h z => by
    rw [z] at h
    revert h
    decide +kernel
  rw [PyProof.Rows.stripBy_eq] at e
  refine ⟨_, _, b1, b2, ?_, ?_⟩
  · rw [e]
    show (x.cps.extract _ _).toList = _
    rw [Array.toList_extract]
  · rcases b4 with h | h
    · exact .inl h.symm
    · rcases a3 with g | g
      · exact .inl (by omega)
      · exact .inr ⟨no _ g, no _ h⟩
theorem getD_at {x : Str} {k : Nat} (h : k < x.length) : x.cps.toList[k]? = some (x.cps.getD k 0) := by
  have h' : k < x.cps.toList.length := by rw [← len_is]; exact h
  rw [← PyProof.Rows.getD_list, List.getD_eq_getElem?_getD, List.getElem?_eq_getElem h']
  rfl
/-- such a text of good signs is a TEXT, unless nothing is left -/
theorem strip_text {x : Str} (hl : x.length ≤ 30) (hs : ∀ c ∈ x.cps.toList, signOk c = true) (hn : Txt.stripChars x " " ≠ "") : textT (Txt.stripChars x " ") = true := by
  obtain ⟨lo, hi, h1, h2, e, h3⟩ := strip_is x
  have ll : x.cps.toList.length = x.length := (len_is x).symm
  have hlen : (Txt.stripChars x " ").length = hi - lo := by
    rw [len_is, e, List.length_take, List.length_drop, ll]
    omega
  have ne : lo ≠ hi := fun z => hn (TL.ext_tl (by
    rw [empty_tl]
    show (Txt.stripChars x " ").cps.toList = []
    rw [e, z, Nat.sub_self, List.take_zero]))
  obtain ⟨c1, c2⟩ := h3.resolve_left ne
  have g0 : (Txt.stripChars x " ").cps.toList[0]? = some (x.cps.getD lo 0) := by
    rw [e, List.getElem?_take, if_pos (by omega), List.getElem?_drop, Nat.add_zero]
    exact getD_at (by omega)
  have gl : (Txt.stripChars x " ").cps.toList.getLast? = some (x.cps.getD (hi - 1) 0) := by
    rw [List.getLast?_eq_getElem?, ← len_is, hlen, e, List.getElem?_take, if_pos (by omega), List.getElem?_drop, show lo + (hi - lo - 1) = hi - 1 by omega]
    exact getD_at (by omega)
  have al : (Txt.stripChars x " ").cps.toList.all signOk = true := List.all_eq_true.mpr fun c hc => by
    rw [e] at hc
    exact hs c (List.mem_of_mem_drop (List.mem_of_mem_take hc))
  unfold textT
  rw [g0, gl, al, hlen, decide_eq_true (show 1 ≤ hi - lo by omega), decide_eq_true (show hi - lo ≤ 30 by omega), decide_eq_false (fun z => c1 (Option.some.inj z)), decide_eq_false (fun z => c2 (Option.some.inj z))]
  rfl
/-- signs one by one, put together -/
theorem joins_of {p : Nat → Prop} {ys : List Str} (h : ∀ y ∈ ys, ∃ c, y = ⟨#[c]⟩ ∧ p c) : (Txt.join "" ys).length = ys.length ∧ ∀ c ∈ (Txt.join "" ys).cps.toList, p c := by
  constructor
  · rw [join0_len]
    induction ys with
    | nil => rfl
    | cons y r ih =>
      obtain ⟨c, rfl, _⟩ := h y List.mem_cons_self
      rw [List.map_cons, List.sum_cons, ih fun x hx => h x (List.mem_cons_of_mem _ hx), List.length_cons]
      show 1 + _ = _
      omega
  · intro c hc
    rw [show (Txt.join "" ys).cps.toList = TL.joinL (TL.tl "") (ys.map TL.tl) from by rw [TL.join_eq]; exact TL.tl_join "" ys, empty_tl] at hc
    obtain ⟨q, hq, hm⟩ := joinL_mem _ hc
    obtain ⟨y, hy, rfl⟩ := List.mem_map.mp hq
    obtain ⟨d, rfl, hd⟩ := h y hy
    have : c = d := List.mem_singleton.mp hm
    rw [this]
    exact hd
end Pk
namespace Pk
open PySem L2
theorem iteF' {p : Prop} [Decidable p] {a b : Prop} (h : ¬ p) (k : b) : if p then a else b := by
  rw [if_neg h]
  exact k
theorem iteT' {p : Prop} [Decidable p] {a b : Prop} (h : p) (k : a) : if p then a else b := by
  rw [if_pos h]
  exact k
theorem upd_upd {H : Hp} {a : Addr} {o o' : HO} : upd (upd H a o) a o' = upd H a o' := by
  funext b
  unfold upd
  by_cases h : b = a
  · rw [if_pos h, if_pos h]
  · rw [if_neg h, if_neg h, if_neg h]
theorem wipe1 {σ : St} {j : Nat} : wipe σ [j] = σ.set j none := by
  first | rfl | simp [wipe]
theorem wipe_set {σ : St} {j : Nat} {v : Option V} : wipe ((wipe σ [j]).set j v) [j] = wipe σ [j] := by
  rw [wipe1, wipe1, List.set_set, List.set_set]
theorem set_at {σ : St} {j : Nat} {v : Option V} (h : j < σ.length) : ((wipe σ [j]).set j v)[j]? = some v := by
  rw [wipe1, List.set_set]
  exact List.getElem?_set_self h
theorem ps_imp {X : Cx} {st : Stmt} {t : TS} (t' : TS) (h : PS X st t) (k : ∀ D σ H, t' D σ H → t D σ H) : PS X st t' := ⟨fun pins s σ H D I w => h.run pins s σ H D I (k D σ H w)⟩
theorem pss_imp {X : Cx} {st : List Stmt} {t : TS} (t' : TS) (h : PSs X st t) (k : ∀ D σ H, t' D σ H → t D σ H) : PSs X st t' := ⟨fun pins s σ H D I w => h.run pins s σ H D I (k D σ H w)⟩
theorem pt_imp {X : Cx} {e : Expr} {t : TT} (t' : TT) (h : PT X e t) (k : ∀ σ H Q, t' σ H Q → t σ H Q) : PT X e t' := ⟨fun pins s σ H Q I w => h.run pins s σ H Q I (k σ H Q w)⟩
/-- len of any list or tuple that is read, its question by name -/
def rLenQ (K : PySem.W.Frag) : List V → Hp → VK → Prop := fun xs H Q => ∃ p ys, xs = [.ref p] ∧ (SqL K H p ys ∨ SqT K H p ys) ∧ Q (.int ys.length) H
theorem call_lenQ {X : Cx} : CallR X (.builtin "len") (rLenQ X.K) := call_len_seq
/-- two objects of unlike kinds stand apart -/
theorem apart {H : Hp} {p q : Addr} {o u : HO} (h1 : H p = some o) (h2 : H q = some u) (n : o ≠ u) : p ≠ q := fun e => by
  rw [e, h2] at h1
  exact n (Option.some.inj h1).symm
theorem getD_map {α β : Type} {f : α → β} {l : List α} {i : Nat} {y : β} (h : (l.map f)[i]? = some y) : ∃ x, l[i]? = some x ∧ y = f x := by
  rw [List.getElem?_map] at h
  cases e : l[i]? with
  | none => rw [e] at h; cases h
  | some x => rw [e] at h; exact ⟨x, rfl, (Option.some.inj h).symm⟩
end Pk
namespace Pk
open PySem L2
/-! ### names, of letters -/
theorem letters_len : letters.cps.toList.length = 26 := by decide +kernel
theorem letters_sign : ∀ c ∈ letters.cps.toList, signOk c = true := fun c hc => List.all_eq_true.mp (by decide +kernel : letters.cps.toList.all signOk = true) c hc
theorem letters_nd : letters.cps.toList.Nodup := by decide +kernel
theorem sign_sgn {c : Nat} (h : signOk c = true) : 32 ≤ c ∧ c ≤ 126 ∧ c ≠ 37 := by
  unfold signOk at h
  simp at h
  omega
theorem name_len {z : Str} (h : nameT z = true) : 1 ≤ z.length ∧ z.length ≤ 8 := by
  unfold nameT at h
  simp only [Bool.and_eq_true, decide_eq_true_iff] at h
  exact h.1
theorem name_sgn {z : Str} (h : nameT z = true) : Sgn z := by
  unfold nameT at h
  simp only [Bool.and_eq_true, decide_eq_true_iff, List.all_eq_true] at h
  exact fun c hc => .inl (sign_sgn (letters_sign c (h.2 c hc)))
theorem name_thg {H : Hp} {z : Str} (h : nameT z = true) : Thg H (.str z) := .str z (by have := (name_len h).2; omega) (name_sgn h)
theorem name_of {z : Str} (h1 : 1 ≤ z.length) (h8 : z.length ≤ 8) (h : ∀ c ∈ z.cps.toList, c ∈ letters.cps.toList) : nameT z = true := by
  unfold nameT
  simp only [Bool.and_eq_true, decide_eq_true_iff, List.all_eq_true]
  exact ⟨⟨h1, h8⟩, h⟩
theorem cutS_lo {z : Str} {i : Int} (i0 : 0 ≤ i) : TL.tl (cutS z none (some i)) = (TL.tl z).take i.toNat := by
  obtain ⟨k, rfl⟩ := Int.eq_ofNat_of_zero_le i0
  show ((z.cps.toList.drop 0).take (HT.sIx z.length z.length (some (k : Int)) - 0)) = _
  rw [show HT.sIx z.length z.length (some (k : Int)) = min k z.length from HT.sIx_nat _ _ _, List.drop_zero, Nat.sub_zero, Int.toNat_natCast, List.take_eq_take_iff, ← len_is]
  omega
theorem cutS_hi {z : Str} {i : Int} (i0 : 0 ≤ i) : TL.tl (cutS z (some i) none) = (TL.tl z).drop i.toNat := by
  obtain ⟨k, rfl⟩ := Int.eq_ofNat_of_zero_le i0
  have e : z.length = (TL.tl z).length := TL.len_tl z
  show ((z.cps.toList.drop (HT.sIx z.length 0 (some (k : Int)))).take (z.length - HT.sIx z.length 0 (some (k : Int)))) = _
  rw [show HT.sIx z.length 0 (some (k : Int)) = min k z.length from HT.sIx_nat _ _ _, Int.toNat_natCast]
  show ((TL.tl z).drop (min k z.length)).take (z.length - min k z.length) = _
  rw [List.take_of_length_le (by rw [List.length_drop]; omega)]
  by_cases h : k ≤ z.length
  · rw [Nat.min_eq_left h]
  · rw [Nat.min_eq_right (by omega), List.drop_of_length_le (by omega), List.drop_of_length_le (by omega)]
end Pk
namespace Pk
open PySem L2
/-! ### calls with keywords, of defs with defaults -/
section
variable {K : PySem.W.Frag} {x qual : Str} {params : Arguments} {body : List Stmt} {scope : Scope} {dvs : List V} {f : Addr} {fd : FuncData} {ps : List Str}
theorem kbnD (F : FunD K x qual params body scope dvs [] f fd) (n : Nat) (ks : List Str) (g : {α : Type} → List α → List α → List α → List α) (hd : dvs ≠ [])
    (hrel : ∀ {vs ds zs : List V} {us its ws : List Value}, Vals vs us → Vals ds its → Vals zs ws → Vals (g vs ds zs) (g us its ws))
    (h : ∀ (T : Addr) (kV doc pm : Value) (an : Option Addr) (cdv ct : Value) (us its ws : List Value), us.length = n → its.length = dvs.length → ws.length = ks.length →
      ∃ k, bindArgs (PySem.W.fnOf x qual params body scope (.ref T) kV doc pm an cdv ct) ⟨us, ks.zip ws⟩ = seqItems? (.ref T) >>= k ∧ k (some its.toArray) = pure (ps.zip (g us its ws))) :
    ∃ its : List Value, KBn K fd ps n ks (fun us ws => g us its ws) (fun vs zs => g vs dvs zs) := by
  obtain ⟨oc, od, dV, kV, doc, pm, an, cdv, ct, osl, rfl, lk, hcd, hD, hK⟩ := F.ex
  rcases hD with ⟨e, _⟩ | ⟨_, T, o, its, m, rfl, lT, oT, rT⟩
  · exact absurd e hd
  · refine ⟨its, ⟨fun s us ws X l1 l2 => ?_, fun r1 r2 => hrel r1 rT r2⟩⟩
    obtain ⟨k, e1, e2⟩ := h T kV doc pm an cdv ct us its ws l1 rT.length.symm l2
    refine BindsTo.of_looks fun M => ?_
    rw [e1]
    exact looks_items X lT oT (.of_pure e2)
end
section
variable {X : Cx} {CX : CXT} {k : Nat} {f : Addr} {fd : FuncData} {ps ks : List Str} {sp : Sp} {E : XK} {x : Str} {p pos : Pos} {kws : List Keyword} {tk : TA} {g : List Value → List Value → List Value} {gV : List V → List V → List V}
theorem pe_callN0 (F : FnOk X.prog X.w X.K X.mg X.base CX k f fd ps sp) (hr : Room k X.A) (hg : Gl X x) (hm : X.mg x = some (.ref f)) (hk : PySem.W.keepIn X.K (.ref f) = true) (hb : KBn X.K fd ps 0 ks g gV) (hx : Passes CX X E)
    (hkw : PK X kws tk) (hall : (backToKw pos (keywordEach kws X.env)).all (·.1.isSome) = true := by rfl) (hks : (backToKw pos (keywordEach kws X.env)).filterMap (·.1) = ks := by rfl) (hdb : (x == ("__debug__" : Str)) = false := by decide)
    (hpl : ((backTo pos (starEach [] X.env)).any (·.1) || (backToKw pos (keywordEach kws X.env)).any (·.1.isNone)) = false := by rfl) :
    PE X (.Call (.Name x p) [] kws pos) (tCallN 0 ks.length sp gV E tNil tk) := by
  constructor
  intro pins s σ H Q I h
  refine wpAny_Call_Name_kw (ld_glob I hg hm ?_ hdb)
  refine PySem.W.callWith_KW0 (h₀ := X.base) I.ok.mod.kin hk hall (thn (hkw.run pos pins s σ H _ I h) ?_) hpl
  rintro ws s2 ⟨zs, H2, I2, rz, l1, l2, q2⟩
  refine ⟨I2.kIn, ?_⟩
  rw [hks]
  exact run_fnN (us := []) (vs := []) F hr hb hx I2 .nil rz l1 l2 q2
theorem pe_callK0 (F : FnOk X.prog X.w X.K X.mg X.base CX k f fd ps sp) (hr : Room k X.A) (hg : Gl X x) (hm : X.mg x = some (.ref f)) (hk : PySem.W.keepIn X.K (.ref f) = true) (hb : KBinds X.K fd ps ks g gV) (hx : Passes CX X E)
    (hkw : PK X kws tk) (hall : (backToKw pos (keywordEach kws X.env)).all (·.1.isSome) = true := by rfl) (hks : (backToKw pos (keywordEach kws X.env)).filterMap (·.1) = ks := by rfl) (hdb : (x == ("__debug__" : Str)) = false := by decide)
    (hpl : ((backTo pos (starEach [] X.env)).any (·.1) || (backToKw pos (keywordEach kws X.env)).any (·.1.isNone)) = false := by rfl) :
    PE X (.Call (.Name x p) [] kws pos) (tCallK sp gV E tNil tk) := by
  constructor
  intro pins s σ H Q I h
  refine wpAny_Call_Name_kw (ld_glob I hg hm ?_ hdb)
  refine PySem.W.callWith_KW0 (h₀ := X.base) I.ok.mod.kin hk hall (thn (hkw.run pos pins s σ H _ I h) ?_) hpl
  rintro ws s2 ⟨zs, H2, I2, rz, q2⟩
  refine ⟨I2.kIn, ?_⟩
  rw [hks]
  exact run_fnk (us := []) (vs := []) F hr hb hx I2 .nil rz q2
/-- a def of one parameter, called by its name or by place -/
theorem kbinds_one {K : PySem.W.Frag} {nm ql pr : Str} {st : Stmt} {f : Addr} {fd : FuncData} (F : Fun K nm ql st f fd)
    (h1 : ∀ (kV doc pm : Value) (an : Option Addr) (cdv ct u : Value), bindArgs (PySem.W.fnOf nm ql (defArgs st) (defBody st) (defScope st) .none kV doc pm an cdv ct) ⟨[], [(pr, u)]⟩ = pure [(pr, u)])
    (h2 : ∀ (kV doc pm : Value) (an : Option Addr) (cdv ct u : Value), bindArgs (PySem.W.fnOf nm ql (defArgs st) (defBody st) (defScope st) .none kV doc pm an cdv ct) ⟨[u], []⟩ = pure [(pr, u)]) :
    KBinds K fd [pr] [pr] (fun us ws => us ++ ws) (fun vs zs => vs ++ zs) := by
  obtain ⟨oc, od, kV, doc, pm, an, cdv, ct, osl, rfl, lk, hcd⟩ := F.ex
  exact ⟨fun s us ws _ hl => match us, ws, hl with
    | [], [u], _ => .of_eq (h1 kV doc pm an cdv ct u)
    | [u], [], _ => .of_eq (h2 kV doc pm an cdv ct u), fun r1 r2 => r1.append r2⟩
end
end Pk
namespace Pk
open PySem PySem.Spec L2
/-! ### own ==, whatever it tells -/
section
variable {X : Cx} {k : Nat} {C f : Addr} {fd : FuncData} {ps : List Str} {sp : Sp}
/-- x == y, x of the class C whose __eq__ is f, y of the type tb -/
def rEqO (K : PySem.W.Frag) (C : Addr) (sp : Sp) : R2 := fun x y H Q => ∃ (a dx : Addr) (fs : List (Str × V)) (tb : Value), x = .ref a ∧ H a = some (.ins C dx fs) ∧ TyX K H y tb ∧ PySem.W.notFirst K C tb = true ∧ sp [.ref a, y] H (fun v H' => (∃ b, v = .bl b) ∧ Q v H') E0
theorem op_eqO (F : FnOk X.prog X.w X.K X.mg X.base CX0 k f fd ["self", "other"] sp) (hr : Room k X.A) (hs : PySem.W.findIn X.K (.ref C) "__eq__" = some (some (.ref f))) (hf : PySem.W.isFn X.K (.ref f) = true) (hb : Binds X.K fd ["self", "other"] []) : OpR X (compareOp .Eq) (rEqO X.K C sp) := by
  rintro pins s σ H x y v u Q I rx ry ⟨a, dx, fs, tb, rfl, ha, ty, hn, h⟩
  cases (show v = Value.ref a from rx)
  show wpAny (model X.prog X.w) X.A (richCompare .Eq (.ref a) u) (EP X pins σ Q) X.xe s
  obtain ⟨mA, J, _⟩ := ins_get I.hok ha
  obtain ⟨od, J, _⟩ := J.look
  obtain ⟨m, hF⟩ := I.fr
  obtain ⟨Pz, Z, p, -⟩ := kit_of I ry ty
  refine PySem.W.cmp_K (op := .Eq) (tb := tb) hr.units0 hF I.ok.mod.kin J (Z.ty _ _ I.kIn p) hn hs hf ?_
  refine wpAny_call (codeAny_mono (F.run X.A X.stack s H ⟨[.ref a, u], []⟩ [.ref a, u] [.ref a, y] _ E0 hr I.env0 (hb s [.ref a, u] I.kIn rfl) (.cons rfl (.cons ry .nil)) h) fun r s' hq => ?_)
  match r, hq with
  | .error e, hq => exact hq.elim
  | .ok .next, hq => exact hq.elim
  | .ok .brk, hq => exact hq.elim
  | .ok .cont, hq => exact hq.elim
  | .ok (.ret z), hq =>
    obtain ⟨v, H2, I2, rv, ⟨b, rfl⟩, q2⟩ := I.after hq
    cases rv
    exact ⟨.bl b, H2, I2, rfl, q2⟩
end
namespace OwnNe
open PyProof.Rows PySem.SeqAt
section
variable {M : Model} {prog : Program} {w : World} {A : Around} {E : Value → Shared → Prop} {s : Shared} {K : PySem.W.Frag} {x C f : Addr} {ox : Obj} {od : Option Obj} {b tb : Value}
theorem ifBound_objNe {args : List Value} {Q : Option Value → Shared → Prop} (X : K.In s.heap) (I : PySem.W.InstAt s.heap x ox C od) (hs : PySem.W.findIn K (.ref C) "__ne__" = some (some (.builtin "object.__ne__")))
    (h : wpAny M A (call (.builtin "object.__ne__") (.ref x :: args)) (fun v => Q (some v)) E s) : wpAny M A (callSpecialIfBound? (.ref x) "__ne__" args) Q E s := by
  simp only [callSpecialIfBound?, bindSpecialIfBound?]
  refine wpAny_holding (wpAny_bind (wpAny_bind (wpAny_bind (I.type.here ((PySem.W.looks_findIn X hs).here ?_)))))
  refine wpAny_bind (wpAny_askSetting (wpAny_ite ?_))
  have fin : wpAny M A (call (.builtin "object.__ne__") ([.ref x] ++ args) >>= fun v => pure (some v)) Q E s := wpAny_bind (wpAny_mono h (fun v s' h' => wpAny_pure h') fun _ _ h' => h')
  split
  · exact wpAny_bind (wpAny_of_eq (F.cmp_object.ne.bind _) (wpAny_pure (by exact fin)))
  · exact wpAny_tryCatch (wpAny_bind (wpAny_of_eq (F.cmp_object.ne.bind _) (wpAny_pure (by exact fin))))
theorem entry_ne (X : K.In s.heap) (I : PySem.W.InstAt s.heap x ox C od) (he : PySem.W.findIn K (.ref C) "__eq__" = some (some (.ref f))) (hf : PySem.W.isFn K (.ref f) = true) (hu : A.units < cLine) {Q : Fin → Shared → Prop}
    (hcall : wpAny (model prog w) A (call (.ref f) [.ref x, b]) (fun v s' => ∃ r, v = .bool r ∧ Q (.done (.ret (.bool (!r)))) s') E s) : wpAny (model prog w) A (Builtin.«object.__ne__» ⟨[.ref x, b], []⟩) Q E s := by
  unfold Builtin.«object.__ne__»
  repeat (first
    | with_reducible refine wpAny_cRoomFor hu ?_
    | (refine wpAny_bind (m := callSpecialIfBound? (.ref x) (Str.ofString "__eq__") [b])
        (PySem.W.ifBound_K X I he hf (wpAny_mono hcall (fun r s' hr => by
          obtain ⟨b, rfl, hq⟩ := hr
          repeat (first | exact hq | exact wpAny_pure hq | exact wpAny_truthy_bool hq | (refine wpAny_bind (m := truthy (.bool _)) (wpAny_truthy_bool ?_)) | wp_step)) fun _ _ e => e)))
    | wp_step)
theorem rc_ne (X : K.In s.heap) (I : PySem.W.InstAt s.heap x ox C od) (hb : PySem.W.Looks (model prog w) s.heap (typeOf b) tb) (hn : PySem.W.notFirst K C tb = true) (hs : PySem.W.findIn K (.ref C) "__ne__" = some (some (.builtin "object.__ne__")))
    (hm : PySem.W.mroIn K C (.type "object") = some true) (he : PySem.W.findIn K (.ref C) "__eq__" = some (some (.ref f))) (hf : PySem.W.isFn K (.ref f) = true) (hu : A.units + 1 < cLine) {Q : Value → Shared → Prop}
    (hcall : wpAny (model prog w) A.in1 (call (.ref f) [.ref x, b]) (fun v s' => ∃ r, v = .bool r ∧ Q (.bool (!r)) s') E s) : wpAny (model prog w) A (richCompare .NotEq (.ref x) b) Q E s := by
  have one : wpAny (model prog w) A (tryCompare (.ref x) "__ne__" b) (fun r s' => ∃ v, r = some v ∧ Q v s') E s := by
    unfold tryCompare
    refine wpAny_bind (ifBound_objNe X I hs (wpAny_call (codeAny_call_builtin F.cmp_object.ne.plain F.cmpEntry_ne (PySem.W.check_slot F.cmpKind_ne F.cmpSplit_ne (I.type.andThen (PySem.W.looks_mroIn X hm)) (F.cmpArgs_ne _ _) (entry_ne (A := A.in1) X I he hf hu (wpAny_mono hcall (fun v s' hv => ?_) fun _ _ e => e))))))
    obtain ⟨r, rfl, hq⟩ := hv
    first | exact ⟨r, rfl, wpAny_pure ⟨_, rfl, hq⟩⟩ | exact ⟨r, rfl, ⟨_, rfl, hq⟩⟩
  unfold richCompare
  simp only [oneThing_ref]
  refine wpAny_holding (wpAny_bind (wpAny_cRoomFor (Nat.lt_of_succ_lt hu) ?_))
  refine wpAny_bind (I.type.here (wpAny_bind (hb.here ?_)))
  split
  · rename_i q
    have e : PySem.W.subIn K tb (.ref C) = some false := by
      rcases Bool.or_eq_true_iff.mp hn with e | e
      · rw [beq_iff_eq.mp e] at q; simp at q
      · exact beq_iff_eq.mp e
    refine wpAny_bind ((PySem.W.looks_subIn X e).here ?_)
    simp only [Bool.false_eq_true, if_false]
    refine wpAny_bind (wpAny_mono one (fun r s' z => ?_) fun _ _ e => e)
    obtain ⟨v, rfl, hq⟩ := z
    exact wpAny_pure hq
  · refine wpAny_bind (wpAny_pure ?_)
    simp only [Bool.false_eq_true, if_false]
    refine wpAny_bind (wpAny_mono one (fun r s' z => ?_) fun _ _ e => e)
    obtain ⟨v, rfl, hq⟩ := z
    exact wpAny_pure hq
end
end OwnNe
section
variable {X : Cx} {k : Nat} {C f : Addr} {fd : FuncData} {sp : Sp}
/-- x != y, x of the class C whose __eq__ is f, without an __ne__ of its own -/
def rNeO (K : PySem.W.Frag) (C : Addr) (sp : Sp) : R2 := fun x y H Q => ∃ (a dx : Addr) (fs : List (Str × V)) (tb : Value), x = .ref a ∧ H a = some (.ins C dx fs) ∧ TyX K H y tb ∧ PySem.W.notFirst K C tb = true ∧ sp [.ref a, y] H (fun v H' => ∃ b, v = .bl b ∧ Q (.bl (!b)) H') E0
theorem op_neO (F : FnOk X.prog X.w X.K X.mg X.base CX0 k f fd ["self", "other"] sp) (hr : Room (k + 1) X.A) (hs : PySem.W.findIn X.K (.ref C) "__eq__" = some (some (.ref f))) (hne : PySem.W.findIn X.K (.ref C) "__ne__" = some (some (.builtin "object.__ne__"))) (hm : PySem.W.mroIn X.K C (.type "object") = some true) (hf : PySem.W.isFn X.K (.ref f) = true) (hb : Binds X.K fd ["self", "other"] []) : OpR X (compareOp .NotEq) (rNeO X.K C sp) := by
  rintro pins s σ H x y v u Q I rx ry ⟨a, dx, fs, tb, rfl, ha, ty, hn, h⟩
  cases (show v = Value.ref a from rx)
  show wpAny (model X.prog X.w) X.A (richCompare .NotEq (.ref a) u) (EP X pins σ Q) X.xe s
  obtain ⟨mA, J, _⟩ := ins_get I.hok ha
  obtain ⟨od, J, _⟩ := J.look
  obtain ⟨Pz, Z, p, -⟩ := kit_of I ry ty
  have hu : X.A.units + 1 < cLine := hr.in1.units0
  refine OwnNe.rc_ne (tb := tb) I.kIn J (Z.ty _ _ I.kIn p) hn hne hm hs hf hu ?_
  refine wpAny_call (codeAny_mono (F.run X.A.in1 X.stack s H ⟨[.ref a, u], []⟩ [.ref a, u] [.ref a, y] _ E0 hr.in1 I.env0.in1 (hb s [.ref a, u] I.kIn rfl) (.cons rfl (.cons ry .nil)) h) fun r s' hq => ?_)
  match r, hq with
  | .error e, hq => exact hq.elim
  | .ok .next, hq => exact hq.elim
  | .ok .brk, hq => exact hq.elim
  | .ok .cont, hq => exact hq.elim
  | .ok (.ret z), hq =>
    obtain ⟨v, H2, I2, rv, b, rfl, q2⟩ := I.after hq
    cases rv
    exact ⟨b, rfl, .bl (!b), H2, I2, rfl, q2⟩
end
end Pk
/-! ### in, count, index of lists of instances, by an own == -/
namespace LQ
open PySem PySem.SeqAt GQ
open AutoSeq1 (wpAny_loadPart')
open MeetsSeq MeetsSeq2 MeetsSeq3 SeqRoads2
section
variable {prog : Program} {w : World} {A : Around} {R : Result → Shared → Prop}
/-- the list stands, and each of its items is told equal to x, or not, with the state as good as ahead -/
structure LstJ (prog : Program) (w : World) (A : Around) (E : Value → Shared → Prop) (l : Addr) (as : List Addr) (x : Value) (e : Addr → Bool) (J : Shared → Prop) : Prop where
  at_ : ∀ s, J s → ∃ (n : Nat) (dd : Option Addr) (sl : Array (Option Value)), s.heap.get? l = some { cls := .type "list", dict := dd, data := .seq (as.map Value.ref).toArray n, slots := sl }
  eq_ : ∀ a ∈ as, ∀ s, J s → wpAny (model prog w) A.in1 (eqBool (.ref a) x) (fun r s' => r = e a ∧ J s') E s
theorem count_loopJ (l : Addr) (as : List Addr) (x : Value) (e : Addr → Bool) (J : Shared → Prop) (hJ : LstJ prog w A (fun e s' => R (.error e) s') l as x e J) (k : Nat) :
    ∀ (i : Nat) (found : Int), as.length - i = k → ∀ s, J s → (∀ s', J s' → R (.ok (.ret (.int (found + ((as.drop i).countP e : Nat)) s'.toks))) { s' with toks := s'.toks + 1 }) →
      wpAny (model prog w) A.in1 (Builtin.«list.count.loop» ⟨[.ref l, x, rawInt i, rawInt found], []⟩) (FinOf prog w A R) (fun e s' => R (.error e) s') s := by
  induction k with
  | zero =>
    intro i found hk s h fin
    obtain ⟨n, dd, sl, hl⟩ := hJ.at_ s h
    have h := fin s h
    obtain ⟨hp, g, d, tk, os⟩ := s
    wp_walk using wpAny_loadPart' hl
    have hi : (as.map Value.ref).toArray[((i : Nat) : Int).toNat]? = none := by simp; omega
    have hd : as.drop i = [] := by simp; omega
    rw [hd] at h
    rw [hi]
    wp_walk
    simpa using h
  | succ k ih =>
    intro i found hk s h fin
    obtain ⟨n, dd, sl, hl⟩ := hJ.at_ s h
    have hlt : i < as.length := by omega
    have ht := hJ.eq_ as[i] (List.getElem_mem hlt) s h
    obtain ⟨hp, g, d, tk, os⟩ := s
    wp_walk using wpAny_loadPart' hl
    have hi : (as.map Value.ref).toArray[((i : Nat) : Int).toNat]? = some (Value.ref as[i]) := by simp [hlt]
    have hd : as.drop i = as[i] :: as.drop (i + 1) := List.drop_eq_getElem_cons hlt
    have hc : ((i : Int) + 1) = ((i + 1 : Nat) : Int) := by push_cast; rfl
    rw [hd, List.countP_cons] at fin
    rw [hi]
    refine wpAny_bind (wpAny_mono ht (fun r s2 h2 => ?_) fun _ _ x => x)
    obtain ⟨hr, h2⟩ := h2
    subst hr
    have hrec := ih (i + 1) (if e as[i] = true then found + 1 else found) (by omega) s2 h2 (fun s' h' => by
      have := fin s' h'
      cases hb : e as[i] with
      | false =>
        simp only [hb, Bool.false_eq_true, if_false, Nat.add_zero] at this ⊢
        exact this
      | true =>
        simp only [hb, if_true] at this ⊢
        have e1 : found + 1 + ((List.countP e (List.drop (i + 1) as) : Nat) : Int) = found + ((List.countP e (List.drop (i + 1) as) + 1 : Nat) : Int) := by push_cast; omega
        rw [e1]
        exact this)
    obtain ⟨hp2, g2, d2, tk2, os2⟩ := s2
    wp_walk
    rw [hc]
    exact ⟨plainId_quiet plain_count_loop _, codeAny_builtin entry_count_loop (by
      rw [Around.under_plainId plain_count_loop _]
      exact hrec)⟩
theorem list_countJ (l : Addr) (as : List Addr) (x : Value) (e : Addr → Bool) (J : Shared → Prop) (hJ : LstJ prog w A (fun e s' => R (.error e) s') l as x e J) {s : Shared} (h : J s) (fin : ∀ s', J s' → R (.ok (.ret (.int (as.countP e : Nat) s'.toks))) { s' with toks := s'.toks + 1 }) :
    wpAny (model prog w) A.in1 (Builtin.«list.count» ⟨[.ref l, x], []⟩) (FinOf prog w A R) (fun e s' => R (.error e) s') s := by
  have hrec := count_loopJ (A := A) (R := R) l as x e J hJ _ 0 0 rfl s h (fun s' h' => by simpa using fin s' h')
  obtain ⟨n, dd, sl, hl⟩ := hJ.at_ s h
  obtain ⟨hp, g, d, tk, os⟩ := s
  wp_walk using wpAny_loadPart' hl
  exact ⟨plainId_quiet plain_count_loop _, codeAny_builtin entry_count_loop (by
    rw [Around.under_plainId plain_count_loop _]
    exact hrec)⟩
theorem contains_loopJ (l : Addr) (as : List Addr) (x : Value) (e : Addr → Bool) (J : Shared → Prop) (hJ : LstJ prog w A (fun e s' => R (.error e) s') l as x e J) (k : Nat) :
    ∀ i : Nat, as.length - i = k → ∀ s, J s → (∀ s', J s' → R (.ok (.ret (.bool ((as.drop i).any e)))) s') →
      wpAny (model prog w) A.in1 (Builtin.«list.__contains__.loop» ⟨[.ref l, x, rawInt i], []⟩) (FinOf prog w A R) (fun e s' => R (.error e) s') s := by
  induction k with
  | zero =>
    intro i hk s h fin
    obtain ⟨n, dd, sl, hl⟩ := hJ.at_ s h
    have h := fin s h
    obtain ⟨hp, g, d, tk, os⟩ := s
    wp_walk using wpAny_loadPart' hl
    have hi : (as.map Value.ref).toArray[((i : Nat) : Int).toNat]? = none := by simp; omega
    have hd : as.drop i = [] := by simp; omega
    rw [hd] at h
    rw [hi]
    wp_walk
    exact h
  | succ k ih =>
    intro i hk s h fin
    obtain ⟨n, dd, sl, hl⟩ := hJ.at_ s h
    have hlt : i < as.length := by omega
    have ht := hJ.eq_ as[i] (List.getElem_mem hlt) s h
    obtain ⟨hp, g, d, tk, os⟩ := s
    wp_walk using wpAny_loadPart' hl
    have hi : (as.map Value.ref).toArray[((i : Nat) : Int).toNat]? = some (Value.ref as[i]) := by simp [hlt]
    have hd : as.drop i = as[i] :: as.drop (i + 1) := List.drop_eq_getElem_cons hlt
    have hc : ((i : Int) + 1) = ((i + 1 : Nat) : Int) := by push_cast; rfl
    rw [hd, List.any_cons] at fin
    rw [hi]
    refine wpAny_bind (wpAny_mono ht (fun r s2 h2 => ?_) fun _ _ x => x)
    obtain ⟨hr, h2⟩ := h2
    subst hr
    cases hb : e as[i] with
    | true =>
      rw [hb, Bool.true_or] at fin
      have h3 := fin s2 h2
      obtain ⟨hp2, g2, d2, tk2, os2⟩ := s2
      wp_walk
      exact h3
    | false =>
      rw [hb, Bool.false_or] at fin
      have hrec := ih (i + 1) (by omega) s2 h2 fin
      obtain ⟨hp2, g2, d2, tk2, os2⟩ := s2
      wp_walk
      rw [hc]
      exact ⟨plainId_quiet plain_contains_loop _, codeAny_builtin entry_contains_loop (by
        rw [Around.under_plainId plain_contains_loop _]
        exact hrec)⟩
theorem list_containsJ (l : Addr) (as : List Addr) (x : Value) (e : Addr → Bool) (J : Shared → Prop) (hJ : LstJ prog w A (fun e s' => R (.error e) s') l as x e J) {s : Shared} (h : J s) (fin : ∀ s', J s' → R (.ok (.ret (.bool (as.any e)))) s') :
    wpAny (model prog w) A.in1 (Builtin.«list.__contains__» ⟨[.ref l, x], []⟩) (FinOf prog w A R) (fun e s' => R (.error e) s') s := by
  have hrec := contains_loopJ (A := A) (R := R) l as x e J hJ _ 0 rfl s h (fun s' h' => by simpa using fin s' h')
  obtain ⟨n, dd, sl, hl⟩ := hJ.at_ s h
  obtain ⟨hp, g, d, tk, os⟩ := s
  wp_walk using wpAny_loadPart' hl
  exact ⟨plainId_quiet plain_contains_loop _, codeAny_builtin entry_contains_loop (by
    rw [Around.under_plainId plain_contains_loop _]
    exact hrec)⟩
theorem index_loopJ (l : Addr) (as : List Addr) (x : Value) (e : Addr → Bool) (J : Shared → Prop) (hJ : LstJ prog w A (fun e s' => R (.error e) s') l as x e J) (upto : Int) (j : Nat) (hj : j < as.length) (hupto : (j : Int) < upto) (hit : e as[j] = true)
    (fin : ∀ s', J s' → R (.ok (.ret (.int j s'.toks))) { s' with toks := s'.toks + 1 }) (k : Nat) :
    ∀ i : Nat, j - i = k → i ≤ j → (∀ m (hm : m < as.length), i ≤ m → m < j → e as[m] = false) → ∀ s, J s →
      wpAny (model prog w) A.in1 (Builtin.«list.index.loop» ⟨[.ref l, x, rawInt i, rawInt upto], []⟩) (FinOf prog w A R) (fun e s' => R (.error e) s') s := by
  induction k with
  | zero =>
    intro i hk hij hno s h
    obtain ⟨n, dd, sl, hl⟩ := hJ.at_ s h
    have hij' : i = j := by omega
    subst hij'
    have ht := hJ.eq_ as[i] (List.getElem_mem hj) s h
    obtain ⟨hp, g, d, tk, os⟩ := s
    wp_walk using wpAny_loadPart' hl
    have hi : (if (i : Int) < upto then (as.map Value.ref).toArray[((i : Nat) : Int).toNat]? else none) = some (Value.ref as[i]) := by simp [hupto, hj]
    rw [hi]
    refine wpAny_bind (wpAny_mono ht (fun r s2 h2 => ?_) fun _ _ x => x)
    obtain ⟨hr, h2⟩ := h2
    subst hr
    rw [hit]
    have h3 := fin s2 h2
    obtain ⟨hp2, g2, d2, tk2, os2⟩ := s2
    wp_walk
    exact h3
  | succ k ih =>
    intro i hk hij hno s h
    obtain ⟨n, dd, sl, hl⟩ := hJ.at_ s h
    have hlt : i < as.length := by omega
    have hst : (i : Int) < upto := by omega
    have ht := hJ.eq_ as[i] (List.getElem_mem hlt) s h
    obtain ⟨hp, g, d, tk, os⟩ := s
    wp_walk using wpAny_loadPart' hl
    have hi : (if (i : Int) < upto then (as.map Value.ref).toArray[((i : Nat) : Int).toNat]? else none) = some (Value.ref as[i]) := by simp [hst, hlt]
    have hc : ((i : Int) + 1) = ((i + 1 : Nat) : Int) := by push_cast; rfl
    rw [hi]
    refine wpAny_bind (wpAny_mono ht (fun r s2 h2 => ?_) fun _ _ x => x)
    obtain ⟨hr, h2⟩ := h2
    subst hr
    rw [hno i hlt (Nat.le_refl _) (by omega)]
    have hrec := ih (i + 1) (by omega) (by omega) (fun m hm h1 h2 => hno m hm (by omega) h2) s2 h2
    obtain ⟨hp2, g2, d2, tk2, os2⟩ := s2
    wp_walk
    rw [hc]
    exact ⟨plainId_quiet plain_index_loop _, codeAny_builtin entry_index_loop (by
      rw [Around.under_plainId plain_index_loop _]
      exact hrec)⟩
theorem list_indexJ (l : Addr) (as : List Addr) (x : Value) (e : Addr → Bool) (J : Shared → Prop) (hJ : LstJ prog w A (fun e s' => R (.error e) s') l as x e J) (j : Nat) (hj : j < as.length) (hsmall : (j : Int) < 2 ^ 63 - 1) (hit : e as[j] = true) (hno : ∀ m (hm : m < as.length), m < j → e as[m] = false)
    (fin : ∀ s', J s' → R (.ok (.ret (.int j s'.toks))) { s' with toks := s'.toks + 1 }) {s : Shared} (h : J s) :
    wpAny (model prog w) A.in1 (Builtin.«list.index» ⟨[.ref l, x], []⟩) (FinOf prog w A R) (fun e s' => R (.error e) s') s := by
  have hrec := index_loopJ (A := A) (R := R) l as x e J hJ (2 ^ 63 - 1) j hj hsmall hit fin _ 0 rfl (Nat.zero_le _) (fun m hm _ h2 => hno m hm h2) s h
  obtain ⟨n, dd, sl, hl⟩ := hJ.at_ s h
  obtain ⟨hp, g, d, tk, os⟩ := s
  wp_walk using wpAny_loadPart' hl
  have a1 : ((fun i : Int => if i < 0 then max 0 (i + ((as.map Value.ref).toArray.size : Int)) else i) ((none : Option Int).getD 0)) = ((0 : Nat) : Int) := by simp
  have a2 : ((fun i : Int => if i < 0 then max 0 (i + ((as.map Value.ref).toArray.size : Int)) else i) ((none : Option Int).getD (2 ^ 63 - 1))) = 2 ^ 63 - 1 := by simp
  rw [a1, a2]
  exact ⟨plainId_quiet plain_index_loop _, codeAny_builtin entry_index_loop (by
    rw [Around.under_plainId plain_index_loop _]
    exact hrec)⟩
end
end LQ
namespace Pk
open PySem PySem.Spec L2
open PyProof.Rows (room_in_shaped)
section
variable {X : Cx} {k : Nat} {C f : Addr} {fd : FuncData} {sp : Sp}
theorem refs_of : ∀ {as : List Addr} {its : List Value}, Vals (as.map V.ref) its → its = as.map Value.ref
  | [], [], _ => rfl
  | a :: as, _, .cons r rs => by
    cases r
    rw [refs_of rs]
    rfl
/-- what == tells of two instances of C: the same one, or by the promise of its __eq__ -/
def EqOf (C : Addr) (sp : Sp) (a c : Addr) (H : Hp) (b : Bool) : Prop := (a = c ∧ b = true) ∨ (a ≠ c ∧ (∃ dx fs, H a = some (.ins C dx fs)) ∧ (∃ dy gs, H c = some (.ins C dy gs)) ∧ sp [.ref a, .ref c] H (fun v H' => v = .bl b ∧ H' = H) E0)
theorem eqB_own (F : FnOk X.prog X.w X.K X.mg X.base CX0 k f fd ["self", "other"] sp) (hs : PySem.W.findIn X.K (.ref C) "__eq__" = some (some (.ref f))) (hf : PySem.W.isFn X.K (.ref f) = true) (hb : Binds X.K fd ["self", "other"] [])
    {A : Around} (sb : Sub X k A) {pins : List (Addr × Obj)} {s : Shared} {σ : St} {H : Hp} (I : Inv X pins σ H s) {a c : Addr} {b : Bool} (h : EqOf C sp a c H b) (E : Value → Shared → Prop) :
    wpAny (model X.prog X.w) A (eqBool (.ref a) (.ref c)) (fun r s' => r = b ∧ Inv X pins σ H s') E s := by
  rcases h with ⟨rfl, rfl⟩ | ⟨ne, ⟨dx, fs, ha⟩, ⟨dy, gs, hc⟩, h⟩
  · exact SeqAt.EqAt.same (A := A) (s := s) (.ref a) X.prog X.w E _ ⟨rfl, I⟩
  · refine GQ.eqBool_refG ne ?_
    obtain ⟨mA, J, _⟩ := ins_get I.hok ha
    obtain ⟨od, J, _⟩ := J.look
    obtain ⟨mB, J', _⟩ := ins_get I.hok hc
    obtain ⟨od', J', _⟩ := J'.look
    obtain ⟨m, hF⟩ := I.fr
    have hF' : A.frames = X.A.frames := sb.fr
    have e0 : Env0 X.prog X.w X.K X.mg X.base A X.stack s H := by
      have e := I.env0
      exact ⟨by rw [sb.fr]; exact e.frames, e.mod, e.bs, e.bsz, e.funs, e.frf, e.hok, e.bare⟩
    refine PySem.W.cmp_K (op := .Eq) (tb := .ref C) sb.room.units0 hF I.ok.mod.kin J J'.type (by simp [PySem.W.notFirst]) hs hf ?_
    refine wpAny_call (codeAny_mono (F.run A X.stack s H ⟨[.ref a, .ref c], []⟩ [.ref a, .ref c] [.ref a, .ref c] _ E0 sb.room e0 (hb s [.ref a, .ref c] I.kIn rfl) (.cons rfl (.cons rfl .nil)) h) fun r s' hq => ?_)
    match r, hq with
    | .error e, hq => exact hq.elim
    | .ok .next, hq => exact hq.elim
    | .ok .brk, hq => exact hq.elim
    | .ok .cont, hq => exact hq.elim
    | .ok (.ret z), hq =>
      obtain ⟨v, H2, I2, rv, rfl, rfl⟩ := I.after hq
      cases rv
      exact ⟨b, rfl, rfl, I2⟩
theorem lstJ (F : FnOk X.prog X.w X.K X.mg X.base CX0 k f fd ["self", "other"] sp) (hr : Room (k + 1) X.A) (hs : PySem.W.findIn X.K (.ref C) "__eq__" = some (some (.ref f))) (hf : PySem.W.isFn X.K (.ref f) = true) (hb : Binds X.K fd ["self", "other"] [])
    {pins : List (Addr × Obj)} {σ : St} {H : Hp} {l c : Addr} {as : List Addr} {e : Addr → Bool} (hl : SqL X.K H l (as.map V.ref)) (he : ∀ a ∈ as, EqOf C sp a c H (e a)) (E : Value → Shared → Prop) : LQ.LstJ X.prog X.w X.A E l as (.ref c) e (fun s => Inv X pins σ H s) where
  at_ := fun s I => by
    obtain ⟨its, rv, ⟨⟨cls, dd, data, sl⟩, n, ho, hc, hdn, hd⟩, hlen⟩ := I.list hl
    simp only at hc hd
    subst hc hd
    rw [refs_of rv] at ho
    exact ⟨n, dd, sl, ho⟩
  eq_ := fun a ha s I => eqB_own F hs hf hb (Sub.in1 ⟨hr, rfl⟩) I (he a ha) E
/-- x in l -/
def rInO (K : PySem.W.Frag) (C : Addr) (sp : Sp) : R2 := fun x y H Q => ∃ (c l : Addr) (as : List Addr) (e : Addr → Bool), x = .ref c ∧ y = .ref l ∧ SqL K H l (as.map V.ref) ∧ (∀ a ∈ as, EqOf C sp a c H (e a)) ∧ Q (.bl (as.any e)) H
theorem op_inO (F : FnOk X.prog X.w X.K X.mg X.base CX0 k f fd ["self", "other"] sp) (hr : Room (k + 1) X.A) (hs : PySem.W.findIn X.K (.ref C) "__eq__" = some (some (.ref f))) (hf : PySem.W.isFn X.K (.ref f) = true) (hb : Binds X.K fd ["self", "other"] []) : OpR X (compareOp .In) (rInO X.K C sp) := by
  rintro pins s σ H x y v u Q I rx ry ⟨c, l, as, e, rfl, rfl, hl, he, q⟩
  cases rx
  cases ry
  have J := lstJ F hr hs hf hb (pins := pins) (σ := σ) hl he X.xe
  obtain ⟨n, dd, sl, ho⟩ := J.at_ s I
  show wpAny _ X.A (do return Value.bool (← contains (.ref l) (.ref c))) _ _ s
  refine wpAny_bind (wpAny_contains_slot ⟨_, ho, rfl⟩ PySem.F.slot_list_contains (wpAny_mono (GQ.call_here (Q := fun v s' => ∃ b, v = .bool b ∧ b = as.any e ∧ Inv X pins σ H s') PySem.F.slot_list_contains ⟨_, ho, rfl⟩ PySem.F.entry_list_contains (PySem.F.args_list_contains_2 _ _) (LQ.list_containsJ (R := wants _ _) l as (.ref c) e _ J I (fun s' I' => ⟨_, rfl, rfl, I'⟩))) (fun v s' hv => ?_) fun _ _ e => e))
  obtain ⟨b, rfl, rfl, I'⟩ := hv
  exact wpAny_truthy_bool (wpAny_pure ⟨.bl _, H, I', rfl, q⟩)
/-- l.count(x) -/
def rCountO (K : PySem.W.Frag) (C : Addr) (sp : Sp) : V → List V → Hp → VK → Prop := fun x xs H Q => ∃ (c l : Addr) (as : List Addr) (e : Addr → Bool), x = .ref l ∧ xs = [.ref c] ∧ SqL K H l (as.map V.ref) ∧ (∀ a ∈ as, EqOf C sp a c H (e a)) ∧ Q (.int (as.countP e : Nat)) H
theorem mt_countO (F : FnOk X.prog X.w X.K X.mg X.base CX0 k f fd ["self", "other"] sp) (hr : Room (k + 1) X.A) (hs : PySem.W.findIn X.K (.ref C) "__eq__" = some (some (.ref f))) (hf : PySem.W.isFn X.K (.ref f) = true) (hb : Binds X.K fd ["self", "other"] []) : MtR X "list.count" (rCountO X.K C sp) := by
  rintro pins s σ H x xs v us Q I rx rxs ⟨c, l, as, e, rfl, rfl, hl, he, q⟩
  cases rx
  obtain ⟨u, rfl, ru⟩ := rxs.one
  cases ru
  have J := lstJ F hr hs hf hb (pins := pins) (σ := σ) hl he X.xe
  obtain ⟨n, dd, sl, ho⟩ := J.at_ s I
  exact GQ.call_here PySem.F.slot_list_count ⟨_, ho, rfl⟩ PySem.F.entry_list_count (PySem.F.args_list_count_2 _ _) (LQ.list_countJ (R := wants _ _) l as (.ref c) e _ J I (fun s' I' => ⟨.int (as.countP e : Nat), H, I'.tok _, ⟨s'.toks, rfl⟩, q⟩))
/-- l.index(x): the first place of an equal one -/
def rIndexO (K : PySem.W.Frag) (C : Addr) (sp : Sp) : V → List V → Hp → VK → Prop := fun x xs H Q => ∃ (c l : Addr) (as : List Addr) (e : Addr → Bool) (j a : Nat), x = .ref l ∧ xs = [.ref c] ∧ SqL K H l (as.map V.ref) ∧ (∀ a ∈ as, EqOf C sp a c H (e a)) ∧ as[j]? = some a ∧ e a = true ∧ (∀ m a', m < j → as[m]? = some a' → e a' = false) ∧ Q (.int (j : Nat)) H
theorem mt_indexO (F : FnOk X.prog X.w X.K X.mg X.base CX0 k f fd ["self", "other"] sp) (hr : Room (k + 1) X.A) (hs : PySem.W.findIn X.K (.ref C) "__eq__" = some (some (.ref f))) (hf : PySem.W.isFn X.K (.ref f) = true) (hb : Binds X.K fd ["self", "other"] []) : MtR X "list.index" (rIndexO X.K C sp) := by
  rintro pins s σ H x xs v us Q I rx rxs ⟨c, l, as, e, j, a, rfl, rfl, hl, he, hj, ea, hno, q⟩
  cases rx
  obtain ⟨u, rfl, ru⟩ := rxs.one
  cases ru
  have J := lstJ F hr hs hf hb (pins := pins) (σ := σ) hl he X.xe
  obtain ⟨n, dd, sl, ho⟩ := J.at_ s I
  obtain ⟨hj1, hj2⟩ := List.getElem?_eq_some_iff.mp hj
  have hz : as.length ≤ sizeLine := by
    obtain ⟨its, rv, _, hlen⟩ := I.list hl
    have := rv.length
    rw [List.length_map] at this hlen
    omega
  have hs1 := sizeLine_eq
  exact GQ.call_here PySem.F.slot_list_index ⟨_, ho, rfl⟩ PySem.F.entry_list_index (PySem.F.args_list_index_2 _ _) (LQ.list_indexJ (R := wants _ _) l as (.ref c) e _ J j hj1 (by omega) (by rw [hj2]; exact ea) (fun m hm h => hno m _ h (List.getElem?_eq_getElem hm)) (fun s' I' => ⟨.int (j : Nat), H, I'.tok _, ⟨s'.toks, rfl⟩, q⟩) I)
/-- l.count(x) of data -/
def rCountD (K : PySem.W.Frag) : V → List V → Hp → VK → Prop := fun x xs H Q => ∃ (a : Addr) (y : V) (d : PyData) (ds : List PyData), x = V.ref a ∧ xs = [y] ∧ Dp K H (V.ref a) (.list ds) ∧ Dp K H y d ∧ SeqAt.shaped (.list ds) = true ∧ SeqAt.shaped d = true ∧ Q (.int (ds.countP fun z => PyData.eqv z d : Nat)) H
theorem mt_countD (hu : X.A.units + 65 < cLine) : MtR X "list.count" (rCountD X.K) := by
  intro pins s σ H x xs v us Q I rx rxs h
  obtain ⟨a, y, d, ds, rfl, rfl, hl, hy, sl, sd, q⟩ := h
  cases rx
  cases rxs with
  | cons ry rt =>
    rename_i uy ut
    cases rt
    obtain ⟨bs, r1⟩ := Dp.reads I d y uy hy ry
    have hxs : PyData.canLayAll0 ds = true := SeqAt.canLay_of_shaped sl
    have hroom : X.A.units + 1 + min (PyData.depthAll ds) d.depth < cLine := room_in_shaped sd hu
    cases hl with
    | lst hs ha =>
      obtain ⟨its, rv, ⟨⟨cls, dd, data, sls⟩, n, ho, hc, hdn, hdt⟩, hlen⟩ := I.list hs
      simp only at hc hdt
      subst hc hdt
      obtain ⟨as, h4⟩ := Dp.readsAll I ds _ its ha rv
      have hmap : its.map (SeqAt.readOf s.heap) = ds := SeqAt.readsAll_map ds its as hxs h4
      refine call_meets PySem.F.slot_list_count ⟨_, ho, rfl⟩ PySem.F.entry_list_count (PySem.F.args_list_count_2 _ _)
        (SeqAt.list_countAt a its.toArray n dd sls uy (fun y => PyData.eqv (SeqAt.readOf s.heap y) d)) ⟨ho, SeqAt.items_eqAt h4 r1 hxs (SeqAt.canLay_of_shaped sd) hroom, ?_⟩
      have ec : its.toArray.toList.countP (fun y => PyData.eqv (SeqAt.readOf s.heap y) d) = ds.countP fun z => PyData.eqv z d := by
        rw [← hmap, List.countP_map]
        rfl
      refine ⟨.int (ds.countP fun z => PyData.eqv z d : Nat), H, I.tok _, ⟨s.toks, ?_⟩, q⟩
      show Value.int ((its.toArray.toList.countP (fun y => PyData.eqv (SeqAt.readOf s.heap y) d) : Nat) : Int) s.toks = _
      rw [ec]
end
end Pk
namespace Pk
open PySem PySem.Spec L2
section
variable {X : Cx}
/-- two lists of the same plain things, ==: yes -/
def rEqSame (K : PySem.W.Frag) : R2 := fun x y H Q => ∃ a b xs, x = .ref a ∧ y = .ref b ∧ SqL K H a xs ∧ SqL K H b xs ∧ (∀ v ∈ xs, flatB v = true) ∧ Q (.bl true) H
theorem same_atE {A : Around} {s : Shared} : ∀ {xs : List V} {us ws : List Value}, (∀ v ∈ xs, flatB v = true) → Vals xs us → Vals xs ws → ∀ j (h1 : j < us.length) (h2 : j < ws.length), SeqAt.EqAt A s us[j] ws[j] true
  | [], us, ws, _, r1, _, j, h1, _ => by
    cases r1
    exact absurd h1 (Nat.not_lt_zero j)
  | x :: xs, us, ws, hf, r1, r2, j, h1, h2 => by
    cases r1 with
    | cons a1 b1 =>
      cases r2 with
      | cons a2 b2 =>
        cases j with
        | zero => exact eqAt_same a1 a2 (hf x (List.mem_cons_self ..))
        | succ j => exact same_atE (fun v hv => hf v (List.mem_cons_of_mem _ hv)) b1 b2 j (Nat.lt_of_succ_lt_succ h1) (Nat.lt_of_succ_lt_succ h2)
theorem op_eqSame (hu : X.A.units < cLine) : OpR X (compareOp .Eq) (rEqSame X.K) := by
  rintro pins s σ H x y v u Q I rx ry ⟨a, b, xs, rfl, rfl, ha, hb, hf, q⟩
  cases (show v = Value.ref a from rx)
  cases (show u = Value.ref b from ry)
  obtain ⟨us, r1, p1, _⟩ := I.list ha
  obtain ⟨ws, r2, p2, _⟩ := I.list hb
  have hsz : us.toArray.size = ws.toArray.size := by
    rw [List.size_toArray, List.size_toArray, ← r1.length, ← r2.length]
  refine SeqAt.RcAt.lists (e := fun _ => true) p1.isList p2.isList hsz hu (fun j h1 h2 => ?_) X.prog X.w _ _ ?_
  · have k := same_atE (A := X.A.in1) (s := s) hf r1 r2 j (by simpa using h1) (by simpa using h2)
    simpa using k
  · rw [show ((List.range us.toArray.size).all fun _ => true) = true from List.all_eq_true.mpr fun _ _ => rfl]
    exact ⟨.bl true, H, I, rfl, q⟩
/-- two lists of the same plain things, !=: no -/
def rNeSameP (K : PySem.W.Frag) : R2 := fun x y H Q => ∃ a b xs, x = .ref a ∧ y = .ref b ∧ SqL K H a xs ∧ SqL K H b xs ∧ (∀ v ∈ xs, flatB v = true) ∧ Q (.bl false) H
theorem op_neSameP (hu : X.A.units < cLine) : OpR X (compareOp .NotEq) (rNeSameP X.K) := by
  rintro pins s σ H x y v u Q I rx ry ⟨a, b, xs, rfl, rfl, ha, hb, hf, q⟩
  cases (show v = Value.ref a from rx)
  cases (show u = Value.ref b from ry)
  obtain ⟨us, r1, p1, _⟩ := I.list ha
  obtain ⟨ws, r2, p2, _⟩ := I.list hb
  have hsz : us.toArray.size = ws.toArray.size := by
    rw [List.size_toArray, List.size_toArray, ← r1.length, ← r2.length]
  refine SeqAt.RcNeAt.lists (e := fun _ => true) p1.isList p2.isList hsz hu (fun j h1 h2 => ?_) X.prog X.w _ _ ?_
  · have k := same_atE (A := X.A.in1) (s := s) hf r1 r2 j (by simpa using h1) (by simpa using h2)
    simpa using k
  · rw [show ((List.range us.toArray.size).all fun _ => true) = true from List.all_eq_true.mpr fun _ _ => rfl]
    exact ⟨.bl false, H, I, rfl, q⟩
/-- two lists of the very same objects, !=: no -/
def rNeRefs (K : PySem.W.Frag) : R2 := fun x y H Q => ∃ (a b : Addr) (as : List Addr), x = .ref a ∧ y = .ref b ∧ SqL K H a (as.map V.ref) ∧ SqL K H b (as.map V.ref) ∧ Q (.bl false) H
theorem refs_ofS : ∀ {as : List Addr} {its : List Value}, Vals (as.map V.ref) its → its = as.map Value.ref
  | [], [], _ => rfl
  | a :: as, _, .cons r rs => by
    cases r
    rw [refs_ofS rs]
    rfl
theorem op_neRefs (hu : X.A.units < cLine) : OpR X (compareOp .NotEq) (rNeRefs X.K) := by
  rintro pins s σ H x y v u Q I rx ry ⟨a, b, as, rfl, rfl, ha, hb, q⟩
  cases (show v = Value.ref a from rx)
  cases (show u = Value.ref b from ry)
  obtain ⟨us, r1, p1, _⟩ := I.list ha
  obtain ⟨ws, r2, p2, _⟩ := I.list hb
  have e1 := refs_ofS r1
  have e2 := refs_ofS r2
  subst e1 e2
  refine SeqAt.RcNeAt.lists (e := fun _ => true) p1.isList p2.isList rfl hu (fun j h1 h2 => ?_) X.prog X.w _ _ ?_
  · exact SeqAt.EqAt.same _
  · rw [show ((List.range (as.map Value.ref).toArray.size).all fun _ => true) = true from List.all_eq_true.mpr fun _ _ => rfl]
    exact ⟨.bl false, H, I, rfl, q⟩
/-- a is b, of truths -/
theorem op_isBl : OpR X (compareOp .Is) (fun x y H Q => ∃ a b, x = .bl a ∧ y = .bl b ∧ Q (.bl (decide (a = b))) H) := by
  rintro pins s σ H x y v u Q I rx ry ⟨a, b, rfl, rfl, q⟩
  cases (show v = Value.bool a from rx)
  cases (show u = Value.bool b from ry)
  by_cases e : a = b
  · subst e
    exact wpAny_is_self rfl ⟨.bl true, H, I, rfl, by simpa using q⟩
  · exact wpAny_is_other rfl (fun z => e (Value.bool.inj z)) ⟨.bl false, H, I, rfl, by simpa [e] using q⟩
end
end Pk
namespace Pk
open PySem L2
/-! ### tuples of things, shown -/
structure ShowsL (K : PySem.W.Frag) (H : Hp) (L : List V) (ds : List PyData) (n k : Nat) : Prop where
  dp : DpAll K H L ds
  sh : PyData.showableAll ds = true
  de : PyData.depthAll ds ≤ k
  nd : PyData.hasDictAll ds = false
  sz : ((PyData.shownAll ds).map fun t => t.length + 2).sum ≤ n
section
variable {K : PySem.W.Frag} {H : Hp} {L : List V} {ds : List PyData} {n k : Nat}
theorem ShowsL.nil : ShowsL K H [] [] 0 k := ⟨.nil, by simp [PyData.showableAll], by simp [PyData.depthAll], by simp [PyData.hasDictAll], by simp [PyData.shownAll]⟩
theorem ShowsL.str {z : Str} (hl : z.length ≤ 100) (ho : Sgn z) (h : ShowsL K H L ds n k) : ShowsL K H (.str z :: L) (.str z :: ds) (n + 1004) k where
  dp := .cons (.str z) h.dp
  sh := by simp [PyData.showableAll, PyData.showable, h.sh]
  de := by
    have := h.de
    simp [PyData.depthAll, PyData.depth]
    omega
  nd := by simp [PyData.hasDictAll, PyData.hasDict, h.nd]
  sz := by
    have h1 := h.sz
    have h2 := repr_le hl ho
    simp [PyData.shownAll, PyData.shown]
    omega
theorem small_text {i : Int} (h0 : 0 ≤ i) (h9 : i ≤ 9) : (Str.ofString (toString i)).length ≤ 2 := by
  have : i = 0 ∨ i = 1 ∨ i = 2 ∨ i = 3 ∨ i = 4 ∨ i = 5 ∨ i = 6 ∨ i = 7 ∨ i = 8 ∨ i = 9 := by omega
  rcases this with rfl | rfl | rfl | rfl | rfl | rfl | rfl | rfl | rfl | rfl <;> decide +kernel
theorem small_log {i : Int} (h0 : 0 ≤ i) (h9 : i ≤ 9) : i.natAbs.log2 < 1920 := by
  have : i = 0 ∨ i = 1 ∨ i = 2 ∨ i = 3 ∨ i = 4 ∨ i = 5 ∨ i = 6 ∨ i = 7 ∨ i = 8 ∨ i = 9 := by omega
  rcases this with rfl | rfl | rfl | rfl | rfl | rfl | rfl | rfl | rfl | rfl <;> decide +kernel
theorem ShowsL.int {i : Int} (h0 : 0 ≤ i) (h9 : i ≤ 9) (h : ShowsL K H L ds n k) : ShowsL K H (.int i :: L) (.int i :: ds) (n + 4) k where
  dp := .cons (.int i) h.dp
  sh := by
    have e : PyData.showable (.int i) = true := decide_eq_true (small_log h0 h9)
    simp [PyData.showableAll, e, h.sh]
  de := by
    have := h.de
    simp [PyData.depthAll, PyData.depth]
    omega
  nd := by simp [PyData.hasDictAll, PyData.hasDict, h.nd]
  sz := by
    have h1 := h.sz
    have h2 := small_text h0 h9
    have e : (PyData.int i).shown = Str.ofString (toString i) := by simp [PyData.shown]
    have e2 : ((PyData.shownAll (.int i :: ds)).map fun t => t.length + 2).sum = ((PyData.int i).shown.length + 2) + ((PyData.shownAll ds).map fun t => t.length + 2).sum := by simp [PyData.shownAll]
    rw [e2, e]
    omega
theorem join_le : ∀ ts : List Str, (Str.join ", " ts).length ≤ (ts.map fun t => t.length + 2).sum
  | [] => Nat.zero_le _
  | [x] => by
    show x.length ≤ _
    simp
  | x :: y :: r => by
    have ih := join_le (y :: r)
    show (x ++ ", " ++ Str.join ", " (y :: r)).length ≤ _
    rw [app_len, app_len, show ((", " : String) : Str).length = 2 by decide +kernel, List.map_cons, List.sum_cons]
    omega
theorem tup_le (ts : List Str) : (tupleText ts).length ≤ 3 + (ts.map fun t => t.length + 2).sum := by
  unfold tupleText
  have h := join_le ts
  have h2 : (((if ts.length == 1 then ",)" else ")" : String) : Str)).length ≤ 2 := by split <;> decide +kernel
  rw [app_len, app_len, show (("(" : String) : Str).length = 1 by decide +kernel]
  omega
theorem ShowsL.tup {a : Addr} {L2 : List V} {ds2 : List PyData} {n2 k2 : Nat} (ha : H a = some (.tup L2)) (g : ShowsL K H L2 ds2 n2 k2) (hk : k2 + 1 ≤ k) (h : ShowsL K H L ds n k) : ShowsL K H (.ref a :: L) (.tuple ds2 :: ds) (n + n2 + 5) k where
  dp := .cons (.tup (SqT.of ha) g.dp) h.dp
  sh := by simp [PyData.showableAll, PyData.showable, g.sh, h.sh]
  de := by
    have := h.de
    have := g.de
    simp [PyData.depthAll, PyData.depth]
    omega
  nd := by simp [PyData.hasDictAll, PyData.hasDict, g.nd, h.nd]
  sz := by
    have h1 := h.sz
    have h2 := g.sz
    have h3 := tup_le (PyData.shownAll ds2)
    simp [PyData.shownAll, PyData.shown]
    omega
theorem ShowsL.all {t : Addr} (ht : H t = some (.tup L)) (h : ShowsL K H L ds n k) (hn : n ≤ 100000) (hk : k ≤ 60) : Shows K H (.ref t) (.tuple ds) where
  dq := .of (.tup (SqT.of ht) h.dp) (by simp [PyData.hasDict, h.nd])
  sh := by simp [PyData.showable, h.sh]
  dp := by
    have := h.de
    simp [PyData.depth]
    omega
  sz := by
    have h1 := h.sz
    have h3 := tup_le (PyData.shownAll ds)
    have e : (PyData.tuple ds).shown = tupleText (PyData.shownAll ds) := by simp [PyData.shown]
    rw [e, sizeLine_eq]
    omega
/-- texts -/
theorem ShowsL.texts (k : Nat) : ∀ L : List V, L.all textV = true → (∀ v ∈ L, Thg H v) → ∃ ds, ShowsL K H L ds (1004 * L.length) k
  | [], _, _ => ⟨[], .nil⟩
  | v :: L, h, ht => by
    rw [List.all_cons, Bool.and_eq_true] at h
    obtain ⟨ds, g⟩ := ShowsL.texts k L h.2 (fun u hu => ht u (List.mem_cons_of_mem _ hu))
    have hv := ht v List.mem_cons_self
    have h1 := h.1
    cases hv with
    | str z hl ho =>
      have hz : textT z = true := h1
      unfold textT at hz
      simp only [Bool.and_eq_true, decide_eq_true_iff] at hz
      refine ⟨.str z :: ds, ?_⟩
      have e := ShowsL.str (by omega) ho g
      rw [List.length_cons, show 1004 * (L.length + 1) = 1004 * L.length + 1004 by omega]
      exact e
    | _ => cases h1
end
end Pk
/-! ### of which class a thing is -/
namespace Pk
open PySem L2
def oddTys : List String := ["NoneType", "bool", "int", "str", "tuple", "list", "dict"]
def oddB (K : PySem.W.Frag) (C : Addr) : Bool := oddTys.all fun T => PySem.W.notFirst K C (.type T) && (PySem.W.kitOne K (.type T) (.ref C) == some false) && (PySem.W.subIn K (.ref C) (.type T) == some false)
theorem oddB_kit {K : PySem.W.Frag} {C : Addr} {T : String} (h : oddB K C = true) (o : T ∈ oddTys) : PySem.W.notFirst K C (.type T) = true ∧ PySem.W.kitOne K (.type T) (.ref C) = some false ∧ PySem.W.subIn K (.ref C) (.type T) = some false := by
  have h1 := List.all_eq_true.mp h T o
  rw [Bool.and_eq_true, Bool.and_eq_true] at h1
  exact ⟨h1.1.1, beq_iff_eq.mp h1.1.2, beq_iff_eq.mp h1.2⟩
theorem kit_two {K : PySem.W.Frag} {T : String} (h : T ∈ oddTys) : PySem.W.kitAny K (.type T) [.type "list", .type "tuple"] = some (decide (T = "list") || decide (T = "tuple")) := by
  simp only [oddTys, List.mem_cons, List.not_mem_nil, or_false] at h
  rcases h with rfl | rfl | rfl | rfl | rfl | rfl | rfl
  · exact kitAny_cons (kit_ty (by decide +kernel : kitB "NoneType" "list" = some false)) (fun _ => kitAny_cons (kit_ty (by decide +kernel : kitB "NoneType" "tuple" = some false)) (fun _ => rfl) (fun z => nomatch z)) (fun z => nomatch z)
  · exact kitAny_cons (kit_ty (by decide +kernel : kitB "bool" "list" = some false)) (fun _ => kitAny_cons (kit_ty (by decide +kernel : kitB "bool" "tuple" = some false)) (fun _ => rfl) (fun z => nomatch z)) (fun z => nomatch z)
  · exact kitAny_cons (kit_ty (by decide +kernel : kitB "int" "list" = some false)) (fun _ => kitAny_cons (kit_ty (by decide +kernel : kitB "int" "tuple" = some false)) (fun _ => rfl) (fun z => nomatch z)) (fun z => nomatch z)
  · exact kitAny_cons (kit_ty (by decide +kernel : kitB "str" "list" = some false)) (fun _ => kitAny_cons (kit_ty (by decide +kernel : kitB "str" "tuple" = some false)) (fun _ => rfl) (fun z => nomatch z)) (fun z => nomatch z)
  · exact kitAny_cons (kit_ty (by decide +kernel : kitB "tuple" "list" = some false)) (fun _ => kitAny_cons (kit_ty (by decide +kernel : kitB "tuple" "tuple" = some true)) (fun z => nomatch z) (fun _ => rfl)) (fun z => nomatch z)
  · exact kitAny_cons (kit_ty (by decide +kernel : kitB "list" "list" = some true)) (fun z => nomatch z) (fun _ => rfl)
  · exact kitAny_cons (kit_ty (by decide +kernel : kitB "dict" "list" = some false)) (fun _ => kitAny_cons (kit_ty (by decide +kernel : kitB "dict" "tuple" = some false)) (fun _ => rfl) (fun z => nomatch z)) (fun z => nomatch z)
/-- an own class, as isinstance asks for it -/
structure OTy (K : PySem.W.Frag) (C : Addr) : Prop where
  cls : Cls K C
  ha : PySem.W.findIn K (.ref C) "__class__" = some (some (.builtin "object.__class__"))
  hn : PySem.W.specialIn K (.builtin "object.__class__") "__get__" = some (some (.builtin "getset_descriptor.__get__"))
  ht : PySem.W.takesIn K (.builtin "object.__class__") = some true
  hm : PySem.W.mroIn K C (.type "object") = some true
  hk : PySem.W.kitOne K (.ref C) (.ref C) = some true
  hl : PySem.W.kitAny K (.ref C) [.type "list", .type "tuple"] = some false
  odd : oddB K C = true
theorem OTy.ty {K : PySem.W.Frag} {C a dx : Addr} {H : Hp} {fs : List (Str × V)} (T : OTy K C) (h : H a = some (.ins C dx fs)) : TyX K H (.ref a) (.ref C) := .base (.ins h T.cls T.ha T.hn T.ht T.hm)
end Pk
/-! ### questions: what serves every law that makes them, whatever its text -/
namespace Pk
open PySem L2
def spIsNumber : Sp := fun vs H Q _ => ∃ x, vs = [x] ∧ Thg H x ∧ Q (.bl (vInt x)) H
def spIsWhole : Sp := fun vs H Q _ => ∃ (x : V) (lo hi : Int), vs = [x, .int lo, .int hi] ∧ Thg H x ∧ Q (.bl (whole x lo hi)) H
def spIsName : Sp := fun vs H Q _ => ∃ x, vs = [x] ∧ Thg H x ∧ ∀ H', Same H H' → Q (.bl (nameV x)) H'
def spIsText : Sp := fun vs H Q _ => ∃ x, vs = [x] ∧ Thg H x ∧ ∀ H', Same H H' → Q (.bl (textV x)) H'
def spIsNameE : Sp := fun vs H Q _ => ∃ x, vs = [x] ∧ Thg H x ∧ ∀ H', Same H H' → Q (.bl (nameE x)) H'
def spAreAnswers : Sp := fun vs H Q _ => ∃ x, vs = [x] ∧ Thg H x ∧ (∀ ws, tupV H x = some ws → ∀ v ∈ ws, Thg H v) ∧ ∀ H', Same H H' → Q (.bl (answersV H x)) H'
def manyV (H : Hp) (an : V) : Int := (((tupV H an).getD []).length : Nat)
/-- the first part that can't be there -/
def wrongP (H : Hp) (nm mt an ri to ma ki : V) : Str :=
  if nameV nm = false then "name" else if nameV mt = false then "matter" else if answersV H an = false then "answers" else if whole ri 0 (manyV H an - 1) = false then "right" else if whole to 1 9 = false then "toil" else if whole ma 1 9 = false then "marks" else if nameE ki = false then "kin" else ""
def qFs (nm mt an ri to ma ki : V) : List (Str × V) := [("name", nm), ("matter", mt), ("answers", an), ("right", ri), ("toil", to), ("marks", ma), ("kin", ki)]
theorem qFs_put (nm mt an ri to ma ki : V) : putF "kin" ki (putF "marks" ma (putF "toil" to (putF "right" ri (putF "answers" an (putF "matter" mt (putF "name" nm [])))))) = qFs nm mt an ri to ma ki := by kernel_rfl
theorem put_le {f : Str} {v : V} {fs : List (Str × V)} {n : Nat} (h : fs.length ≤ n) : (putF f v fs).length ≤ n + 1 := by
  have := length_putF f v fs
  omega
/-- a thing, and, of a tuple, the things in it -/
def Thgs (H : Hp) (x : V) : Prop := Thg H x ∧ ∀ ws, tupV H x = some ws → ∀ v ∈ ws, Thg H v
theorem Thgs.same {H H' : Hp} {x : V} (h : Thgs H x) (s : Same H H') : Thgs H' x := ⟨h.1.same s, fun ws e v hv => (h.2 ws ((h.1.tupS s).symm.trans e) v hv).same s⟩
structure Parts (H : Hp) (nm mt an ri to ma ki : V) : Prop where
  nm : Thg H nm
  mt : Thg H mt
  an : Thgs H an
  ri : Thg H ri
  to : Thg H to
  ma : Thg H ma
  ki : Thg H ki
theorem Parts.same {H H' : Hp} {nm mt an ri to ma ki : V} (h : Parts H nm mt an ri to ma ki) (s : Same H H') : Parts H' nm mt an ri to ma ki := ⟨h.nm.same s, h.mt.same s, h.an.same s, h.ri.same s, h.to.same s, h.ma.same s, h.ki.same s⟩
theorem Parts.wrong {H H' : Hp} {nm mt an ri to ma ki : V} (h : Parts H nm mt an ri to ma ki) (s : Same H H') : wrongP H' nm mt an ri to ma ki = wrongP H nm mt an ri to ma ki := by
  have e := h.an.1.tupS s
  unfold wrongP answersV manyV
  rw [e]
def spQInit (CQ cE : Addr) : Sp := fun vs H Q E => ∃ (x dx : Addr) (nm mt an ri to ma ki : V), vs = [.ref x, nm, mt, an, ri, to, ma, ki] ∧ H x = some (.ins CQ dx []) ∧ Parts H nm mt an ri to ma ki ∧
  ∀ H', Same H H' → (wrongP H nm mt an ri to ma ki = "" → Q .non (upd H' x (.ins CQ dx (qFs nm mt an ri to ma ki)))) ∧
    (wrongP H nm mt an ri to ma ki ≠ "" → ∀ d, H' d = none → E (.ref cE) (some d) (upd H' d (.xd [(("part" : Str), .str (wrongP H nm mt an ri to ma ki))])))
abbrev VaLine : List Value := [.type "ValueError", .type "Exception", .type "BaseException", .type "object"]
abbrev psQ : List Str := ["self", "name", "matter", "answers", "right", "toil", "marks", "kin"]
abbrev dvQ : List V := [.int 0, .int 5, .int 1, .str ""]
structure QCls (K : PySem.W.Frag) (CQ : Addr) : Prop where
  cls : Cls K CQ
  no : ∀ f ∈ ["name", "matter", "answers", "right", "toil", "marks", "kin"], NoAttr K CQ f
theorem text_thg {H : Hp} {z : Str} (h : textT z = true) : Thg H (.str z) := by
  unfold textT at h
  simp only [Bool.and_eq_true, decide_eq_true_iff, List.all_eq_true] at h
  exact .str z (by omega) fun c hc => .inl (sign_sgn (h.2 c hc))
theorem thg_empty {H : Hp} : Thg H (.str "") := .str _ (by decide) fun c hc => by
  rw [show ("" : Str).cps.toList = [] from empty_tl] at hc
  cases hc
theorem made_fin {H : Hp} {CQ cE : Addr} {Q : VK} {E : XK} {nm mt an r t m k : V} (hp : Parts H nm mt an r t m k)
    (q1 : ∀ (x dx : Addr) (H' : Hp), Same H H' → wrongP H nm mt an r t m k = "" → H' x = some (.ins CQ dx (qFs nm mt an r t m k)) → Q (.ref x) H')
    (q2 : ∀ (d : Addr) (H' : Hp), Same H H' → wrongP H nm mt an r t m k ≠ "" → H' d = some (.xd [(("part" : Str), .str (wrongP H nm mt an r t m k))]) → E (.ref cE) (some d) H') :
    ∀ x dx, H x = none → H dx = none → dx ≠ x → spQInit CQ cE [.ref x, nm, mt, an, r, t, m, k] (upd (upd H dx (.own x)) x (.ins CQ dx [])) (fun v H2 => v = .non ∧ Q (.ref x) H2) E := fun x dx hx hdx ne => by
  have s0 : Same H (upd (upd H dx (.own x)) x (.ins CQ dx [])) := fun b o e => by
    rw [upd_ne (ne_of_none e hx), upd_ne (ne_of_none e hdx)]
    exact e
  have ew := hp.wrong s0
  refine ⟨x, dx, nm, mt, an, r, t, m, k, rfl, upd_same, hp.same s0, fun H' s' => ⟨fun e => ⟨rfl, ?_⟩, fun n d hd => ?_⟩⟩
  · rw [ew] at e
    exact q1 x dx _ (fun b o e => by rw [upd_ne (ne_of_none e hx)]; exact s' b o (s0 b o e)) e upd_same
  · rw [ew] at n ⊢
    refine q2 d _ (fun b o e => ?_) n upd_same
    have := s' b o (s0 b o e)
    rw [upd_ne (ne_of_none this hd)]
    exact this
theorem look_name (nm mt an r t m k : V) : (qFs nm mt an r t m k).lookup ("name" : Str) = some nm := by kernel_rfl
theorem look_matter (nm mt an r t m k : V) : (qFs nm mt an r t m k).lookup ("matter" : Str) = some mt := by kernel_rfl
theorem look_answers (nm mt an r t m k : V) : (qFs nm mt an r t m k).lookup ("answers" : Str) = some an := by kernel_rfl
theorem look_right (nm mt an r t m k : V) : (qFs nm mt an r t m k).lookup ("right" : Str) = some r := by kernel_rfl
theorem look_toil (nm mt an r t m k : V) : (qFs nm mt an r t m k).lookup ("toil" : Str) = some t := by kernel_rfl
theorem look_marks (nm mt an r t m k : V) : (qFs nm mt an r t m k).lookup ("marks" : Str) = some m := by kernel_rfl
theorem look_kin (nm mt an r t m k : V) : (qFs nm mt an r t m k).lookup ("kin" : Str) = some k := by kernel_rfl
theorem wrong_len (H : Hp) (nm mt an r t m k : V) : (wrongP H nm mt an r t m k).length ≤ 10 := by
  unfold wrongP
  repeat' split
  all_goals decide +kernel
section
variable {H H' : Hp} {nm mt an ri to ma ki : V}
structure Qok (H : Hp) (nm mt an ri to ma ki : V) : Prop where
  pa : Parts H nm mt an ri to ma ki
  ok : wrongP H nm mt an ri to ma ki = ""
theorem wr_all (hw : wrongP H nm mt an ri to ma ki = "") : nameV nm = true ∧ nameV mt = true ∧ answersV H an = true ∧ whole ri 0 (manyV H an - 1) = true ∧ whole to 1 9 = true ∧ whole ma 1 9 = true ∧ nameE ki = true := by
  unfold wrongP at hw
  cases h0 : nameV nm with
  | false => rw [h0, if_pos rfl] at hw; exact absurd hw (by decide)
  | true =>
  rw [h0, if_neg (by decide)] at hw
  cases h1 : nameV mt with
  | false => rw [h1, if_pos rfl] at hw; exact absurd hw (by decide)
  | true =>
  rw [h1, if_neg (by decide)] at hw
  cases h2 : answersV H an with
  | false => rw [h2, if_pos rfl] at hw; exact absurd hw (by decide)
  | true =>
  rw [h2, if_neg (by decide)] at hw
  cases h3 : whole ri 0 (manyV H an - 1) with
  | false => rw [h3, if_pos rfl] at hw; exact absurd hw (by decide)
  | true =>
  rw [h3, if_neg (by decide)] at hw
  cases h4 : whole to 1 9 with
  | false => rw [h4, if_pos rfl] at hw; exact absurd hw (by decide)
  | true =>
  rw [h4, if_neg (by decide)] at hw
  cases h5 : whole ma 1 9 with
  | false => rw [h5, if_pos rfl] at hw; exact absurd hw (by decide)
  | true =>
  rw [h5, if_neg (by decide)] at hw
  cases h6 : nameE ki with
  | false => rw [h6, if_pos rfl] at hw; exact absurd hw (by decide)
  | true => exact ⟨rfl, rfl, rfl, rfl, rfl, rfl, rfl⟩
theorem wr7 (h0 : nameV nm = true) (h1 : nameV mt = true) (h2 : answersV H an = true) (h3 : whole ri 0 (manyV H an - 1) = true) (h4 : whole to 1 9 = true) (h5 : whole ma 1 9 = true) (h6 : nameE ki = true) : wrongP H nm mt an ri to ma ki = "" := by
  unfold wrongP
  rw [h0, h1, h2, h3, h4, h5, h6]
  rfl
theorem whole_is {x : V} {lo hi : Int} (h : whole x lo hi = true) : ∃ i : Int, x = .int i ∧ lo ≤ i ∧ i ≤ hi := by
  cases x with
  | int i =>
    have h' : (decide (lo ≤ i) && decide (i ≤ hi)) = true := h
    rw [Bool.and_eq_true, decide_eq_true_iff, decide_eq_true_iff] at h'
    exact ⟨i, rfl, h'.1, h'.2⟩
  | _ => cases h
theorem whole_of {i lo hi : Int} (h1 : lo ≤ i) (h2 : i ≤ hi) : whole (.int i) lo hi = true := by
  show (decide (lo ≤ i) && decide (i ≤ hi)) = true
  rw [decide_eq_true h1, decide_eq_true h2]
  rfl
theorem Qok.same (q : Qok H nm mt an ri to ma ki) (s : Same H H') : Qok H' nm mt an ri to ma ki := ⟨q.pa.same s, (q.pa.wrong s).trans q.ok⟩
theorem manyV_at {a : Addr} {ws : List V} (h : H a = some (.tup ws)) : manyV H (.ref a) = (ws.length : Int) := by
  unfold manyV
  rw [tupV_at h]
  rfl
theorem answersV_at {a : Addr} {ws : List V} (h : H a = some (.tup ws)) : answersV H (.ref a) = answersL ws := by
  unfold answersV
  rw [tupV_at h]
/-- its answers and its right one -/
theorem Qok.ans (q : Qok H nm mt an ri to ma ki) : ∃ (a : Addr) (ws : List V) (r : Int), an = .ref a ∧ H a = some (.tup ws) ∧ answersL ws = true ∧ ri = .int r ∧ 0 ≤ r ∧ r < ws.length := by
  obtain ⟨_, _, h2, h3, _⟩ := wr_all q.ok
  obtain ⟨ws, hws⟩ : ∃ ws, tupV H an = some ws := by
    unfold answersV at h2
    cases e : tupV H an with
    | none => rw [e] at h2; cases h2
    | some ws => exact ⟨ws, rfl⟩
  obtain ⟨a, rfl, ha⟩ := tupV_of hws
  rw [answersV_at ha] at h2
  rw [manyV_at ha] at h3
  obtain ⟨r, rfl, r0, r1⟩ := whole_is h3
  exact ⟨a, ws, r, rfl, ha, h2, rfl, r0, by omega⟩
end
/-- a question's parts, as data -/
structure QD where
  nm : Str
  mt : Str
  ws : List Str
  ri : Int
  tl : Int
  ma : Int
  ki : Str
deriving DecidableEq
def QI (CQ : Addr) (H : Hp) (x : Addr) (q : QD) : Prop := ∃ dx a, H x = some (.ins CQ dx (qFs (.str q.nm) (.str q.mt) (.ref a) (.int q.ri) (.int q.tl) (.int q.ma) (.str q.ki))) ∧ H a = some (.tup (q.ws.map V.str)) ∧ q.ws.all PyData.strOk = true
theorem strs_dpA {K : PySem.W.Frag} {H : Hp} : ∀ ws : List Str, DpAll K H (ws.map V.str) (ws.map .str)
  | [] => .nil
  | z :: r => .cons (.str z) (strs_dpA r)
theorem strs_eqvA : ∀ ws vs : List Str, PyData.eqvAll (ws.map .str) (vs.map .str) = decide (ws = vs)
  | [], [] => by simp [PyData.eqvAll]
  | [], _ :: _ => by simp [PyData.eqvAll]
  | _ :: _, [] => by simp [PyData.eqvAll]
  | w :: ws, v :: vs => by
    have ih := strs_eqvA ws vs
    simp only [List.map_cons, PyData.eqvAll, PyData.eqv, ih, List.cons.injEq, Bool.decide_and]
    congr 1
theorem strs_depthA : ∀ ws : List Str, PyData.depthAll (ws.map .str) = 0
  | [] => by simp [PyData.depthAll]
  | z :: r => by simp [PyData.depthAll, PyData.depth, strs_depthA r]
theorem strs_shapedT {ws : List Str} (h : ws.all PyData.strOk = true) : SeqAt.shaped (.tuple (ws.map .str)) = true := by
  have e := PyProof.Rows.canLayAll_strs' ws
  rw [h] at e
  simp [SeqAt.shaped, PyData.canLay0, PyData.depth, e, strs_depthA]
def spQEq (K : PySem.W.Frag) (CQ : Addr) : Sp := fun vs H Q _ => ∃ (x : Addr) (y : V) (q1 : QD), vs = [.ref x, y] ∧ QI CQ H x q1 ∧ ((∃ z q2, y = .ref z ∧ QI CQ H z q2 ∧ Q (.bl (decide (q1 = q2))) H) ∨ ∃ tb, TyX K H y tb ∧ PySem.W.kitOne K tb (.ref CQ) = some false ∧ Q (.bl false) H)
def spQLen (CQ : Addr) : Sp := fun vs H Q _ => ∃ (x : Addr) (q1 : QD), vs = [.ref x] ∧ QI CQ H x q1 ∧ Q (.int q1.ws.length) H
structure QTy (K : PySem.W.Frag) (CQ : Addr) : Prop where
  ha : PySem.W.findIn K (.ref CQ) "__class__" = some (some (.builtin "object.__class__"))
  hn : PySem.W.specialIn K (.builtin "object.__class__") "__get__" = some (some (.builtin "getset_descriptor.__get__"))
  ht : PySem.W.takesIn K (.builtin "object.__class__") = some true
  hm : PySem.W.mroIn K CQ (.type "object") = some true
  hk : PySem.W.kitOne K (.ref CQ) (.ref CQ) = some true
def qRow (q : QD) (a : Addr) : List V := [.str q.nm, .str q.mt, .ref a, .int q.ri, .int q.tl, .int q.ma, .str q.ki]
def RowAt (H : Hp) (p : Addr) (q : QD) : Prop := ∃ a, H p = some (.tup (qRow q a)) ∧ H a = some (.tup (q.ws.map V.str))
/-- all can be there, but perhaps alike answers -/
structure QV (q : QD) : Prop where
  nm : nameT q.nm = true
  mt : nameT q.mt = true
  w2 : 2 ≤ q.ws.length
  w6 : q.ws.length ≤ 6
  wt : ∀ w ∈ q.ws, textT w = true
  r0 : 0 ≤ q.ri
  r1 : q.ri < q.ws.length
  t1 : 1 ≤ q.tl
  t9 : q.tl ≤ 9
  m1 : 1 ≤ q.ma
  m9 : q.ma ≤ 9
  ki : nameE (.str q.ki) = true
section
variable {K : PySem.W.Frag} {H H' : Hp} {CQ x y p s : Addr} {q q' q2 : QD} {t : Int}
theorem RowAt.same (h : RowAt H p q) (k : Same H H') : RowAt H' p q := by
  obtain ⟨a, h1, h2⟩ := h
  exact ⟨a, k _ _ h1, k _ _ h2⟩
theorem row_qok (h : RowAt H p q) (v : QV q) (u : unlike q.ws q.ws.length = q.ws.length) : ∃ a, H p = some (.tup (qRow q a)) ∧ H a = some (.tup (q.ws.map V.str)) ∧ Qok H (.str q.nm) (.str q.mt) (.ref a) (.int q.ri) (.int q.tl) (.int q.ma) (.str q.ki) := by
  obtain ⟨a, h1, h2⟩ := h
  have tv : tupV H (.ref a) = some (q.ws.map V.str) := tupV_at h2
  have sm : (q.ws.map V.str).map strV = q.ws := by
    rw [List.map_map]
    exact List.map_id'' (fun _ => rfl) q.ws
  refine ⟨a, h1, h2, ⟨name_thg v.nm, name_thg v.mt, ⟨.tup h2, fun ws e x hx => ?_⟩, .int _, .int _, .int _, ?_⟩, wr7 v.nm v.mt ?_ ?_ (whole_of v.t1 v.t9) (whole_of v.m1 v.m9) v.ki⟩
  · rw [tv] at e
    cases e
    obtain ⟨w, hw, rfl⟩ := List.mem_map.mp hx
    exact text_thg (v.wt w hw)
  · have := v.ki
    unfold nameE at this
    rcases Bool.or_eq_true_iff.mp this with h | h
    · exact name_thg h
    · rw [of_decide_eq_true h]
      exact thg_empty
  · unfold answersV
    rw [tv]
    show answersL (q.ws.map V.str) = true
    unfold answersL
    rw [sm, List.length_map, u]
    simp only [Bool.and_eq_true, decide_eq_true_iff, List.all_eq_true]
    refine ⟨⟨⟨v.w2, v.w6⟩, fun x hx => ?_⟩, by trivial⟩
    obtain ⟨w, hw, rfl⟩ := List.mem_map.mp hx
    exact v.wt w hw
  · refine whole_of v.r0 ?_
    unfold manyV
    rw [tv]
    show q.ri ≤ (((q.ws.map V.str).length : Nat) : Int) - 1
    rw [List.length_map]
    have := v.r1
    omega
theorem QI.same (h : QI CQ H x q) (k : Same H H') : QI CQ H' x q := by
  obtain ⟨dx, a, h1, h2, h3⟩ := h
  exact ⟨dx, a, k _ _ h1, k _ _ h2, h3⟩
theorem strs_inj : ∀ {a b : List Str}, a.map V.str = b.map V.str → a = b
  | [], [], _ => rfl
  | [], _ :: _, h => by cases h
  | _ :: _, [], h => by cases h
  | x :: a, y :: b, h => by
    rw [List.map_cons, List.map_cons] at h
    obtain ⟨h1, h2⟩ := List.cons.inj h
    rw [V.str.inj h1, strs_inj h2]
theorem QI.uniq (h : QI CQ H x q) (k : QI CQ H x q') : q = q' := by
  obtain ⟨dx, a, h1, h2, _⟩ := h
  obtain ⟨dy, b, k1, k2, _⟩ := k
  rw [h1] at k1
  have e := Option.some.inj k1
  injection e with e1 e2 e3
  unfold qFs at e3
  simp only [List.cons.injEq, Prod.mk.injEq, V.str.injEq, V.int.injEq, V.ref.injEq, true_and, and_true] at e3
  obtain ⟨n1, n2, n3, n4, n5, n6, n7⟩ := e3
  subst n3
  rw [h2] at k2
  have ew := strs_inj (HO.tup.inj (Option.some.inj k2))
  cases q
  cases q'
  dsimp only at n1 n2 n4 n5 n6 n7 ew
  subst n1 n2 n4 n5 n6 n7 ew
  rfl
theorem text_strOk {w : Str} (h : textT w = true) : PyData.strOk w = true := by
  have e := text_thg (H := fun _ => none) h
  cases e with
  | str z hl ho => exact (sok_iff _).mpr ho.ok
theorem room1 {k : Nat} {A : Around} (hr : Room k A) : A.units < cLine := by
  have := room_show hr
  omega
def qData (q : QD) : PyData := .tuple [.str q.nm, .str q.mt, .tuple (q.ws.map .str), .int q.ri, .int q.tl, .int q.ma, .str q.ki]
theorem row_dp (h : RowAt H p q) : Dp K H (.ref p) (qData q) := by
  obtain ⟨a, hp, ha⟩ := h
  exact .tup (SqT.of hp) (.cons (.str _) (.cons (.str _) (.cons (.tup (SqT.of ha) (strs_dpA _)) (.cons (.int _) (.cons (.int _) (.cons (.int _) (.cons (.str _) .nil)))))))
theorem row_eqv (q q' : QD) : PyData.eqv (qData q) (qData q') = decide (q = q') := by
  have e := strs_eqvA q.ws q'.ws
  unfold qData
  simp only [PyData.eqv, PyData.eqvAll, e, Bool.and_true]
  obtain ⟨a1, a2, a3, a4, a5, a6, a7⟩ := q
  obtain ⟨b1, b2, b3, b4, b5, b6, b7⟩ := q'
  rw [Bool.eq_iff_iff]
  simp only [Bool.and_eq_true, decide_eq_true_iff, beq_iff_eq, QD.mk.injEq]
theorem name_strOk {z : Str} (h : nameT z = true) : PyData.strOk z = true := by
  have e := name_thg (H := fun _ => none) h
  cases e with
  | str z hl ho => exact (sok_iff _).mpr ho.ok
theorem kin_strOk {z : Str} (h : nameE (.str z) = true) : PyData.strOk z = true := by
  unfold nameE at h
  rcases Bool.or_eq_true_iff.mp h with h | h
  · exact name_strOk h
  · rw [V.str.inj (of_decide_eq_true h)]
    decide +kernel
theorem ws_strOk (v : QV q) : q.ws.all PyData.strOk = true := List.all_eq_true.mpr fun w hw => text_strOk (v.wt w hw)
theorem row_canLay (v : QV q) : (qData q).canLay0 = true := by
  have e := PyProof.Rows.canLayAll_strs' q.ws
  rw [ws_strOk v] at e
  simp [qData, PyData.canLay0, PyData.canLayAll0, name_strOk v.nm, name_strOk v.mt, kin_strOk v.ki, e]
theorem row_depth : (qData q).depth = 2 := by
  simp [qData, PyData.depth, PyData.depthAll, strs_depthA]
theorem row_shaped (v : QV q) : SeqAt.shaped (qData q) = true := by
  have e := row_canLay v
  have d := row_depth (q := q)
  simp [SeqAt.shaped, e, d]
theorem QI.ty (C : QCls K CQ) (CT : QTy K CQ) (h : QI CQ H x q) : TyX K H (.ref x) (.ref CQ) := by
  obtain ⟨dx, a, h1, _⟩ := h
  exact .base (.ins h1 C.cls CT.ha CT.hn CT.ht CT.hm)
theorem QI.eqOf (h : QI CQ H x q) (k : QI CQ H y q2) : EqOf CQ (spQEq K CQ) x y H (decide (q = q2)) := by
  by_cases e : x = y
  · subst e
    exact .inl ⟨rfl, decide_eq_true (h.uniq k)⟩
  · obtain ⟨dx, a, h1, _⟩ := id h
    obtain ⟨dy, b, k1, _⟩ := id k
    exact .inr ⟨e, ⟨_, _, h1⟩, ⟨_, _, k1⟩, x, .ref y, q, rfl, h, .inl ⟨y, q2, rfl, k, rfl, rfl⟩⟩
end
end Pk
namespace Pk
open PySem L2
/-! ### signs of names and texts, by str's own looks -/
theorem low_alpha : ∀ c < 128, (Unicode.isAlpha c && !(Unicode.isUpper c || Unicode.isTitle c)) = decide (c ∈ letters.cps.toList) := by decide +kernel
theorem low_lower : ∀ c < 128, decide (c ∈ letters.cps.toList) = Unicode.isLower c := by decide +kernel
theorem low_print : ∀ c < 128, (Unicode.isPrintable c && !decide (c = 37)) = signOk c := by decide +kernel
theorem letters_low : ∀ c ∈ letters.cps.toList, c < 128 := by decide +kernel
theorem name_signs (z : Str) (h : 1 ≤ z.length) : (Txt.isascii z && (Txt.isalpha z && Txt.islower z)) = z.cps.toList.all fun c => decide (c ∈ letters.cps.toList) := by
  unfold Txt.isascii Txt.isalpha Txt.islower
  rw [← Array.all_toList, ← Array.all_toList, ← Array.any_toList, ← Array.any_toList]
  have hl : z.cps.toList.length = z.length := rfl
  rw [show decide (z.length > 0) = true from decide_eq_true h, Bool.true_and]
  generalize z.cps.toList = l at hl ⊢
  rw [← hl] at h
  rw [Bool.eq_iff_iff]
  simp only [Bool.and_eq_true, List.all_eq_true, List.any_eq_true, Bool.not_eq_true', decide_eq_true_eq]
  constructor
  · rintro ⟨h1, h2, _, h4⟩ c hc
    have e := low_alpha c (h1 c hc)
    rw [h2 c hc, Bool.true_and] at e
    have n : (Unicode.isUpper c || Unicode.isTitle c) = false := by
      cases hh : (Unicode.isUpper c || Unicode.isTitle c) with
      | false => rfl
      | true => exact absurd (List.any_eq_true.mpr ⟨c, hc, hh⟩) (by rw [h4]; exact Bool.false_ne_true)
    rw [n] at e
    exact of_decide_eq_true e.symm
  · intro hh
    have lo : ∀ c ∈ l, c < 128 := fun c hc => letters_low c (hh c hc)
    have e : ∀ c ∈ l, (Unicode.isAlpha c && !(Unicode.isUpper c || Unicode.isTitle c)) = true := fun c hc => (low_alpha c (lo c hc)).trans (decide_eq_true (hh c hc))
    refine ⟨lo, fun c hc => (Bool.and_eq_true_iff.mp (e c hc)).1, ?_, ?_⟩
    · cases l with
      | nil => exact absurd h (by decide)
      | cons c r => exact ⟨c, List.mem_cons_self, (low_lower c (lo c List.mem_cons_self)).symm.trans (decide_eq_true (hh c List.mem_cons_self))⟩
    · rw [Bool.eq_false_iff]
      intro a
      obtain ⟨c, hc, a⟩ := List.any_eq_true.mp a
      have := (Bool.and_eq_true_iff.mp (e c hc)).2
      rw [a] at this
      exact absurd this (by decide)
theorem text_signs (z : Str) : (Txt.isascii z && (Txt.isprintable z && z.cps.toList.all fun c => !decide (c = 37))) = z.cps.toList.all signOk := by
  unfold Txt.isascii Txt.isprintable
  rw [← Array.all_toList, ← Array.all_toList]
  generalize z.cps.toList = l
  rw [Bool.eq_iff_iff]
  simp only [Bool.and_eq_true, List.all_eq_true, decide_eq_true_eq]
  constructor
  · rintro ⟨h1, h2, h3⟩ c hc
    rw [← low_print c (h1 c hc), h2 c hc, h3 c hc]
    rfl
  · intro hh
    have lo : ∀ c ∈ l, c < 128 := fun c hc => by
      have := hh c hc
      unfold signOk at this
      rw [Bool.and_eq_true, Bool.and_eq_true] at this
      have := of_decide_eq_true this.1.2
      omega
    have e : ∀ c ∈ l, (Unicode.isPrintable c && !decide (c = 37)) = true := fun c hc => (low_print c (lo c hc)).trans (hh c hc)
    exact ⟨lo, fun c hc => (Bool.and_eq_true_iff.mp (e c hc)).1, fun c hc => (Bool.and_eq_true_iff.mp (e c hc)).2⟩
end Pk
namespace Pk
open PySem L2
/-! ### words.py -/
section
variable {P : Program} {w : World} {K : PySem.W.Frag} {mg : Str → Option Value} {base : Heap}
theorem isb {X : Cx} {i : Nat} {v : Str} {y : Str} {T : String} {p p1 p2 pos : Pos} (mi : X.mg "isinstance" = none) (my : X.mg y = none) (by_ : bootBuiltins y = some (.type T)) (hi : Gl X "isinstance" := by rfl) (hg : Gl X y := by rfl) (hN : X.N[i]? = some v := by rfl) (hv : Vis X.env.scope v := by first | exact Or.inl rfl | exact Or.inr (Or.inl rfl)) (hd : (y == ("__debug__" : Str)) = false := by decide) (hd2 : (v == ("__debug__" : Str)) = false := by decide) (hd3 : (v == ("__classdict__" : Str)) = false := by decide) (hn : y ≠ "__name__" := by decide) :
    PE X (.Call (.Name "isinstance" p) [.Name v p1, .Name y p2] [] pos) (tCB (rIsi X.K) (tCons (tVar i) (tCons (tC (.ty T)) tNil))) :=
  pe_callB call_isi hi mi (by decide +kernel) (pa_cons (pe_var hN hv hd2 hd3) (pa_cons (pe_bltn (v := .ty T) hg my by_ rfl hn hd) pa_nil))
theorem scIsNumber : FnScope ["thing"] ["thing"] (defScope sIsNumber) := ⟨rfl, rfl, rfl, by decide +kernel, rfl, by decide +kernel, by decide +kernel⟩
theorem ok_isNumber {f : Addr} {fd : FuncData} (F : Fun K "is_number" "is_number" sIsNumber f fd) (mi : mg "isinstance" = none) (mn : mg "int" = none) (mb : mg "bool" = none) : FnOk P w K mg base CX0 1 f fd ["thing"] spIsNumber := by
  refine F.ok scIsNumber (fun vs H Q E h => ?_) (fun cdv A outer s H vs Q E hr h => ?_)
  · obtain ⟨x, rfl, _⟩ := h
    rfl
  · obtain ⟨x, rfl, hx, q⟩ := h
    obtain ⟨t, ty, k1, k2, _, _⟩ := hx.ty (K := K)
    refine ⟨_, pss_one (ps_ret (pe_and (isb (i := 0) mi mn PyProof.Rows.boot_int) (pe_one (pe_not (isb (i := 0) (T := "bool") mi mb (by decide +kernel)))))), ?_⟩
    refine ⟨_, rfl, _, _, _, _, _, rfl, .ty "int", ty, kit_ty k1, _, rfl, ?_⟩
    cases hv : vInt x with
    | true =>
      rw [hv] at q
      refine iteT ⟨_, rfl, _, _, _, _, _, rfl, .ty "bool", ty, kit_ty k2, _, rfl, ?_⟩
      have : vBool x = false := by
        cases x <;> first | rfl | cases hv
      rw [this]
      exact q
    | false =>
      rw [hv] at q
      cases hb : vBool x with
      | true =>
        rw [hb] at k2
        exact iteT ⟨_, rfl, _, _, _, _, _, rfl, .ty "bool", ty, kit_ty k2, _, rfl, q⟩
      | false => exact iteF q
theorem scIsWhole : FnScope ["thing", "least", "most"] ["thing", "least", "most"] (defScope sIsWhole) := ⟨rfl, rfl, rfl, by decide +kernel, rfl, by decide +kernel, by decide +kernel⟩
abbrev FunDf (K : PySem.W.Frag) (x : Str) (st : Stmt) (dvs : List V) (f : Addr) (fd : FuncData) : Prop := FunD K x x (defArgs st) (defBody st) (defScope st) dvs [] f fd
theorem ok_isWhole {f fN : Addr} {fd fdN : FuncData} (F : FunDf K "is_whole" sIsWhole [.int 0, .int 9999] f fd) (FN : Fun K "is_number" "is_number" sIsNumber fN fdN) (bN : Binds K fdN ["thing"] []) (gN : mg "is_number" = some (.ref fN))
    (mi : mg "isinstance" = none) (mn : mg "int" = none) (mb : mg "bool" = none) : FnOk P w K mg base CX0 2 f fd ["thing", "least", "most"] spIsWhole := by
  have GN : FnOk P w K mg base CX0 1 fN fdN ["thing"] spIsNumber := ok_isNumber FN mi mn mb
  refine F.ok scIsWhole (fun vs H Q E h => ?_) (fun cdv A outer s H vs Q E hr h => ?_)
  · obtain ⟨x, lo, hi, rfl, _⟩ := h
    rfl
  · obtain ⟨x, lo, hi, rfl, hx, q⟩ := h
    refine ⟨_, pss_one (ps_ret (pe_and (pe_call GN hr (by rfl) gN FN.kp bN .nil pass0 (pa_cons (pv 0) pa_nil)) (pe_one (pe_chain op_le op_le (pv 1) (pv 0) (pv 2))))), ?_⟩
    refine ⟨_, rfl, x, rfl, hx, _, rfl, ?_⟩
    cases hx with
    | int i =>
      have q' : Q (.bl (decide (lo ≤ i) && decide (i ≤ hi))) H := q
      refine iteT ⟨_, rfl, _, rfl, _, _, rfl, rfl, _, rfl, ?_⟩
      cases hd : decide (lo ≤ i) with
      | true =>
        rw [hd, Bool.true_and] at q'
        exact iteT ⟨_, rfl, _, _, rfl, rfl, q'⟩
      | false =>
        rw [hd, Bool.false_and] at q'
        exact iteF q'
    | non => exact iteF q
    | bl b => exact iteF q
    | str z hl ho => exact iteF q
    | lst h => exact iteF q
    | tup h => exact iteF q
    | dct h => exact iteF q
theorem scIsName : FnScope ["thing"] ["thing"] (defScope sIsName) := ⟨rfl, rfl, rfl, by decide +kernel, rfl, by decide +kernel, by decide +kernel⟩
theorem ok_isName {f : Addr} {fd : FuncData} (F : Fun K "is_name" "is_name" sIsName f fd) (mi : mg "isinstance" = none) (ms : mg "str" = none) (ml : mg "len" = none) (gM : ∃ t, mg "MOST_LETTERS" = some (.int 8 t)) :
    FnOk P w K mg base CX0 1 f fd ["thing"] spIsName := by
  obtain ⟨tM, gM⟩ := gM
  refine F.ok scIsName (fun vs H Q E h => ?_) (fun cdv A outer s H vs Q E hr h => ?_)
  · obtain ⟨x, rfl, _⟩ := h
    rfl
  · obtain ⟨x, rfl, hx, q⟩ := h
    obtain ⟨t, ty, _, _, k3, _⟩ := hx.ty (K := K)
    refine ⟨_, pss_cons (ps_if (PW.pt (pw_or (pt_not (pt_val (isb (i := 0) mi ms PyProof.Rows.boot_str))) (pw_or1 (pt_not (pt_chain op_le op_le pe_int (pe_callB call_len_str (by rfl) ml PySem.boot_len (pa_cons (pv 0) pa_nil)) (pe_glob (v := .int 8) (by rfl) gM ⟨_, rfl⟩)))))) (pss_one (ps_ret pe_bl)) pss_nil)
      (pss_one (ps_ret (pe_and (pe_m0 PySem.F.slot_str_isascii PySem.F.type_str_isascii mt_isascii (pv 0)) (pe_and (pe_m0 PySem.F.slot_str_isalpha PySem.F.type_str_isalpha mt_isalpha (pv 0)) (pe_one (pe_m0 PySem.F.slot_str_islower PySem.F.type_str_islower mt_islower (pv 0))))))), ?_⟩
    refine ⟨_, rfl, _, _, _, _, _, rfl, .ty "str", ty, kit_ty k3, _, rfl, ?_⟩
    have q := q H (Same.refl H)
    cases hx with
    | non => exact iteT q
    | bl b => exact iteT q
    | int i => exact iteT q
    | lst h => exact iteT q
    | tup h => exact iteT q
    | dct h => exact iteT q
    | str z hl ho =>
      refine iteF ⟨_, rfl, z, rfl, by rw [sizeLine_eq]; omega, _, _, rfl, rfl, _, rfl, ?_⟩
      have q' : Q (.bl (decide (1 ≤ z.length) && decide (z.length ≤ 8) && z.cps.toList.all fun c => decide (c ∈ letters.cps.toList))) H := q
      cases h1 : decide (1 ≤ z.length) with
      | false =>
        rw [h1, Bool.false_and, Bool.false_and] at q'
        have e1 : decide ((1 : Int) ≤ z.length) = false := by
          have := of_decide_eq_false h1
          exact decide_eq_false (by omega)
        rw [e1]
        exact iteF ⟨_, rfl, iteT q'⟩
      | true =>
        have e1 : decide ((1 : Int) ≤ z.length) = true := by
          have := of_decide_eq_true h1
          exact decide_eq_true (by omega)
        rw [e1]
        refine iteT ⟨_, _, rfl, rfl, _, rfl, ?_⟩
        cases h2 : decide (z.length ≤ 8) with
        | false =>
          rw [h1, h2, Bool.and_false, Bool.false_and] at q'
          have e2 : decide ((z.length : Int) ≤ 8) = false := by
            have := of_decide_eq_false h2
            exact decide_eq_false (by omega)
          rw [e2]
          exact iteT q'
        | true =>
          rw [h1, h2, Bool.and_true, Bool.true_and, ← name_signs z (of_decide_eq_true h1)] at q'
          have e2 : decide ((z.length : Int) ≤ 8) = true := by
            have := of_decide_eq_true h2
            exact decide_eq_true (by omega)
          rw [e2]
          refine iteF ⟨_, rfl, ⟨z, rfl⟩, z, rfl, rfl, trivial, _, rfl, ?_⟩
          cases h3 : Txt.isascii z with
          | false =>
            rw [h3, Bool.false_and] at q'
            exact iteF q'
          | true =>
            rw [h3, Bool.true_and] at q'
            refine iteT ⟨_, rfl, ⟨z, rfl⟩, z, rfl, rfl, trivial, _, rfl, ?_⟩
            cases h4 : Txt.isalpha z with
            | false =>
              rw [h4, Bool.false_and] at q'
              exact iteF q'
            | true =>
              rw [h4, Bool.true_and] at q'
              exact iteT ⟨_, rfl, ⟨z, rfl⟩, z, rfl, rfl, trivial, q'⟩
theorem at_last {l : List Nat} (h : l ≠ []) : atI l (-1) = some (l.getLast h) :=
  (congrArg (fun x => atI x (-1)) (List.dropLast_concat_getLast h).symm).trans (atI_last _ _)
theorem scIsText : FnScope ["thing", "sign"] ["thing"] (defScope sIsText) := ⟨rfl, rfl, rfl, by decide +kernel, rfl, by decide +kernel, by decide +kernel⟩
theorem ok_isText {f : Addr} {fd : FuncData} (F : Fun K "is_text" "is_text" sIsText f fd) (mi : mg "isinstance" = none) (ms : mg "str" = none) (ml : mg "len" = none) (ma : mg "all" = none) (mo : mg "ord" = none)
    (gP : ∃ t, mg "PERCENT" = some (.int 37 t)) (gM : ∃ t, mg "MOST_SIGNS" = some (.int 30 t)) : FnOk P w K mg base CX0 2 f fd ["thing"] spIsText := by
  obtain ⟨tP, gP⟩ := gP
  obtain ⟨tM, gM⟩ := gM
  refine F.ok scIsText (fun vs H Q E h => ?_) (fun cdv A outer s H vs Q E hr h => ?_)
  · obtain ⟨x, rfl, _⟩ := h
    rfl
  · obtain ⟨x, rfl, hx, q⟩ := h
    obtain ⟨t, ty, _, _, k3, _⟩ := hx.ty (K := K)
    refine ⟨_, pss_cons (ps_if (PW.pt (pw_or (pt_not (pt_val (isb (i := 0) mi ms PyProof.Rows.boot_str))) (pw_or1 (pt_not (pt_chain op_le op_le pe_int (pe_callB call_len_str (by rfl) ml PySem.boot_len (pa_cons (pv 0) pa_nil)) (pe_glob (v := .int 30) (by rfl) gM ⟨_, rfl⟩)))))) (pss_one (ps_ret pe_bl)) pss_nil)
      (pss_cons (ps_if (PW.pt (pw_or (pt_cmpR op_eq (pe_ix ix_str (pv 0) pe_int (fun _ _ => rfl)) pe_str (nomark _)) (pw_or1 (pt_cmpR op_eq (pe_ix ix_str (pv 0) (pe_un un_neg pe_int) (fun _ _ => rfl)) pe_str (nomark _))))) (pss_one (ps_ret pe_bl)) pss_nil)
      (pss_one (ps_ret (pe_and (pe_m0 PySem.F.slot_str_isascii PySem.F.type_str_isascii mt_isascii (pv 0)) (pe_and (pe_m0 PySem.F.slot_str_isprintable PySem.F.type_str_isprintable mt_isprintable (pv 0)) (pe_one (pe_callB (cr_all rfl) (by rfl) ma (by decide +kernel) (pa_cons (pe_lc (own := [("sign", 1)]) (g := gName 1) rfl scIsText.nd (pi_str (pv 0)) (blkOk_by (N := ["thing", "sign"]) (sc := defScope sIsText) (by decide +kernel))
        (fun _ _ _ _ _ => pg_name (i := 1) scIsText.nd rfl (Or.inl rfl)) (fun _ _ _ _ _ => pts_nil) (fun _ _ _ _ _ => pe_cmpR op_ne (pe_callB call_ord (by rfl) mo (by decide +kernel) (pa_cons (pv 1) pa_nil)) (pe_glob (v := .int 37) (by rfl) gP ⟨_, rfl⟩) (nomark _))) pa_nil)))))))), ?_⟩
    refine ⟨_, rfl, _, _, _, _, _, rfl, .ty "str", ty, kit_ty k3, _, rfl, ?_⟩
    cases hx with
    | non => exact iteT (q H (Same.refl H))
    | bl b => exact iteT (q H (Same.refl H))
    | int i => exact iteT (q H (Same.refl H))
    | lst h => exact iteT (q H (Same.refl H))
    | tup h => exact iteT (q H (Same.refl H))
    | dct h => exact iteT (q H (Same.refl H))
    | str z hl ho =>
      refine iteF ⟨_, rfl, z, rfl, by rw [sizeLine_eq]; omega, _, _, rfl, rfl, _, rfl, ?_⟩
      have q' : ∀ H', Same H H' → Q (.bl (decide (1 ≤ z.length) && decide (z.length ≤ 30) && !decide (z.cps.toList[0]? = some 32) && !decide (z.cps.toList.getLast? = some 32) && z.cps.toList.all signOk)) H' := q
      cases h1 : decide (1 ≤ z.length) with
      | false =>
        rw [h1, Bool.false_and, Bool.false_and, Bool.false_and, Bool.false_and] at q'
        have e1 : decide ((1 : Int) ≤ z.length) = false := by
          have := of_decide_eq_false h1
          exact decide_eq_false (by omega)
        rw [e1]
        exact iteF ⟨_, rfl, iteT (q' H (Same.refl H))⟩
      | true =>
        have p1 : 1 ≤ z.length := of_decide_eq_true h1
        have e1 : decide ((1 : Int) ≤ z.length) = true := decide_eq_true (by omega)
        rw [e1]
        refine iteT ⟨_, _, rfl, rfl, _, rfl, ?_⟩
        cases h2 : decide (z.length ≤ 30) with
        | false =>
          rw [h1, h2, Bool.and_false, Bool.false_and, Bool.false_and, Bool.false_and] at q'
          have e2 : decide ((z.length : Int) ≤ 30) = false := by
            have := of_decide_eq_false h2
            exact decide_eq_false (by omega)
          rw [e2]
          exact iteT (q' H (Same.refl H))
        | true =>
          rw [h1, h2, Bool.and_true, Bool.true_and] at q'
          have e2 : decide ((z.length : Int) ≤ 30) = true := by
            have := of_decide_eq_true h2
            exact decide_eq_true (by omega)
          rw [e2]
          refine iteF ?_
          -- the first and the last sign
          have ln : z.cps.toList.length = z.length := (len_is z).symm
          have g0 : z.cps.toList[0]? = some (z.cps.toList[0]'(by omega)) := List.getElem?_eq_getElem (by omega)
          have hne : z.cps.toList ≠ [] := fun e => by rw [e] at ln; simp at ln; omega
          have gl : z.cps.toList.getLast? = some (z.cps.toList.getLast hne) := List.getLast?_eq_getLast hne
          generalize hc0 : z.cps.toList[0]'(by omega) = c0 at g0
          generalize hcl : z.cps.toList.getLast hne = cl at gl
          have al : atI z.cps.toList (-1) = some cl := by
            rw [← hcl]
            exact at_last hne
          have one_eq : ∀ c : Nat, decide (V.str ⟨#[c]⟩ = V.str " ") = decide (c = 32) := fun c => decide_eq_decide.mpr ⟨fun z => by
            have e := congrArg TL.tl (V.str.inj z)
            rw [blank_tl] at e
            exact (List.cons.inj e).1, fun z => by rw [z]; exact congrArg V.str (by decide +kernel)⟩
          refine ⟨_, rfl, z, 0, c0, rfl, rfl, by rw [sizeLine_eq]; omega, atI_nat (j := 0) g0, rfl, _, rfl, ?_⟩
          rw [one_eq]
          cases h3 : decide (c0 = 32) with
          | true =>
            have e3 : decide (z.cps.toList[0]? = some 32) = true := decide_eq_true (by rw [g0, of_decide_eq_true h3])
            rw [e3, Bool.not_true, Bool.false_and, Bool.false_and] at q'
            exact iteT (q' H (Same.refl H))
          | false =>
            have e3 : decide (z.cps.toList[0]? = some 32) = false := decide_eq_false (by rw [g0]; exact fun e => of_decide_eq_false h3 (Option.some.inj e))
            rw [e3, Bool.not_false, Bool.true_and] at q'
            refine iteF ⟨_, rfl, _, rfl, z, _, cl, rfl, rfl, by rw [sizeLine_eq]; omega, al, rfl, _, rfl, ?_⟩
            rw [one_eq]
            cases h4 : decide (cl = 32) with
            | true =>
              have e4 : decide (z.cps.toList.getLast? = some 32) = true := decide_eq_true (by rw [gl, of_decide_eq_true h4])
              rw [e4, Bool.not_true, Bool.false_and] at q'
              exact iteT (q' H (Same.refl H))
            | false =>
              have e4 : decide (z.cps.toList.getLast? = some 32) = false := decide_eq_false (by rw [gl]; exact fun e => of_decide_eq_false h4 (Option.some.inj e))
              rw [e4, Bool.not_false, Bool.true_and] at q'
              rw [← text_signs z] at q'
              refine iteF ⟨_, rfl, ⟨z, rfl⟩, z, rfl, rfl, trivial, _, rfl, ?_⟩
              cases h5 : Txt.isascii z with
              | false =>
                rw [h5, Bool.false_and] at q'
                exact iteF (q' H (Same.refl H))
              | true =>
                rw [h5, Bool.true_and] at q'
                refine iteT ⟨_, rfl, ⟨z, rfl⟩, z, rfl, rfl, trivial, _, rfl, ?_⟩
                cases h6 : Txt.isprintable z with
                | false =>
                  rw [h6, Bool.false_and] at q'
                  exact iteF (q' H (Same.refl H))
                | true =>
                  rw [h6, Bool.true_and] at q'
                  refine iteT ⟨_, rfl, z, rfl, fun D hD => ?_⟩
                  refine lc_it walk_str (fun i H' => (∀ b o, b ≠ D → H b = some o → H' b = some o) ∧ H' D = some (.lst (((z.cps.toList.take i).map fun c => !decide (c = 37)).map V.bl))) ⟨fun b o n e => ?_, upd_same⟩ (fun _ _ _ _ => trivial) ?_ ?_
                  · rw [upd_ne n]
                    exact e
                  · rintro i x H1 H2 hi ⟨k, hd⟩ ⟨rfl, c, hc, rfl⟩
                    have hc' : z.cps.toList[i]? = some c := by rw [Array.getElem?_toList]; exact hc
                    have e3 : decide (V.int ((⟨#[c]⟩ : Str).cps.getD 0 0 : Nat) = V.int 37) = decide (c = 37) := decide_eq_decide.mpr ⟨fun z => by
                      have := V.int.inj z
                      have e : ((⟨#[c]⟩ : Str).cps.getD 0 0) = c := rfl
                      rw [e] at this
                      omega, fun z => by rw [z]; rfl⟩
                    refine ⟨rfl, _, rfl, _, rfl, rfl, rfl, _, hd, ?_, fun b o n e => ?_, ?_⟩
                    · rw [List.length_map, List.length_map, List.length_take, sizeLine_eq, ← len_is]
                      omega
                    · rw [upd_ne n]
                      exact k b o n e
                    · rw [upd_same, List.take_add_one, hc', List.map_append, List.map_append]
                      show some (HO.lst (_ ++ [V.bl (!decide (V.int ((⟨#[c]⟩ : Str).cps.getD 0 0 : Nat) = V.int 37))])) = _
                      rw [e3]
                      rfl
                  · rintro H1 ⟨k, hd⟩
                    rw [List.take_of_length_le (by rw [Array.length_toList]; exact Nat.le_refl _)] at hd
                    refine ⟨D, _, rfl, SqL.of hd, ?_⟩
                    have e5 : ((z.cps.toList.map fun c => !decide (c = 37)).all id) = z.cps.toList.all fun c => !decide (c = 37) := by
                      rw [List.all_map]
                      rfl
                    rw [e5]
                    exact q' H1 fun b o e => k b o (fun z => by rw [z, hD] at e; cases e) e
theorem scIsNameE : FnScope ["thing"] ["thing"] (defScope sIsNameE) := ⟨rfl, rfl, rfl, by decide +kernel, rfl, by decide +kernel, by decide +kernel⟩
theorem ok_isNameE {f fN : Addr} {fd fdN : FuncData} (F : Fun K "is_name_or_empty" "is_name_or_empty" sIsNameE f fd) (FN : Fun K "is_name" "is_name" sIsName fN fdN) (bN : Binds K fdN ["thing"] []) (gN : mg "is_name" = some (.ref fN))
    (mi : mg "isinstance" = none) (ms : mg "str" = none) (ml : mg "len" = none) (gM : ∃ t, mg "MOST_LETTERS" = some (.int 8 t)) : FnOk P w K mg base CX0 2 f fd ["thing"] spIsNameE := by
  have GN : FnOk P w K mg base CX0 1 fN fdN ["thing"] spIsName := ok_isName FN mi ms ml gM
  refine F.ok scIsNameE (fun vs H Q E h => ?_) (fun cdv A outer s H vs Q E hr h => ?_)
  · obtain ⟨x, rfl, _⟩ := h
    rfl
  · obtain ⟨x, rfl, hx, q⟩ := h
    refine ⟨_, pss_one (ps_ret (pe_or (pe_call GN hr (by rfl) gN FN.kp bN .nil pass0 (pa_cons (pv 0) pa_nil)) (pe_one (pe_and (isb (i := 0) mi ms PyProof.Rows.boot_str) (pe_one (pe_cmpR op_eq (pv 0) pe_str (nomark _))))))), ?_⟩
    refine ⟨_, rfl, x, rfl, hx, fun H1 s1 => ⟨_, rfl, ?_⟩⟩
    obtain ⟨t, ty, _, _, k3, _⟩ := (hx.same s1).ty (K := K)
    have q1 := q H1 s1
    unfold nameE at q1
    cases hn : nameV x with
    | true =>
      rw [hn, Bool.true_or] at q1
      exact iteT q1
    | false =>
      rw [hn, Bool.false_or] at q1
      refine iteF ⟨_, rfl, _, _, _, _, _, rfl, .ty "str", ty, kit_ty k3, _, rfl, ?_⟩
      cases hx with
      | str z hl ho => exact iteT ⟨_, rfl, rfl, q1⟩
      | _ => exact iteF q1
theorem scAreAnswers : FnScope ["thing", "each"] ["thing"] (defScope sAreAnswers) := ⟨rfl, rfl, rfl, by decide +kernel, rfl, by decide +kernel, by decide +kernel⟩
theorem ok_areAnswers {f fT : Addr} {fd fdT : FuncData} (F : Fun K "are_answers" "are_answers" sAreAnswers f fd) (GT : FnOk P w K mg base CX0 2 fT fdT ["thing"] spIsText) (kT : PySem.W.keepIn K (.ref fT) = true) (bT : Binds K fdT ["thing"] []) (gT : mg "is_text" = some (.ref fT))
    (mi : mg "isinstance" = none) (mt : mg "tuple" = none) (ml : mg "len" = none) (ma : mg "all" = none) (mst : mg "set" = none) (g2 : ∃ t, mg "LEAST_ANSWERS" = some (.int 2 t)) (g6 : ∃ t, mg "MOST_ANSWERS" = some (.int 6 t)) : FnOk P w K mg base CX0 3 f fd ["thing"] spAreAnswers := by
  obtain ⟨t2, g2⟩ := g2
  obtain ⟨t6, g6⟩ := g6
  refine F.ok scAreAnswers (fun vs H Q E h => ?_) (fun cdv A outer s H vs Q E hr h => ?_)
  · obtain ⟨x, rfl, _⟩ := h
    rfl
  · obtain ⟨x, rfl, hx, hw, q⟩ := h
    obtain ⟨t, ty, _, _, _, k4⟩ := hx.ty (K := K)
    refine ⟨_, pss_cons (ps_if (PW.pt (pw_or (pt_not (pt_val (isb (i := 0) mi mt PyProof.Rows.boot_tuple))) (pw_or1 (pt_not (pt_chain op_le op_le (pe_glob (v := .int 2) (by rfl) g2 ⟨_, rfl⟩) (pe_callB call_len_seq (by rfl) ml PySem.boot_len (pa_cons (pv 0) pa_nil)) (pe_glob (v := .int 6) (by rfl) g6 ⟨_, rfl⟩)))))) (pss_one (ps_ret pe_bl)) pss_nil)
      (pss_one (ps_ret (pe_and (pe_callB (cr_all rfl) (by rfl) ma (by decide +kernel) (pa_cons (pe_lc (own := [("each", 1)]) (g := gName 1) rfl scAreAnswers.nd (pi_tup (pv 0)) (blkOk_by (N := ["thing", "each"]) (sc := defScope sAreAnswers) (by decide +kernel))
        (fun _ _ _ _ _ => pg_name (i := 1) scAreAnswers.nd rfl (Or.inl rfl)) (fun _ _ _ _ _ => pts_nil) (fun _ _ _ _ _ => pe_call GT hr (by rfl) gT kT bT .nil pass0 (pa_cons (pv 1) pa_nil))) pa_nil))
        (pe_one (pe_cmpR op_eq (pe_lenTexts (by rfl) ml (by rfl) mst (pv 0)) (pe_callB call_len_seq (by rfl) ml PySem.boot_len (pa_cons (pv 0) pa_nil)) (nomark _)))))), ?_⟩
    refine ⟨_, rfl, _, _, _, _, _, rfl, .ty "tuple", ty, kit_ty k4, _, rfl, ?_⟩
    unfold answersV at q
    cases ht : tupV H x with
    | none =>
      rw [ht] at q
      exact iteT (q H (Same.refl H))
    | some ws =>
      rw [ht] at q
      obtain ⟨a, rfl, ha⟩ := tupV_of ht
      have hw' := hw ws ht
      refine iteF ⟨_, rfl, a, ws, rfl, .inr (SqT.of ha), _, _, rfl, rfl, _, rfl, ?_⟩
      have q' : ∀ H', Same H H' → Q (.bl (decide (2 ≤ ws.length) && decide (ws.length ≤ 6) && ws.all textV && decide (unlike (ws.map strV) ws.length = ws.length))) H' := q
      cases h1 : decide (2 ≤ ws.length) with
      | false =>
        rw [h1, Bool.false_and, Bool.false_and, Bool.false_and] at q'
        have e1 : decide ((2 : Int) ≤ ws.length) = false := by
          have := of_decide_eq_false h1
          exact decide_eq_false (by omega)
        rw [e1]
        exact iteF ⟨_, rfl, iteT (q' H (Same.refl H))⟩
      | true =>
        have e1 : decide ((2 : Int) ≤ ws.length) = true := by
          have := of_decide_eq_true h1
          exact decide_eq_true (by omega)
        rw [e1]
        refine iteT ⟨_, _, rfl, rfl, _, rfl, ?_⟩
        cases h2 : decide (ws.length ≤ 6) with
        | false =>
          rw [h1, h2, Bool.and_false, Bool.false_and, Bool.false_and] at q'
          have e2 : decide ((ws.length : Int) ≤ 6) = false := by
            have := of_decide_eq_false h2
            exact decide_eq_false (by omega)
          rw [e2]
          exact iteT (q' H (Same.refl H))
        | true =>
          rw [h1, h2, Bool.and_true, Bool.true_and] at q'
          have l6 : ws.length ≤ 6 := of_decide_eq_true h2
          have e2 : decide ((ws.length : Int) ≤ 6) = true := decide_eq_true (by omega)
          rw [e2]
          refine iteF ⟨_, rfl, a, rfl, ⟨ws, SqT.of ha⟩, fun D hD => ?_⟩
          refine lc_it (walk_tup (xs := ws)) (fun i H' => (∀ b o, b ≠ D → H b = some o → H' b = some o) ∧ H' D = some (.lst (((ws.take i).map textV).map V.bl))) ⟨fun b o n e => ?_, upd_same⟩ (fun i H' _ h => SqT.of (h.1 a _ (fun z => by rw [z, hD] at ha; cases ha) ha)) ?_ ?_
          · rw [upd_ne n]
            exact e
          · rintro i x H1 H2 hi ⟨k, hd⟩ ⟨rfl, hc⟩
            have aD : ∀ {b : Addr} {o : HO}, H b = some o → b ≠ D := fun {b o} e z => by rw [z, hD] at e; cases e
            have sm : Same H H2 := fun b o e => k b o (aD e) e
            refine ⟨rfl, _, rfl, x, rfl, (hw' x (List.mem_of_getElem? hc)).same sm, fun H3 s3 => ⟨_, s3 _ _ hd, ?_, fun b o n e => ?_, ?_⟩⟩
            · rw [List.length_map, List.length_map, List.length_take, sizeLine_eq]
              omega
            · rw [upd_ne n]
              exact s3 _ _ (k b o n e)
            · rw [upd_same, List.take_add_one, hc, List.map_append, List.map_append]
              rfl
          · rintro H1 ⟨k, hd⟩
            have sm : Same H H1 := fun b o e => k b o (fun z => by rw [z, hD] at e; cases e) e
            rw [List.take_of_length_le (Nat.le_refl _)] at hd
            refine ⟨D, _, rfl, SqL.of hd, _, rfl, ?_⟩
            have e5 : ((ws.map textV).all id) = ws.all textV := by
              rw [List.all_map]
              rfl
            rw [e5]
            cases h3 : ws.all textV with
            | false =>
              rw [h3, Bool.false_and] at q'
              exact iteF (q' H1 sm)
            | true =>
              rw [h3, Bool.true_and] at q'
              have ha1 := sm _ _ ha
              refine iteT ⟨_, rfl, a, ws.map strV, rfl, ?_, by rw [List.length_map]; omega, _, rfl, a, ws, rfl, .inr (SqT.of ha1), rfl, ?_⟩
              · rw [← strs_of h3]
                exact SqT.of ha1
              · have e6 : decide (V.int ((unlike (ws.map strV) (ws.map strV).length : Nat) : Int) = V.int ((ws.length : Nat) : Int)) = decide (unlike (ws.map strV) ws.length = ws.length) := by
                  rw [List.length_map]
                  exact decide_eq_decide.mpr ⟨fun z => Int.ofNat.inj (V.int.inj z), fun z => by rw [z]⟩
                rw [e6]
                exact q' H1 sm
end
end Pk
/-! ### texts in their order -/
namespace Pk
open PySem L2 PyProof.Rows PySem.Spec
def leS (a b : Str) : Prop := a.cps.toList ≤ b.cps.toList
instance (a b : Str) : Decidable (leS a b) := inferInstanceAs (Decidable (a.cps.toList ≤ b.cps.toList))
theorem leS_trans {a b c : Str} (h : leS a b) (k : leS b c) : leS a c := List.le_trans h k
theorem leS_anti {a b : Str} (h : leS a b) (k : leS b a) : a = b := by
  have e := List.le_antisymm h k
  obtain ⟨⟨a⟩⟩ := a
  obtain ⟨⟨b⟩⟩ := b
  have e' : a = b := e
  rw [e']
theorem leS_total (a b : Str) : leS a b ∨ leS b a := List.le_total _ _
theorem leS_iff (a b : Str) : leS a b ↔ ltCps b.cps.toList a.cps.toList = false := by
  rw [ltCps_eq]
  unfold leS
  rw [decide_eq_false_iff_not]
  exact List.not_lt.symm
theorem rising_pair : ∀ (l : List Str) (p : Str), risingS p l = true → (p :: l).Pairwise leS
  | [], p, _ => List.pairwise_singleton _ _
  | x :: r, p, h => by
    unfold risingS at h
    rw [Bool.and_eq_true, Bool.not_eq_true'] at h
    have h1 : leS p x := (leS_iff p x).mpr h.1
    have ih := rising_pair r x h.2
    refine List.pairwise_cons.mpr ⟨fun y hy => ?_, ih⟩
    rcases List.mem_cons.mp hy with e | e
    · rw [e]; exact h1
    · exact leS_trans h1 ((List.pairwise_cons.mp ih).1 y e)
theorem sorted_pair {l : List Str} (h : sortedS l = true) : l.Pairwise leS := by
  cases l with
  | nil => exact .nil
  | cons x r => exact rising_pair r x h
theorem perm_eq : ∀ {a b : List Str}, a.Perm b → a.Pairwise leS → b.Pairwise leS → a = b
  | [], b, p, _, _ => (List.nil_perm.mp p).symm
  | x :: a, [], p, _, _ => absurd p.length_eq (by simp)
  | x :: a, y :: b, p, ha, hb => by
    obtain ⟨h1, h2⟩ := List.pairwise_cons.mp ha
    obtain ⟨k1, k2⟩ := List.pairwise_cons.mp hb
    have exy : x = y := by
      rcases List.mem_cons.mp (p.mem_iff.mp (List.mem_cons_self (a := x))) with e | e
      · exact e
      · rcases List.mem_cons.mp (p.mem_iff.mpr (List.mem_cons_self (a := y))) with e' | e'
        · exact e'.symm
        · exact leS_anti (h1 y e') (k1 x e)
    subst exy
    rw [perm_eq (List.Perm.cons_inv p) h2 k2]
def insS (x : Str) : List Str → List Str
  | [] => [x]
  | y :: r => if leS x y then x :: y :: r else y :: insS x r
def srt : List Str → List Str
  | [] => []
  | x :: r => insS x (srt r)
theorem ins_perm (x : Str) : ∀ l, (insS x l).Perm (x :: l)
  | [] => List.Perm.refl _
  | y :: r => by
    unfold insS
    split
    · exact List.Perm.refl _
    · exact ((ins_perm x r).cons y).trans (List.Perm.swap x y r)
theorem srt_perm : ∀ l, (srt l).Perm l
  | [] => List.Perm.refl _
  | x :: r => (ins_perm x (srt r)).trans ((srt_perm r).cons x)
theorem ins_pair {x : Str} : ∀ {l : List Str}, l.Pairwise leS → (insS x l).Pairwise leS
  | [], _ => List.pairwise_singleton _ _
  | y :: r, h => by
    obtain ⟨h1, h2⟩ := List.pairwise_cons.mp h
    unfold insS
    split
    case isTrue c =>
      refine List.pairwise_cons.mpr ⟨fun z hz => ?_, h⟩
      rcases List.mem_cons.mp hz with e | e
      · rw [e]; exact c
      · exact leS_trans c (h1 z e)
    case isFalse c =>
      refine List.pairwise_cons.mpr ⟨fun z hz => ?_, ins_pair h2⟩
      rcases List.mem_cons.mp ((ins_perm x r).mem_iff.mp hz) with e | e
      · rw [e]
        exact (leS_total x y).resolve_left c
      · exact h1 z e
theorem srt_pair : ∀ l, (srt l).Pairwise leS
  | [] => .nil
  | x :: r => ins_pair (srt_pair r)
theorem srt_of {ys ns : List Str} (p : ys.Perm ns) (h : sortedS ys = true) : ys = srt ns := perm_eq (p.trans (srt_perm ns).symm) (sorted_pair h) (srt_pair ns)
theorem srt_mem {ns : List Str} {x : Str} : x ∈ srt ns ↔ x ∈ ns := (srt_perm ns).mem_iff
theorem srt_len (ns : List Str) : (srt ns).length = ns.length := (srt_perm ns).length_eq
theorem srt_nd {ns : List Str} (h : ns.Nodup) : (srt ns).Nodup := (srt_perm ns).nodup_iff.mpr h
theorem srt_congr {ns ms : List Str} (p : ns.Perm ms) : srt ns = srt ms := perm_eq ((srt_perm ns).trans (p.trans (srt_perm ms).symm)) (srt_pair ns) (srt_pair ms)
theorem srt_self {ns : List Str} (h : ns.Pairwise leS) : srt ns = ns := perm_eq (srt_perm ns) (srt_pair ns) h
/-- numbers in their order -/
def insZ (x : Int) : List Int → List Int
  | [] => [x]
  | y :: r => if x ≤ y then x :: y :: r else y :: insZ x r
def srtZ : List Int → List Int
  | [] => []
  | x :: r => insZ x (srtZ r)
theorem insZ_perm (x : Int) : ∀ l, (insZ x l).Perm (x :: l)
  | [] => List.Perm.refl _
  | y :: r => by
    unfold insZ
    split
    · exact List.Perm.refl _
    · exact ((insZ_perm x r).cons y).trans (List.Perm.swap x y r)
theorem srtZ_perm : ∀ l, (srtZ l).Perm l
  | [] => List.Perm.refl _
  | x :: r => (insZ_perm x (srtZ r)).trans ((srtZ_perm r).cons x)
theorem insZ_pair {x : Int} : ∀ {l : List Int}, l.Pairwise (· ≤ ·) → (insZ x l).Pairwise (· ≤ ·)
  | [], _ => List.pairwise_singleton _ _
  | y :: r, h => by
    obtain ⟨h1, h2⟩ := List.pairwise_cons.mp h
    unfold insZ
    split
    case isTrue c =>
      refine List.pairwise_cons.mpr ⟨fun z hz => ?_, h⟩
      rcases List.mem_cons.mp hz with e | e
      · rw [e]; exact c
      · exact Int.le_trans c (h1 z e)
    case isFalse c =>
      refine List.pairwise_cons.mpr ⟨fun z hz => ?_, insZ_pair h2⟩
      rcases List.mem_cons.mp ((insZ_perm x r).mem_iff.mp hz) with e | e
      · rw [e]; omega
      · exact h1 z e
theorem srtZ_pair : ∀ l, (srtZ l).Pairwise (· ≤ ·)
  | [] => .nil
  | x :: r => insZ_pair (srtZ_pair r)
theorem permZ_eq : ∀ {a b : List Int}, a.Perm b → a.Pairwise (· ≤ ·) → b.Pairwise (· ≤ ·) → a = b
  | [], b, p, _, _ => (List.nil_perm.mp p).symm
  | x :: a, [], p, _, _ => absurd p.length_eq (by simp)
  | x :: a, y :: b, p, ha, hb => by
    obtain ⟨h1, h2⟩ := List.pairwise_cons.mp ha
    obtain ⟨k1, k2⟩ := List.pairwise_cons.mp hb
    have exy : x = y := by
      rcases List.mem_cons.mp (p.mem_iff.mp (List.mem_cons_self (a := x))) with e | e
      · exact e
      · rcases List.mem_cons.mp (p.mem_iff.mpr (List.mem_cons_self (a := y))) with e' | e'
        · exact e'.symm
        · exact Int.le_antisymm (h1 y e') (k1 x e)
    subst exy
    rw [permZ_eq (List.Perm.cons_inv p) h2 k2]
theorem srtZ_of {ys ns : List Int} (p : ys.Perm ns) (h : ys.Pairwise (· ≤ ·)) : ys = srtZ ns := permZ_eq (p.trans (srtZ_perm ns).symm) h (srtZ_pair ns)
theorem srtZ_congr {ns ms : List Int} (p : ns.Perm ms) : srtZ ns = srtZ ms := permZ_eq ((srtZ_perm ns).trans (p.trans (srtZ_perm ms).symm)) (srtZ_pair ns) (srtZ_pair ms)
end Pk
/-! ### what own errors say of themselves: str(e), and {x!s} -/
namespace Pk
open PySem PySem.Spec L2
section
variable {X : Cx}
/-- {x!s} of a text -/
def tFmtS (te : TE) : TE := fun σ H Q => te σ H fun x H1 => ∃ y : Str, x = .str y ∧ y.length ≤ sizeLine ∧ Q (.str y) H1
theorem pe_fmtS {e : Expr} {te : TE} {pos : Pos} (he : PE X e te) : PE X (.FormattedValue e 115 none pos) (tFmtS te) := by
  constructor
  intro pins s σ H Q I h
  refine wpAny_FormattedValue_s (thn (he.run pins s σ H _ I h) ?_)
  rintro v s1 ⟨x, H1, I1, r1, y, rfl, hz, q⟩
  obtain ⟨t, rfl⟩ := r1
  have fin : ∀ (t' : Tok) (tk : Nat), wpAny (model X.prog X.w) X.A (formatField (.str y t') Str.empty) (EP X pins σ Q) X.xe { s1 with toks := tk } := fun t' tk =>
    wpAny_formatField_str (s := { s1 with toks := tk }) ⟨.str y, H1, I1.tok _, ⟨_, rfl⟩, q⟩ ⟨.str y, H1, I1.tok _, ⟨_, rfl⟩, q⟩ hz
  refine wpAny_habitSame_str (fin t s1.toks) (fin _ _)
variable {k : Nat} {f C : Addr} {fd : FuncData} {sp : Sp} {e : Expr} {te : TE} {p pos : Pos}
/-- str(e), e a kept error whose class says how it is told -/
def tStrErr (C : Addr) (sp : Sp) (te : TE) : TE := fun σ H Q => te σ H fun x H1 => ∃ (a : Addr) (d : Option Addr), x = .ref a ∧ H1 a = some (ExH (.ref C) d a) ∧ DictOk H1 d ∧ sp [.ref a] H1 (fun v H2 => (∃ z, v = .str z) ∧ Q v H2) E0
theorem pe_strErr (F : FnOk X.prog X.w X.K X.mg X.base CX0 k f fd ["self"] sp) (hr : Room (k + 2) X.A) (hs : PySem.W.findIn X.K (.ref C) "__str__" = some (some (.ref f))) (hf : PySem.W.isFn X.K (.ref f) = true) (hb : Binds X.K fd ["self"] []) (hg : Gl X "str") (hm : X.mg "str" = none) (he : PE X e te)
    (na : starEach [e] X.env = (false, eval e X.env) :: starEach [] X.env := by rfl) : PE X (.Call (.Name "str" p) [e] [] pos) (tStrErr C sp te) := by
  constructor
  intro pins s σ H Q I h
  refine PyProof.Rows.Call_ (ld_blt I hg hm PyProof.Rows.boot_str ?_)
  refine PyProof.Rows.callWith_type1 (PyProof.Rows.args_cons (thn (he.run pins s σ H _ I h) ?_) na) na rfl
  rintro v s1 ⟨x, H1, I1, r1, a, d, rfl, ha, hd, q⟩
  cases (show v = Value.ref a from r1)
  obtain ⟨oe, od, J, -⟩ := held_at I1 ha hd
  refine PyProof.Rows.args_nil (PySem.W.kso_call (by have := hr.un; show X.A.in1.in1.units < cLine; have e1 := (hr.in1.in1).un; omega) I1.kIn J hs hf ?_)
  refine wpAny_call (codeAny_mono (F.run _ X.stack s1 H1 ⟨[.ref a], []⟩ [.ref a] [.ref a] _ E0 hr.in1.in1 I1.env0.in1.in1 (hb s1 [.ref a] I1.kIn rfl) (.cons rfl .nil) q) fun r s' hq => ?_)
  cases r with
  | error e => exact hq.elim
  | ok fl =>
    cases fl with
    | ret u =>
      obtain ⟨v, H2, I2, rv, ⟨z, rfl⟩, q2⟩ := I1.after hq
      obtain ⟨t, rfl⟩ := rv
      exact ⟨.str z, H2, I2, ⟨t, rfl⟩, q2⟩
    | next => exact False.elim hq
    | brk => exact False.elim hq
    | cont => exact False.elim hq
end
end Pk
/-! Own errors whose built-in base makes its objects by another one's making (KeyError by LookupError's). -/
namespace Pk
open PySem PySem.Spec PySem.W PySem.Calls PyProof.Rows PySem.HandSPX
open Builtin Builtin.ObjectAttr
abbrev KyLine : List Value := [.type "KeyError", .type "LookupError", .type "Exception", .type "BaseException", .type "object"]
/-- what the making asks of a line of ancestors -/
structure MkLine (B : String) (line : List Value) : Prop where
  hb : line.contains (.type B) = true
  ha : line.contains (.type "AttributeError") = false
  hn : line.contains (.type "NameError") = false
section
variable {P : Program} {w : World} {M : Model} {Ar : Around} {Ex : Value → Shared → Prop} {Rs : Result → Shared → Prop} {hp : Heap} {gs : Array GenState} {dr : Drawn} {tk : Nat} {oo : OsState}
variable {c1 c2 : Str} {C ns : Addr} {bases line lineB : List Value} {dct : Bool} {slots : List Str} {subs : List Value} {abs : Bool} {coll : Option Bool} {del : Option Addr} {a0 a1 a2 a3 a5 : Option Value} {B newB iniB : String}
theorem mk_check (F : ExcBaseFacts B newB iniB lineB) (L : MkLine B line) {args : List Value} {Q : Unit → Shared → Prop} (cl : hp.get? C = some (excClassObj c1 c2 C ns bases line dct slots subs abs coll del a0 a1 a2 a3 a5 newB)) (q : Q () ⟨hp, gs, dr, tk, oo⟩) :
    wpAny M Ar (checkBuiltinCall newB ⟨.ref C :: args, []⟩) Q Ex ⟨hp, gs, dr, tk, oo⟩ := by
  have in_ : (Value.ref C :: line).contains (.type B) = true := by
    rw [List.contains_cons, L.hb]
    exact Bool.or_true _
  have star := F.noStar
  simp only [checkBuiltinCall, F.newRow, F.newKind, F.newSplit]
  repeat (first
    | refine wpAny_loadPart_at cl ?_
    | (refine wpAny_isSubtype_exc cl ?_; rw [in_])
    | refine wpAny_staticBase_exc cl ?_
    | refine wpAny_madeBy_exc cl ?_
    | simp only [bne_self_eq_false, if_false, Bool.false_eq_true]
    | wp_step)
  exact q
theorem mk_new (F : ExcBaseFacts B newB iniB lineB) (L : MkLine B line) {args : List Value} (cl : hp.get? C = some (excClassObj c1 c2 C ns bases line dct slots subs abs coll del a0 a1 a2 a3 a5 newB)) (size : args.length ≤ sizeLine)
    (q : Rs (.ok (.ret (.ref (hp.objs.size + 1)))) ⟨(hp.push (kdv_tup args)).push (excO C hp.objs.size), gs, dr, tk, oo⟩) : codeAny (model P w) Ar (.builtin newB ⟨.ref C :: args, []⟩) Rs ⟨hp, gs, dr, tk, oo⟩ := by
  have en := F.ends
  have iB : (Value.ref C :: line).contains (.type B) = true := by
    rw [List.contains_cons, L.hb]
    exact Bool.or_true _
  have iA : (Value.ref C :: line).contains (.type "AttributeError") = false := by
    rw [List.contains_cons, L.ha]
    rfl
  have iN : (Value.ref C :: line).contains (.type "NameError") = false := by
    rw [List.contains_cons, L.hn]
    rfl
  refine codeAny_builtinAt F.entry ?_
  unfold Builtin.«BaseException.__new__»
  refine PySem.wpAt_bind ?_
  show PySem.wpAt _ _ _ (stack >>= _) _ _ _
  refine PySem.wpAt_bind (PySem.wpAt_stack fun p below => PySem.wpAt_of_wpAny ?_)
  wp_walk
  refine PySem.wpAt_of_wpAny ?_
  rw [F.owner]
  repeat (first
    | with_reducible refine wpAny_madeHere_exc F.canon cl ?_
    | with_reducible refine wpAny_loadPart_at cl ?_
    | (with_reducible refine wpAny_isSubtype_exc cl ?_; first | rw [iB] | rw [iA] | rw [iN])
    | wp_step)
  show Rs _ _
  rw [Heap.size_push]
  exact q
theorem mk_type (F : ExcBaseFacts B newB iniB lineB) (L : MkLine B line) {args : List Value} {fn : Addr} {Q : Fin → Shared → Prop} (cl : hp.get? C = some (excClassObj c1 c2 C ns bases line dct slots subs abs coll del a0 a1 a2 a3 a5 newB))
    (li : Looks (model P w) hp (typeLookup (.ref C) "__init__") (some (.ref fn))) (lb : ∀ self, Looks (model P w) hp (bindSpecial (.ref fn) self) (.ref fn, [self])) (size : args.length ≤ sizeLine)
    (q : codeAny (model P w) Ar (.call (.ref fn) ⟨.ref (hp.objs.size + 1) :: args, []⟩) (fun r s' => match r with | .ok (.ret v) => v = .none ∧ Q (.done (.ret (.ref (hp.objs.size + 1)))) s' | .ok _ => False | .error e => Ex e s') ⟨(hp.push (kdv_tup args)).push (excO C hp.objs.size), gs, dr, tk, oo⟩) :
    wpAny (model P w) Ar (Builtin.«type.__call__» ⟨.ref C :: args, []⟩) Q Ex ⟨hp, gs, dr, tk, oo⟩ := by
  repeat (first
    | with_reducible refine wpAny_loadPart_at cl ?_
    | with_reducible refine wpAny_madeBy_exc cl ?_
    | wp_step)
  refine codeAny_call_builtin_code (Code.quiet_builtin _ F.quiet) (mk_check F L cl (mk_new F L cl size ?_))
  show wpAny _ _ _ _ _ _
  have kp : ∀ b o, hp.get? b = some o → ((hp.push (kdv_tup args)).push (excO C hp.objs.size)).get? b = some o := fun b o e => Heap.get?_push_of_some _ (Heap.get?_push_of_some _ e)
  have cl1 := kp _ _ cl
  have at_ : ((hp.push (kdv_tup args)).push (excO C hp.objs.size)).get? (hp.objs.size + 1) = some (excO C hp.objs.size) := by heap_get
  have own : (Value.ref C :: line).contains (.ref C) = true := by simp
  have li1 := li.keeps kp
  have lb1 := (lb (.ref (hp.objs.size + 1))).keeps kp
  unfold isInstance
  repeat (first
    | with_reducible refine wpAny_loadPart_at at_ ?_
    | (with_reducible refine wpAny_isSubtype_exc cl1 ?_; rw [own])
    | wp_step)
  show wpAny _ _ (typeLookup (.ref C) _) _ _ _
  refine li1.at (wpAny_holding (wpAny_bind (lb1.at (wpAny_bind (wpAny_call (codeAny_mono q fun r s' z => ?_))))))
  rcases r with e | (v | _ | _ | _) <;> first | exact z | exact z.elim | skip
  obtain ⟨rfl, z⟩ := z
  first
    | exact wpAny_pure (wpAny_pure z)
    | (wp_walk; exact z)
theorem mk_call (F : ExcBaseFacts B newB iniB lineB) (L : MkLine B line) {args : List Value} {fn : Addr} (cl : hp.get? C = some (excClassObj c1 c2 C ns bases line dct slots subs abs coll del a0 a1 a2 a3 a5 newB))
    (li : Looks (model P w) hp (typeLookup (.ref C) "__init__") (some (.ref fn))) (lb : ∀ self, Looks (model P w) hp (bindSpecial (.ref fn) self) (.ref fn, [self])) (size : args.length ≤ sizeLine)
    (q : codeAny (model P w) (Ar.under (.builtin "type.__call__" ⟨.ref C :: args, []⟩)) (.call (.ref fn) ⟨.ref (hp.objs.size + 1) :: args, []⟩) (InitBack (hp.objs.size + 1) Rs) ⟨(hp.push (kdv_tup args)).push (excO C hp.objs.size), gs, dr, tk, oo⟩) :
    codeAny (model P w) Ar (.call (.ref C) ⟨args, []⟩) Rs ⟨hp, gs, dr, tk, oo⟩ := by
  have t1 := tc_lookup
  have t2 := tc_bind (.ref C)
  have ty : (⟨hp, gs, dr, tk, oo⟩ : Shared).TypeIs (.ref C) "type" := ⟨_, cl, rfl⟩
  refine codeAny_of_tree (show wpAny _ _ (callAny (.ref C) _) _ _ _ from ?_)
  repeat (any_goals (first
    | assumption
    | with_reducible refine wpAny_loadPart_at cl ?_
    | wp_step))
  refine ⟨rfl, ?_⟩
  refine codeAny_call_builtin_at (Code.quiet_builtin _ (by decide +kernel)) entry_typeCall (wpAny_check_type_call_sub cl (mk_type F L cl li lb size ?_))
  refine codeAny_mono q fun r s' z => ?_
  rcases r with e | (v | _ | _ | _) <;> exact z
end
theorem ky_line : MkLine "LookupError" KyLine := ⟨by decide +kernel, by decide +kernel, by decide +kernel⟩
theorem MkLine.own {B : String} {line : List Value} {c : Addr} (l : MkLine B line) : MkLine B (.ref c :: line) := ⟨by rw [List.contains_cons, l.hb]; exact Bool.or_true _, by rw [List.contains_cons, l.ha]; rfl, by rw [List.contains_cons, l.hn]; rfl⟩
end Pk
namespace Pk
open PySem PySem.Spec PySem.W PySem.Calls PyProof.Rows PySem.HandSPX
open Builtin Builtin.ObjectAttr
/-- what a class's line of ancestors must bear: that its errors are made, and their fields stored -/
structure ErrLine (B : String) (line : List Value) : Prop where
  mkl : MkLine B line
  pass : ∀ self : Value, refuseLoop self "__setattr__" line = pure ()
  obj : line.contains (.type "object") = true
theorem ErrLine.own {B : String} {line : List Value} {c : Addr} (l : ErrLine B line) : ErrLine B (.ref c :: line) where
  mkl := l.mkl.own
  pass := fun self => by
    rw [refuseLoop_ref]
    exact l.pass self
  obj := by
    rw [List.contains_cons, l.obj]
    exact Bool.or_true _
section
variable {prog : Program} {w : World} {A : Around} {E : Value → Shared → Prop} {R : Result → Shared → Prop} {hp : Heap} {g : Array GenState} {d : Drawn} {t : Nat} {os : OsState}
/-- the first field of an error -/
theorem err_first {K : Frag} {name : Str} {tk : Tok} {v : Value} {x C : Addr} {fv : Array Value} {cd : ClassData} (X : K.In hp) (hx : hp.get? x = some { cls := .ref C, data := .fields fv }) (hcd : clsIn K C = some cd) (hob : cd.mro.contains (.type "object") = true) (pass : ∀ self : Value, refuseLoop self "__setattr__" cd.mro = pure ()) (ne : cd.mro.isEmpty = false)
    (hh : cd.hasDict = true) (ha : findIn K (.ref C) name = some none)
    (hq : ∀ h' tk' dx, (∀ b o, b ≠ x → hp.get? b = some o → h'.get? b = some o) → hp.objs.size ≤ dx → dx ≠ x → h'.get? x = some { cls := .ref C, dict := some dx, data := .fields fv } → h'.Ns1 dx (fun y => if y = name then some v else none) → R (.ok (.ret .none)) ⟨h', g, d, tk', os⟩) :
    codeAny (model prog w) A (.call (.builtin "object.__setattr__") ⟨[.ref x, .str name tk, v], []⟩) R ⟨hp, g, d, t, os⟩ := by
  have I : InstAt hp x { cls := .ref C, data := .fields fv } C none := ⟨hx, rfl, rfl, trivial⟩
  have hxs : x ≠ hp.objs.size := Nat.ne_of_lt (Heap.lt_size hx)
  have mro_ : mroIn K C (.type "object") = some true := by
    unfold mroIn
    rw [hcd, Option.bind_some, if_neg (by rw [ne]; exact Bool.false_ne_true), hob]
  have isObj : Looks (model prog w) hp (isInstance (.ref x) (.type "object")) true := I.type.andThen (looks_mroIn X mro_)
  refine codeAny_call_builtin F.store_object.slot.plain F.store_object.entry (@check_slot (model prog w) _ _ ⟨hp, g, d, t, os⟩ "object.__setattr__" "object" "__setattr__" (.ref x) [.str name tk, v] [] _ F.store_object.kind F.store_object.split isObj (F.store_object.args (.ref x) (.str name tk) v) ?_)
  have Lm : Looks (model prog w) hp (mroOf (.ref C)) cd.mro := (looks_clsIn X hcd).andThen .now
  have Lt : Looks (model prog w) hp (storeTaker? none) none := .now
  have Lc : Looks (model prog w) hp (classData C) cd := looks_clsIn X hcd
  rw [osa_eq, refuse_eq]
  refine wpAny_bind (wpAny_bind (I.type.at (wpAny_bind (Lm.at ?_))))
  rw [pass]
  refine wpAny_pure (wpAny_bind (I.type.at (wpAny_bind ((looks_findIn X ha).at (wpAny_bind (Lt.at ?_))))))
  show wpAny _ _ (storeInOwnDict (.ref x) (.ref C) (.str name tk) name v false) _ _ _
  obtain ⟨nm, bs, mro, ns, qn, hd, sn, sb, ab, col, del⟩ := cd
  dsimp only at hh
  subst hh
  unfold storeInOwnDict ownDictForStores
  repeat (first | with_reducible refine store_in_new ?_ ?_ | with_reducible refine wpAny_loadPart_at hx ?_ | with_reducible refine Lc.at ?_ | wp_step)
  · exact ⟨_, #[], _, (Heap.get?_update_ne _ _ _ _ hxs.symm).trans (Heap.get?_push_at rfl rfl), rfl, fun e he => absurd he (by simp), fun _ => rfl⟩
  · intro h' tk' hn' hs
    refine hq h' tk' hp.objs.size ?_ (Nat.le_refl _) hxs.symm ?_ hn'
    · intro b o hb ho
      exact (hs.2 b (Nat.ne_of_lt (Heap.lt_size ho))).trans ((Heap.get?_update_ne _ _ _ _ hb).trans (Heap.get?_push_of_some _ ho))
    · exact (hs.2 x hxs).trans (Heap.get?_update_self _ (Heap.get?_push_of_some _ hx) rfl)
/-- a further field -/
theorem err_next {K : Frag} {name : Str} {tk : Tok} {v : Value} {x C dx : Addr} {fv : Array Value} {cd : ClassData} {m0 : Str → Option Value} {nl : List Str} (X : K.In hp) (hx : hp.get? x = some { cls := .ref C, dict := some dx, data := .fields fv }) (hns : hp.Ns1 dx m0) (hw : Within m0 nl) (hz : nl.length ≤ 1000)
    (hcd : clsIn K C = some cd) (hob : cd.mro.contains (.type "object") = true) (pass : ∀ self : Value, refuseLoop self "__setattr__" cd.mro = pure ()) (ne : cd.mro.isEmpty = false) (hh : cd.hasDict = true) (ha : findIn K (.ref C) name = some none)
    (hq : ∀ h' tk', (∀ b o, b ≠ dx → hp.get? b = some o → h'.get? b = some o) → h'.Ns1 dx (fun y => if y = name then some v else m0 y) → R (.ok (.ret .none)) ⟨h', g, d, tk', os⟩) :
    codeAny (model prog w) A (.call (.builtin "object.__setattr__") ⟨[.ref x, .str name tk, v], []⟩) R ⟨hp, g, d, t, os⟩ := by
  obtain ⟨oD, eD, pD, gD, _, _⟩ := hns.count hw
  have I : InstAt hp x { cls := .ref C, dict := some dx, data := .fields fv } C (some oD) := ⟨hx, rfl, rfl, gD⟩
  have mro_ : mroIn K C (.type "object") = some true := by
    unfold mroIn
    rw [hcd, Option.bind_some, if_neg (by rw [ne]; exact Bool.false_ne_true), hob]
  have isObj : Looks (model prog w) hp (isInstance (.ref x) (.type "object")) true := I.type.andThen (looks_mroIn X mro_)
  refine codeAny_call_builtin F.store_object.slot.plain F.store_object.entry (@check_slot (model prog w) _ _ ⟨hp, g, d, t, os⟩ "object.__setattr__" "object" "__setattr__" (.ref x) [.str name tk, v] [] _ F.store_object.kind F.store_object.split isObj (F.store_object.args (.ref x) (.str name tk) v) ?_)
  have Lm : Looks (model prog w) hp (mroOf (.ref C)) cd.mro := (looks_clsIn X hcd).andThen .now
  have Lt : Looks (model prog w) hp (storeTaker? none) none := .now
  have Lc : Looks (model prog w) hp (classData C) cd := looks_clsIn X hcd
  rw [osa_eq, refuse_eq]
  refine wpAny_bind (wpAny_bind (I.type.at (wpAny_bind (Lm.at ?_))))
  rw [pass]
  refine wpAny_pure (wpAny_bind (I.type.at (wpAny_bind ((looks_findIn X ha).at (wpAny_bind (Lt.at ?_))))))
  show wpAny _ _ (storeInOwnDict (.ref x) (.ref C) (.str name tk) name v false) _ _ _
  obtain ⟨nm, bs, mro, ns, qn, hd, sn, sb, ab, col, del⟩ := cd
  dsimp only at hh
  subst hh
  unfold storeInOwnDict ownDictForStores
  repeat (first | with_reducible refine PySem.OEX.store_in_old hns hw hz ?_ | with_reducible refine wpAny_loadPart_at hx ?_ | with_reducible refine Lc.at ?_ | wp_step)
  intro h' tk' hn' hs
  exact hq h' tk' (fun b o hb ho => (hs.2 b hb).trans ho) hn'
end
end Pk
namespace Pk
open PySem PySem.Spec PyProof.Rows L2
/-! ### errors of the field part, over any base -/
namespace Er_part
open PySem.W PySem.Calls PySem.HandSPX
/-- the class called nm, at C, and its __init__, at fI, as the top has left them -/
structure Tx (K : Frag) (mg : Str → Option Value) (nm ql : Str) (C fI : Addr) (B newId initId : String) (bmB : List Value) : Prop where
  base : ExcBaseFacts B newId initId bmB
  gC : mg nm = some (.ref C)
  cls : ∃ n1 q N bs bm sn sub ab col dd k0 k1 k2 k3 k5, K.lookup C = some (excClassObj n1 q C N bs bm true sn sub ab col dd k0 k1 k2 k3 k5 newId) ∧ ErrLine B bm
  sa : findIn K (.ref C) "__setattr__" = some (some (.builtin "object.__setattr__"))
  ex : ExcC K C
  noN : findIn K (.ref C) "part" = some none
  iC : findIn K (.ref C) "__init__" = some (some (.ref fI))
  tC : typeIn K (.ref fI) = some (.type "function")
  kC : keepIn K (.ref C) = true
  tyC : typeIn K (.ref C) = some (.type "type")
  fn : ∃ (oc : Value) (od : Option Addr) (doc pm : Value) (an : Option Addr) (cdv ct : Value) (osl : Array (Option Value)) (p1 p2 q1 q2 q3 q4 : Pos),
    K.lookup fI = some ⟨oc, od, .func (fnOf "__init__" ql (Of_part.iA p1 p2) (Of_part.iB q1 q2 q3 q4) Of_part.iS .none .none doc pm an cdv ct), osl⟩ ∧ codeIn K cdv ql = true
section
variable {prog : Program} {w : World} {A : Around} {E : Value → Shared → Prop} {R : Result → Shared → Prop} {s : Shared} {K : Frag} {mg : Str → Option Value} {nm ql : Str} {C fI : Addr} {B newId initId : String} {bmB : List Value}
theorem made (T : Tx K mg nm ql C fI B newId initId bmB) {v : Value} (X : K.In s.heap) (hlim : s.heap.NoLimit) (hroom : A.depth + 1 < recursionLimit) (hq : ∀ h' tk e d, Of_part.Made s.heap h' e C d v → R (.ok (.ret (.ref e))) { s with heap := h', toks := tk }) :
    codeAny (model prog w) A (.call (.ref C) ⟨[v], []⟩) R s := by
  obtain ⟨n1, q, N, bs, bm, sn, sub, ab, col, dd, k0, k1, k2, k3, k5, hC, ln⟩ := T.cls
  obtain ⟨oc, od, doc, pm, an, cdv, ct, osl, p1, p2, q1, q2, q3, q4, ho, hcd⟩ := T.fn
  have hcl : clsIn K C = some { name := n1, bases := bs, mro := .ref C :: bm, ns := N, qualname := q, hasDict := true, slotNames := sn, subclasses := sub, abstract := ab, collection := col, hasDel := false } := by
    unfold clsIn
    rw [hC]
  obtain ⟨hp, g, dr, tk, os⟩ := s
  have k : ∀ b o, hp.get? b = some o → ((hp.push (kdv_tup [v])).push (excO C hp.objs.size)).get? b = some o := fun b o e => Heap.get?_push_of_some _ (Heap.get?_push_of_some _ e)
  have hx : ((hp.push (kdv_tup [v])).push (excO C hp.objs.size)).get? (hp.objs.size + 1) = some (excO C hp.objs.size) := by heap_get
  refine mk_call T.base ln.mkl (X _ _ hC) (looks_findIn X T.iC) (fun self => bind_fn X self T.tC) (one_size v) ?_
  have X1 := X.keeps k
  have lim1 : ((hp.push (kdv_tup [v])).push (excO C hp.objs.size)).NoLimit := hlim.keeps k
  have size1 : ((hp.push (kdv_tup [v])).push (excO C hp.objs.size)).objs.size = hp.objs.size + 1 + 1 := by rw [Heap.size_push, Heap.size_push]
  generalize (hp.push (kdv_tup [v])).push (excO C hp.objs.size) = h1 at k hx X1 lim1 size1 ⊢
  refine Att.call_fn (binds := [("self", .ref (hp.objs.size + 1)), ("part", v)]) X1 lim1 ho hcd hroom (BindsTo.of_eq (by first | rfl | with_unfolding_all rfl)) (by first | rfl | decide | with_unfolding_all rfl) (fun s₁ IC => ?_) rfl rfl rfl
  obtain ⟨h₁, tk₁, rfl⟩ := IC.toInCall.same
  have k1' : ∀ b o, h1.get? b = some o → h₁.get? b = some o := IC.toInCall.keep
  have hn := IC.toInCall.ns
  show wpAny _ _ (execs _ _) _ _ _
  refine wpAny_execs_cons (plainObj_wpAny_Assign_Attribute ?_)
  refine ldC (v := v) hn (by first | rfl | with_unfolding_all rfl | kernel_rfl) (ldC (v := .ref (hp.objs.size + 1)) hn (by first | rfl | with_unfolding_all rfl | kernel_rfl) ?_)
  refine set_plain (X1.keeps k1') (ox := excO C hp.objs.size) (od := none) ⟨k1' _ _ hx, rfl, rfl, trivial⟩ T.sa ?_
  refine err_first (X1.keeps k1') (k1' _ _ hx) hcl ln.own.obj ln.own.pass rfl rfl T.noN (fun h₃ tk₃ dx k₃ dn dne hx₃ hn₃ => ?_)
  show wpAny _ _ (execs _ _) _ _ _
  have z : h1.objs.size < h₁.objs.size := hn.lt
  have lt_ : ∀ {b : Addr} {o : Obj}, hp.get? b = some o → b ≠ hp.objs.size + 1 := fun {b o} e => Nat.ne_of_lt (Nat.lt_succ_of_lt (Heap.lt_size e))
  refine wpAny_execs_nil ⟨rfl, hq h₃ tk₃ (hp.objs.size + 1) dx ⟨fun b o e => k₃ b o (lt_ e) (k1' b o (k b o e)), Nat.le_succ _, ⟨_, _, hx₃, rfl, rfl, rfl, rfl⟩, ?_, dne, hn₃⟩⟩
  have dn' : h₁.objs.size ≤ dx := dn
  show hp.objs.size ≤ dx
  omega
end
end Er_part
section
variable {X : Cx} {nm ql : Str} {C fI : Addr} {B newId initId : String} {bmB : List Value}
/-- raise nm(e) -/
theorem pmkE_part {a : Expr} {ta : TA} {p pos : Pos} {k : Nat} (T : Er_part.Tx X.K X.mg nm ql C fI B newId initId bmB) (hr : Room k X.A) (ha : PA X [a] ta) (hg : Gl X nm := by rfl) (hdb : (nm == ("__debug__" : Str)) = false := by decide)
    (he : starEach (a :: []) X.env = (false, eval a X.env) :: starEach [] X.env := by rfl) (hpl : (backTo pos (starEach [] X.env)).any (·.1) = false := by rfl) :
    PMk X (.Call (.Name nm p) [a] [] pos) (tMk_part C ta) := by
  intro pins s σ H Q I h
  refine wpAny_Call_Name_kw (ld_glob I hg T.gC ?_ hdb)
  refine PySem.W.callWith_K (h₀ := X.base) I.ok.mod.kin T.kC (thn (ha.run pos pins s σ H _ I h) fun us s1 hh => ?_) he hpl
  obtain ⟨vs, H1, I1, r1, v, ev, q1⟩ := hh
  subst ev
  refine ⟨I1.kIn, ?_⟩
  cases r1 with
  | cons rv rn =>
    rename_i v' us'
    cases rn
    show wpAny _ _ (call (.ref C) [v']) _ _ _
    have hlim := I1.nolimit
    obtain ⟨hp, g, dr, tk, os⟩ := s1
    refine wpAny_call (Er_part.made T I1.kIn hlim (by have := hr.dp; omega) fun h' tk' e d M => ?_)
    show MkP X pins σ Q (.ref e) ⟨h', g, dr, tk', os⟩
    obtain ⟨oe, fv, hoe, hc, hd, hdat, h1⟩ := M.obj
    have hns := M.ns
    obtain ⟨G', g1, g2⟩ := restrict h' fun b => decide (b ≠ e)
    have gk : ∀ b, b ≠ e → G'.get? b = h'.get? b := fun b hb => g1 b (decide_eq_true hb)
    have ge : G'.get? e = none := g2 e (by simp)
    have old : ∀ b o, hp.get? b = some o → G'.get? b = some o := fun b o q => (gk b (Nat.ne_of_lt (Nat.lt_of_lt_of_le (Heap.lt_size q) M.new))).trans (M.keep b o q)
    have ob : ObjOk X.prog X.w (upd H1 d (.xd [(("part" : Str), v)])) G' d (.xd [(("part" : Str), v)]) :=
      ⟨_, hns.at (fun o q => (gk d M.dne).trans q), fun f => relO_part rv f⟩
    have J : L2.Inv X pins σ (upd H1 d (.xd [(("part" : Str), v)])) ⟨G', g, dr, tk', os⟩ := I1.laid (t' := tk') old M.dbig ob
    refine ⟨e, oe, fv, ⟨G', g, dr, tk', os⟩, _, .ref C, some d, rfl, J, fun b o q => ?_, ge, hoe, ⟨hc, hd⟩, hdat, h1, ?_, rfl, I1.bare, raises_own T.ex.hs T.tyC, q1 d (I1.hok.fresh M.dbig)⟩
    · by_cases hb : b = e
      · have q' : G'.get? b = some o := q
        rw [hb, ge] at q'
        cases q'
      · exact (gk b hb).symm.trans q
    · rw [upd_ne (Ne.symm M.dne)]
      exact I1.hok.fresh M.new
theorem ps_raiseE_part {a : Expr} {ta : TA} {W : WX} {p pos pos2 : Pos} {k : Nat} (hc : X.calm = true) (T : Er_part.Tx X.K X.mg nm ql C fI B newId initId bmB) (hr : Room k X.A) (tk : Takes X W) (ha : PA X [a] ta) (hg : Gl X nm := by rfl) (hdb : (nm == ("__debug__" : Str)) = false := by decide)
    (he : starEach (a :: []) X.env = (false, eval a X.env) :: starEach [] X.env := by rfl) (hpl : (backTo pos (starEach [] X.env)).any (·.1) = false := by rfl) :
    PS X (.Raise (some (.Call (.Name nm p) [a] [] pos)) none pos2) (tRaise_part C W ta) := ps_raise hc tk (pmkE_part T hr ha hg hdb he hpl)
/-- nm(e) as a value -/
def tVal_part (C : Addr) (ta : TA) : TE := fun σ H Q => ta σ H fun vs H1 => ∃ v, vs = [v] ∧ ∀ e d, H1 e = none → H1 d = none → d ≠ e → Q (.ref e) (upd (upd H1 d (.xd [(("part" : Str), v)])) e (ExH (.ref C) (some d) e))
theorem pe_val_part {a : Expr} {ta : TA} {p pos : Pos} {k : Nat} (T : Er_part.Tx X.K X.mg nm ql C fI B newId initId bmB) (hr : Room k X.A) (ha : PA X [a] ta) (hg : Gl X nm := by rfl) (hdb : (nm == ("__debug__" : Str)) = false := by decide)
    (he : starEach (a :: []) X.env = (false, eval a X.env) :: starEach [] X.env := by rfl) (hpl : (backTo pos (starEach [] X.env)).any (·.1) = false := by rfl) :
    PE X (.Call (.Name nm p) [a] [] pos) (tVal_part C ta) := by
  constructor
  intro pins s σ H Q I h
  refine wpAny_Call_Name_kw (ld_glob I hg T.gC ?_ hdb)
  refine PySem.W.callWith_K (h₀ := X.base) I.ok.mod.kin T.kC (thn (ha.run pos pins s σ H _ I h) fun us s1 hh => ?_) he hpl
  obtain ⟨vs, H1, I1, r1, v, ev, q1⟩ := hh
  subst ev
  refine ⟨I1.kIn, ?_⟩
  cases r1 with
  | cons rv rn =>
    rename_i v' us'
    cases rn
    show wpAny _ _ (call (.ref C) [v']) _ _ _
    have hlim := I1.nolimit
    obtain ⟨hp, g, dr, tk, os⟩ := s1
    refine wpAny_call (Er_part.made T I1.kIn hlim (by have := hr.dp; omega) fun h' tk' e d M => ?_)
    obtain ⟨oe, fv, hoe, hc, hd, hdat, h1⟩ := M.obj
    have hns := M.ns
    obtain ⟨G', g1, g2⟩ := restrict h' fun b => decide (b ≠ e)
    have gk : ∀ b, b ≠ e → G'.get? b = h'.get? b := fun b hb => g1 b (decide_eq_true hb)
    have ge : G'.get? e = none := g2 e (by simp)
    have old : ∀ b o, hp.get? b = some o → G'.get? b = some o := fun b o q => (gk b (Nat.ne_of_lt (Nat.lt_of_lt_of_le (Heap.lt_size q) M.new))).trans (M.keep b o q)
    have ob : ObjOk X.prog X.w (upd H1 d (.xd [(("part" : Str), v)])) G' d (.xd [(("part" : Str), v)]) :=
      ⟨_, hns.at (fun o q => (gk d M.dne).trans q), fun f => relO_part rv f⟩
    have J : L2.Inv X pins σ (upd H1 d (.xd [(("part" : Str), v)])) ⟨G', g, dr, tk', os⟩ := I1.laid (t' := tk') old M.dbig ob
    have fe : H1 e = none := I1.hok.fresh M.new
    have fd : H1 d = none := I1.hok.fresh M.dbig
    have J2 : L2.Inv X pins σ (upd (upd H1 d (.xd [(("part" : Str), v)])) e (ExH (.ref C) (some d) e)) ⟨h', g, dr, tk', os⟩ := J.laidN (h' := h') (t' := tk') (fun b u q => by
      by_cases hb : b = e
      · have q' : G'.get? b = some u := q
        rw [hb, ge] at q'
        cases q'
      · exact (gk b hb).symm.trans q) ge (by rw [upd_ne (Ne.symm M.dne)]; exact fe) (held_ok hoe ⟨hc, hd⟩ hdat)
    exact ⟨.ref e, _, J2, rfl, q1 e d fe fd M.dne⟩
end
/-! ### errors of the field wanted, over any base -/
namespace Er_wanted
open PySem.W PySem.Calls PySem.HandSPX
/-- the class called nm, at C, and its __init__, at fI, as the top has left them -/
structure Tx (K : Frag) (mg : Str → Option Value) (nm ql : Str) (C fI : Addr) (B newId initId : String) (bmB : List Value) : Prop where
  base : ExcBaseFacts B newId initId bmB
  gC : mg nm = some (.ref C)
  cls : ∃ n1 q N bs bm sn sub ab col dd k0 k1 k2 k3 k5, K.lookup C = some (excClassObj n1 q C N bs bm true sn sub ab col dd k0 k1 k2 k3 k5 newId) ∧ ErrLine B bm
  sa : findIn K (.ref C) "__setattr__" = some (some (.builtin "object.__setattr__"))
  ex : ExcC K C
  noN : findIn K (.ref C) "wanted" = some none
  iC : findIn K (.ref C) "__init__" = some (some (.ref fI))
  tC : typeIn K (.ref fI) = some (.type "function")
  kC : keepIn K (.ref C) = true
  tyC : typeIn K (.ref C) = some (.type "type")
  fn : ∃ (oc : Value) (od : Option Addr) (doc pm : Value) (an : Option Addr) (cdv ct : Value) (osl : Array (Option Value)) (p1 p2 q1 q2 q3 q4 : Pos),
    K.lookup fI = some ⟨oc, od, .func (fnOf "__init__" ql (Of_wanted.iA p1 p2) (Of_wanted.iB q1 q2 q3 q4) Of_wanted.iS .none .none doc pm an cdv ct), osl⟩ ∧ codeIn K cdv ql = true
section
variable {prog : Program} {w : World} {A : Around} {E : Value → Shared → Prop} {R : Result → Shared → Prop} {s : Shared} {K : Frag} {mg : Str → Option Value} {nm ql : Str} {C fI : Addr} {B newId initId : String} {bmB : List Value}
theorem made (T : Tx K mg nm ql C fI B newId initId bmB) {v : Value} (X : K.In s.heap) (hlim : s.heap.NoLimit) (hroom : A.depth + 1 < recursionLimit) (hq : ∀ h' tk e d, Of_wanted.Made s.heap h' e C d v → R (.ok (.ret (.ref e))) { s with heap := h', toks := tk }) :
    codeAny (model prog w) A (.call (.ref C) ⟨[v], []⟩) R s := by
  obtain ⟨n1, q, N, bs, bm, sn, sub, ab, col, dd, k0, k1, k2, k3, k5, hC, ln⟩ := T.cls
  obtain ⟨oc, od, doc, pm, an, cdv, ct, osl, p1, p2, q1, q2, q3, q4, ho, hcd⟩ := T.fn
  have hcl : clsIn K C = some { name := n1, bases := bs, mro := .ref C :: bm, ns := N, qualname := q, hasDict := true, slotNames := sn, subclasses := sub, abstract := ab, collection := col, hasDel := false } := by
    unfold clsIn
    rw [hC]
  obtain ⟨hp, g, dr, tk, os⟩ := s
  have k : ∀ b o, hp.get? b = some o → ((hp.push (kdv_tup [v])).push (excO C hp.objs.size)).get? b = some o := fun b o e => Heap.get?_push_of_some _ (Heap.get?_push_of_some _ e)
  have hx : ((hp.push (kdv_tup [v])).push (excO C hp.objs.size)).get? (hp.objs.size + 1) = some (excO C hp.objs.size) := by heap_get
  refine mk_call T.base ln.mkl (X _ _ hC) (looks_findIn X T.iC) (fun self => bind_fn X self T.tC) (one_size v) ?_
  have X1 := X.keeps k
  have lim1 : ((hp.push (kdv_tup [v])).push (excO C hp.objs.size)).NoLimit := hlim.keeps k
  have size1 : ((hp.push (kdv_tup [v])).push (excO C hp.objs.size)).objs.size = hp.objs.size + 1 + 1 := by rw [Heap.size_push, Heap.size_push]
  generalize (hp.push (kdv_tup [v])).push (excO C hp.objs.size) = h1 at k hx X1 lim1 size1 ⊢
  refine Att.call_fn (binds := [("self", .ref (hp.objs.size + 1)), ("wanted", v)]) X1 lim1 ho hcd hroom (BindsTo.of_eq (by first | rfl | with_unfolding_all rfl)) (by first | rfl | decide | with_unfolding_all rfl) (fun s₁ IC => ?_) rfl rfl rfl
  obtain ⟨h₁, tk₁, rfl⟩ := IC.toInCall.same
  have k1' : ∀ b o, h1.get? b = some o → h₁.get? b = some o := IC.toInCall.keep
  have hn := IC.toInCall.ns
  show wpAny _ _ (execs _ _) _ _ _
  refine wpAny_execs_cons (plainObj_wpAny_Assign_Attribute ?_)
  refine ldC (v := v) hn (by first | rfl | with_unfolding_all rfl | kernel_rfl) (ldC (v := .ref (hp.objs.size + 1)) hn (by first | rfl | with_unfolding_all rfl | kernel_rfl) ?_)
  refine set_plain (X1.keeps k1') (ox := excO C hp.objs.size) (od := none) ⟨k1' _ _ hx, rfl, rfl, trivial⟩ T.sa ?_
  refine err_first (X1.keeps k1') (k1' _ _ hx) hcl ln.own.obj ln.own.pass rfl rfl T.noN (fun h₃ tk₃ dx k₃ dn dne hx₃ hn₃ => ?_)
  show wpAny _ _ (execs _ _) _ _ _
  have z : h1.objs.size < h₁.objs.size := hn.lt
  have lt_ : ∀ {b : Addr} {o : Obj}, hp.get? b = some o → b ≠ hp.objs.size + 1 := fun {b o} e => Nat.ne_of_lt (Nat.lt_succ_of_lt (Heap.lt_size e))
  refine wpAny_execs_nil ⟨rfl, hq h₃ tk₃ (hp.objs.size + 1) dx ⟨fun b o e => k₃ b o (lt_ e) (k1' b o (k b o e)), Nat.le_succ _, ⟨_, _, hx₃, rfl, rfl, rfl, rfl⟩, ?_, dne, hn₃⟩⟩
  have dn' : h₁.objs.size ≤ dx := dn
  show hp.objs.size ≤ dx
  omega
end
end Er_wanted
section
variable {X : Cx} {nm ql : Str} {C fI : Addr} {B newId initId : String} {bmB : List Value}
/-- raise nm(e) -/
theorem pmkE_wanted {a : Expr} {ta : TA} {p pos : Pos} {k : Nat} (T : Er_wanted.Tx X.K X.mg nm ql C fI B newId initId bmB) (hr : Room k X.A) (ha : PA X [a] ta) (hg : Gl X nm := by rfl) (hdb : (nm == ("__debug__" : Str)) = false := by decide)
    (he : starEach (a :: []) X.env = (false, eval a X.env) :: starEach [] X.env := by rfl) (hpl : (backTo pos (starEach [] X.env)).any (·.1) = false := by rfl) :
    PMk X (.Call (.Name nm p) [a] [] pos) (tMk_wanted C ta) := by
  intro pins s σ H Q I h
  refine wpAny_Call_Name_kw (ld_glob I hg T.gC ?_ hdb)
  refine PySem.W.callWith_K (h₀ := X.base) I.ok.mod.kin T.kC (thn (ha.run pos pins s σ H _ I h) fun us s1 hh => ?_) he hpl
  obtain ⟨vs, H1, I1, r1, v, ev, q1⟩ := hh
  subst ev
  refine ⟨I1.kIn, ?_⟩
  cases r1 with
  | cons rv rn =>
    rename_i v' us'
    cases rn
    show wpAny _ _ (call (.ref C) [v']) _ _ _
    have hlim := I1.nolimit
    obtain ⟨hp, g, dr, tk, os⟩ := s1
    refine wpAny_call (Er_wanted.made T I1.kIn hlim (by have := hr.dp; omega) fun h' tk' e d M => ?_)
    show MkP X pins σ Q (.ref e) ⟨h', g, dr, tk', os⟩
    obtain ⟨oe, fv, hoe, hc, hd, hdat, h1⟩ := M.obj
    have hns := M.ns
    obtain ⟨G', g1, g2⟩ := restrict h' fun b => decide (b ≠ e)
    have gk : ∀ b, b ≠ e → G'.get? b = h'.get? b := fun b hb => g1 b (decide_eq_true hb)
    have ge : G'.get? e = none := g2 e (by simp)
    have old : ∀ b o, hp.get? b = some o → G'.get? b = some o := fun b o q => (gk b (Nat.ne_of_lt (Nat.lt_of_lt_of_le (Heap.lt_size q) M.new))).trans (M.keep b o q)
    have ob : ObjOk X.prog X.w (upd H1 d (.xd [(("wanted" : Str), v)])) G' d (.xd [(("wanted" : Str), v)]) :=
      ⟨_, hns.at (fun o q => (gk d M.dne).trans q), fun f => relO_wanted rv f⟩
    have J : L2.Inv X pins σ (upd H1 d (.xd [(("wanted" : Str), v)])) ⟨G', g, dr, tk', os⟩ := I1.laid (t' := tk') old M.dbig ob
    refine ⟨e, oe, fv, ⟨G', g, dr, tk', os⟩, _, .ref C, some d, rfl, J, fun b o q => ?_, ge, hoe, ⟨hc, hd⟩, hdat, h1, ?_, rfl, I1.bare, raises_own T.ex.hs T.tyC, q1 d (I1.hok.fresh M.dbig)⟩
    · by_cases hb : b = e
      · have q' : G'.get? b = some o := q
        rw [hb, ge] at q'
        cases q'
      · exact (gk b hb).symm.trans q
    · rw [upd_ne (Ne.symm M.dne)]
      exact I1.hok.fresh M.new
theorem ps_raiseE_wanted {a : Expr} {ta : TA} {W : WX} {p pos pos2 : Pos} {k : Nat} (hc : X.calm = true) (T : Er_wanted.Tx X.K X.mg nm ql C fI B newId initId bmB) (hr : Room k X.A) (tk : Takes X W) (ha : PA X [a] ta) (hg : Gl X nm := by rfl) (hdb : (nm == ("__debug__" : Str)) = false := by decide)
    (he : starEach (a :: []) X.env = (false, eval a X.env) :: starEach [] X.env := by rfl) (hpl : (backTo pos (starEach [] X.env)).any (·.1) = false := by rfl) :
    PS X (.Raise (some (.Call (.Name nm p) [a] [] pos)) none pos2) (tRaise_wanted C W ta) := ps_raise hc tk (pmkE_wanted T hr ha hg hdb he hpl)
/-- nm(e) as a value -/
def tVal_wanted (C : Addr) (ta : TA) : TE := fun σ H Q => ta σ H fun vs H1 => ∃ v, vs = [v] ∧ ∀ e d, H1 e = none → H1 d = none → d ≠ e → Q (.ref e) (upd (upd H1 d (.xd [(("wanted" : Str), v)])) e (ExH (.ref C) (some d) e))
theorem pe_val_wanted {a : Expr} {ta : TA} {p pos : Pos} {k : Nat} (T : Er_wanted.Tx X.K X.mg nm ql C fI B newId initId bmB) (hr : Room k X.A) (ha : PA X [a] ta) (hg : Gl X nm := by rfl) (hdb : (nm == ("__debug__" : Str)) = false := by decide)
    (he : starEach (a :: []) X.env = (false, eval a X.env) :: starEach [] X.env := by rfl) (hpl : (backTo pos (starEach [] X.env)).any (·.1) = false := by rfl) :
    PE X (.Call (.Name nm p) [a] [] pos) (tVal_wanted C ta) := by
  constructor
  intro pins s σ H Q I h
  refine wpAny_Call_Name_kw (ld_glob I hg T.gC ?_ hdb)
  refine PySem.W.callWith_K (h₀ := X.base) I.ok.mod.kin T.kC (thn (ha.run pos pins s σ H _ I h) fun us s1 hh => ?_) he hpl
  obtain ⟨vs, H1, I1, r1, v, ev, q1⟩ := hh
  subst ev
  refine ⟨I1.kIn, ?_⟩
  cases r1 with
  | cons rv rn =>
    rename_i v' us'
    cases rn
    show wpAny _ _ (call (.ref C) [v']) _ _ _
    have hlim := I1.nolimit
    obtain ⟨hp, g, dr, tk, os⟩ := s1
    refine wpAny_call (Er_wanted.made T I1.kIn hlim (by have := hr.dp; omega) fun h' tk' e d M => ?_)
    obtain ⟨oe, fv, hoe, hc, hd, hdat, h1⟩ := M.obj
    have hns := M.ns
    obtain ⟨G', g1, g2⟩ := restrict h' fun b => decide (b ≠ e)
    have gk : ∀ b, b ≠ e → G'.get? b = h'.get? b := fun b hb => g1 b (decide_eq_true hb)
    have ge : G'.get? e = none := g2 e (by simp)
    have old : ∀ b o, hp.get? b = some o → G'.get? b = some o := fun b o q => (gk b (Nat.ne_of_lt (Nat.lt_of_lt_of_le (Heap.lt_size q) M.new))).trans (M.keep b o q)
    have ob : ObjOk X.prog X.w (upd H1 d (.xd [(("wanted" : Str), v)])) G' d (.xd [(("wanted" : Str), v)]) :=
      ⟨_, hns.at (fun o q => (gk d M.dne).trans q), fun f => relO_wanted rv f⟩
    have J : L2.Inv X pins σ (upd H1 d (.xd [(("wanted" : Str), v)])) ⟨G', g, dr, tk', os⟩ := I1.laid (t' := tk') old M.dbig ob
    have fe : H1 e = none := I1.hok.fresh M.new
    have fd : H1 d = none := I1.hok.fresh M.dbig
    have J2 : L2.Inv X pins σ (upd (upd H1 d (.xd [(("wanted" : Str), v)])) e (ExH (.ref C) (some d) e)) ⟨h', g, dr, tk', os⟩ := J.laidN (h' := h') (t' := tk') (fun b u q => by
      by_cases hb : b = e
      · have q' : G'.get? b = some u := q
        rw [hb, ge] at q'
        cases q'
      · exact (gk b hb).symm.trans q) ge (by rw [upd_ne (Ne.symm M.dne)]; exact fe) (held_ok hoe ⟨hc, hd⟩ hdat)
    exact ⟨.ref e, _, J2, rfl, q1 e d fe fd M.dne⟩
end
/-! ### errors of the field at, over any base -/
namespace Er_at
open PySem.W PySem.Calls PySem.HandSPX
/-- the class called nm, at C, and its __init__, at fI, as the top has left them -/
structure Tx (K : Frag) (mg : Str → Option Value) (nm ql : Str) (C fI : Addr) (B newId initId : String) (bmB : List Value) : Prop where
  base : ExcBaseFacts B newId initId bmB
  gC : mg nm = some (.ref C)
  cls : ∃ n1 q N bs bm sn sub ab col dd k0 k1 k2 k3 k5, K.lookup C = some (excClassObj n1 q C N bs bm true sn sub ab col dd k0 k1 k2 k3 k5 newId) ∧ ErrLine B bm
  sa : findIn K (.ref C) "__setattr__" = some (some (.builtin "object.__setattr__"))
  ex : ExcC K C
  noN : findIn K (.ref C) "at" = some none
  iC : findIn K (.ref C) "__init__" = some (some (.ref fI))
  tC : typeIn K (.ref fI) = some (.type "function")
  kC : keepIn K (.ref C) = true
  tyC : typeIn K (.ref C) = some (.type "type")
  fn : ∃ (oc : Value) (od : Option Addr) (doc pm : Value) (an : Option Addr) (cdv ct : Value) (osl : Array (Option Value)) (p1 p2 q1 q2 q3 q4 : Pos),
    K.lookup fI = some ⟨oc, od, .func (fnOf "__init__" ql (Of_at.iA p1 p2) (Of_at.iB q1 q2 q3 q4) Of_at.iS .none .none doc pm an cdv ct), osl⟩ ∧ codeIn K cdv ql = true
section
variable {prog : Program} {w : World} {A : Around} {E : Value → Shared → Prop} {R : Result → Shared → Prop} {s : Shared} {K : Frag} {mg : Str → Option Value} {nm ql : Str} {C fI : Addr} {B newId initId : String} {bmB : List Value}
theorem made (T : Tx K mg nm ql C fI B newId initId bmB) {v : Value} (X : K.In s.heap) (hlim : s.heap.NoLimit) (hroom : A.depth + 1 < recursionLimit) (hq : ∀ h' tk e d, Of_at.Made s.heap h' e C d v → R (.ok (.ret (.ref e))) { s with heap := h', toks := tk }) :
    codeAny (model prog w) A (.call (.ref C) ⟨[v], []⟩) R s := by
  obtain ⟨n1, q, N, bs, bm, sn, sub, ab, col, dd, k0, k1, k2, k3, k5, hC, ln⟩ := T.cls
  obtain ⟨oc, od, doc, pm, an, cdv, ct, osl, p1, p2, q1, q2, q3, q4, ho, hcd⟩ := T.fn
  have hcl : clsIn K C = some { name := n1, bases := bs, mro := .ref C :: bm, ns := N, qualname := q, hasDict := true, slotNames := sn, subclasses := sub, abstract := ab, collection := col, hasDel := false } := by
    unfold clsIn
    rw [hC]
  obtain ⟨hp, g, dr, tk, os⟩ := s
  have k : ∀ b o, hp.get? b = some o → ((hp.push (kdv_tup [v])).push (excO C hp.objs.size)).get? b = some o := fun b o e => Heap.get?_push_of_some _ (Heap.get?_push_of_some _ e)
  have hx : ((hp.push (kdv_tup [v])).push (excO C hp.objs.size)).get? (hp.objs.size + 1) = some (excO C hp.objs.size) := by heap_get
  refine mk_call T.base ln.mkl (X _ _ hC) (looks_findIn X T.iC) (fun self => bind_fn X self T.tC) (one_size v) ?_
  have X1 := X.keeps k
  have lim1 : ((hp.push (kdv_tup [v])).push (excO C hp.objs.size)).NoLimit := hlim.keeps k
  have size1 : ((hp.push (kdv_tup [v])).push (excO C hp.objs.size)).objs.size = hp.objs.size + 1 + 1 := by rw [Heap.size_push, Heap.size_push]
  generalize (hp.push (kdv_tup [v])).push (excO C hp.objs.size) = h1 at k hx X1 lim1 size1 ⊢
  refine Att.call_fn (binds := [("self", .ref (hp.objs.size + 1)), ("at", v)]) X1 lim1 ho hcd hroom (BindsTo.of_eq (by first | rfl | with_unfolding_all rfl)) (by first | rfl | decide | with_unfolding_all rfl) (fun s₁ IC => ?_) rfl rfl rfl
  obtain ⟨h₁, tk₁, rfl⟩ := IC.toInCall.same
  have k1' : ∀ b o, h1.get? b = some o → h₁.get? b = some o := IC.toInCall.keep
  have hn := IC.toInCall.ns
  show wpAny _ _ (execs _ _) _ _ _
  refine wpAny_execs_cons (plainObj_wpAny_Assign_Attribute ?_)
  refine ldC (v := v) hn (by first | rfl | with_unfolding_all rfl | kernel_rfl) (ldC (v := .ref (hp.objs.size + 1)) hn (by first | rfl | with_unfolding_all rfl | kernel_rfl) ?_)
  refine set_plain (X1.keeps k1') (ox := excO C hp.objs.size) (od := none) ⟨k1' _ _ hx, rfl, rfl, trivial⟩ T.sa ?_
  refine err_first (X1.keeps k1') (k1' _ _ hx) hcl ln.own.obj ln.own.pass rfl rfl T.noN (fun h₃ tk₃ dx k₃ dn dne hx₃ hn₃ => ?_)
  show wpAny _ _ (execs _ _) _ _ _
  have z : h1.objs.size < h₁.objs.size := hn.lt
  have lt_ : ∀ {b : Addr} {o : Obj}, hp.get? b = some o → b ≠ hp.objs.size + 1 := fun {b o} e => Nat.ne_of_lt (Nat.lt_succ_of_lt (Heap.lt_size e))
  refine wpAny_execs_nil ⟨rfl, hq h₃ tk₃ (hp.objs.size + 1) dx ⟨fun b o e => k₃ b o (lt_ e) (k1' b o (k b o e)), Nat.le_succ _, ⟨_, _, hx₃, rfl, rfl, rfl, rfl⟩, ?_, dne, hn₃⟩⟩
  have dn' : h₁.objs.size ≤ dx := dn
  show hp.objs.size ≤ dx
  omega
end
end Er_at
section
variable {X : Cx} {nm ql : Str} {C fI : Addr} {B newId initId : String} {bmB : List Value}
/-- raise nm(e) -/
theorem pmkE_at {a : Expr} {ta : TA} {p pos : Pos} {k : Nat} (T : Er_at.Tx X.K X.mg nm ql C fI B newId initId bmB) (hr : Room k X.A) (ha : PA X [a] ta) (hg : Gl X nm := by rfl) (hdb : (nm == ("__debug__" : Str)) = false := by decide)
    (he : starEach (a :: []) X.env = (false, eval a X.env) :: starEach [] X.env := by rfl) (hpl : (backTo pos (starEach [] X.env)).any (·.1) = false := by rfl) :
    PMk X (.Call (.Name nm p) [a] [] pos) (tMk_at C ta) := by
  intro pins s σ H Q I h
  refine wpAny_Call_Name_kw (ld_glob I hg T.gC ?_ hdb)
  refine PySem.W.callWith_K (h₀ := X.base) I.ok.mod.kin T.kC (thn (ha.run pos pins s σ H _ I h) fun us s1 hh => ?_) he hpl
  obtain ⟨vs, H1, I1, r1, v, ev, q1⟩ := hh
  subst ev
  refine ⟨I1.kIn, ?_⟩
  cases r1 with
  | cons rv rn =>
    rename_i v' us'
    cases rn
    show wpAny _ _ (call (.ref C) [v']) _ _ _
    have hlim := I1.nolimit
    obtain ⟨hp, g, dr, tk, os⟩ := s1
    refine wpAny_call (Er_at.made T I1.kIn hlim (by have := hr.dp; omega) fun h' tk' e d M => ?_)
    show MkP X pins σ Q (.ref e) ⟨h', g, dr, tk', os⟩
    obtain ⟨oe, fv, hoe, hc, hd, hdat, h1⟩ := M.obj
    have hns := M.ns
    obtain ⟨G', g1, g2⟩ := restrict h' fun b => decide (b ≠ e)
    have gk : ∀ b, b ≠ e → G'.get? b = h'.get? b := fun b hb => g1 b (decide_eq_true hb)
    have ge : G'.get? e = none := g2 e (by simp)
    have old : ∀ b o, hp.get? b = some o → G'.get? b = some o := fun b o q => (gk b (Nat.ne_of_lt (Nat.lt_of_lt_of_le (Heap.lt_size q) M.new))).trans (M.keep b o q)
    have ob : ObjOk X.prog X.w (upd H1 d (.xd [(("at" : Str), v)])) G' d (.xd [(("at" : Str), v)]) :=
      ⟨_, hns.at (fun o q => (gk d M.dne).trans q), fun f => relO_at rv f⟩
    have J : L2.Inv X pins σ (upd H1 d (.xd [(("at" : Str), v)])) ⟨G', g, dr, tk', os⟩ := I1.laid (t' := tk') old M.dbig ob
    refine ⟨e, oe, fv, ⟨G', g, dr, tk', os⟩, _, .ref C, some d, rfl, J, fun b o q => ?_, ge, hoe, ⟨hc, hd⟩, hdat, h1, ?_, rfl, I1.bare, raises_own T.ex.hs T.tyC, q1 d (I1.hok.fresh M.dbig)⟩
    · by_cases hb : b = e
      · have q' : G'.get? b = some o := q
        rw [hb, ge] at q'
        cases q'
      · exact (gk b hb).symm.trans q
    · rw [upd_ne (Ne.symm M.dne)]
      exact I1.hok.fresh M.new
theorem ps_raiseE_at {a : Expr} {ta : TA} {W : WX} {p pos pos2 : Pos} {k : Nat} (hc : X.calm = true) (T : Er_at.Tx X.K X.mg nm ql C fI B newId initId bmB) (hr : Room k X.A) (tk : Takes X W) (ha : PA X [a] ta) (hg : Gl X nm := by rfl) (hdb : (nm == ("__debug__" : Str)) = false := by decide)
    (he : starEach (a :: []) X.env = (false, eval a X.env) :: starEach [] X.env := by rfl) (hpl : (backTo pos (starEach [] X.env)).any (·.1) = false := by rfl) :
    PS X (.Raise (some (.Call (.Name nm p) [a] [] pos)) none pos2) (tRaise_at C W ta) := ps_raise hc tk (pmkE_at T hr ha hg hdb he hpl)
/-- nm(e) as a value -/
def tVal_at (C : Addr) (ta : TA) : TE := fun σ H Q => ta σ H fun vs H1 => ∃ v, vs = [v] ∧ ∀ e d, H1 e = none → H1 d = none → d ≠ e → Q (.ref e) (upd (upd H1 d (.xd [(("at" : Str), v)])) e (ExH (.ref C) (some d) e))
theorem pe_val_at {a : Expr} {ta : TA} {p pos : Pos} {k : Nat} (T : Er_at.Tx X.K X.mg nm ql C fI B newId initId bmB) (hr : Room k X.A) (ha : PA X [a] ta) (hg : Gl X nm := by rfl) (hdb : (nm == ("__debug__" : Str)) = false := by decide)
    (he : starEach (a :: []) X.env = (false, eval a X.env) :: starEach [] X.env := by rfl) (hpl : (backTo pos (starEach [] X.env)).any (·.1) = false := by rfl) :
    PE X (.Call (.Name nm p) [a] [] pos) (tVal_at C ta) := by
  constructor
  intro pins s σ H Q I h
  refine wpAny_Call_Name_kw (ld_glob I hg T.gC ?_ hdb)
  refine PySem.W.callWith_K (h₀ := X.base) I.ok.mod.kin T.kC (thn (ha.run pos pins s σ H _ I h) fun us s1 hh => ?_) he hpl
  obtain ⟨vs, H1, I1, r1, v, ev, q1⟩ := hh
  subst ev
  refine ⟨I1.kIn, ?_⟩
  cases r1 with
  | cons rv rn =>
    rename_i v' us'
    cases rn
    show wpAny _ _ (call (.ref C) [v']) _ _ _
    have hlim := I1.nolimit
    obtain ⟨hp, g, dr, tk, os⟩ := s1
    refine wpAny_call (Er_at.made T I1.kIn hlim (by have := hr.dp; omega) fun h' tk' e d M => ?_)
    obtain ⟨oe, fv, hoe, hc, hd, hdat, h1⟩ := M.obj
    have hns := M.ns
    obtain ⟨G', g1, g2⟩ := restrict h' fun b => decide (b ≠ e)
    have gk : ∀ b, b ≠ e → G'.get? b = h'.get? b := fun b hb => g1 b (decide_eq_true hb)
    have ge : G'.get? e = none := g2 e (by simp)
    have old : ∀ b o, hp.get? b = some o → G'.get? b = some o := fun b o q => (gk b (Nat.ne_of_lt (Nat.lt_of_lt_of_le (Heap.lt_size q) M.new))).trans (M.keep b o q)
    have ob : ObjOk X.prog X.w (upd H1 d (.xd [(("at" : Str), v)])) G' d (.xd [(("at" : Str), v)]) :=
      ⟨_, hns.at (fun o q => (gk d M.dne).trans q), fun f => relO_at rv f⟩
    have J : L2.Inv X pins σ (upd H1 d (.xd [(("at" : Str), v)])) ⟨G', g, dr, tk', os⟩ := I1.laid (t' := tk') old M.dbig ob
    have fe : H1 e = none := I1.hok.fresh M.new
    have fd : H1 d = none := I1.hok.fresh M.dbig
    have J2 : L2.Inv X pins σ (upd (upd H1 d (.xd [(("at" : Str), v)])) e (ExH (.ref C) (some d) e)) ⟨h', g, dr, tk', os⟩ := J.laidN (h' := h') (t' := tk') (fun b u q => by
      by_cases hb : b = e
      · have q' : G'.get? b = some u := q
        rw [hb, ge] at q'
        cases q'
      · exact (gk b hb).symm.trans q) ge (by rw [upd_ne (Ne.symm M.dne)]; exact fe) (held_ok hoe ⟨hc, hd⟩ hdat)
    exact ⟨.ref e, _, J2, rfl, q1 e d fe fd M.dne⟩
end
/-! ### errors of the field name, over any base -/
namespace Er_name
open PySem.W PySem.Calls PySem.HandSPX
/-- the class called nm, at C, and its __init__, at fI, as the top has left them -/
structure Tx (K : Frag) (mg : Str → Option Value) (nm ql : Str) (C fI : Addr) (B newId initId : String) (bmB : List Value) : Prop where
  base : ExcBaseFacts B newId initId bmB
  gC : mg nm = some (.ref C)
  cls : ∃ n1 q N bs bm sn sub ab col dd k0 k1 k2 k3 k5, K.lookup C = some (excClassObj n1 q C N bs bm true sn sub ab col dd k0 k1 k2 k3 k5 newId) ∧ ErrLine B bm
  sa : findIn K (.ref C) "__setattr__" = some (some (.builtin "object.__setattr__"))
  ex : ExcC K C
  noN : findIn K (.ref C) "name" = some none
  iC : findIn K (.ref C) "__init__" = some (some (.ref fI))
  tC : typeIn K (.ref fI) = some (.type "function")
  kC : keepIn K (.ref C) = true
  tyC : typeIn K (.ref C) = some (.type "type")
  fn : ∃ (oc : Value) (od : Option Addr) (doc pm : Value) (an : Option Addr) (cdv ct : Value) (osl : Array (Option Value)) (p1 p2 q1 q2 q3 q4 : Pos),
    K.lookup fI = some ⟨oc, od, .func (fnOf "__init__" ql (Of_name.iA p1 p2) (Of_name.iB q1 q2 q3 q4) Of_name.iS .none .none doc pm an cdv ct), osl⟩ ∧ codeIn K cdv ql = true
section
variable {prog : Program} {w : World} {A : Around} {E : Value → Shared → Prop} {R : Result → Shared → Prop} {s : Shared} {K : Frag} {mg : Str → Option Value} {nm ql : Str} {C fI : Addr} {B newId initId : String} {bmB : List Value}
theorem made (T : Tx K mg nm ql C fI B newId initId bmB) {v : Value} (X : K.In s.heap) (hlim : s.heap.NoLimit) (hroom : A.depth + 1 < recursionLimit) (hq : ∀ h' tk e d, Of_name.Made s.heap h' e C d v → R (.ok (.ret (.ref e))) { s with heap := h', toks := tk }) :
    codeAny (model prog w) A (.call (.ref C) ⟨[v], []⟩) R s := by
  obtain ⟨n1, q, N, bs, bm, sn, sub, ab, col, dd, k0, k1, k2, k3, k5, hC, ln⟩ := T.cls
  obtain ⟨oc, od, doc, pm, an, cdv, ct, osl, p1, p2, q1, q2, q3, q4, ho, hcd⟩ := T.fn
  have hcl : clsIn K C = some { name := n1, bases := bs, mro := .ref C :: bm, ns := N, qualname := q, hasDict := true, slotNames := sn, subclasses := sub, abstract := ab, collection := col, hasDel := false } := by
    unfold clsIn
    rw [hC]
  obtain ⟨hp, g, dr, tk, os⟩ := s
  have k : ∀ b o, hp.get? b = some o → ((hp.push (kdv_tup [v])).push (excO C hp.objs.size)).get? b = some o := fun b o e => Heap.get?_push_of_some _ (Heap.get?_push_of_some _ e)
  have hx : ((hp.push (kdv_tup [v])).push (excO C hp.objs.size)).get? (hp.objs.size + 1) = some (excO C hp.objs.size) := by heap_get
  refine mk_call T.base ln.mkl (X _ _ hC) (looks_findIn X T.iC) (fun self => bind_fn X self T.tC) (one_size v) ?_
  have X1 := X.keeps k
  have lim1 : ((hp.push (kdv_tup [v])).push (excO C hp.objs.size)).NoLimit := hlim.keeps k
  have size1 : ((hp.push (kdv_tup [v])).push (excO C hp.objs.size)).objs.size = hp.objs.size + 1 + 1 := by rw [Heap.size_push, Heap.size_push]
  generalize (hp.push (kdv_tup [v])).push (excO C hp.objs.size) = h1 at k hx X1 lim1 size1 ⊢
  refine Att.call_fn (binds := [("self", .ref (hp.objs.size + 1)), ("name", v)]) X1 lim1 ho hcd hroom (BindsTo.of_eq (by first | rfl | with_unfolding_all rfl)) (by first | rfl | decide | with_unfolding_all rfl) (fun s₁ IC => ?_) rfl rfl rfl
  obtain ⟨h₁, tk₁, rfl⟩ := IC.toInCall.same
  have k1' : ∀ b o, h1.get? b = some o → h₁.get? b = some o := IC.toInCall.keep
  have hn := IC.toInCall.ns
  show wpAny _ _ (execs _ _) _ _ _
  refine wpAny_execs_cons (plainObj_wpAny_Assign_Attribute ?_)
  refine ldC (v := v) hn (by first | rfl | with_unfolding_all rfl | kernel_rfl) (ldC (v := .ref (hp.objs.size + 1)) hn (by first | rfl | with_unfolding_all rfl | kernel_rfl) ?_)
  refine set_plain (X1.keeps k1') (ox := excO C hp.objs.size) (od := none) ⟨k1' _ _ hx, rfl, rfl, trivial⟩ T.sa ?_
  refine err_first (X1.keeps k1') (k1' _ _ hx) hcl ln.own.obj ln.own.pass rfl rfl T.noN (fun h₃ tk₃ dx k₃ dn dne hx₃ hn₃ => ?_)
  show wpAny _ _ (execs _ _) _ _ _
  have z : h1.objs.size < h₁.objs.size := hn.lt
  have lt_ : ∀ {b : Addr} {o : Obj}, hp.get? b = some o → b ≠ hp.objs.size + 1 := fun {b o} e => Nat.ne_of_lt (Nat.lt_succ_of_lt (Heap.lt_size e))
  refine wpAny_execs_nil ⟨rfl, hq h₃ tk₃ (hp.objs.size + 1) dx ⟨fun b o e => k₃ b o (lt_ e) (k1' b o (k b o e)), Nat.le_succ _, ⟨_, _, hx₃, rfl, rfl, rfl, rfl⟩, ?_, dne, hn₃⟩⟩
  have dn' : h₁.objs.size ≤ dx := dn
  show hp.objs.size ≤ dx
  omega
end
end Er_name
section
variable {X : Cx} {nm ql : Str} {C fI : Addr} {B newId initId : String} {bmB : List Value}
/-- raise nm(e) -/
theorem pmkE_name {a : Expr} {ta : TA} {p pos : Pos} {k : Nat} (T : Er_name.Tx X.K X.mg nm ql C fI B newId initId bmB) (hr : Room k X.A) (ha : PA X [a] ta) (hg : Gl X nm := by rfl) (hdb : (nm == ("__debug__" : Str)) = false := by decide)
    (he : starEach (a :: []) X.env = (false, eval a X.env) :: starEach [] X.env := by rfl) (hpl : (backTo pos (starEach [] X.env)).any (·.1) = false := by rfl) :
    PMk X (.Call (.Name nm p) [a] [] pos) (tMk_name C ta) := by
  intro pins s σ H Q I h
  refine wpAny_Call_Name_kw (ld_glob I hg T.gC ?_ hdb)
  refine PySem.W.callWith_K (h₀ := X.base) I.ok.mod.kin T.kC (thn (ha.run pos pins s σ H _ I h) fun us s1 hh => ?_) he hpl
  obtain ⟨vs, H1, I1, r1, v, ev, q1⟩ := hh
  subst ev
  refine ⟨I1.kIn, ?_⟩
  cases r1 with
  | cons rv rn =>
    rename_i v' us'
    cases rn
    show wpAny _ _ (call (.ref C) [v']) _ _ _
    have hlim := I1.nolimit
    obtain ⟨hp, g, dr, tk, os⟩ := s1
    refine wpAny_call (Er_name.made T I1.kIn hlim (by have := hr.dp; omega) fun h' tk' e d M => ?_)
    show MkP X pins σ Q (.ref e) ⟨h', g, dr, tk', os⟩
    obtain ⟨oe, fv, hoe, hc, hd, hdat, h1⟩ := M.obj
    have hns := M.ns
    obtain ⟨G', g1, g2⟩ := restrict h' fun b => decide (b ≠ e)
    have gk : ∀ b, b ≠ e → G'.get? b = h'.get? b := fun b hb => g1 b (decide_eq_true hb)
    have ge : G'.get? e = none := g2 e (by simp)
    have old : ∀ b o, hp.get? b = some o → G'.get? b = some o := fun b o q => (gk b (Nat.ne_of_lt (Nat.lt_of_lt_of_le (Heap.lt_size q) M.new))).trans (M.keep b o q)
    have ob : ObjOk X.prog X.w (upd H1 d (.xd [(("name" : Str), v)])) G' d (.xd [(("name" : Str), v)]) :=
      ⟨_, hns.at (fun o q => (gk d M.dne).trans q), fun f => relO_name rv f⟩
    have J : L2.Inv X pins σ (upd H1 d (.xd [(("name" : Str), v)])) ⟨G', g, dr, tk', os⟩ := I1.laid (t' := tk') old M.dbig ob
    refine ⟨e, oe, fv, ⟨G', g, dr, tk', os⟩, _, .ref C, some d, rfl, J, fun b o q => ?_, ge, hoe, ⟨hc, hd⟩, hdat, h1, ?_, rfl, I1.bare, raises_own T.ex.hs T.tyC, q1 d (I1.hok.fresh M.dbig)⟩
    · by_cases hb : b = e
      · have q' : G'.get? b = some o := q
        rw [hb, ge] at q'
        cases q'
      · exact (gk b hb).symm.trans q
    · rw [upd_ne (Ne.symm M.dne)]
      exact I1.hok.fresh M.new
theorem ps_raiseE_name {a : Expr} {ta : TA} {W : WX} {p pos pos2 : Pos} {k : Nat} (hc : X.calm = true) (T : Er_name.Tx X.K X.mg nm ql C fI B newId initId bmB) (hr : Room k X.A) (tk : Takes X W) (ha : PA X [a] ta) (hg : Gl X nm := by rfl) (hdb : (nm == ("__debug__" : Str)) = false := by decide)
    (he : starEach (a :: []) X.env = (false, eval a X.env) :: starEach [] X.env := by rfl) (hpl : (backTo pos (starEach [] X.env)).any (·.1) = false := by rfl) :
    PS X (.Raise (some (.Call (.Name nm p) [a] [] pos)) none pos2) (tRaise_name C W ta) := ps_raise hc tk (pmkE_name T hr ha hg hdb he hpl)
/-- nm(e) as a value -/
def tVal_name (C : Addr) (ta : TA) : TE := fun σ H Q => ta σ H fun vs H1 => ∃ v, vs = [v] ∧ ∀ e d, H1 e = none → H1 d = none → d ≠ e → Q (.ref e) (upd (upd H1 d (.xd [(("name" : Str), v)])) e (ExH (.ref C) (some d) e))
theorem pe_val_name {a : Expr} {ta : TA} {p pos : Pos} {k : Nat} (T : Er_name.Tx X.K X.mg nm ql C fI B newId initId bmB) (hr : Room k X.A) (ha : PA X [a] ta) (hg : Gl X nm := by rfl) (hdb : (nm == ("__debug__" : Str)) = false := by decide)
    (he : starEach (a :: []) X.env = (false, eval a X.env) :: starEach [] X.env := by rfl) (hpl : (backTo pos (starEach [] X.env)).any (·.1) = false := by rfl) :
    PE X (.Call (.Name nm p) [a] [] pos) (tVal_name C ta) := by
  constructor
  intro pins s σ H Q I h
  refine wpAny_Call_Name_kw (ld_glob I hg T.gC ?_ hdb)
  refine PySem.W.callWith_K (h₀ := X.base) I.ok.mod.kin T.kC (thn (ha.run pos pins s σ H _ I h) fun us s1 hh => ?_) he hpl
  obtain ⟨vs, H1, I1, r1, v, ev, q1⟩ := hh
  subst ev
  refine ⟨I1.kIn, ?_⟩
  cases r1 with
  | cons rv rn =>
    rename_i v' us'
    cases rn
    show wpAny _ _ (call (.ref C) [v']) _ _ _
    have hlim := I1.nolimit
    obtain ⟨hp, g, dr, tk, os⟩ := s1
    refine wpAny_call (Er_name.made T I1.kIn hlim (by have := hr.dp; omega) fun h' tk' e d M => ?_)
    obtain ⟨oe, fv, hoe, hc, hd, hdat, h1⟩ := M.obj
    have hns := M.ns
    obtain ⟨G', g1, g2⟩ := restrict h' fun b => decide (b ≠ e)
    have gk : ∀ b, b ≠ e → G'.get? b = h'.get? b := fun b hb => g1 b (decide_eq_true hb)
    have ge : G'.get? e = none := g2 e (by simp)
    have old : ∀ b o, hp.get? b = some o → G'.get? b = some o := fun b o q => (gk b (Nat.ne_of_lt (Nat.lt_of_lt_of_le (Heap.lt_size q) M.new))).trans (M.keep b o q)
    have ob : ObjOk X.prog X.w (upd H1 d (.xd [(("name" : Str), v)])) G' d (.xd [(("name" : Str), v)]) :=
      ⟨_, hns.at (fun o q => (gk d M.dne).trans q), fun f => relO_name rv f⟩
    have J : L2.Inv X pins σ (upd H1 d (.xd [(("name" : Str), v)])) ⟨G', g, dr, tk', os⟩ := I1.laid (t' := tk') old M.dbig ob
    have fe : H1 e = none := I1.hok.fresh M.new
    have fd : H1 d = none := I1.hok.fresh M.dbig
    have J2 : L2.Inv X pins σ (upd (upd H1 d (.xd [(("name" : Str), v)])) e (ExH (.ref C) (some d) e)) ⟨h', g, dr, tk', os⟩ := J.laidN (h' := h') (t' := tk') (fun b u q => by
      by_cases hb : b = e
      · have q' : G'.get? b = some u := q
        rw [hb, ge] at q'
        cases q'
      · exact (gk b hb).symm.trans q) ge (by rw [upd_ne (Ne.symm M.dne)]; exact fe) (held_ok hoe ⟨hc, hd⟩ hdat)
    exact ⟨.ref e, _, J2, rfl, q1 e d fe fd M.dne⟩
end
/-! ### errors of the field most, over any base -/
namespace Er_most
open PySem.W PySem.Calls PySem.HandSPX
/-- the class called nm, at C, and its __init__, at fI, as the top has left them -/
structure Tx (K : Frag) (mg : Str → Option Value) (nm ql : Str) (C fI : Addr) (B newId initId : String) (bmB : List Value) : Prop where
  base : ExcBaseFacts B newId initId bmB
  gC : mg nm = some (.ref C)
  cls : ∃ n1 q N bs bm sn sub ab col dd k0 k1 k2 k3 k5, K.lookup C = some (excClassObj n1 q C N bs bm true sn sub ab col dd k0 k1 k2 k3 k5 newId) ∧ ErrLine B bm
  sa : findIn K (.ref C) "__setattr__" = some (some (.builtin "object.__setattr__"))
  ex : ExcC K C
  noN : findIn K (.ref C) "most" = some none
  iC : findIn K (.ref C) "__init__" = some (some (.ref fI))
  tC : typeIn K (.ref fI) = some (.type "function")
  kC : keepIn K (.ref C) = true
  tyC : typeIn K (.ref C) = some (.type "type")
  fn : ∃ (oc : Value) (od : Option Addr) (doc pm : Value) (an : Option Addr) (cdv ct : Value) (osl : Array (Option Value)) (p1 p2 q1 q2 q3 q4 : Pos),
    K.lookup fI = some ⟨oc, od, .func (fnOf "__init__" ql (Of_most.iA p1 p2) (Of_most.iB q1 q2 q3 q4) Of_most.iS .none .none doc pm an cdv ct), osl⟩ ∧ codeIn K cdv ql = true
section
variable {prog : Program} {w : World} {A : Around} {E : Value → Shared → Prop} {R : Result → Shared → Prop} {s : Shared} {K : Frag} {mg : Str → Option Value} {nm ql : Str} {C fI : Addr} {B newId initId : String} {bmB : List Value}
theorem made (T : Tx K mg nm ql C fI B newId initId bmB) {v : Value} (X : K.In s.heap) (hlim : s.heap.NoLimit) (hroom : A.depth + 1 < recursionLimit) (hq : ∀ h' tk e d, Of_most.Made s.heap h' e C d v → R (.ok (.ret (.ref e))) { s with heap := h', toks := tk }) :
    codeAny (model prog w) A (.call (.ref C) ⟨[v], []⟩) R s := by
  obtain ⟨n1, q, N, bs, bm, sn, sub, ab, col, dd, k0, k1, k2, k3, k5, hC, ln⟩ := T.cls
  obtain ⟨oc, od, doc, pm, an, cdv, ct, osl, p1, p2, q1, q2, q3, q4, ho, hcd⟩ := T.fn
  have hcl : clsIn K C = some { name := n1, bases := bs, mro := .ref C :: bm, ns := N, qualname := q, hasDict := true, slotNames := sn, subclasses := sub, abstract := ab, collection := col, hasDel := false } := by
    unfold clsIn
    rw [hC]
  obtain ⟨hp, g, dr, tk, os⟩ := s
  have k : ∀ b o, hp.get? b = some o → ((hp.push (kdv_tup [v])).push (excO C hp.objs.size)).get? b = some o := fun b o e => Heap.get?_push_of_some _ (Heap.get?_push_of_some _ e)
  have hx : ((hp.push (kdv_tup [v])).push (excO C hp.objs.size)).get? (hp.objs.size + 1) = some (excO C hp.objs.size) := by heap_get
  refine mk_call T.base ln.mkl (X _ _ hC) (looks_findIn X T.iC) (fun self => bind_fn X self T.tC) (one_size v) ?_
  have X1 := X.keeps k
  have lim1 : ((hp.push (kdv_tup [v])).push (excO C hp.objs.size)).NoLimit := hlim.keeps k
  have size1 : ((hp.push (kdv_tup [v])).push (excO C hp.objs.size)).objs.size = hp.objs.size + 1 + 1 := by rw [Heap.size_push, Heap.size_push]
  generalize (hp.push (kdv_tup [v])).push (excO C hp.objs.size) = h1 at k hx X1 lim1 size1 ⊢
  refine Att.call_fn (binds := [("self", .ref (hp.objs.size + 1)), ("most", v)]) X1 lim1 ho hcd hroom (BindsTo.of_eq (by first | rfl | with_unfolding_all rfl)) (by first | rfl | decide | with_unfolding_all rfl) (fun s₁ IC => ?_) rfl rfl rfl
  obtain ⟨h₁, tk₁, rfl⟩ := IC.toInCall.same
  have k1' : ∀ b o, h1.get? b = some o → h₁.get? b = some o := IC.toInCall.keep
  have hn := IC.toInCall.ns
  show wpAny _ _ (execs _ _) _ _ _
  refine wpAny_execs_cons (plainObj_wpAny_Assign_Attribute ?_)
  refine ldC (v := v) hn (by first | rfl | with_unfolding_all rfl | kernel_rfl) (ldC (v := .ref (hp.objs.size + 1)) hn (by first | rfl | with_unfolding_all rfl | kernel_rfl) ?_)
  refine set_plain (X1.keeps k1') (ox := excO C hp.objs.size) (od := none) ⟨k1' _ _ hx, rfl, rfl, trivial⟩ T.sa ?_
  refine err_first (X1.keeps k1') (k1' _ _ hx) hcl ln.own.obj ln.own.pass rfl rfl T.noN (fun h₃ tk₃ dx k₃ dn dne hx₃ hn₃ => ?_)
  show wpAny _ _ (execs _ _) _ _ _
  have z : h1.objs.size < h₁.objs.size := hn.lt
  have lt_ : ∀ {b : Addr} {o : Obj}, hp.get? b = some o → b ≠ hp.objs.size + 1 := fun {b o} e => Nat.ne_of_lt (Nat.lt_succ_of_lt (Heap.lt_size e))
  refine wpAny_execs_nil ⟨rfl, hq h₃ tk₃ (hp.objs.size + 1) dx ⟨fun b o e => k₃ b o (lt_ e) (k1' b o (k b o e)), Nat.le_succ _, ⟨_, _, hx₃, rfl, rfl, rfl, rfl⟩, ?_, dne, hn₃⟩⟩
  have dn' : h₁.objs.size ≤ dx := dn
  show hp.objs.size ≤ dx
  omega
end
end Er_most
section
variable {X : Cx} {nm ql : Str} {C fI : Addr} {B newId initId : String} {bmB : List Value}
/-- raise nm(e) -/
theorem pmkE_most {a : Expr} {ta : TA} {p pos : Pos} {k : Nat} (T : Er_most.Tx X.K X.mg nm ql C fI B newId initId bmB) (hr : Room k X.A) (ha : PA X [a] ta) (hg : Gl X nm := by rfl) (hdb : (nm == ("__debug__" : Str)) = false := by decide)
    (he : starEach (a :: []) X.env = (false, eval a X.env) :: starEach [] X.env := by rfl) (hpl : (backTo pos (starEach [] X.env)).any (·.1) = false := by rfl) :
    PMk X (.Call (.Name nm p) [a] [] pos) (tMk_most C ta) := by
  intro pins s σ H Q I h
  refine wpAny_Call_Name_kw (ld_glob I hg T.gC ?_ hdb)
  refine PySem.W.callWith_K (h₀ := X.base) I.ok.mod.kin T.kC (thn (ha.run pos pins s σ H _ I h) fun us s1 hh => ?_) he hpl
  obtain ⟨vs, H1, I1, r1, v, ev, q1⟩ := hh
  subst ev
  refine ⟨I1.kIn, ?_⟩
  cases r1 with
  | cons rv rn =>
    rename_i v' us'
    cases rn
    show wpAny _ _ (call (.ref C) [v']) _ _ _
    have hlim := I1.nolimit
    obtain ⟨hp, g, dr, tk, os⟩ := s1
    refine wpAny_call (Er_most.made T I1.kIn hlim (by have := hr.dp; omega) fun h' tk' e d M => ?_)
    show MkP X pins σ Q (.ref e) ⟨h', g, dr, tk', os⟩
    obtain ⟨oe, fv, hoe, hc, hd, hdat, h1⟩ := M.obj
    have hns := M.ns
    obtain ⟨G', g1, g2⟩ := restrict h' fun b => decide (b ≠ e)
    have gk : ∀ b, b ≠ e → G'.get? b = h'.get? b := fun b hb => g1 b (decide_eq_true hb)
    have ge : G'.get? e = none := g2 e (by simp)
    have old : ∀ b o, hp.get? b = some o → G'.get? b = some o := fun b o q => (gk b (Nat.ne_of_lt (Nat.lt_of_lt_of_le (Heap.lt_size q) M.new))).trans (M.keep b o q)
    have ob : ObjOk X.prog X.w (upd H1 d (.xd [(("most" : Str), v)])) G' d (.xd [(("most" : Str), v)]) :=
      ⟨_, hns.at (fun o q => (gk d M.dne).trans q), fun f => relO_most rv f⟩
    have J : L2.Inv X pins σ (upd H1 d (.xd [(("most" : Str), v)])) ⟨G', g, dr, tk', os⟩ := I1.laid (t' := tk') old M.dbig ob
    refine ⟨e, oe, fv, ⟨G', g, dr, tk', os⟩, _, .ref C, some d, rfl, J, fun b o q => ?_, ge, hoe, ⟨hc, hd⟩, hdat, h1, ?_, rfl, I1.bare, raises_own T.ex.hs T.tyC, q1 d (I1.hok.fresh M.dbig)⟩
    · by_cases hb : b = e
      · have q' : G'.get? b = some o := q
        rw [hb, ge] at q'
        cases q'
      · exact (gk b hb).symm.trans q
    · rw [upd_ne (Ne.symm M.dne)]
      exact I1.hok.fresh M.new
theorem ps_raiseE_most {a : Expr} {ta : TA} {W : WX} {p pos pos2 : Pos} {k : Nat} (hc : X.calm = true) (T : Er_most.Tx X.K X.mg nm ql C fI B newId initId bmB) (hr : Room k X.A) (tk : Takes X W) (ha : PA X [a] ta) (hg : Gl X nm := by rfl) (hdb : (nm == ("__debug__" : Str)) = false := by decide)
    (he : starEach (a :: []) X.env = (false, eval a X.env) :: starEach [] X.env := by rfl) (hpl : (backTo pos (starEach [] X.env)).any (·.1) = false := by rfl) :
    PS X (.Raise (some (.Call (.Name nm p) [a] [] pos)) none pos2) (tRaise_most C W ta) := ps_raise hc tk (pmkE_most T hr ha hg hdb he hpl)
/-- nm(e) as a value -/
def tVal_most (C : Addr) (ta : TA) : TE := fun σ H Q => ta σ H fun vs H1 => ∃ v, vs = [v] ∧ ∀ e d, H1 e = none → H1 d = none → d ≠ e → Q (.ref e) (upd (upd H1 d (.xd [(("most" : Str), v)])) e (ExH (.ref C) (some d) e))
theorem pe_val_most {a : Expr} {ta : TA} {p pos : Pos} {k : Nat} (T : Er_most.Tx X.K X.mg nm ql C fI B newId initId bmB) (hr : Room k X.A) (ha : PA X [a] ta) (hg : Gl X nm := by rfl) (hdb : (nm == ("__debug__" : Str)) = false := by decide)
    (he : starEach (a :: []) X.env = (false, eval a X.env) :: starEach [] X.env := by rfl) (hpl : (backTo pos (starEach [] X.env)).any (·.1) = false := by rfl) :
    PE X (.Call (.Name nm p) [a] [] pos) (tVal_most C ta) := by
  constructor
  intro pins s σ H Q I h
  refine wpAny_Call_Name_kw (ld_glob I hg T.gC ?_ hdb)
  refine PySem.W.callWith_K (h₀ := X.base) I.ok.mod.kin T.kC (thn (ha.run pos pins s σ H _ I h) fun us s1 hh => ?_) he hpl
  obtain ⟨vs, H1, I1, r1, v, ev, q1⟩ := hh
  subst ev
  refine ⟨I1.kIn, ?_⟩
  cases r1 with
  | cons rv rn =>
    rename_i v' us'
    cases rn
    show wpAny _ _ (call (.ref C) [v']) _ _ _
    have hlim := I1.nolimit
    obtain ⟨hp, g, dr, tk, os⟩ := s1
    refine wpAny_call (Er_most.made T I1.kIn hlim (by have := hr.dp; omega) fun h' tk' e d M => ?_)
    obtain ⟨oe, fv, hoe, hc, hd, hdat, h1⟩ := M.obj
    have hns := M.ns
    obtain ⟨G', g1, g2⟩ := restrict h' fun b => decide (b ≠ e)
    have gk : ∀ b, b ≠ e → G'.get? b = h'.get? b := fun b hb => g1 b (decide_eq_true hb)
    have ge : G'.get? e = none := g2 e (by simp)
    have old : ∀ b o, hp.get? b = some o → G'.get? b = some o := fun b o q => (gk b (Nat.ne_of_lt (Nat.lt_of_lt_of_le (Heap.lt_size q) M.new))).trans (M.keep b o q)
    have ob : ObjOk X.prog X.w (upd H1 d (.xd [(("most" : Str), v)])) G' d (.xd [(("most" : Str), v)]) :=
      ⟨_, hns.at (fun o q => (gk d M.dne).trans q), fun f => relO_most rv f⟩
    have J : L2.Inv X pins σ (upd H1 d (.xd [(("most" : Str), v)])) ⟨G', g, dr, tk', os⟩ := I1.laid (t' := tk') old M.dbig ob
    have fe : H1 e = none := I1.hok.fresh M.new
    have fd : H1 d = none := I1.hok.fresh M.dbig
    have J2 : L2.Inv X pins σ (upd (upd H1 d (.xd [(("most" : Str), v)])) e (ExH (.ref C) (some d) e)) ⟨h', g, dr, tk', os⟩ := J.laidN (h' := h') (t' := tk') (fun b u q => by
      by_cases hb : b = e
      · have q' : G'.get? b = some u := q
        rw [hb, ge] at q'
        cases q'
      · exact (gk b hb).symm.trans q) ge (by rw [upd_ne (Ne.symm M.dne)]; exact fe) (held_ok hoe ⟨hc, hd⟩ hdat)
    exact ⟨.ref e, _, J2, rfl, q1 e d fe fd M.dne⟩
end
/-! ### errors of the fields row and word, over any base -/
namespace Er_row_word
open PySem.W PySem.Calls PySem.HandSPX
def iA (p1 p2 p3 : Pos) : Arguments := { posonlyargs := [], args := [{ arg := "self", annotation := none, pos := p1 }, { arg := "row", annotation := none, pos := p2 }, { arg := "word", annotation := none, pos := p3 }], vararg := none, kwonlyargs := [], kw_defaults := [], kwarg := none, defaults := [] }
def iB (q1 q2 q3 q4 q5 q6 q7 q8 : Pos) : List Stmt := [.Assign [.Attribute (.Name "self" q1) "row" q2] (.Name "row" q3) q4, .Assign [.Attribute (.Name "self" q5) "word" q6] (.Name "word" q7) q8]
def iS : Scope := { kind := .function, names := [(PySem.Str.ofString "self", .local), (PySem.Str.ofString "row", .local), (PySem.Str.ofString "word", .local)], isGenerator := false, isCoroutine := false, more := [] }
structure Tx (K : Frag) (mg : Str → Option Value) (nm ql : Str) (C fI : Addr) (B newId initId : String) (bmB : List Value) : Prop where
  base : ExcBaseFacts B newId initId bmB
  gC : mg nm = some (.ref C)
  cls : ∃ n1 q N bs bm sn sub ab col dd k0 k1 k2 k3 k5, K.lookup C = some (excClassObj n1 q C N bs bm true sn sub ab col dd k0 k1 k2 k3 k5 newId) ∧ ErrLine B bm
  sa : findIn K (.ref C) "__setattr__" = some (some (.builtin "object.__setattr__"))
  ex : ExcC K C
  noA : findIn K (.ref C) "row" = some none
  noB : findIn K (.ref C) "word" = some none
  iC : findIn K (.ref C) "__init__" = some (some (.ref fI))
  tC : typeIn K (.ref fI) = some (.type "function")
  kC : keepIn K (.ref C) = true
  tyC : typeIn K (.ref C) = some (.type "type")
  fn : ∃ (oc : Value) (od : Option Addr) (doc pm : Value) (an : Option Addr) (cdv ct : Value) (osl : Array (Option Value)) (p1 p2 p3 q1 q2 q3 q4 q5 q6 q7 q8 : Pos),
    K.lookup fI = some ⟨oc, od, .func (fnOf "__init__" ql (iA p1 p2 p3) (iB q1 q2 q3 q4 q5 q6 q7 q8) iS .none .none doc pm an cdv ct), osl⟩ ∧ codeIn K cdv ql = true
structure Made (h h' : Heap) (e C d : Addr) (v u : Value) : Prop where
  keep : ∀ b o, h.get? b = some o → h'.get? b = some o
  new : h.objs.size ≤ e
  obj : ∃ oe vs, h'.get? e = some oe ∧ oe.cls = .ref C ∧ oe.dict = some d ∧ oe.data = .fields vs ∧ vs[1]? = some .none
  dbig : h.objs.size ≤ d
  dne : d ≠ e
  ns : h'.Ns1 d (fun y => if y = "word" then some u else if y = "row" then some v else none)
section
variable {prog : Program} {w : World} {A : Around} {E : Value → Shared → Prop} {R : Result → Shared → Prop} {s : Shared} {K : Frag} {mg : Str → Option Value} {nm ql : Str} {C fI : Addr} {B newId initId : String} {bmB : List Value}
theorem made (T : Tx K mg nm ql C fI B newId initId bmB) {v u : Value} (X : K.In s.heap) (hlim : s.heap.NoLimit) (hroom : A.depth + 1 < recursionLimit) (hq : ∀ h' tk e d, Made s.heap h' e C d v u → R (.ok (.ret (.ref e))) { s with heap := h', toks := tk }) :
    codeAny (model prog w) A (.call (.ref C) ⟨[v, u], []⟩) R s := by
  obtain ⟨n1, q, N, bs, bm, sn, sub, ab, col, dd, k0, k1, k2, k3, k5, hC, ln⟩ := T.cls
  obtain ⟨oc, od, doc, pm, an, cdv, ct, osl, p1, p2, p3, q1, q2, q3, q4, q5, q6, q7, q8, ho, hcd⟩ := T.fn
  have hcl : clsIn K C = some { name := n1, bases := bs, mro := .ref C :: bm, ns := N, qualname := q, hasDict := true, slotNames := sn, subclasses := sub, abstract := ab, collection := col, hasDel := false } := by
    unfold clsIn
    rw [hC]
  obtain ⟨hp, g, dr, tk, os⟩ := s
  have k : ∀ b o, hp.get? b = some o → ((hp.push (kdv_tup [v, u])).push (excO C hp.objs.size)).get? b = some o := fun b o e => Heap.get?_push_of_some _ (Heap.get?_push_of_some _ e)
  have hx : ((hp.push (kdv_tup [v, u])).push (excO C hp.objs.size)).get? (hp.objs.size + 1) = some (excO C hp.objs.size) := by heap_get
  refine mk_call T.base ln.mkl (X _ _ hC) (looks_findIn X T.iC) (fun self => bind_fn X self T.tC) (by rw [sizeLine_eq]; exact (by decide : 2 ≤ 16777216)) ?_
  have X1 := X.keeps k
  have lim1 : ((hp.push (kdv_tup [v, u])).push (excO C hp.objs.size)).NoLimit := hlim.keeps k
  have size1 : ((hp.push (kdv_tup [v, u])).push (excO C hp.objs.size)).objs.size = hp.objs.size + 1 + 1 := by rw [Heap.size_push, Heap.size_push]
  generalize (hp.push (kdv_tup [v, u])).push (excO C hp.objs.size) = h1 at k hx X1 lim1 size1 ⊢
  refine Att.call_fn (binds := [("self", .ref (hp.objs.size + 1)), ("row", v), ("word", u)]) X1 lim1 ho hcd hroom (BindsTo.of_eq (by first | rfl | with_unfolding_all rfl)) (by first | rfl | decide | with_unfolding_all rfl) (fun s₁ IC => ?_) rfl rfl rfl
  obtain ⟨h₁, tk₁, rfl⟩ := IC.toInCall.same
  have k1' : ∀ b o, h1.get? b = some o → h₁.get? b = some o := IC.toInCall.keep
  have hn := IC.toInCall.ns
  show wpAny _ _ (execs _ _) _ _ _
  refine wpAny_execs_cons (plainObj_wpAny_Assign_Attribute ?_)
  refine ldC (v := v) hn (by first | rfl | with_unfolding_all rfl | kernel_rfl) (ldC (v := .ref (hp.objs.size + 1)) hn (by first | rfl | with_unfolding_all rfl | kernel_rfl) ?_)
  refine set_plain (X1.keeps k1') (ox := excO C hp.objs.size) (od := none) ⟨k1' _ _ hx, rfl, rfl, trivial⟩ T.sa ?_
  refine err_first (X1.keeps k1') (k1' _ _ hx) hcl ln.own.obj ln.own.pass rfl rfl T.noA (fun h₃ tk₃ dx k₃ dn dne hx₃ hn₃ => ?_)
  show wpAny _ _ (execs _ _) _ _ _
  have z : h1.objs.size < h₁.objs.size := hn.lt
  have lt_ : ∀ {b : Addr} {o : Obj}, hp.get? b = some o → b ≠ hp.objs.size + 1 := fun {b o} e => Nat.ne_of_lt (Nat.lt_succ_of_lt (Heap.lt_size e))
  have X3 : K.In h₃ := fun a o e => k₃ a o (lt_ (X a o e)) (X1.keeps k1' a o e)
  have stay : ∀ {L : Addr} {m : Str → Option Value}, h₁.Ns L m → h₃.Ns L m := fun {L m} ns => by
    obtain ⟨o, es, n, e, dd, r⟩ := ns
    refine ⟨o, es, n, k₃ _ _ (fun z => ?_) e, dd, r⟩
    rw [z, k1' _ _ hx] at e
    cases e
    cases dd
  have hn3 := stay hn
  have hw : Within (fun y => if y = ("row" : Str) then some v else none) ["row"] := fun y hy => by
    by_cases e : y = "row"
    · rw [e]
      exact List.mem_cons_self
    · exact absurd (if_neg e) hy
  obtain ⟨oD, eD, pD, gD, _, _⟩ := hn₃.count hw
  refine wpAny_execs_cons (plainObj_wpAny_Assign_Attribute ?_)
  refine ldC (v := u) hn3 (by first | rfl | with_unfolding_all rfl | kernel_rfl) (ldC (v := .ref (hp.objs.size + 1)) hn3 (by first | rfl | with_unfolding_all rfl | kernel_rfl) ?_)
  refine set_plain X3 (ox := { cls := .ref C, dict := some dx, data := .fields #[.ref hp.objs.size, .none, .none, .none, .bool false, .none] }) (od := some oD) ⟨hx₃, rfl, rfl, gD⟩ T.sa ?_
  refine err_next X3 hx₃ hn₃ hw (by decide) hcl ln.own.obj ln.own.pass rfl rfl T.noB (fun h₄ tk₄ k₄ hn₄ => ?_)
  show wpAny _ _ (execs _ _) _ _ _
  have dn' : h₁.objs.size ≤ dx := dn
  have dn2 : hp.objs.size ≤ dx := by
    show hp.objs.size ≤ dx
    omega
  refine wpAny_execs_nil ⟨rfl, hq h₄ tk₄ (hp.objs.size + 1) dx ⟨fun b o e => k₄ b o (Nat.ne_of_lt (Nat.lt_of_lt_of_le (Heap.lt_size e) dn2)) (k₃ b o (lt_ e) (k1' b o (k b o e))), Nat.le_succ _, ⟨_, _, k₄ _ _ (Ne.symm dne) hx₃, rfl, rfl, rfl, rfl⟩, dn2, dne, hn₄⟩⟩
end
end Er_row_word
section
variable {X : Cx} {nm ql : Str} {C fI : Addr} {B newId initId : String} {bmB : List Value}
theorem relO_row_word {v u : V} {v' u' : Value} (r : RelV v v') (r2 : RelV u u') (f : Str) : RelO (List.lookup f [(("word" : Str), u), (("row" : Str), v)]) (if f = "word" then some u' else if f = "row" then some v' else none) := by
  by_cases h1 : f = "word"
  · subst h1
    rw [if_pos rfl]
    have q : List.lookup ("word" : Str) [(("word" : Str), u), (("row" : Str), v)] = some u := by simp [List.lookup]
    rw [q]
    exact r2
  · rw [if_neg h1]
    have q1 : (f == ("word" : Str)) = false := by simpa using h1
    by_cases h2 : f = "row"
    · subst h2
      rw [if_pos rfl]
      have q : List.lookup ("row" : Str) [(("word" : Str), u), (("row" : Str), v)] = some v := by simp [List.lookup, q1]
      rw [q]
      exact r
    · rw [if_neg h2]
      have q2 : (f == ("row" : Str)) = false := by simpa using h2
      have q : List.lookup f [(("word" : Str), u), (("row" : Str), v)] = none := by simp [List.lookup, q1, q2]
      rw [q]
      trivial
/-- nm(e, f) as a value -/
def tVal_row_word (C : Addr) (ta : TA) : TE := fun σ H Q => ta σ H fun vs H1 => ∃ v u, vs = [v, u] ∧ ∀ e d, H1 e = none → H1 d = none → d ≠ e → Q (.ref e) (upd (upd H1 d (.xd [(("word" : Str), u), (("row" : Str), v)])) e (ExH (.ref C) (some d) e))
theorem pe_val_row_word {a b : Expr} {ta : TA} {p pos : Pos} {k : Nat} (T : Er_row_word.Tx X.K X.mg nm ql C fI B newId initId bmB) (hr : Room k X.A) (ha : PA X [a, b] ta) (hg : Gl X nm := by rfl) (hdb : (nm == ("__debug__" : Str)) = false := by decide)
    (he : starEach (a :: [b]) X.env = (false, eval a X.env) :: starEach [b] X.env := by rfl) (hpl : (backTo pos (starEach [b] X.env)).any (·.1) = false := by rfl) :
    PE X (.Call (.Name nm p) [a, b] [] pos) (tVal_row_word C ta) := by
  constructor
  intro pins s σ H Q I h
  refine wpAny_Call_Name_kw (ld_glob I hg T.gC ?_ hdb)
  refine PySem.W.callWith_K (h₀ := X.base) I.ok.mod.kin T.kC (thn (ha.run pos pins s σ H _ I h) fun us s1 hh => ?_) he hpl
  obtain ⟨vs, H1, I1, r1, v, u, ev, q1⟩ := hh
  subst ev
  refine ⟨I1.kIn, ?_⟩
  obtain ⟨v', u', rfl, rv, ru⟩ := vals2 r1
  show wpAny _ _ (call (.ref C) [v', u']) _ _ _
  have hlim := I1.nolimit
  obtain ⟨hp, g, dr, tk, os⟩ := s1
  refine wpAny_call (Er_row_word.made T I1.kIn hlim (by have := hr.dp; omega) fun h' tk' e d M => ?_)
  obtain ⟨oe, fv, hoe, hc, hd, hdat, h1⟩ := M.obj
  have hns := M.ns
  obtain ⟨G', g1, g2⟩ := restrict h' fun b => decide (b ≠ e)
  have gk : ∀ b, b ≠ e → G'.get? b = h'.get? b := fun b hb => g1 b (decide_eq_true hb)
  have ge : G'.get? e = none := g2 e (by simp)
  have old : ∀ b o, hp.get? b = some o → G'.get? b = some o := fun b o q => (gk b (Nat.ne_of_lt (Nat.lt_of_lt_of_le (Heap.lt_size q) M.new))).trans (M.keep b o q)
  have ob : ObjOk X.prog X.w (upd H1 d (.xd [(("word" : Str), u), (("row" : Str), v)])) G' d (.xd [(("word" : Str), u), (("row" : Str), v)]) :=
    ⟨_, hns.at (fun o q => (gk d M.dne).trans q), fun f => relO_row_word rv ru f⟩
  have J : L2.Inv X pins σ (upd H1 d (.xd [(("word" : Str), u), (("row" : Str), v)])) ⟨G', g, dr, tk', os⟩ := I1.laid (t' := tk') old M.dbig ob
  have fe : H1 e = none := I1.hok.fresh M.new
  have fd : H1 d = none := I1.hok.fresh M.dbig
  have J2 : L2.Inv X pins σ (upd (upd H1 d (.xd [(("word" : Str), u), (("row" : Str), v)])) e (ExH (.ref C) (some d) e)) ⟨h', g, dr, tk', os⟩ := J.laidN (h' := h') (t' := tk') (fun b u q => by
    by_cases hb : b = e
    · have q' : G'.get? b = some u := q
      rw [hb, ge] at q'
      cases q'
    · exact (gk b hb).symm.trans q) ge (by rw [upd_ne (Ne.symm M.dne)]; exact fe) (held_ok hoe ⟨hc, hd⟩ hdat)
  exact ⟨.ref e, _, J2, rfl, q1 e d fe fd M.dne⟩
end
/-! ### errors of the fields lot and sums, over any base -/
namespace Er_lot_sums
open PySem.W PySem.Calls PySem.HandSPX
def iA (p1 p2 p3 : Pos) : Arguments := { posonlyargs := [], args := [{ arg := "self", annotation := none, pos := p1 }, { arg := "lot", annotation := none, pos := p2 }, { arg := "sums", annotation := none, pos := p3 }], vararg := none, kwonlyargs := [], kw_defaults := [], kwarg := none, defaults := [] }
def iB (q1 q2 q3 q4 q5 q6 q7 q8 : Pos) : List Stmt := [.Assign [.Attribute (.Name "self" q1) "lot" q2] (.Name "lot" q3) q4, .Assign [.Attribute (.Name "self" q5) "sums" q6] (.Name "sums" q7) q8]
def iS : Scope := { kind := .function, names := [(PySem.Str.ofString "self", .local), (PySem.Str.ofString "lot", .local), (PySem.Str.ofString "sums", .local)], isGenerator := false, isCoroutine := false, more := [] }
structure Tx (K : Frag) (mg : Str → Option Value) (nm ql : Str) (C fI : Addr) (B newId initId : String) (bmB : List Value) : Prop where
  base : ExcBaseFacts B newId initId bmB
  gC : mg nm = some (.ref C)
  cls : ∃ n1 q N bs bm sn sub ab col dd k0 k1 k2 k3 k5, K.lookup C = some (excClassObj n1 q C N bs bm true sn sub ab col dd k0 k1 k2 k3 k5 newId) ∧ ErrLine B bm
  sa : findIn K (.ref C) "__setattr__" = some (some (.builtin "object.__setattr__"))
  ex : ExcC K C
  noA : findIn K (.ref C) "lot" = some none
  noB : findIn K (.ref C) "sums" = some none
  iC : findIn K (.ref C) "__init__" = some (some (.ref fI))
  tC : typeIn K (.ref fI) = some (.type "function")
  kC : keepIn K (.ref C) = true
  tyC : typeIn K (.ref C) = some (.type "type")
  fn : ∃ (oc : Value) (od : Option Addr) (doc pm : Value) (an : Option Addr) (cdv ct : Value) (osl : Array (Option Value)) (p1 p2 p3 q1 q2 q3 q4 q5 q6 q7 q8 : Pos),
    K.lookup fI = some ⟨oc, od, .func (fnOf "__init__" ql (iA p1 p2 p3) (iB q1 q2 q3 q4 q5 q6 q7 q8) iS .none .none doc pm an cdv ct), osl⟩ ∧ codeIn K cdv ql = true
structure Made (h h' : Heap) (e C d : Addr) (v u : Value) : Prop where
  keep : ∀ b o, h.get? b = some o → h'.get? b = some o
  new : h.objs.size ≤ e
  obj : ∃ oe vs, h'.get? e = some oe ∧ oe.cls = .ref C ∧ oe.dict = some d ∧ oe.data = .fields vs ∧ vs[1]? = some .none
  dbig : h.objs.size ≤ d
  dne : d ≠ e
  ns : h'.Ns1 d (fun y => if y = "sums" then some u else if y = "lot" then some v else none)
section
variable {prog : Program} {w : World} {A : Around} {E : Value → Shared → Prop} {R : Result → Shared → Prop} {s : Shared} {K : Frag} {mg : Str → Option Value} {nm ql : Str} {C fI : Addr} {B newId initId : String} {bmB : List Value}
theorem made (T : Tx K mg nm ql C fI B newId initId bmB) {v u : Value} (X : K.In s.heap) (hlim : s.heap.NoLimit) (hroom : A.depth + 1 < recursionLimit) (hq : ∀ h' tk e d, Made s.heap h' e C d v u → R (.ok (.ret (.ref e))) { s with heap := h', toks := tk }) :
    codeAny (model prog w) A (.call (.ref C) ⟨[v, u], []⟩) R s := by
  obtain ⟨n1, q, N, bs, bm, sn, sub, ab, col, dd, k0, k1, k2, k3, k5, hC, ln⟩ := T.cls
  obtain ⟨oc, od, doc, pm, an, cdv, ct, osl, p1, p2, p3, q1, q2, q3, q4, q5, q6, q7, q8, ho, hcd⟩ := T.fn
  have hcl : clsIn K C = some { name := n1, bases := bs, mro := .ref C :: bm, ns := N, qualname := q, hasDict := true, slotNames := sn, subclasses := sub, abstract := ab, collection := col, hasDel := false } := by
    unfold clsIn
    rw [hC]
  obtain ⟨hp, g, dr, tk, os⟩ := s
  have k : ∀ b o, hp.get? b = some o → ((hp.push (kdv_tup [v, u])).push (excO C hp.objs.size)).get? b = some o := fun b o e => Heap.get?_push_of_some _ (Heap.get?_push_of_some _ e)
  have hx : ((hp.push (kdv_tup [v, u])).push (excO C hp.objs.size)).get? (hp.objs.size + 1) = some (excO C hp.objs.size) := by heap_get
  refine mk_call T.base ln.mkl (X _ _ hC) (looks_findIn X T.iC) (fun self => bind_fn X self T.tC) (by rw [sizeLine_eq]; exact (by decide : 2 ≤ 16777216)) ?_
  have X1 := X.keeps k
  have lim1 : ((hp.push (kdv_tup [v, u])).push (excO C hp.objs.size)).NoLimit := hlim.keeps k
  have size1 : ((hp.push (kdv_tup [v, u])).push (excO C hp.objs.size)).objs.size = hp.objs.size + 1 + 1 := by rw [Heap.size_push, Heap.size_push]
  generalize (hp.push (kdv_tup [v, u])).push (excO C hp.objs.size) = h1 at k hx X1 lim1 size1 ⊢
  refine Att.call_fn (binds := [("self", .ref (hp.objs.size + 1)), ("lot", v), ("sums", u)]) X1 lim1 ho hcd hroom (BindsTo.of_eq (by first | rfl | with_unfolding_all rfl)) (by first | rfl | decide | with_unfolding_all rfl) (fun s₁ IC => ?_) rfl rfl rfl
  obtain ⟨h₁, tk₁, rfl⟩ := IC.toInCall.same
  have k1' : ∀ b o, h1.get? b = some o → h₁.get? b = some o := IC.toInCall.keep
  have hn := IC.toInCall.ns
  show wpAny _ _ (execs _ _) _ _ _
  refine wpAny_execs_cons (plainObj_wpAny_Assign_Attribute ?_)
  refine ldC (v := v) hn (by first | rfl | with_unfolding_all rfl | kernel_rfl) (ldC (v := .ref (hp.objs.size + 1)) hn (by first | rfl | with_unfolding_all rfl | kernel_rfl) ?_)
  refine set_plain (X1.keeps k1') (ox := excO C hp.objs.size) (od := none) ⟨k1' _ _ hx, rfl, rfl, trivial⟩ T.sa ?_
  refine err_first (X1.keeps k1') (k1' _ _ hx) hcl ln.own.obj ln.own.pass rfl rfl T.noA (fun h₃ tk₃ dx k₃ dn dne hx₃ hn₃ => ?_)
  show wpAny _ _ (execs _ _) _ _ _
  have z : h1.objs.size < h₁.objs.size := hn.lt
  have lt_ : ∀ {b : Addr} {o : Obj}, hp.get? b = some o → b ≠ hp.objs.size + 1 := fun {b o} e => Nat.ne_of_lt (Nat.lt_succ_of_lt (Heap.lt_size e))
  have X3 : K.In h₃ := fun a o e => k₃ a o (lt_ (X a o e)) (X1.keeps k1' a o e)
  have stay : ∀ {L : Addr} {m : Str → Option Value}, h₁.Ns L m → h₃.Ns L m := fun {L m} ns => by
    obtain ⟨o, es, n, e, dd, r⟩ := ns
    refine ⟨o, es, n, k₃ _ _ (fun z => ?_) e, dd, r⟩
    rw [z, k1' _ _ hx] at e
    cases e
    cases dd
  have hn3 := stay hn
  have hw : Within (fun y => if y = ("lot" : Str) then some v else none) ["lot"] := fun y hy => by
    by_cases e : y = "lot"
    · rw [e]
      exact List.mem_cons_self
    · exact absurd (if_neg e) hy
  obtain ⟨oD, eD, pD, gD, _, _⟩ := hn₃.count hw
  refine wpAny_execs_cons (plainObj_wpAny_Assign_Attribute ?_)
  refine ldC (v := u) hn3 (by first | rfl | with_unfolding_all rfl | kernel_rfl) (ldC (v := .ref (hp.objs.size + 1)) hn3 (by first | rfl | with_unfolding_all rfl | kernel_rfl) ?_)
  refine set_plain X3 (ox := { cls := .ref C, dict := some dx, data := .fields #[.ref hp.objs.size, .none, .none, .none, .bool false, .none] }) (od := some oD) ⟨hx₃, rfl, rfl, gD⟩ T.sa ?_
  refine err_next X3 hx₃ hn₃ hw (by decide) hcl ln.own.obj ln.own.pass rfl rfl T.noB (fun h₄ tk₄ k₄ hn₄ => ?_)
  show wpAny _ _ (execs _ _) _ _ _
  have dn' : h₁.objs.size ≤ dx := dn
  have dn2 : hp.objs.size ≤ dx := by
    show hp.objs.size ≤ dx
    omega
  refine wpAny_execs_nil ⟨rfl, hq h₄ tk₄ (hp.objs.size + 1) dx ⟨fun b o e => k₄ b o (Nat.ne_of_lt (Nat.lt_of_lt_of_le (Heap.lt_size e) dn2)) (k₃ b o (lt_ e) (k1' b o (k b o e))), Nat.le_succ _, ⟨_, _, k₄ _ _ (Ne.symm dne) hx₃, rfl, rfl, rfl, rfl⟩, dn2, dne, hn₄⟩⟩
end
end Er_lot_sums
section
variable {X : Cx} {nm ql : Str} {C fI : Addr} {B newId initId : String} {bmB : List Value}
theorem relO_lot_sums {v u : V} {v' u' : Value} (r : RelV v v') (r2 : RelV u u') (f : Str) : RelO (List.lookup f [(("sums" : Str), u), (("lot" : Str), v)]) (if f = "sums" then some u' else if f = "lot" then some v' else none) := by
  by_cases h1 : f = "sums"
  · subst h1
    rw [if_pos rfl]
    have q : List.lookup ("sums" : Str) [(("sums" : Str), u), (("lot" : Str), v)] = some u := by simp [List.lookup]
    rw [q]
    exact r2
  · rw [if_neg h1]
    have q1 : (f == ("sums" : Str)) = false := by simpa using h1
    by_cases h2 : f = "lot"
    · subst h2
      rw [if_pos rfl]
      have q : List.lookup ("lot" : Str) [(("sums" : Str), u), (("lot" : Str), v)] = some v := by simp [List.lookup, q1]
      rw [q]
      exact r
    · rw [if_neg h2]
      have q2 : (f == ("lot" : Str)) = false := by simpa using h2
      have q : List.lookup f [(("sums" : Str), u), (("lot" : Str), v)] = none := by simp [List.lookup, q1, q2]
      rw [q]
      trivial
/-- nm(e, f) as a value -/
def tVal_lot_sums (C : Addr) (ta : TA) : TE := fun σ H Q => ta σ H fun vs H1 => ∃ v u, vs = [v, u] ∧ ∀ e d, H1 e = none → H1 d = none → d ≠ e → Q (.ref e) (upd (upd H1 d (.xd [(("sums" : Str), u), (("lot" : Str), v)])) e (ExH (.ref C) (some d) e))
theorem pe_val_lot_sums {a b : Expr} {ta : TA} {p pos : Pos} {k : Nat} (T : Er_lot_sums.Tx X.K X.mg nm ql C fI B newId initId bmB) (hr : Room k X.A) (ha : PA X [a, b] ta) (hg : Gl X nm := by rfl) (hdb : (nm == ("__debug__" : Str)) = false := by decide)
    (he : starEach (a :: [b]) X.env = (false, eval a X.env) :: starEach [b] X.env := by rfl) (hpl : (backTo pos (starEach [b] X.env)).any (·.1) = false := by rfl) :
    PE X (.Call (.Name nm p) [a, b] [] pos) (tVal_lot_sums C ta) := by
  constructor
  intro pins s σ H Q I h
  refine wpAny_Call_Name_kw (ld_glob I hg T.gC ?_ hdb)
  refine PySem.W.callWith_K (h₀ := X.base) I.ok.mod.kin T.kC (thn (ha.run pos pins s σ H _ I h) fun us s1 hh => ?_) he hpl
  obtain ⟨vs, H1, I1, r1, v, u, ev, q1⟩ := hh
  subst ev
  refine ⟨I1.kIn, ?_⟩
  obtain ⟨v', u', rfl, rv, ru⟩ := vals2 r1
  show wpAny _ _ (call (.ref C) [v', u']) _ _ _
  have hlim := I1.nolimit
  obtain ⟨hp, g, dr, tk, os⟩ := s1
  refine wpAny_call (Er_lot_sums.made T I1.kIn hlim (by have := hr.dp; omega) fun h' tk' e d M => ?_)
  obtain ⟨oe, fv, hoe, hc, hd, hdat, h1⟩ := M.obj
  have hns := M.ns
  obtain ⟨G', g1, g2⟩ := restrict h' fun b => decide (b ≠ e)
  have gk : ∀ b, b ≠ e → G'.get? b = h'.get? b := fun b hb => g1 b (decide_eq_true hb)
  have ge : G'.get? e = none := g2 e (by simp)
  have old : ∀ b o, hp.get? b = some o → G'.get? b = some o := fun b o q => (gk b (Nat.ne_of_lt (Nat.lt_of_lt_of_le (Heap.lt_size q) M.new))).trans (M.keep b o q)
  have ob : ObjOk X.prog X.w (upd H1 d (.xd [(("sums" : Str), u), (("lot" : Str), v)])) G' d (.xd [(("sums" : Str), u), (("lot" : Str), v)]) :=
    ⟨_, hns.at (fun o q => (gk d M.dne).trans q), fun f => relO_lot_sums rv ru f⟩
  have J : L2.Inv X pins σ (upd H1 d (.xd [(("sums" : Str), u), (("lot" : Str), v)])) ⟨G', g, dr, tk', os⟩ := I1.laid (t' := tk') old M.dbig ob
  have fe : H1 e = none := I1.hok.fresh M.new
  have fd : H1 d = none := I1.hok.fresh M.dbig
  have J2 : L2.Inv X pins σ (upd (upd H1 d (.xd [(("sums" : Str), u), (("lot" : Str), v)])) e (ExH (.ref C) (some d) e)) ⟨h', g, dr, tk', os⟩ := J.laidN (h' := h') (t' := tk') (fun b u q => by
    by_cases hb : b = e
    · have q' : G'.get? b = some u := q
      rw [hb, ge] at q'
      cases q'
    · exact (gk b hb).symm.trans q) ge (by rw [upd_ne (Ne.symm M.dne)]; exact fe) (held_ok hoe ⟨hc, hd⟩ hdat)
  exact ⟨.ref e, _, J2, rfl, q1 e d fe fd M.dne⟩
end
end Pk
namespace Pk
open PySem PySem.Spec L2
/-! ### data as texts: str(x), repr(x), {x!s}, {x!r} -/
def dStr : PyData → Str
  | .str z => z
  | d => d.shown
/-- data that can be told -/
structure Told (K : PySem.W.Frag) (H : Hp) (x : V) (d : PyData) : Prop where
  dp : Dp K H x d
  nd : d.hasDict = false
  sh : d.showable = true
  de : d.depth ≤ 60
  sz : d.shown.length ≤ 100000
  st : (dStr d).length ≤ 100000
section
variable {X : Cx} {e : Expr} {te : TE} {pos : Pos}
theorem le_line {n : Nat} (h : n ≤ 100000) : n ≤ sizeLine := by
  rw [sizeLine_eq]
  omega
theorem fmt_fin {pins : List (Addr × Obj)} {σ : L2.St} {H : Hp} {s : Shared} {Q : VK} {z : Str} (I : L2.Inv X pins σ H s) (hz : z.length ≤ sizeLine) (q : Q (.str z) H) (t : Tok) : wpAny (model X.prog X.w) X.A (formatField (.str z t) Str.empty) (EP X pins σ Q) X.xe s :=
  wpAny_formatField_str ⟨.str z, H, I, ⟨_, rfl⟩, q⟩ ⟨.str z, H, I.tok _, ⟨_, rfl⟩, q⟩ hz
def tTellS (K : PySem.W.Frag) (te : TE) : TE := fun σ H Q => te σ H fun x H1 => ∃ d, Told K H1 x d ∧ Q (.str (dStr d)) H1
def tTellR (K : PySem.W.Frag) (te : TE) : TE := fun σ H Q => te σ H fun x H1 => ∃ d, Told K H1 x d ∧ Q (.str d.shown) H1
/-- {x!s} -/
theorem pe_fmtSD (calm : Calm X.A) (hu : X.A.units + 70 < cLine) (he : PE X e te) : PE X (.FormattedValue e 115 none pos) (tTellS X.K te) := by
  constructor
  intro pins s σ H Q I h
  refine wpAny_FormattedValue_s (thn (he.run pins s σ H _ I h) ?_)
  rintro v s1 ⟨x, H1, I1, r1, d, T, q⟩
  have hz := le_line T.st
  obtain ⟨as, rd⟩ := Dp.reads I1 d x v T.dp r1
  have big : ∀ {a : Addr}, v = .ref a → dStr d = d.shown → wpAny (model X.prog X.w) X.A (convS v) (fun r s₂ => wpAny (model X.prog X.w) X.A (formatField r Str.empty) (EP X pins σ Q) X.xe s₂) X.xe s1 := fun {a} e e2 => by
    subst e
    refine convS_of_reads rd T.sh (fun z => by rw [T.nd] at z; cases z) calm (by have := T.de; omega) (fun _ _ z => z) (fun h' u tk keep => ?_) (le_line T.sz)
    refine fmt_fin (H := H1) (I1.kept keep) (le_line T.sz) ?_ u
    rw [← e2]
    exact q
  cases hd : T.dp with
  | non =>
    cases r1
    exact pyStrObj_none (fmt_fin (I1.tok _) hz q _)
  | bl b =>
    cases r1
    exact pyStrObj_bool (fmt_fin (I1.tok _) hz q _)
  | int i =>
    obtain ⟨t, rfl⟩ := r1
    exact pyStrObj_int (of_decide_eq_true T.sh) (fmt_fin (I1.tok _) hz q _)
  | str y =>
    obtain ⟨t, rfl⟩ := r1
    exact wpAny_habitSame_str (fmt_fin I1 hz q _) (fmt_fin (I1.tok _) hz q _)
  | lst h1 h2 =>
    cases r1
    exact big rfl rfl
  | tup h1 h2 =>
    cases r1
    exact big rfl rfl
/-- {x!r} -/
theorem pe_fmtRD (calm : Calm X.A) (hu : X.A.units + 70 < cLine) (he : PE X e te) : PE X (.FormattedValue e 114 none pos) (tTellR X.K te) := by
  constructor
  intro pins s σ H Q I h
  refine wpAny_FormattedValue_repr (thn (he.run pins s σ H _ I h) ?_)
  rintro v s1 ⟨x, H1, I1, r1, d, T, q⟩
  have hz := le_line T.sz
  obtain ⟨as, rd⟩ := Dp.reads I1 d x v T.dp r1
  have big : ∀ {a : Addr}, v = .ref a → wpAny (model X.prog X.w) X.A (pyReprObj v) (fun r s₂ => wpAny (model X.prog X.w) X.A (formatField r Str.empty) (EP X pins σ Q) X.xe s₂) X.xe s1 := fun {a} e => by
    subst e
    exact pyReprObj_of_reads rd T.sh (fun z => by rw [T.nd] at z; cases z) calm (by have := T.de; omega) (fun _ _ z => z) (fun h' u tk keep => fmt_fin (H := H1) (I1.kept keep) hz q u) hz
  cases hd : T.dp with
  | non =>
    cases r1
    exact wpAny_pyReprObj_gives (typeIs_none _) F.slot_NoneType_repr F.entry_NoneType_repr (F.args_NoneType_repr_1 _) gives_none_repr (fmt_fin (I1.tok _) hz q _)
  | bl b =>
    cases r1
    exact wpAny_pyReprObj_gives (typeIs_bool _ b) F.slot_bool_repr F.entry_bool_repr (F.args_bool_repr_1 _) (gives_bool_repr b) (fmt_fin (I1.tok _) hz q _)
  | int i =>
    obtain ⟨t, rfl⟩ := r1
    exact pyReprObj_int (of_decide_eq_true T.sh) (fmt_fin (I1.tok _) hz q _)
  | str y =>
    obtain ⟨t, rfl⟩ := r1
    exact wpAny_pyReprObj_str (fmt_fin (I1.tok _) hz q _) hz
  | lst h1 h2 =>
    cases r1
    exact big rfl
  | tup h1 h2 =>
    cases r1
    exact big rfl
/-- str(x) -/
def rStrD (K : PySem.W.Frag) : List V → Hp → VK → Prop := fun xs H Q => ∃ x d, xs = [x] ∧ Told K H x d ∧ Q (.str (dStr d)) H
theorem call_strD (calm : Calm X.A) (hu : X.A.units + 70 < cLine) : CallR X (.type "str") (rStrD X.K) := by
  rintro pins s σ H xs us Q I r ⟨x, d, rfl, T, q⟩
  obtain ⟨u, rfl, rx⟩ := vals1 r
  obtain ⟨as, rd⟩ := Dp.reads I d x u T.dp rx
  have big : ∀ {a : Addr}, u = .ref a → dStr d = d.shown → wpAny (model X.prog X.w) X.A (call (.type "str") [u]) (EP X pins σ Q) X.xe s := fun {a} e e2 => by
    subst e
    refine str_of_reads rd T.sh (fun z => by rw [T.nd] at z; cases z) calm (by have := T.de; omega) (fun _ _ z => z) (fun h' u tk keep => ⟨.str d.shown, H, I.kept keep, ⟨_, rfl⟩, ?_⟩) (le_line T.sz)
    rw [← e2]
    exact q
  cases hd : T.dp with
  | non =>
    cases rx
    exact P.str_of_none ⟨.str "None", H, I.tok _, ⟨_, rfl⟩, q⟩
  | bl b =>
    cases rx
    exact P.str_of_bool ⟨.str (if b then "True" else "False"), H, I.tok _, ⟨_, rfl⟩, q⟩
  | int i =>
    obtain ⟨t, rfl⟩ := rx
    exact P.str_of_int (of_decide_eq_true T.sh) ⟨.str (toString i), H, I.tok _, ⟨_, rfl⟩, q⟩
  | str y =>
    obtain ⟨t, rfl⟩ := rx
    exact P.str_of_str ⟨.str y, H, I, ⟨_, rfl⟩, q⟩
  | lst h1 h2 =>
    cases rx
    exact big rfl rfl
  | tup h1 h2 =>
    cases rx
    exact big rfl rfl
/-- an error without a field of its own, as a value -/
theorem pe_plainErr {C : Addr} {bmB : List Value} {B newId initId : String} {x : Str} {e : Expr} {ta : TE} {p pos : Pos} (F : ExcBaseFacts B newId initId bmB) (q : PySem.W.excIn X.K C bmB newId = true) (gC : X.mg x = some (.ref C)) (kC : PySem.W.keepIn X.K (.ref C) = true) (hg : Gl X x)
    (he : PE X e ta) (hs : starEach [e] X.env = (false, eval e X.env) :: starEach [] X.env := by rfl) (hdb : (x == ("__debug__" : Str)) = false := by decide) :
    PE X (.Call (.Name x p) [e] [] pos) (fun σ H Q => ta σ H fun _ H1 => ∀ a, H1 a = none → Q (.ref a) (upd H1 a (ExH (.ref C) none a))) := by
  constructor
  intro pins s σ H Q I h
  refine wpAny_Call_Name_kw (ld_glob I hg gC (PySem.W.callWith_K (h₀ := X.base) I.ok.mod.kin kC ?_ hs (by rfl)) hdb)
  rw [hs]
  show wpAny _ _ (spliced ((false, eval e X.env) :: backTo pos (starEach [] X.env))) _ _ s
  refine Calls.spliced_cons (thn (he.run pins s σ H _ I h) ?_)
  rintro u s1 ⟨v, H1, I1, r1, q1⟩
  refine Calls.spliced_nil ⟨I1.kIn, ?_⟩
  show wpAny _ _ (call (.ref C) [u]) _ _ _
  obtain ⟨bm, N, nm, qn, bs, hdct, sn, sub, ab, col, dd, k0, k1, k2, k3, k5, mN, hC, hN, hni, T⟩ := exc_obj I1.kIn q
  refine wpAny_call_exc_subT F T hC hN hni (fun h' a hm => ?_) (by rw [sizeLine_eq]; show 1 ≤ 16777216; decide)
  have hn : H1 a = none := I1.hok.gone hm.new
  obtain ⟨t, ht, _, _⟩ := hm.there
  exact ⟨.ref a, _, I1.laidN hm.keeps hm.new hn (held_ok ht ⟨rfl, rfl⟩ rfl), rfl, q1 a hn⟩
end
section
variable {X : Cx} {k : Nat} {f C : Addr} {fd : FuncData} {sp : Sp} {e : Expr} {te : TE} {p pos : Pos}
/-- str(e), e a kept error whose class says how it is told, by a def that may show -/
theorem pe_strErrG (F : FnG X.prog X.w X.K X.mg X.base CX0 k f fd ["self"] sp) (calm : Calm X.A) (hr : Room (k + 2) X.A) (hs : PySem.W.findIn X.K (.ref C) "__str__" = some (some (.ref f))) (hf : PySem.W.isFn X.K (.ref f) = true) (hb : Binds X.K fd ["self"] []) (hg : Gl X "str") (hm : X.mg "str" = none) (he : PE X e te)
    (na : starEach [e] X.env = (false, eval e X.env) :: starEach [] X.env := by rfl) : PE X (.Call (.Name "str" p) [e] [] pos) (tStrErr C sp te) := by
  constructor
  intro pins s σ H Q I h
  refine PyProof.Rows.Call_ (ld_blt I hg hm PyProof.Rows.boot_str ?_)
  refine PyProof.Rows.callWith_type1 (PyProof.Rows.args_cons (thn (he.run pins s σ H _ I h) ?_) na) na rfl
  rintro v s1 ⟨x, H1, I1, r1, a, d, rfl, ha, hd, q⟩
  cases (show v = Value.ref a from r1)
  obtain ⟨oe, od, J, -⟩ := held_at I1 ha hd
  refine PyProof.Rows.args_nil (PySem.W.kso_call (by have := hr.un; show X.A.in1.in1.units < cLine; have e1 := (hr.in1.in1).un; omega) I1.kIn J hs hf ?_)
  refine wpAny_call (codeAny_mono (F.go X.A.in1.in1 (show Calm X.A.in1.in1 from calm) hr.in1.in1 X.stack s1 H1 ⟨[.ref a], []⟩ [.ref a] [.ref a] _ E0 I1.env0.in1.in1 (hb s1 [.ref a] I1.kIn rfl) (.cons rfl .nil) q) fun r s' hq => ?_)
  match r, hq with
  | .error e, hq => exact hq.elim
  | .ok .next, hq => exact hq.elim
  | .ok .brk, hq => exact hq.elim
  | .ok .cont, hq => exact hq.elim
  | .ok (.ret u), hq =>
    obtain ⟨v, H2, I2, rv, ⟨z, rfl⟩, q2⟩ := I1.after hq
    obtain ⟨t, rfl⟩ := rv
    exact ⟨.str z, H2, I2, ⟨t, rfl⟩, q2⟩
end
end Pk
namespace Pk
open PySem L2
theorem ShowsL.intW {K : PySem.W.Frag} {H : Hp} {L : List V} {ds : List PyData} {n k : Nat} {i : Int} (hl : i.natAbs.log2 < 1920) (h : ShowsL K H L ds n k) : ShowsL K H (.int i :: L) (.int i :: ds) (n + 1923) k where
  dp := .cons (.int i) h.dp
  sh := by
    have e : PyData.showable (.int i) = true := decide_eq_true hl
    simp [PyData.showableAll, e, h.sh]
  de := by
    have := h.de
    simp [PyData.depthAll, PyData.depth]
    omega
  nd := by simp [PyData.hasDictAll, PyData.hasDict, h.nd]
  sz := by
    have h1 := h.sz
    have h2 := int_text_length_le (k := 1920) (by decide) hl
    have e : (PyData.int i).shown = Str.ofString (toString i) := by simp [PyData.shown]
    have e2 : ((PyData.shownAll (.int i :: ds)).map fun t => t.length + 2).sum = ((PyData.int i).shown.length + 2) + ((PyData.shownAll ds).map fun t => t.length + 2).sum := by simp [PyData.shownAll]
    rw [e2, e, ofString_length]
    omega
theorem ShowsL.allL {K : PySem.W.Frag} {H : Hp} {L : List V} {ds : List PyData} {n k : Nat} {t : Addr} (h : ShowsL K H L ds n k) (ht : H t = some (.lst L)) (hn : n ≤ 100000) (hk : k ≤ 60) : Shows K H (.ref t) (.list ds) where
  dq := .of (.lst (SqL.of ht) h.dp) (by simp [PyData.hasDict, h.nd])
  sh := by simp [PyData.showable, h.sh]
  dp := by
    have := h.de
    simp [PyData.depth]
    omega
  sz := by
    have h1 := h.sz
    have h3 := list_le (PyData.shownAll ds)
    have e : (PyData.list ds).shown = listText (PyData.shownAll ds) := by simp [PyData.shown]
    rw [e, sizeLine_eq]
    omega
/-- numbers up to 999 as texts -/
theorem mid_ne {i : Int} (h0 : 0 ≤ i) (h9 : i ≤ 999) : Str.ofString (toString i) ≠ "" := by
  obtain ⟨n, rfl⟩ := Int.eq_ofNat_of_zero_le h0
  have h : ∀ n : Fin 1000, Str.ofString (toString ((n : Nat) : Int)) ≠ "" := by decide +kernel
  exact h ⟨n, by omega⟩
theorem told_int {K : PySem.W.Frag} {H : Hp} {i : Int} (h0 : 0 ≤ i) (h9 : i ≤ 999) : Told K H (.int i) (.int i) := by
  have hl : i.natAbs.log2 < 1920 := Nat.lt_of_le_of_lt (Nat.log2_le_self _) (by omega)
  have h2 := int_text_length_le (k := 1920) (by decide) hl
  have e : (PyData.int i).shown = Str.ofString (toString i) := by simp [PyData.shown]
  refine ⟨.int i, by simp [PyData.hasDict], decide_eq_true hl, by simp [PyData.depth], ?_, ?_⟩
  · rw [e, ofString_length]
    omega
  · show (PyData.int i).shown.length ≤ 100000
    rw [e, ofString_length]
    omega
end Pk
/-! ### how lists in lists, and dicts of texts and numbers, are shown -/
namespace Pk
open PySem L2
section
variable {K : PySem.W.Frag} {H : Hp} {L : List V} {ds : List PyData} {n k : Nat}
theorem ShowsL.lst {a : Addr} {L2 : List V} {ds2 : List PyData} {n2 k2 : Nat} (ha : H a = some (.lst L2)) (g : ShowsL K H L2 ds2 n2 k2) (hk : k2 + 1 ≤ k) (h : ShowsL K H L ds n k) : ShowsL K H (.ref a :: L) (.list ds2 :: ds) (n + n2 + 5) k where
  dp := .cons (.lst (SqL.of ha) g.dp) h.dp
  sh := by simp [PyData.showableAll, PyData.showable, g.sh, h.sh]
  de := by
    have := h.de
    have := g.de
    simp [PyData.depthAll, PyData.depth]
    omega
  nd := by simp [PyData.hasDictAll, PyData.hasDict, g.nd, h.nd]
  sz := by
    have h1 := h.sz
    have h2 := g.sz
    have h3 := list_le (PyData.shownAll ds2)
    simp [PyData.shownAll, PyData.shown]
    omega
theorem ShowsL.non (h : ShowsL K H L ds n k) : ShowsL K H (.non :: L) (.none :: ds) (n + 6) k where
  dp := .cons .non h.dp
  sh := by simp [PyData.showableAll, PyData.showable, h.sh]
  de := by
    have := h.de
    simp [PyData.depthAll, PyData.depth]
    omega
  nd := by simp [PyData.hasDictAll, PyData.hasDict, h.nd]
  sz := by
    have h1 := h.sz
    have h2 : (PyData.none).shown.length = 4 := by decide +kernel
    have e2 : ((PyData.shownAll (.none :: ds)).map fun t => t.length + 2).sum = ((PyData.none).shown.length + 2) + ((PyData.shownAll ds).map fun t => t.length + 2).sum := by simp [PyData.shownAll]
    rw [e2, h2]
    omega
theorem ShowsL.allX {t : Addr} (h : ShowsL K H L ds n k) (ht : H t = some (.lst L)) (hn : n ≤ 10000000) (hk : k ≤ 60) : Shows K H (.ref t) (.list ds) where
  dq := .of (.lst (SqL.of ht) h.dp) (by simp [PyData.hasDict, h.nd])
  sh := by simp [PyData.showable, h.sh]
  dp := by
    have := h.de
    simp [PyData.depth]
    omega
  sz := by
    have h1 := h.sz
    have h3 := list_le (PyData.shownAll ds)
    have e : (PyData.list ds).shown = listText (PyData.shownAll ds) := by simp [PyData.shown]
    rw [e, sizeLine_eq]
    omega
theorem ShowsL.allT {t : Addr} (h : ShowsL K H L ds n k) (ht : H t = some (.tup L)) (hn : n ≤ 10000000) (hk : k ≤ 60) : Shows K H (.ref t) (.tuple ds) where
  dq := .of (.tup (SqT.of ht) h.dp) (by simp [PyData.hasDict, h.nd])
  sh := by simp [PyData.showable, h.sh]
  dp := by
    have := h.de
    simp [PyData.depth]
    omega
  sz := by
    have h1 := h.sz
    have h3 := tup_le (PyData.shownAll ds)
    have e : (PyData.tuple ds).shown = tupleText (PyData.shownAll ds) := by simp [PyData.shown]
    rw [e, sizeLine_eq]
    omega
theorem ShowsL.strs : ∀ {zs : List Str}, (∀ z ∈ zs, z.length ≤ 100 ∧ Sgn z) → ShowsL K H (zs.map V.str) (zs.map .str) (1004 * zs.length) k
  | [], _ => .nil
  | z :: r, h => by
    have ih := ShowsL.strs (zs := r) fun y hy => h y (List.mem_cons_of_mem _ hy)
    have e : 1004 * (z :: r).length = 1004 * r.length + 1004 := by rw [List.length_cons]; omega
    rw [e]
    exact ShowsL.str (h z List.mem_cons_self).1 (h z List.mem_cons_self).2 ih
theorem ShowsL.ints : ∀ {ns : List Int}, (∀ i ∈ ns, i.natAbs.log2 < 1920) → ShowsL K H (ns.map V.int) (ns.map .int) (1923 * ns.length) k
  | [], _ => .nil
  | z :: r, h => by
    have ih := ShowsL.ints (ns := r) fun y hy => h y (List.mem_cons_of_mem _ hy)
    have e : 1923 * (z :: r).length = 1923 * r.length + 1923 := by rw [List.length_cons]; omega
    rw [e]
    exact ShowsL.intW (h z List.mem_cons_self) ih
end
/-! ### dicts of texts and numbers -/
def tiKv (ps : List (Str × Int)) : List (Key × V) := ps.map fun p => (.inr p.1, .int p.2)
def tiD (ps : List (Str × Int)) : PyData := .dict (ps.map fun p => (.str p.1, .int p.2))
section
variable {X : Cx}
theorem ti_reads {P : Program} {w : World} {h : Heap} : ∀ {ps : List (Str × Int)} {vs : List (Key × Value)} {es : List DictEntry}, KV (tiKv ps) vs → Pairs (mixKind P w) es vs →
    ReadsAll h (es.map (·.key)) ((ps.map fun p => ((.str p.1, .int p.2) : PyData × PyData)).map (·.1)) [] ∧ ReadsAll h (es.map (·.val)) ((ps.map fun p => ((.str p.1, .int p.2) : PyData × PyData)).map (·.2)) []
  | [], vs, es, r, q => by
    cases r
    cases q
    exact ⟨.nil, .nil⟩
  | p :: ps, vs, es, r, q => by
    cases r with
    | cons h1 t =>
      cases q with
      | cons k1 k2 k3 =>
        rename_i y ys e es'
        obtain ⟨a1, a2⟩ := ti_reads t k3
        obtain ⟨h11, h12⟩ := h1
        have hk : y.1 = Sum.inr p.1 := h11.symm
        rw [hk] at k1
        rcases keyIs_shape (show keyIs (Sum.inr p.1) e.key = true from k1) with ⟨i, t, z, _⟩ | ⟨x, t, z, e1⟩
        · cases z
        · cases z
          obtain ⟨t2, h12⟩ := (show RelV (.int p.2) y.2 from h12)
          refine ⟨?_, ?_⟩
          · show ReadsAll h (e.key :: _) _ ([] ++ [])
            rw [e1]
            exact .cons (.str _ _) a1
          · show ReadsAll h (e.val :: _) _ ([] ++ [])
            rw [k2, h12]
            exact .cons (.int _ _) a2
theorem ti_show : ∀ ps : List (Str × Int), (∀ p ∈ ps, p.2.natAbs.log2 < 1920) → PyData.showableKv (ps.map fun p => ((.str p.1, .int p.2) : PyData × PyData)) = true
  | [], _ => by simp [PyData.showableKv]
  | p :: r, h => by
    have e : PyData.showable (.int p.2) = true := decide_eq_true (h p List.mem_cons_self)
    simp [PyData.showableKv, PyData.showable, ti_show r fun y hy => h y (List.mem_cons_of_mem _ hy), h p List.mem_cons_self]
theorem ti_depth : ∀ ps : List (Str × Int), PyData.depthKv (ps.map fun p => ((.str p.1, .int p.2) : PyData × PyData)) = 0
  | [] => by simp [PyData.depthKv]
  | p :: r => by simp [PyData.depthKv, PyData.depth, ti_depth r]
theorem ti_sum : ∀ ps : List (Str × Int), (∀ p ∈ ps, p.1.length ≤ 100 ∧ Sgn p.1 ∧ p.2.natAbs.log2 < 1920) → ((PyData.shownKv (ps.map fun p => ((.str p.1, .int p.2) : PyData × PyData))).map fun t => t.length + 2).sum ≤ 3000 * ps.length
  | [], _ => by simp [PyData.shownKv]
  | p :: r, h => by
    have ih := ti_sum r fun y hy => h y (List.mem_cons_of_mem _ hy)
    obtain ⟨h1, h2, h3⟩ := h p List.mem_cons_self
    have a1 := repr_le h1 h2
    have a2 := int_text_length_le (k := 1920) (by decide) h3
    have e : (PyData.int p.2).shown = Str.ofString (toString p.2) := by simp [PyData.shown]
    have e2 : (PyData.str p.1).shown = reprText p.1 := by simp [PyData.shown]
    have e3 : ((PyData.shownKv ((p :: r).map fun p => ((.str p.1, .int p.2) : PyData × PyData))).map fun t => t.length + 2).sum = (((PyData.str p.1).shown ++ ": " ++ (PyData.int p.2).shown).length + 2) + ((PyData.shownKv (r.map fun p => ((.str p.1, .int p.2) : PyData × PyData))).map fun t => t.length + 2).sum := by simp [PyData.shownKv]
    rw [e3, e, e2, app_len, app_len, show ((": " : String) : Str).length = 2 by decide +kernel, ofString_length, List.length_cons]
    omega
/-- repr(d) -/
def rShowT : List V → Hp → VK → Prop := fun xs H Q => ∃ (a : Addr) (ps : List (Str × Int)), xs = [.ref a] ∧ H a = some (.dK (tiKv ps)) ∧ (∀ p ∈ ps, p.1.length ≤ 100 ∧ Sgn p.1 ∧ p.2.natAbs.log2 < 1920) ∧ ps.length ≤ 1000 ∧ Q (.str (tiD ps).shown) H
theorem call_showT (calm : Calm X.A) (hu : X.A.units + 70 < cLine) : CallR X (.builtin "repr") rShowT := by
  rintro pins s σ H xs us Q I r ⟨a, ps, rfl, ha, hb, hl, q⟩
  obtain ⟨u, rfl, rx⟩ := vals1 r
  cases rx
  obtain ⟨_, ns, vs, kv, o, es, ep, h1, h2, h3, h4, h5, h6⟩ := I.hok a _ ha
  obtain ⟨r1, r2⟩ := ti_reads (h := s.heap) kv h5
  have rd : Reads s.heap (.ref a) (tiD ps) (a :: [] ++ []) := .dict h1 h2.1 h3 r1 r2
  have hsz : (tiD ps).shown.length ≤ sizeLine := by
    have e : (tiD ps).shown = dictText (PyData.shownKv (ps.map fun p => ((.str p.1, .int p.2) : PyData × PyData))) := by simp [tiD, PyData.shown]
    have j := join_le (PyData.shownKv (ps.map fun p => ((.str p.1, .int p.2) : PyData × PyData)))
    have t := ti_sum ps hb
    rw [e]
    unfold dictText
    rw [app_len, app_len, show (("{" : String) : Str).length = 1 by decide +kernel, show (("}" : String) : Str).length = 1 by decide +kernel, sizeLine_eq]
    omega
  have hd : (tiD ps).depth ≤ 1 := by
    have := ti_depth ps
    simp [tiD, PyData.depth]
    omega
  refine repr_of_reads' rd (by simp only [tiD, PyData.showable]; exact ti_show ps fun p hp => (hb p hp).2.2) (fun _ hm => ?_) calm (by omega) (fun _ _ z => z) (fun h' t tk keep => ⟨.str (tiD ps).shown, H, I.kept keep, ⟨_, rfl⟩, q⟩) hsz
  rw [List.append_nil, List.mem_singleton] at hm
  rw [hm, beq_self_eq_true] at ns
  cases ns
end
end Pk
/-! ### two dicts compared, whose values are compared by an own ==, or as data -/
namespace DQ
open PySem PySem.W PyProof.Rows PySem.Spec
section
variable {prog : Program} {w : World} {K : Type} [DecidableEq K] {knd : KeyKind prog w K} {A : Around} {E : Value → Shared → Prop} {s : Shared}
def good (kb : List (K × Value)) (e : K → Bool) (p : K × Value) : Bool := (valueAt kb p.1).isSome && e p.1
/-- the two dicts stand as they are while what is J holds, and each two values are told equal, or not -/
structure TwoJ (prog : Program) (w : World) (A : Around) (E : Value → Shared → Prop) (a b : Addr) (oa ob : Obj) (ka kb : List (K × Value)) (e : K → Bool) (J : Shared → Prop) : Prop where
  a_ : ∀ s, J s → s.heap.get? a = some oa
  b_ : ∀ s, J s → s.heap.get? b = some ob
  eq_ : ∀ k v y, (k, v) ∈ ka → valueAt kb k = some y → ∀ s, J s → wpAny (model prog w) A (eqBool v y) (fun r s' => r = e k ∧ J s') E s
theorem samePairsJ {nm : String} {a b : Addr} {oa ob : Obj} {ka kb : List (K × Value)} {e : K → Bool} {J : Shared → Prop} {Q : Bool → Shared → Prop} (ha : (a == sysModules) = false) (hb : (b == sysModules) = false)
    (T : TwoJ prog w A E a b oa ob ka kb e J) (hs : J s) (da : s.heap.DictOf knd a ka) (db : s.heap.DictOf knd b kb) (h : ∀ s', J s' → Q (ka.length == kb.length && ka.all (good kb e)) s') :
    wpAny (model prog w) A (Builtin.Dict.samePairs nm a b) Q E s := by
  obtain ⟨oa', es, ep, hoa', _, hda, hka, hpa, _⟩ := da
  obtain ⟨ob', es', ep', hob', _, hdb, hkb, hpb, _⟩ := db
  have ea : oa' = oa := Option.some.inj (hoa'.symm.trans (T.a_ s hs))
  have eb : ob' = ob := Option.some.inj (hob'.symm.trans (T.b_ s hs))
  subst ea eb
  have hla : ka.length = es.size := by rw [← hpa.length]; exact Array.length_toList
  have hlb : kb.length = es'.size := by rw [← hpb.length]; exact Array.length_toList
  have hfind : ∀ k, findBy knd.is es' k = valueAt kb k := fun k => by
    rw [← hpb.find k]
    clear hlb hpb hkb hdb hob'
    obtain ⟨l⟩ := es'
    simp [findBy]
  rw [hla, hlb] at h
  unfold Builtin.Dict.samePairs Builtin.Dict.showsAll
  rw [if_neg (show ¬ (a == sysModules) = true by rw [ha]; exact Bool.false_ne_true), if_neg (show ¬ (b == sysModules) = true by rw [hb]; exact Bool.false_ne_true)]
  refine wpAny_bind (wpAny_pure (wpAny_bind (wpAny_pure ?_)))
  refine wpAny_bind (wpAny_dictEntries hoa' hda ?_)
  dsimp only
  refine wpAny_bind (wpAny_dictEntries hob' hdb ?_)
  by_cases hsz : es.size = es'.size
  case neg =>
    rw [if_pos (by simpa using hsz)]
    have hbf : (es.size == es'.size) = false := by simpa using hsz
    have h0 := h s hs
    rw [hbf, Bool.false_and] at h0
    exact wpAny_bind (wpAny_rule (wpAny_pure h0))
  case pos =>
    have h' : ∀ s', J s' → Q (ka.all (good kb e)) s' := fun s' j => by simpa [hsz] using h s' j
    rw [if_neg (by rw [hsz]; simp)]
    refine wpAny_bind (wpAny_dictEpoch hoa' hda ?_)
    refine wpAny_bind ?_
    rw [Std.Legacy.Range.forIn_eq_forIn_range']
    simp only [Std.Legacy.Range.size, Nat.sub_zero, Nat.add_sub_cancel, Nat.div_one]
    refine wpAny_forIn_list _
      (fun rest q s' => J s' ∧ q = (none, ()) ∧ ∃ i, rest = List.range' i (es.size - i) ∧ i ≤ es.size ∧ ka.all (good kb e) = (ka.drop i).all (good kb e))
      _ ?_ ?_ _ _ ⟨hs, rfl, 0, by simp, Nat.zero_le _, by simp⟩
    · rintro x rest q s' ⟨js, rfl, i, hr, hi, hpre⟩
      have hlt : i < es.size := by
        rcases Nat.lt_or_ge i es.size with h | h
        · exact h
        · rw [Nat.sub_eq_zero_of_le h] at hr; simp at hr
      obtain ⟨rfl, hrest⟩ : x = i ∧ rest = List.range' (i + 1) (es.size - (i + 1)) := by
        have e : es.size - i = (es.size - (i + 1)) + 1 := by omega
        rw [e, List.range'_succ] at hr
        injection hr with h1 h2
        exact ⟨h1, h2⟩
      refine wpAny_bind (wpAny_dictEntries (T.a_ s' js) hda ?_)
      rw [Array.getElem?_eq_getElem hlt]
      have hlt' : x < ka.length := by rw [hla]; exact hlt
      obtain ⟨k, v, hkv⟩ : ∃ k v, ka[x] = (k, v) := ⟨_, _, rfl⟩
      have hmem : (k, v) ∈ ka := by rw [← hkv]; exact List.getElem_mem hlt'
      have hdrop : ka.drop x = (k, v) :: ka.drop (x + 1) := by rw [← hkv]; exact List.drop_eq_getElem_cons hlt'
      obtain ⟨hkey, hval⟩ := hpa.get? (i := x) (e := es[x]) (k := k) (v := v) (by rw [Array.getElem?_toList]; exact Array.getElem?_eq_getElem hlt) (by rw [List.getElem?_eq_getElem hlt', hkv])
      obtain ⟨k', hk', hh⟩ := hka es[x] (Array.getElem_mem hlt)
      have ekk : k' = k := knd.inj _ _ _ hk' hkey
      rw [ekk] at hh
      rw [hdrop, List.all_cons] at hpre
      show wpAny _ _ (holding [es[x].key, es[x].val] _ >>= _) _ _ _
      rw [hh]
      refine wpAny_bind (wpAny_holding (wpAny_bind (wpAny_dictFind_of hkey (T.b_ s' js) hdb hkb ?_)))
      cases hj : es'.findIdx? fun e => knd.is k e.key with
      | none =>
        have hn : valueAt kb k = none := by rw [← hfind k, findBy_of_findIdx?, hj]
        have hg : good kb e (k, v) = false := by unfold good; rw [hn]; rfl
        rw [hg, Bool.false_and] at hpre
        refine wpAny_pure ?_
        show wpAny _ _ (if (!false) = true then _ else _) _ _ _
        rw [if_pos (by decide)]
        have z := h' s' js
        rw [hpre] at z
        exact wpAny_pure (wpAny_pure z)
      | some j =>
        obtain ⟨hjlt, _, _⟩ := Array.findIdx?_eq_some_iff_getElem.mp hj
        have hv' : valueAt kb k = some es'[j].val := by
          rw [← hfind k, findBy_of_findIdx?, hj]
          simp [Array.getElem?_eq_getElem hjlt]
        refine wpAny_bind (wpAny_dictEntries (T.b_ s' js) hdb ?_)
        rw [Array.getElem?_eq_getElem hjlt]
        have he := T.eq_ k v _ hmem hv' s' js
        rw [← hval] at he
        refine wpAny_holding (wpAny_mono he (fun r s2 hr2 => ?_) fun _ _ x => x)
        obtain ⟨rfl, j2⟩ := hr2
        have hg : good kb e (k, v) = e k := by unfold good; rw [hv']; rfl
        rw [hg] at hpre
        cases hek : e k with
        | false =>
          rw [hek, Bool.false_and] at hpre
          show wpAny _ _ (if (!false) = true then _ else _) _ _ _
          rw [if_pos (by decide)]
          have z := h' s2 j2
          rw [hpre] at z
          exact wpAny_pure (wpAny_pure z)
        | true =>
          rw [hek, Bool.true_and] at hpre
          show wpAny _ _ (if (!true) = true then _ else _) _ _ _
          rw [if_neg (by decide)]
          refine wpAny_bind (wpAny_dictEpoch (T.a_ s2 j2) hda ?_)
          rw [if_neg (by simp)]
          exact wpAny_pure ⟨j2, rfl, x + 1, hrest, hlt, hpre⟩
    · rintro q s' ⟨js, rfl, i, hr, hi, hpre⟩
      have hin : i = es.size := by
        rcases Nat.lt_or_ge i es.size with h | h
        · have e : es.size - i = (es.size - (i + 1)) + 1 := by omega
          rw [e, List.range'_succ] at hr; exact nomatch hr
        · exact Nat.le_antisymm hi h
      refine wpAny_pure ?_
      rw [hin, ← hla, List.drop_length] at hpre
      have z := h' s' js
      rw [hpre] at z
      exact z
theorem eqJ {a b : Addr} {oa ob : Obj} {ka kb : List (K × Value)} {e : K → Bool} {J : Shared → Prop} {Q : Value → Shared → Prop} (ha : (a == sysModules) = false) (hb : (b == sysModules) = false)
    (T : TwoJ prog w A.in1 E a b oa ob ka kb e J) (hs : J s) (da : s.heap.DictOf knd a ka) (db : s.heap.DictOf knd b kb) (hu : A.units < cLine) (h : ∀ s', J s' → Q (.bool (ka.length == kb.length && ka.all (good kb e))) s') :
    wpAny (model prog w) A (compareOp .Eq (.ref a) (.ref b)) Q E s := by
  refine wpAny_richCompare_same_room (op := .Eq) da.typeIs db.typeIs PySem.F.slot_dict_eq (wpAny_call_entry PySem.F.slot_dict_eq da.typeIs PySem.F.entry_dict_eq ?_ (PySem.F.args_dict_eq_2 _ _)) hu
  show wpAny _ _ (Builtin.Dict.dictSlotArgs "__eq__" ⟨[.ref a, .ref b], []⟩ >>= _) _ _ s
  refine wpAny_bind ?_
  unfold Builtin.Dict.dictSlotArgs
  refine wpAny_bind (wpAny_notOrdered_dict da.typeIs ?_)
  show wpAny _ _ (pure (Value.ref a, Value.ref b)) _ _ s
  refine wpAny_pure ?_
  refine wpAny_bind (wpAny_isInstance (T := "dict") db.typeIs PySem.F.sub_dict_dict ?_)
  simp only [Bool.not_true, Bool.false_eq_true, if_false]
  refine wpAny_bind (wpAny_pure (wpAny_bind (wpAny_pure ?_)))
  refine wpAny_bind (samePairsJ ha hb T hs da db fun s' js => ?_)
  refine wpAny_pure ⟨_, rfl, ?_, ?_⟩
  · exact fun x => nomatch x
  · simpa using h s' js
end
end DQ
namespace Pk
open PySem PySem.Spec L2
section
variable {X : Cx}
/-- two values are told equal, or not, with the heap G as it is -/
def EqV (X : Cx) (G : Hp) (x y : V) (e : Bool) : Prop := ∀ (pins : List (Addr × Obj)) (s : Shared) (σ : L2.St) (u v : Value), L2.Inv X pins σ G s → RelV x u → RelV y v → wpAny (model X.prog X.w) X.A.in1 (eqBool u v) (fun r s' => r = e ∧ L2.Inv X pins σ G s') X.xe s
theorem EqV.own {k : Nat} {C f x y : Addr} {fd : FuncData} {sp : Sp} {G : Hp} {e : Bool} (F : FnOk X.prog X.w X.K X.mg X.base CX0 k f fd ["self", "other"] sp) (hr : Room (k + 1) X.A) (hs : PySem.W.findIn X.K (.ref C) "__eq__" = some (some (.ref f))) (hf : PySem.W.isFn X.K (.ref f) = true) (hb : Binds X.K fd ["self", "other"] [])
    (h : EqOf C sp x y G e) : EqV X G (.ref x) (.ref y) e := fun pins s σ u v I ru rv => by
  cases ru
  cases rv
  exact eqB_own F hs hf hb (Sub.in1 ⟨hr, rfl⟩) I h X.xe
theorem EqV.str (G : Hp) (x y : Str) : EqV X G (.str x) (.str y) (decide (x = y)) := fun pins s σ u v I ru rv => by
  obtain ⟨t, rfl⟩ := ru
  obtain ⟨t', rfl⟩ := rv
  have z := SeqAt.EqAt.str_str (A := X.A.in1) (s := s) x t y t' X.prog X.w X.xe (fun r s' => r = decide (x = y) ∧ L2.Inv X pins σ G s')
  refine z ⟨?_, I⟩
  first
    | rfl
    | simp [PyData.eqv]
    | (rw [Bool.eq_iff_iff]; simp)
theorem EqV.data {G : Hp} {x y : V} {d e : PyData} (hu : X.A.units + 65 < cLine) (hx : Dp X.K G x d) (hy : Dp X.K G y e) (sd : SeqAt.shaped d = true) (se : SeqAt.shaped e = true) : EqV X G x y (PyData.eqv d e) := fun pins s σ u v I ru rv => by
  obtain ⟨as, ra⟩ := Dp.reads I d x u hx ru
  obtain ⟨bs, rb⟩ := Dp.reads I e y v hy rv
  exact PySem.W.keq_at (A := X.A) ra rb sd se (by show X.A.units + 1 + 64 < cLine; omega) X.prog X.w X.xe _ ⟨rfl, I⟩
/-- a == b of two dicts -/
def rEqDO (X : Cx) : R2 := fun x y H Q => ∃ (a b : Addr) (ks ls : List (Key × V)) (e : Key → Bool), x = .ref a ∧ y = .ref b ∧ a ≠ b ∧ H a = some (.dK ks) ∧ H b = some (.dK ls) ∧
  (∀ p ∈ ks, ∀ z, valV ls p.1 = some z → ∀ G : Hp, (∀ c o, c ≠ a → c ≠ b → H c = some o → G c = some o) → EqV X G p.2 z (e p.1)) ∧ Q (.bl (ks.length == ls.length && ks.all fun p => (valV ls p.1).isSome && e p.1)) H
theorem kv_all {ks : List (Key × V)} {va : List (Key × Value)} (ra : KV ks va) (g : Key → Bool) : va.all (fun p => g p.1) = ks.all fun p => g p.1 := by
  unfold KV at ra
  induction ra with
  | nil => rfl
  | @cons p q ps qs h t ih =>
    rw [List.all_cons, List.all_cons, ih, h.1]
theorem kv_mem {ks : List (Key × V)} {va : List (Key × Value)} (ra : KV ks va) {k : Key} {v : Value} (h : (k, v) ∈ va) : ∃ x, (k, x) ∈ ks ∧ RelV x v := by
  unfold KV at ra
  induction ra with
  | nil => cases h
  | @cons p q ps qs h0 t ih =>
    rcases List.mem_cons.mp h with e | e
    · subst e
      refine ⟨p.2, ?_, h0.2⟩
      rw [← show p.1 = k from h0.1]
      exact List.mem_cons_self
    · obtain ⟨x, h1, h2⟩ := ih e
      exact ⟨x, List.mem_cons_of_mem _ h1, h2⟩
theorem kv_at {ks : List (Key × V)} {va : List (Key × Value)} (ra : KV ks va) (k : Key) : (valueAt va k = none ∧ valV ks k = none) ∨ ∃ v x, valueAt va k = some v ∧ valV ks k = some x ∧ RelV x v := by
  unfold KV at ra
  induction ra with
  | nil => exact .inl ⟨rfl, rfl⟩
  | @cons p q ps qs h0 t ih =>
    by_cases e : p.1 = k
    · have e' : q.1 = k := h0.1.symm.trans e
      exact .inr ⟨q.2, p.2, by unfold valueAt; simp [e'], valV_pos e, h0.2⟩
    · have e' : ¬ q.1 = k := fun z => e (h0.1.trans z)
      rw [valV_neg e]
      have z : valueAt (q :: qs) k = valueAt qs k := by unfold valueAt; simp [e']
      rw [z]
      exact ih
theorem op_eqDO (hu : X.A.units < cLine) : OpR X (compareOp .Eq) (rEqDO X) := by
  rintro pins s σ H x y v u Q I rx ry ⟨a, b, ks, ls, e, rfl, rfl, nab, ea, eb, hp, q⟩
  cases (show v = Value.ref a from rx)
  cases (show u = Value.ref b from ry)
  obtain ⟨oa, I1⟩ := I.lock ea trivial
  have eb1 : upd H a (.frz oa (.dK ks)) b = some (.dK ls) := by rw [upd_ne (Ne.symm nab)]; exact eb
  obtain ⟨ob, I2⟩ := I1.lock eb1 trivial
  generalize hG : upd (upd H a (.frz oa (.dK ks))) b (.frz ob (.dK ls)) = G at I2
  have ga : G a = some (.frz oa (.dK ks)) := by rw [← hG, upd_ne nab, upd_same]
  have gb : G b = some (.frz ob (.dK ls)) := by rw [← hG, upd_same]
  have gc : ∀ c o, c ≠ a → c ≠ b → H c = some o → G c = some o := fun c o n1 n2 h => by rw [← hG, upd_ne n2, upd_ne n1]; exact h
  have at_ : ∀ (s' : Shared), L2.Inv X pins σ G s' → s'.heap.get? a = some oa ∧ s'.heap.get? b = some ob := fun s' I' => ⟨(I'.hok a _ ga).1, (I'.hok b _ gb).1⟩
  obtain ⟨_, ya, va, ra, da⟩ := dk_rd I2.hok (.inr ⟨oa, ga⟩)
  obtain ⟨_, yb, vb, rb, db⟩ := dk_rd I2.hok (.inr ⟨ob, gb⟩)
  have T : DQ.TwoJ X.prog X.w X.A.in1 X.xe a b oa ob va vb e (fun s' => L2.Inv X pins σ G s') := by
    refine ⟨fun s' I' => (at_ s' I').1, fun s' I' => (at_ s' I').2, fun k v y hm hy s' I' => ?_⟩
    obtain ⟨x1, hx1, rx1⟩ := kv_mem ra hm
    rcases kv_at rb k with ⟨z, _⟩ | ⟨v2, x2, z1, z2, rx2⟩
    · rw [z] at hy; cases hy
    · rw [z1] at hy
      cases hy
      exact hp (k, x1) hx1 x2 z2 G gc pins s' σ v y I' rx1 rx2
  refine DQ.eqJ (knd := mixKind X.prog X.w) ya yb T I2 da db hu fun s' I' => ?_
  have I3 := I'.unlock gb (I1.nofrz eb1 trivial)
  have I4 := I3.unlock (d := a) (od := oa) (u := .dK ks) (by rw [upd_ne nab]; exact ga) (I.nofrz ea trivial)
  have eH : upd (upd G b (.dK ls)) a (.dK ks) = H := by
    funext c
    by_cases h1 : c = a
    · subst h1
      rw [upd_same, ea]
    · rw [upd_ne h1]
      by_cases h2 : c = b
      · subst h2
        rw [upd_same, eb]
      · rw [upd_ne h2, ← hG, upd_ne h2, upd_ne h1]
  rw [eH] at I4
  refine fin_bl I4 q ?_
  rw [show va.length = ks.length from ra.length.symm, show vb.length = ls.length from rb.length.symm]
  congr 1
  have e1 : va.all (DQ.good vb e) = va.all (fun p => (fun k => (valV ls k).isSome && e k) p.1) := by
    congr 1
    funext p
    unfold DQ.good
    congr 1
    rcases kv_at rb p.1 with ⟨z1, z2⟩ | ⟨v2, x2, z1, z2, _⟩
    · rw [z1, z2]
      rfl
    · rw [z1, z2]
      rfl
  rw [e1]
  exact (kv_all ra (fun k => (valV ls k).isSome && e k)).symm
end
end Pk
/-! ### banks: what stands in one, whatever the law's text -/
namespace Pk
open PySem L2
/-! ### what stays -/
/-- all but what stands at some places is as it was -/
def Bt (L : List Addr) (H H' : Hp) : Prop := ∀ q o, q ∉ L → H q = some o → H' q = some o
theorem Bt.refl {L : List Addr} {H : Hp} : Bt L H H := fun _ _ _ h => h
theorem Bt.same {L : List Addr} {H H' : Hp} (s : Same H H') : Bt L H H' := fun q o _ h => s q o h
theorem Bt.trans {L : List Addr} {H H1 H2 : Hp} (a : Bt L H H1) (b : Bt L H1 H2) : Bt L H H2 := fun q o n h => b q o n (a q o n h)
theorem Bt.mono {L M : List Addr} {H H' : Hp} (a : Bt L H H') (s : ∀ x ∈ L, x ∈ M) : Bt M H H' := fun q o n h => a q o (fun z => n (s q z)) h
theorem Bt.put {L : List Addr} {H : Hp} {p : Addr} {o : HO} (h : p ∈ L) : Bt L H (upd H p o) := fun q u n e => by
  rw [upd_ne (fun z => n (by rw [z]; exact h))]
  exact e
theorem Bt.toSame {H H' : Hp} (a : Bt [] H H') : Same H H' := fun q o h => a q o (fun z => nomatch z) h
/-- what is changed at places that are new is as good as nothing changed -/
theorem Bt.fresh {L : List Addr} {H0 H H' : Hp} (s : Same H0 H) (a : Bt L H H') (n : ∀ p ∈ L, H0 p = none) : Same H0 H' := fun q o h => a q o (fun z => by rw [n q z] at h; cases h) (s q o h)
theorem Bt.one {p : Addr} {H H' : Hp} (a : ∀ q o, q ≠ p → H q = some o → H' q = some o) : Bt [p] H H' := fun q o n h => a q o (fun z => n (by rw [z]; exact List.mem_cons_self)) h
theorem Bt.at {p : Addr} {H H' : Hp} (a : Bt [p] H H') {q : Addr} {o : HO} (n : q ≠ p) (h : H q = some o) : H' q = some o := a q o (fun z => n (List.mem_singleton.mp z)) h
/-! ### a dict by texts -/
def TbK (kvs : List (Key × V)) (ns : List Str) (R : Str → V → Prop) : Prop := kvs.map (·.1) = ns.map Sum.inr ∧ ∀ n ∈ ns, ∃ v, valV kvs (.inr n) = some v ∧ R n v
def TbAt (H : Hp) (a : Addr) (ns : List Str) (R : Str → V → Prop) : Prop := ∃ kvs, H a = some (.dK kvs) ∧ TbK kvs ns R
section
variable {kvs : List (Key × V)} {ns : List Str} {R R' : Str → V → Prop} {n : Str} {v : V} {H H' : Hp} {a : Addr}
theorem TbK.no (h : TbK kvs ns R) (hn : n ∉ ns) : valV kvs (.inr n) = none := by
  cases e : valV kvs (.inr n) with
  | none => rfl
  | some v =>
    have z := valV_in e
    rw [h.1] at z
    obtain ⟨m, hm, e2⟩ := List.mem_map.mp z
    cases e2
    exact absurd hm hn
theorem TbK.len (h : TbK kvs ns R) : kvs.length = ns.length := by
  have := congrArg List.length h.1
  simpa using this
theorem TbK.mono (h : TbK kvs ns R) (k : ∀ m ∈ ns, ∀ v, R m v → R' m v) : TbK kvs ns R' := ⟨h.1, fun m hm => by
  obtain ⟨v, e, r⟩ := h.2 m hm
  exact ⟨v, e, k m hm v r⟩⟩
theorem TbK.nil : TbK [] [] R := ⟨rfl, fun _ h => nomatch h⟩
/-- where a name is put: in its place, or at the end -/
def putN (ns : List Str) (n : Str) : List Str := if n ∈ ns then ns else ns ++ [n]
theorem putN_new (h : n ∉ ns) : putN ns n = ns ++ [n] := if_neg h
theorem putN_old (h : n ∈ ns) : putN ns n = ns := if_pos h
theorem TbK.put (h : TbK kvs ns R) (k : ∀ m ∈ ns, m ≠ n → ∀ v, R m v → R' m v) (r : R' n v) : TbK (putK kvs (.inr n) v) (putN ns n) R' := by
  constructor
  · by_cases hn : n ∈ ns
    · obtain ⟨u, e, _⟩ := h.2 n hn
      rw [putN_old hn]
      unfold putK
      rw [valV_any, e]
      show (kvs.map _).map _ = _
      rw [List.map_map, ← h.1]
      refine List.map_congr_left fun p hp => ?_
      show (if p.1 = Sum.inr n then (p.1, v) else p).1 = p.1
      split <;> rfl
    · rw [putN_new hn, putK_new _ (h.no hn), List.map_append, List.map_append, h.1]
      rfl
  · intro m hm
    rw [valV_put]
    by_cases e : m = n
    · subst e
      exact ⟨v, by rw [if_pos rfl], r⟩
    · have hm' : m ∈ ns := by
        unfold putN at hm
        split at hm
        · exact hm
        · rcases List.mem_append.mp hm with z | z
          · exact z
          · exact absurd (List.mem_singleton.mp z) e
      obtain ⟨u, e1, r1⟩ := h.2 m hm'
      exact ⟨u, by rw [if_neg (fun z => e (Sum.inr.inj z))]; exact e1, k m hm' e u r1⟩
/-- without a name -/
def dropN (ns : List Str) (n : Str) : List Str := ns.filter fun m => decide (m ≠ n)
theorem valV_drop {j k : Key} (h : j ≠ k) : ∀ kvs : List (Key × V), valV (dropK kvs k) j = valV kvs j
  | [] => rfl
  | p :: r => by
    by_cases e : p.1 = k
    · rw [dropK_pos e, valV_neg (fun z => h (z.symm.trans e)), valV_drop h r]
    · rw [dropK_neg e]
      by_cases e2 : p.1 = j
      · rw [valV_pos e2, valV_pos e2]
      · rw [valV_neg e2, valV_neg e2, valV_drop h r]
theorem TbK.drop (h : TbK kvs ns R) : TbK (dropK kvs (.inr n)) (dropN ns n) R := by
  constructor
  · have e := h.1
    unfold dropK dropN
    clear h
    induction kvs generalizing ns with
    | nil =>
      cases ns with
      | nil => rfl
      | cons m r => cases e
    | cons p r ih =>
      cases ns with
      | nil => cases e
      | cons m ms =>
        obtain ⟨e1, e2⟩ := List.cons.inj e
        have e1 : p.1 = Sum.inr m := e1
        have i := ih e2
        by_cases z : m = n
        · rw [List.filter_cons, if_neg (by simp [e1, z]), List.filter_cons, if_neg (by simp [z])]
          exact i
        · rw [List.filter_cons, if_pos (by simp [e1, z]), List.filter_cons, if_pos (by simp [z]), List.map_cons, List.map_cons, i, e1]
  · intro m hm
    obtain ⟨h1, h2⟩ := List.mem_filter.mp hm
    obtain ⟨v, e, r⟩ := h.2 m h1
    exact ⟨v, by rw [valV_drop (fun z => (of_decide_eq_true h2) (Sum.inr.inj z))]; exact e, r⟩
theorem TbAt.get (h : TbAt H a ns R) (hn : n ∈ ns) : ∃ v, DGet H a (.str n) (some v) ∧ R n v := by
  obtain ⟨kvs, e, k⟩ := h
  obtain ⟨v, e1, r⟩ := k.2 n hn
  have z := DGet.k (k := .inr n) e
  rw [e1] at z
  exact ⟨v, z, r⟩
theorem TbAt.none (h : TbAt H a ns R) (hn : n ∉ ns) : DGet H a (.str n) none := by
  obtain ⟨kvs, e, k⟩ := h
  have z := DGet.k (k := .inr n) e
  rw [k.no hn] at z
  exact z
/-- whether a name is in -/
theorem TbAt.has (h : TbAt H a ns R) (n : Str) : ∃ o, DGet H a (.str n) o ∧ o.isSome = decide (n ∈ ns) := by
  by_cases hn : n ∈ ns
  · obtain ⟨v, g, _⟩ := h.get hn
    exact ⟨_, g, by rw [decide_eq_true hn]; rfl⟩
  · exact ⟨_, h.none hn, by rw [decide_eq_false hn]; rfl⟩
theorem TbAt.mono (h : TbAt H a ns R) (e : ∀ kvs, H a = some (.dK kvs) → H' a = some (.dK kvs)) (k : ∀ m ∈ ns, ∀ v, R m v → R' m v) : TbAt H' a ns R' := by
  obtain ⟨kvs, h1, h2⟩ := h
  exact ⟨kvs, e kvs h1, h2.mono k⟩
end
/-! ### banks -/
structure BD where
  ns : List Str
  f : Str → QD
  os : List Str
  g : Str → Str
  h : Str → List Int
def upF {α : Type} (f : Str → α) (n : Str) (v : α) : Str → α := fun m => if m = n then v else f m
theorem upF_at {α : Type} (f : Str → α) (n : Str) (v : α) : upF f n v n = v := if_pos rfl
theorem upF_ne {α : Type} {f : Str → α} {n m : Str} {v : α} (h : m ≠ n) : upF f n v m = f m := if_neg h
structure GoodB (B : BD) : Prop where
  nd : B.ns.Nodup
  le : B.ns.length ≤ 60
  nm : ∀ n ∈ B.ns, QV (B.f n) ∧ (B.f n).nm = n
  od : B.os.Nodup
  os : ∀ n ∈ B.os, n ∈ B.ns
  tx : ∀ n ∈ B.os, textT (B.g n) = true
  dy : ∀ n ∈ B.ns, (B.h n).Pairwise (· < ·) ∧ (∀ i ∈ B.h n, 0 ≤ i ∧ i ≤ 9999) ∧ (B.h n).length ≤ 500
def B0 : BD := ⟨[], fun _ => ⟨"", "", [], 0, 0, 0, ""⟩, [], fun _ => "", fun _ => []⟩
theorem good0 : GoodB B0 := ⟨List.nodup_nil, Nat.zero_le _, (fun _ h => nomatch h), List.nodup_nil, (fun _ h => nomatch h), (fun _ h => nomatch h), (fun _ h => nomatch h)⟩
def BD.add (B : BD) (q : QD) : BD := { B with ns := B.ns ++ [q.nm], f := upF B.f q.nm q, h := upF B.h q.nm [] }
def BD.put (B : BD) (q : QD) : BD := { B with f := upF B.f q.nm q }
def BD.out (B : BD) (n z : Str) : BD := { B with os := putN B.os n, g := upF B.g n z }
def BD.back (B : BD) (n : Str) : BD := { B with os := dropN B.os n }
def BD.drop (B : BD) (n : Str) : BD := { B with ns := dropN B.ns n, os := dropN B.os n }
def BD.day (B : BD) (n : Str) (ds : List Int) : BD := { B with h := upF B.h n ds }
theorem GoodB.add {B : BD} {q : QD} (g : GoodB B) (v : QV q) (h : q.nm ∉ B.ns) (l : B.ns.length < 60) : GoodB (B.add q) where
  nd := nd_snoc g.nd h
  le := by show (B.ns ++ [q.nm]).length ≤ 60; rw [List.length_append, List.length_singleton]; omega
  nm := fun n hn => by
    show QV (upF B.f q.nm q n) ∧ (upF B.f q.nm q n).nm = n
    by_cases e : n = q.nm
    · subst e
      rw [upF_at]
      exact ⟨v, rfl⟩
    · rw [upF_ne e]
      exact g.nm n ((List.mem_append.mp hn).resolve_right fun z => e (List.mem_singleton.mp z))
  od := g.od
  os := fun n hn => List.mem_append_left _ (g.os n hn)
  tx := g.tx
  dy := fun n hn => by
    show (upF B.h q.nm [] n).Pairwise (· < ·) ∧ (∀ i ∈ upF B.h q.nm [] n, 0 ≤ i ∧ i ≤ 9999) ∧ (upF B.h q.nm [] n).length ≤ 500
    by_cases e : n = q.nm
    · subst e
      rw [upF_at]
      exact ⟨.nil, fun _ h => (nomatch h), Nat.zero_le _⟩
    · rw [upF_ne e]
      exact g.dy n ((List.mem_append.mp hn).resolve_right fun z => e (List.mem_singleton.mp z))
theorem GoodB.put {B : BD} {q : QD} (g : GoodB B) (v : QV q) : GoodB (B.put q) := ⟨g.nd, g.le, fun n hn => by
    show QV (upF B.f q.nm q n) ∧ (upF B.f q.nm q n).nm = n
    by_cases e : n = q.nm
    · subst e
      rw [upF_at]
      exact ⟨v, rfl⟩
    · rw [upF_ne e]
      exact g.nm n hn, g.od, g.os, g.tx, g.dy⟩
theorem putN_mem {ns : List Str} {n m : Str} : m ∈ putN ns n ↔ m ∈ ns ∨ m = n := by
  unfold putN
  split
  case isTrue h => exact ⟨.inl, fun z => z.elim id fun e => e ▸ h⟩
  case isFalse h => rw [List.mem_append, List.mem_singleton]
theorem putN_nd {ns : List Str} {n : Str} (h : ns.Nodup) : (putN ns n).Nodup := by
  unfold putN
  split
  case isTrue _ => exact h
  case isFalse k => exact nd_snoc h k
theorem dropN_mem {ns : List Str} {n m : Str} : m ∈ dropN ns n ↔ m ∈ ns ∧ m ≠ n := by
  unfold dropN
  rw [List.mem_filter]
  simp
theorem GoodB.out {B : BD} {n z : Str} (g : GoodB B) (hn : n ∈ B.ns) (ht : textT z = true) : GoodB (B.out n z) := ⟨g.nd, g.le, g.nm, putN_nd g.od, fun m hm => (putN_mem.mp hm).elim (g.os m) (fun e => e ▸ hn), fun m hm => by
  show textT (upF B.g n z m) = true
  by_cases e : m = n
  · subst e
    rw [upF_at]
    exact ht
  · rw [upF_ne e]
    exact g.tx m ((putN_mem.mp hm).resolve_right e), g.dy⟩
theorem GoodB.back {B : BD} {n : Str} (g : GoodB B) : GoodB (B.back n) := ⟨g.nd, g.le, g.nm, g.od.filter _, fun m hm => g.os m (dropN_mem.mp hm).1, fun m hm => g.tx m (dropN_mem.mp hm).1, g.dy⟩
theorem GoodB.drop {B : BD} {n : Str} (g : GoodB B) : GoodB (B.drop n) := ⟨g.nd.filter _, Nat.le_trans (List.length_filter_le _ _) g.le, fun m hm => g.nm m (dropN_mem.mp hm).1, g.od.filter _, fun m hm => dropN_mem.mpr ⟨g.os m (dropN_mem.mp hm).1, (dropN_mem.mp hm).2⟩, fun m hm => g.tx m (dropN_mem.mp hm).1, fun m hm => g.dy m (dropN_mem.mp hm).1⟩
def bFs (k r d : Addr) : List (Str × V) := [("kept", .ref k), ("reasons", .ref r), ("days", .ref d)]
theorem bFs_put (k r d : Addr) : putF "days" (.ref d) (putF "reasons" (.ref r) (putF "kept" (.ref k) [])) = bFs k r d := by kernel_rfl
theorem lb_kept (k r d : Addr) : (bFs k r d).lookup ("kept" : Str) = some (.ref k) := by kernel_rfl
theorem lb_reasons (k r d : Addr) : (bFs k r d).lookup ("reasons" : Str) = some (.ref r) := by kernel_rfl
theorem lb_days (k r d : Addr) : (bFs k r d).lookup ("days" : Str) = some (.ref d) := by kernel_rfl
abbrev bMeths : List Str := ["need_known", "added", "put", "taken_out", "put_back", "dropped", "used_on", "used_on_all", "unused_on", "names", "names_in", "is_in", "was_used", "outs", "question", "questions_by", "days_of", "last_day", "matters", "found", "twin"]
theorem lb_meth {m : Str} (h : m ∈ bMeths) (k r d : Addr) : (bFs k r d).lookup m = none := by
  have z : ∀ m ∈ bMeths, m ≠ ("kept" : Str) ∧ m ≠ ("reasons" : Str) ∧ m ≠ ("days" : Str) := by decide +kernel
  obtain ⟨h1, h2, h3⟩ := z m h
  unfold bFs
  simp [List.lookup, beq_eq_false_iff_ne.mpr h1, beq_eq_false_iff_ne.mpr h2, beq_eq_false_iff_ne.mpr h3]
structure BCls (K : PySem.W.Frag) (CB : Addr) : Prop where
  cls : Cls K CB
  no : ∀ f ∈ ["kept", "reasons", "days"], NoAttr K CB f
def RKept (CQ : Addr) (H : Hp) (f : Str → QD) : Str → V → Prop := fun n v => ∃ x, v = .ref x ∧ QI CQ H x (f n)
def RDays (H : Hp) (h : Str → List Int) : Str → V → Prop := fun n v => ∃ l, v = .ref l ∧ H l = some (.lst ((h n).map .int))
def ROuts (g : Str → Str) : Str → V → Prop := fun n v => v = .str (g n)
structure BankAt (CB CQ : Addr) (H : Hp) (b k r d : Addr) (B : BD) : Prop where
  at_ : ∃ dx, H b = some (.ins CB dx (bFs k r d))
  kept : TbAt H k B.ns (RKept CQ H B.f)
  outs : TbAt H r B.os (ROuts B.g)
  days : TbAt H d B.ns (RDays H B.h)
  kr : k ≠ r
  kd : k ≠ d
  rd : r ≠ d
section
variable {CB CQ : Addr} {H H' : Hp} {b k r d : Addr} {B : BD}
theorem QI.by {x : Addr} {q : QD} (h : QI CQ H x q) (s : ∀ a o, (∀ kvs, o ≠ .dK kvs) → (∀ L, o ≠ .lst L) → H a = some o → H' a = some o) : QI CQ H' x q := by
  obtain ⟨dx, a, h1, h2, h3⟩ := h
  exact ⟨dx, a, s _ _ (fun _ z => nomatch z) (fun _ z => nomatch z) h1, s _ _ (fun _ z => nomatch z) (fun _ z => nomatch z) h2, h3⟩
/-- a bank stands where all that it is made of stays -/
theorem BankAt.by (h : BankAt CB CQ H b k r d B) (s : ∀ a o, a ≠ k → a ≠ r → a ≠ d → (∀ kvs, o ≠ .dK kvs) → H a = some o → H' a = some o) (sk : ∀ kvs, H k = some (.dK kvs) → H' k = some (.dK kvs)) (sr : ∀ kvs, H r = some (.dK kvs) → H' r = some (.dK kvs)) (sd : ∀ kvs, H d = some (.dK kvs) → H' d = some (.dK kvs)) : BankAt CB CQ H' b k r d B := by
  have off : ∀ {a : Addr} {o : HO}, (∀ kvs, o ≠ .dK kvs) → H a = some o → a ≠ k ∧ a ≠ r ∧ a ≠ d := fun {a o} n e => by
    obtain ⟨kk, e1, _⟩ := h.kept
    obtain ⟨kr, e2, _⟩ := h.outs
    obtain ⟨kd, e3, _⟩ := h.days
    refine ⟨fun z => ?_, fun z => ?_, fun z => ?_⟩ <;> subst z
    · rw [e1] at e; cases e; exact n _ rfl
    · rw [e2] at e; cases e; exact n _ rfl
    · rw [e3] at e; cases e; exact n _ rfl
  have s' : ∀ a o, (∀ kvs, o ≠ .dK kvs) → H a = some o → H' a = some o := fun a o n e => by
    obtain ⟨o1, o2, o3⟩ := off n e
    exact s a o o1 o2 o3 n e
  obtain ⟨dx, hb⟩ := h.at_
  exact ⟨⟨dx, s' _ _ (fun _ z => nomatch z) hb⟩, h.kept.mono sk fun m _ v ⟨x, e, q⟩ => ⟨x, e, q.by fun a o n _ e => s' a o n e⟩, h.outs.mono sr fun _ _ _ e => e, h.days.mono sd fun m _ v ⟨l, e, q⟩ => ⟨l, e, s' _ _ (fun _ z => nomatch z) q⟩, h.kr, h.kd, h.rd⟩
theorem BankAt.same (h : BankAt CB CQ H b k r d B) (s : Same H H') : BankAt CB CQ H' b k r d B := h.by (fun a o _ _ _ _ e => s a o e) (fun _ e => s _ _ e) (fun _ e => s _ _ e) (fun _ e => s _ _ e)
theorem BankAt.ins (h : BankAt CB CQ H b k r d B) : ∃ dx, H b = some (.ins CB dx (bFs k r d)) := h.at_
theorem BankAt.isB (h : BankAt CB CQ H b k r d B) : (∃ kvs, H k = some (.dK kvs)) ∧ (∃ kvs, H r = some (.dK kvs)) ∧ ∃ kvs, H d = some (.dK kvs) := by
  obtain ⟨kk, e1, _⟩ := h.kept
  obtain ⟨kr, e2, _⟩ := h.outs
  obtain ⟨kd, e3, _⟩ := h.days
  exact ⟨⟨_, e1⟩, ⟨_, e2⟩, ⟨_, e3⟩⟩
end
/-! ### what the methods promise -/
def Err1 (C : Addr) (fl : Str) (v : V) (H : Hp) (E : XK) : Prop := ∀ (d : Addr) (H' : Hp), Same H H' → H' d = some (.xd [(fl, v)]) → E (.ref C) (some d) H'
def spNeedQ (K : PySem.W.Frag) (CQ cK : Addr) : Sp := fun vs H Q E => ∃ y : V, vs = [y] ∧ ((∃ x q, y = .ref x ∧ QI CQ H x q ∧ Q .non H) ∨ ∃ tb, TyX K H y tb ∧ PySem.W.kitOne K tb (.ref CQ) = some false ∧ Err1 cK "wanted" (.str "Question") H E)
/-- a name that is known, or a thing that is none -/
def KnownV (H : Hp) (B : BD) (y : V) (C : Addr) (good : Str → Prop) (E : XK) : Prop := (∃ n ∈ B.ns, y = .str n ∧ good n) ∨ ((∀ n ∈ B.ns, y ≠ .str n) ∧ Thg H y ∧ Err1 C "name" y H E)
def spKnown (CB CQ cN : Addr) : Sp := fun vs H Q E => ∃ (b k r d : Addr) (B : BD) (y : V), vs = [.ref b, y] ∧ BankAt CB CQ H b k r d B ∧ KnownV H B y cN (fun _ => Q .non H) E
def spAddedB (K : PySem.W.Frag) (CB CQ cK cT cM : Addr) : Sp := fun vs H Q E => ∃ (b k r d : Addr) (B : BD) (y : V), vs = [.ref b, y] ∧ BankAt CB CQ H b k r d B ∧
  ((∃ x q, y = .ref x ∧ QI CQ H x q ∧ (q.nm ∈ B.ns → Err1 cT "name" (.str q.nm) H E) ∧ (q.nm ∉ B.ns → 60 ≤ B.ns.length → Err1 cM "most" (.int 60) H E) ∧
      (q.nm ∉ B.ns → B.ns.length < 60 → ∀ H', Bt [k, d] H H' → BankAt CB CQ H' b k r d (B.add q) → Q .non H')) ∨
    ∃ tb, TyX K H y tb ∧ PySem.W.kitOne K tb (.ref CQ) = some false ∧ Err1 cK "wanted" (.str "Question") H E)
def spPutB (K : PySem.W.Frag) (CB CQ cK cN : Addr) : Sp := fun vs H Q E => ∃ (b k r d : Addr) (B : BD) (y : V), vs = [.ref b, y] ∧ BankAt CB CQ H b k r d B ∧ B.ns.length ≤ 1000 ∧
  ((∃ x q, y = .ref x ∧ QI CQ H x q ∧ Thg H (.str q.nm) ∧ (q.nm ∉ B.ns → Err1 cN "name" (.str q.nm) H E) ∧
      (q.nm ∈ B.ns → ∀ H', Bt [k] H H' → BankAt CB CQ H' b k r d (B.put q) → Q .non H')) ∨
    ∃ tb, TyX K H y tb ∧ PySem.W.kitOne K tb (.ref CQ) = some false ∧ Err1 cK "wanted" (.str "Question") H E)
def spOutB (CB CQ cN cX : Addr) : Sp := fun vs H Q E => ∃ (b k r d : Addr) (B : BD) (y z : V), vs = [.ref b, y, z] ∧ BankAt CB CQ H b k r d B ∧ B.os.length ≤ 1000 ∧ Thg H z ∧
  KnownV H B y cN (fun n => (∀ t, z = .str t → textT t = true → ∀ H', Bt [r] H H' → BankAt CB CQ H' b k r d (B.out n t) → Q .non H') ∧ (textV z = false → ∀ H', Same H H' → E (.ref cX) none H')) E
def spDroppedB (CB CQ cN : Addr) : Sp := fun vs H Q E => ∃ (b k r d : Addr) (B : BD) (y : V), vs = [.ref b, y] ∧ BankAt CB CQ H b k r d B ∧ (∀ n ∈ B.os, n ∈ B.ns) ∧
  KnownV H B y cN (fun n => ∀ H', Bt [k, r, d] H H' → BankAt CB CQ H' b k r d (B.drop n) → Q .non H') E
def spNamesB (CB CQ : Addr) : Sp := fun vs H Q _ => ∃ (b k r d : Addr) (B : BD), vs = [.ref b] ∧ BankAt CB CQ H b k r d B ∧ B.ns.length < 64 ∧ ∀ (p : Addr) (H' : Hp), Same H H' → H p = none → H' p = some (.lst ((srt B.ns).map V.str)) → Q (.ref p) H'
/-- those that are in -/
def BD.ins (B : BD) : List Str := (srt B.ns).filter fun n => !decide (n ∈ B.os)
def spNamesInB (CB CQ : Addr) : Sp := fun vs H Q _ => ∃ (b k r d : Addr) (B : BD), vs = [.ref b] ∧ BankAt CB CQ H b k r d B ∧ B.ns.length < 64 ∧ ∀ (p : Addr) (H' : Hp), Same H H' → H p = none → H' p = some (.lst (B.ins.map V.str)) → Q (.ref p) H'
def spLenB (CB CQ : Addr) : Sp := fun vs H Q _ => ∃ (b k r d : Addr) (B : BD), vs = [.ref b] ∧ BankAt CB CQ H b k r d B ∧ B.ns.length < 64 ∧ ∀ H', Same H H' → Q (.int B.ins.length) H'
/-- a list of pairs of texts -/
def PairsAt (H : Hp) (p : Addr) (ps : List (Str × Str)) : Prop := ∃ as : List Addr, H p = some (.lst (as.map V.ref)) ∧ as.length = ps.length ∧ ∀ (i : Nat) (a : Addr) (q : Str × Str), as[i]? = some a → ps[i]? = some q → H a = some (.tup [.str q.1, .str q.2])
def spOutsB (CB CQ : Addr) : Sp := fun vs H Q _ => ∃ (b k r d : Addr) (B : BD), vs = [.ref b] ∧ BankAt CB CQ H b k r d B ∧ B.os.length < 64 ∧ ∀ (p : Addr) (H' : Hp), Same H H' → H p = none → PairsAt H' p ((srt B.os).map fun n => (n, B.g n)) → Q (.ref p) H'
def spQuestionB (CB CQ cN : Addr) : Sp := fun vs H Q E => ∃ (b k r d : Addr) (B : BD) (y : V), vs = [.ref b, y] ∧ BankAt CB CQ H b k r d B ∧ KnownV H B y cN (fun n => ∀ x, QI CQ H x (B.f n) → Q (.ref x) H) E
def spDaysOfB (CB CQ cN : Addr) : Sp := fun vs H Q E => ∃ (b k r d : Addr) (B : BD) (y : V), vs = [.ref b, y] ∧ BankAt CB CQ H b k r d B ∧ KnownV H B y cN (fun n => ∀ (p : Addr) (H' : Hp), Same H H' → H p = none → H' p = some (.lst ((B.h n).map .int)) → Q (.ref p) H') E
/-- what stands first of each -/
def firsts : List Str → List Str
  | [] => []
  | x :: r => x :: (firsts r).filter fun y => decide (y ≠ x)
def counted (ms : List Str) : List (Str × Int) := (firsts ms).map fun m => (m, (ms.count m : Int))
def BD.ms (B : BD) : List Str := srt (B.ins.map fun n => (B.f n).mt)
def spMattersB (CB CQ : Addr) : Sp := fun vs H Q _ => ∃ (b k r d : Addr) (B : BD), vs = [.ref b] ∧ BankAt CB CQ H b k r d B ∧ GoodB B ∧ ∀ (p : Addr) (H' : Hp), Same H H' → H p = none → H' p = some (.dK (tiKv (counted B.ms))) → Q (.ref p) H'
/-! ### things handed in -/
inductive Bad where
  | kind | many | twice (n : Str)
def BadE (cK cT cM : Addr) (H : Hp) (E : XK) : Bad → Prop
  | .kind => Err1 cK "wanted" (.str "Question") H E
  | .many => Err1 cM "most" (.int 60) H E
  | .twice n => Err1 cT "name" (.str n) H E
def runB (B : BD) : List (Option QD) → BD ⊕ Bad
  | [] => .inl B
  | none :: _ => .inr .kind
  | some q :: r => if q.nm ∈ B.ns then .inr (.twice q.nm) else if 60 ≤ B.ns.length then .inr .many else runB (B.add q) r
/-- a thing is a question, or is none, whatever else comes -/
def ThB (K : PySem.W.Frag) (CQ : Addr) (H : Hp) (v : V) : Option QD → Prop
  | some q => ∃ x, v = .ref x ∧ QI CQ H x q
  | none => ∃ tb, (∀ G, Same H G → TyX K G v tb) ∧ PySem.W.kitOne K tb (.ref CQ) = some false
theorem ThB.same {K : PySem.W.Frag} {CQ : Addr} {H H' : Hp} {v : V} {t : Option QD} (h : ThB K CQ H v t) (s : Same H H') : ThB K CQ H' v t := by
  cases t with
  | some q =>
    obtain ⟨x, e, q⟩ := h
    exact ⟨x, e, q.same s⟩
  | none =>
    obtain ⟨tb, h1, h2⟩ := h
    exact ⟨tb, fun G k => h1 G (s.trans k), h2⟩
def ListV (K : PySem.W.Frag) (CQ : Addr) (H : Hp) (y : V) (ts : List (Option QD)) : Prop := (y = .non ∧ ts = []) ∨ ∃ (a : Addr) (vs : List V), y = .ref a ∧ ((∃ (T : String), TyX K H y (.type T) ∧ T = "list" ∧ SqL K H a vs) ∨ (∃ (T : String), TyX K H y (.type T) ∧ T = "tuple" ∧ SqT K H a vs)) ∧ vs.length = ts.length ∧ ∀ (i : Nat) (v : V) (t : Option QD), vs[i]? = some v → ts[i]? = some t → ThB K CQ H v t
end Pk
namespace Pk
open PySem L2
/-! ### questions.py -/
section
variable {P : Program} {w : World} {K : PySem.W.Frag} {mg : Str → Option Value} {base : Heap}
theorem scQInit : FnScope psQ psQ (defScope sQInit) := ⟨rfl, rfl, rfl, by decide +kernel, rfl, by decide +kernel, by decide +kernel⟩
theorem ok_qInit {f fN fW fA fE CQ cE fI : Addr} {fd fdN fdW fdA fdE : FuncData} (F : FunD K "__init__" "Question.__init__" (defArgs sQInit) (defBody sQInit) (defScope sQInit) dvQ [] f fd)
    (T : Of_part.Tx K mg "BadQuestion" "BadQuestion.__init__" cE fI "ValueError" "ValueError.__new__" "ValueError.__init__" VaLine) (C : QCls K CQ)
    (GN : FnOk P w K mg base CX0 1 fN fdN ["thing"] spIsName) (kN : PySem.W.keepIn K (.ref fN) = true) (bN : Binds K fdN ["thing"] []) (gN : mg "is_name" = some (.ref fN))
    (GA : FnOk P w K mg base CX0 3 fA fdA ["thing"] spAreAnswers) (kA : PySem.W.keepIn K (.ref fA) = true) (bA : Binds K fdA ["thing"] []) (gA : mg "are_answers" = some (.ref fA))
    (GW : FnOk P w K mg base CX0 2 fW fdW ["thing", "least", "most"] spIsWhole) (kW : PySem.W.keepIn K (.ref fW) = true) (bW : ∃ ds, Vals ([] : List V) ds ∧ Binds K fdW ["thing", "least", "most"] ds) (gW : mg "is_whole" = some (.ref fW))
    (GE : FnOk P w K mg base CX0 2 fE fdE ["thing"] spIsNameE) (kE : PySem.W.keepIn K (.ref fE) = true) (bE : Binds K fdE ["thing"] []) (gE : mg "is_name_or_empty" = some (.ref fE))
    (ml : mg "len" = none) (mt : mg "tuple" = none) : FnOk P w K mg base (L2.CX P w) 5 f fd psQ (spQInit CQ cE) := by
  obtain ⟨ds, hds, bW⟩ := bW
  refine F.ok scQInit (fun vs H Q E h => ?_) (fun cdv A outer s H vs Q E hr h => ?_)
  · obtain ⟨x, dx, nm, mt, an, ri, to, ma, ki, rfl, _⟩ := h
    rfl
  · obtain ⟨x, dx, nm, mtr, an, ri, to, ma, ki, rfl, hx, hp, q⟩ := h
    have r1 : Room 1 _ := hr.mono (by decide)
    have r2 : Room 2 _ := hr.mono (by decide)
    have r3 : Room 3 _ := hr.mono (by decide)
    refine ⟨_, pss_cons (ps_if (pt_not (pt_val (pe_call GN r1 (by rfl) gN kN bN .nil pass0 (pa_cons (pv 1) pa_nil)))) (pss_one (ps_raise_part rfl T hr (takes_of rfl rfl rfl rfl) (by exact (pa_cons pe_str pa_nil)))) pss_nil)
      (pss_cons (ps_if (pt_not (pt_val (pe_call GN r1 (by rfl) gN kN bN .nil pass0 (pa_cons (pv 2) pa_nil)))) (pss_one (ps_raise_part rfl T hr (takes_of rfl rfl rfl rfl) (by exact (pa_cons pe_str pa_nil)))) pss_nil)
      (pss_cons (ps_if (pt_not (pt_val (pe_call GA r3 (by rfl) gA kA bA .nil pass0 (pa_cons (pv 3) pa_nil)))) (pss_one (ps_raise_part rfl T hr (takes_of rfl rfl rfl rfl) (by exact (pa_cons pe_str pa_nil)))) pss_nil)
      (pss_cons (ps_if (pt_not (pt_val (pe_call GW r2 (by rfl) gW kW bW hds pass0 (pa_cons (pv 4) (pa_cons pe_int (pa_cons (pe_op op_sub (pe_callB call_len_seq (by rfl) ml PySem.boot_len (pa_cons (pv 3) pa_nil)) pe_int) pa_nil)))))) (pss_one (ps_raise_part rfl T hr (takes_of rfl rfl rfl rfl) (by exact (pa_cons pe_str pa_nil)))) pss_nil)
      (pss_cons (ps_if (pt_not (pt_val (pe_call GW r2 (by rfl) gW kW bW hds pass0 (pa_cons (pv 5) (pa_cons pe_int (pa_cons pe_int pa_nil)))))) (pss_one (ps_raise_part rfl T hr (takes_of rfl rfl rfl rfl) (by exact (pa_cons pe_str pa_nil)))) pss_nil)
      (pss_cons (ps_if (pt_not (pt_val (pe_call GW r2 (by rfl) gW kW bW hds pass0 (pa_cons (pv 6) (pa_cons pe_int (pa_cons pe_int pa_nil)))))) (pss_one (ps_raise_part rfl T hr (takes_of rfl rfl rfl rfl) (by exact (pa_cons pe_str pa_nil)))) pss_nil)
      (pss_cons (ps_if (pt_not (pt_val (pe_call GE r2 (by rfl) gE kE bE .nil pass0 (pa_cons (pv 7) pa_nil)))) (pss_one (ps_raise_part rfl T hr (takes_of rfl rfl rfl rfl) (by exact (pa_cons pe_str pa_nil)))) pss_nil)
      (pss_cons (ps_fld (pv 0) (pv 1) rfl)
      (pss_cons (ps_fld (pv 0) (pv 2) rfl)
      (pss_cons (ps_fld (pv 0) (pe_callTy call_tupleT (by rfl) mt PyProof.Rows.boot_tuple (pa_cons (pv 3) pa_nil)) rfl)
      (pss_cons (ps_fld (pv 0) (pv 4) rfl)
      (pss_cons (ps_fld (pv 0) (pv 5) rfl)
      (pss_cons (ps_fld (pv 0) (pv 6) rfl)
      (pss_one (ps_fld (pv 0) (pv 7) rfl)))))))))))))), ?_⟩
    have bad : ∀ {wd : Str}, wrongP H nm mtr an ri to ma ki = wd → wd ≠ "" → ∀ {H' : Hp}, Same H H' → ∀ d, H' d = none → E (.ref cE) (some d) (upd H' d (.xd [(("part" : Str), .str wd)])) := fun {wd} e n {H'} s' d hd => by
      have := (q H' s').2 (by rw [e]; exact n) d hd
      rw [e] at this
      exact this
    refine ⟨_, rfl, nm, rfl, hp.nm, fun H1 s1 => ⟨_, rfl, ?_⟩⟩
    cases h1 : nameV nm with
    | false => exact iteT ⟨_, rfl, fun d hd => bad (by unfold wrongP; rw [if_pos h1]) (by decide) s1 d hd⟩
    | true =>
    refine iteF ⟨_, rfl, mtr, rfl, hp.mt.same s1, fun H2 s2 => ⟨_, rfl, ?_⟩⟩
    have s12 : Same H H2 := s1.trans s2
    cases h2 : nameV mtr with
    | false => exact iteT ⟨_, rfl, fun d hd => bad (by unfold wrongP; rw [if_neg (by rw [h1]; decide), if_pos h2]) (by decide) s12 d hd⟩
    | true =>
    refine iteF ⟨_, rfl, an, rfl, (hp.an.same s12).1, (hp.an.same s12).2, fun H3 s3 => ⟨_, rfl, ?_⟩⟩
    have s13 : Same H H3 := s12.trans s3
    have e3 : answersV H2 an = answersV H an := by
      unfold answersV
      rw [hp.an.1.tupS s12]
    rw [e3]
    cases h3 : answersV H an with
    | false => exact iteT ⟨_, rfl, fun d hd => bad (by unfold wrongP; rw [if_neg (by rw [h1]; decide), if_neg (by rw [h2]; decide), if_pos h3]) (by decide) s13 d hd⟩
    | true =>
    have ht : ∃ ws, tupV H an = some ws := by
      unfold answersV at h3
      cases e : tupV H an with
      | none => rw [e] at h3; cases h3
      | some ws => exact ⟨ws, rfl⟩
    obtain ⟨ws, ht⟩ := ht
    obtain ⟨a, rfl, ha⟩ := tupV_of ht
    have hm : manyV H (.ref a) = (ws.length : Int) := by
      unfold manyV
      rw [ht]
      rfl
    refine iteF ⟨_, rfl, _, rfl, a, ws, rfl, .inr (SqT.of (s13 _ _ ha)), _, _, rfl, rfl, ri, 0, _, rfl, hp.ri.same s13, _, rfl, ?_⟩
    cases h4 : whole ri 0 (manyV H (.ref a) - 1) with
    | false =>
      rw [hm] at h4
      rw [h4]
      exact iteT ⟨_, rfl, fun d hd => bad (by unfold wrongP; rw [if_neg (by rw [h1]; decide), if_neg (by rw [h2]; decide), if_neg (by rw [h3]; decide), if_pos (by rw [hm]; exact h4)]) (by decide) s13 d hd⟩
    | true =>
    have h4' := h4
    rw [hm] at h4'
    rw [h4']
    refine iteF ⟨_, rfl, to, 1, 9, rfl, hp.to.same s13, _, rfl, ?_⟩
    cases h5 : whole to 1 9 with
    | false => exact iteT ⟨_, rfl, fun d hd => bad (by unfold wrongP; rw [if_neg (by rw [h1]; decide), if_neg (by rw [h2]; decide), if_neg (by rw [h3]; decide), if_neg (by rw [h4]; decide), if_pos h5]) (by decide) s13 d hd⟩
    | true =>
    refine iteF ⟨_, rfl, ma, 1, 9, rfl, hp.ma.same s13, _, rfl, ?_⟩
    cases h6 : whole ma 1 9 with
    | false => exact iteT ⟨_, rfl, fun d hd => bad (by unfold wrongP; rw [if_neg (by rw [h1]; decide), if_neg (by rw [h2]; decide), if_neg (by rw [h3]; decide), if_neg (by rw [h4]; decide), if_neg (by rw [h5]; decide), if_pos h6]) (by decide) s13 d hd⟩
    | true =>
    refine iteF ⟨_, rfl, ki, rfl, hp.ki.same s13, fun H4 s4 => ⟨_, rfl, ?_⟩⟩
    have s14 : Same H H4 := s13.trans s4
    cases h7 : nameE ki with
    | false => exact iteT ⟨_, rfl, fun d hd => bad (by unfold wrongP; rw [if_neg (by rw [h1]; decide), if_neg (by rw [h2]; decide), if_neg (by rw [h3]; decide), if_neg (by rw [h4]; decide), if_neg (by rw [h5]; decide), if_neg (by rw [h6]; decide), if_pos h7]) (by decide) s14 d hd⟩
    | true =>
    have good := (q H4 s14).1 (by unfold wrongP; rw [if_neg (by rw [h1]; decide), if_neg (by rw [h2]; decide), if_neg (by rw [h3]; decide), if_neg (by rw [h4]; decide), if_neg (by rw [h5]; decide), if_neg (by rw [h6]; decide), if_neg (by rw [h7]; decide)])
    have ax : a ≠ x := fun e => by
      rw [e, hx] at ha
      cases ha
    have ha4 := s14 _ _ ha
    rw [← qFs_put] at good
    refine iteF ⟨_, rfl, _, rfl, x, CQ, dx, _, rfl, s14 _ _ hx, C.cls, C.no _ (by decide), by decide, ?_⟩
    refine ⟨_, rfl, _, rfl, x, CQ, dx, _, rfl, upd_same, C.cls, C.no _ (by decide), Nat.lt_of_le_of_lt (put_le (Nat.le_refl 0)) (by decide), ?_⟩
    refine ⟨_, rfl, a, ws, rfl, ?_, _, rfl, x, CQ, dx, _, rfl, upd_same, C.cls, C.no _ (by decide), Nat.lt_of_le_of_lt (put_le (put_le (Nat.le_refl 0))) (by decide), ?_⟩
    · exact SqT.of (by rw [upd_ne ax, upd_ne ax]; exact ha4)
    refine ⟨_, rfl, _, rfl, x, CQ, dx, _, rfl, upd_same, C.cls, C.no _ (by decide), Nat.lt_of_le_of_lt (put_le (put_le (put_le (Nat.le_refl 0)))) (by decide), ?_⟩
    refine ⟨_, rfl, _, rfl, x, CQ, dx, _, rfl, upd_same, C.cls, C.no _ (by decide), Nat.lt_of_le_of_lt (put_le (put_le (put_le (put_le (Nat.le_refl 0))))) (by decide), ?_⟩
    refine ⟨_, rfl, _, rfl, x, CQ, dx, _, rfl, upd_same, C.cls, C.no _ (by decide), Nat.lt_of_le_of_lt (put_le (put_le (put_le (put_le (put_le (Nat.le_refl 0)))))) (by decide), ?_⟩
    refine ⟨_, rfl, _, rfl, x, CQ, dx, _, rfl, upd_same, C.cls, C.no _ (by decide), Nat.lt_of_le_of_lt (put_le (put_le (put_le (put_le (put_le (put_le (Nat.le_refl 0))))))) (by decide), ?_⟩
    rw [upd_upd, upd_upd, upd_upd, upd_upd, upd_upd, upd_upd]
    exact good
theorem scQEq : FnScope ["self", "other"] ["self", "other"] (defScope sQEq) := ⟨rfl, rfl, rfl, by decide +kernel, rfl, by decide +kernel, by decide +kernel⟩
theorem ok_qEq {f CQ : Addr} {fd : FuncData} (F : Fun K "__eq__" "Question.__eq__" sQEq f fd) (C : QCls K CQ) (CT : QTy K CQ) (mi : mg "isinstance" = none) (gQ : mg "Question" = some (.ref CQ)) : FnOk P w K mg base CX0 2 f fd ["self", "other"] (spQEq K CQ) := by
  refine F.ok scQEq (fun vs H Q E h => ?_) (fun cdv A outer s H vs Q E hr h => ?_)
  · obtain ⟨x, y, q1, rfl, _⟩ := h
    rfl
  · obtain ⟨x, y, q1, rfl, ⟨dx, a, hx, ha, oa⟩, h⟩ := h
    have hu : _ + 64 < cLine := Nat.lt_of_le_of_lt (Nat.add_le_add_left (by decide) _) (room_show hr)
    refine ⟨_, pss_one (ps_ret (pe_and (pe_callB call_isi (by rfl) mi (by decide +kernel) (pa_cons (pv 1) (pa_cons (pe_glob (v := .ref CQ) (by rfl) gQ rfl (by decide)) pa_nil)))
      (pe_and (pe_cmpR op_eq (pe_fld (pv 0) rfl) (pe_fld (pv 1) rfl) (nomark _)) (pe_and (pe_cmpR op_eq (pe_fld (pv 0) rfl) (pe_fld (pv 1) rfl) (nomark _)) (pe_and (pe_cmpR (op_eqD hu) (pe_fld (pv 0) rfl) (pe_fld (pv 1) rfl) (by rfl))
      (pe_and (pe_cmpR op_eq (pe_fld (pv 0) rfl) (pe_fld (pv 1) rfl) (nomark _)) (pe_and (pe_cmpR op_eq (pe_fld (pv 0) rfl) (pe_fld (pv 1) rfl) (nomark _)) (pe_and (pe_cmpR op_eq (pe_fld (pv 0) rfl) (pe_fld (pv 1) rfl) (nomark _)) (pe_one (pe_cmpR op_eq (pe_fld (pv 0) rfl) (pe_fld (pv 1) rfl) (nomark _))))))))))), ?_⟩
    rcases h with ⟨z, q2, rfl, ⟨dz, b, hz, hb, ob⟩, q⟩ | ⟨tb, ty, kt, q⟩
    · refine ⟨_, rfl, _, _, _, _, true, rfl, .own _, .base (.ins hz C.cls CT.ha CT.hn CT.ht CT.hm), CT.hk, _, rfl, iteT ?_⟩
      have no : ∀ {α : Type} (g : QD → α), g q1 ≠ g q2 → Q (.bl false) H := fun g hg => by
        rw [decide_eq_false (fun e => hg (by rw [e]))] at q
        exact q
      refine ⟨_, rfl, x, CQ, dx, _, _, rfl, hx, C.cls, C.no _ (by decide), look_name _ _ _ _ _ _ _, _, rfl, z, CQ, dz, _, _, rfl, hz, C.cls, C.no _ (by decide), look_name _ _ _ _ _ _ _, rfl, _, rfl, ?_⟩
      by_cases h0 : q1.nm = q2.nm
      case neg => exact iteF' (by simpa using h0) (no QD.nm h0)
      refine iteT' (by simp [h0]) ?_
      refine ⟨_, rfl, x, CQ, dx, _, _, rfl, hx, C.cls, C.no _ (by decide), look_matter _ _ _ _ _ _ _, _, rfl, z, CQ, dz, _, _, rfl, hz, C.cls, C.no _ (by decide), look_matter _ _ _ _ _ _ _, rfl, _, rfl, ?_⟩
      by_cases h1 : q1.mt = q2.mt
      case neg => exact iteF' (by simpa using h1) (no QD.mt h1)
      refine iteT' (by simp [h1]) ?_
      refine ⟨_, rfl, x, CQ, dx, _, _, rfl, hx, C.cls, C.no _ (by decide), look_answers _ _ _ _ _ _ _, _, rfl, z, CQ, dz, _, _, rfl, hz, C.cls, C.no _ (by decide), look_answers _ _ _ _ _ _ _, .tuple (q1.ws.map .str), .tuple (q2.ws.map .str), .tup (SqT.of ha) (strs_dpA _), .tup (SqT.of hb) (strs_dpA _), strs_shapedT oa, strs_shapedT ob, _, rfl, ?_⟩
      have ev : PyData.eqv (.tuple (q1.ws.map .str)) (.tuple (q2.ws.map .str)) = decide (q1.ws = q2.ws) := by
        rw [← strs_eqvA]
        simp [PyData.eqv]
      rw [ev]
      by_cases h2 : q1.ws = q2.ws
      case neg => exact iteF' (by simpa using h2) (no QD.ws h2)
      refine iteT' (by simp [h2]) ?_
      refine ⟨_, rfl, x, CQ, dx, _, _, rfl, hx, C.cls, C.no _ (by decide), look_right _ _ _ _ _ _ _, _, rfl, z, CQ, dz, _, _, rfl, hz, C.cls, C.no _ (by decide), look_right _ _ _ _ _ _ _, rfl, _, rfl, ?_⟩
      by_cases h3 : q1.ri = q2.ri
      case neg => exact iteF' (by simpa using h3) (no QD.ri h3)
      refine iteT' (by simp [h3]) ?_
      refine ⟨_, rfl, x, CQ, dx, _, _, rfl, hx, C.cls, C.no _ (by decide), look_toil _ _ _ _ _ _ _, _, rfl, z, CQ, dz, _, _, rfl, hz, C.cls, C.no _ (by decide), look_toil _ _ _ _ _ _ _, rfl, _, rfl, ?_⟩
      by_cases h4 : q1.tl = q2.tl
      case neg => exact iteF' (by simpa using h4) (no QD.tl h4)
      refine iteT' (by simp [h4]) ?_
      refine ⟨_, rfl, x, CQ, dx, _, _, rfl, hx, C.cls, C.no _ (by decide), look_marks _ _ _ _ _ _ _, _, rfl, z, CQ, dz, _, _, rfl, hz, C.cls, C.no _ (by decide), look_marks _ _ _ _ _ _ _, rfl, _, rfl, ?_⟩
      by_cases h5 : q1.ma = q2.ma
      case neg => exact iteF' (by simpa using h5) (no QD.ma h5)
      refine iteT' (by simp [h5]) ?_
      refine ⟨_, rfl, x, CQ, dx, _, _, rfl, hx, C.cls, C.no _ (by decide), look_kin _ _ _ _ _ _ _, _, rfl, z, CQ, dz, _, _, rfl, hz, C.cls, C.no _ (by decide), look_kin _ _ _ _ _ _ _, rfl, ?_⟩
      have e : decide (q1 = q2) = decide (V.str q1.ki = V.str q2.ki) := by
        obtain ⟨a1, a2, a3, a4, a5, a6, a7⟩ := q1
        obtain ⟨b1, b2, b3, b4, b5, b6, b7⟩ := q2
        dsimp only at h0 h1 h2 h3 h4 h5 ⊢
        subst h0 h1 h2 h3 h4 h5
        simp
      rw [e] at q
      exact q
    · exact ⟨_, rfl, _, _, tb, _, false, rfl, .own _, ty, kt, _, rfl, iteF q⟩
end
abbrev FunQ (K : PySem.W.Frag) (f : Addr) (fd : FuncData) : Prop := FunD K "__init__" "Question.__init__" (defArgs sQInit) (defBody sQInit) (defScope sQInit) dvQ [] f fd
section
variable {K : PySem.W.Frag} {f : Addr} {fd : FuncData}
def gQR {α : Type} (us _its ws : List α) : List α := us ++ ws
theorem kQR (F : FunQ K f fd) : ∃ its : List Value, KBn K fd psQ 4 ["right", "toil", "marks", "kin"] (fun us ws => gQR us its ws) (fun vs zs => gQR vs dvQ zs) :=
  kbnD F 4 ["right", "toil", "marks", "kin"] gQR (fun z => nomatch z) (fun r1 _ r3 => r1.append r3)
    fun T kV doc pm an cdv ct us its ws l1 l2 l3 => match us, its, ws, l1, l2, l3 with
    | [_, _, _, _], [_, _, _, _], [_, _, _, _], _, _, _ => ⟨_, rfl, rfl⟩
end
abbrev TyLine : List Value := [.type "TypeError", .type "Exception", .type "BaseException", .type "object"]
abbrev TxK (K : PySem.W.Frag) (mg : Str → Option Value) (C fI : Addr) : Prop := Er_wanted.Tx K mg "BadKind" "BadKind.__init__" C fI "TypeError" "TypeError.__new__" "TypeError.__init__" TyLine
section
variable {P : Program} {w : World} {K : PySem.W.Frag} {mg : Str → Option Value} {base : Heap}
theorem scNeedQ : FnScope ["thing"] ["thing"] (defScope sNeedQ) := ⟨rfl, rfl, rfl, by decide +kernel, rfl, by decide +kernel, by decide +kernel⟩
theorem ok_needQ {f CQ cK fJ : Addr} {fd : FuncData} (F : Fun K "need_question" "need_question" sNeedQ f fd) (O : OTy K CQ) (TK : TxK K mg cK fJ) (mi : mg "isinstance" = none) (gQ : mg "Question" = some (.ref CQ)) : FnOk P w K mg base (L2.CX P w) 3 f fd ["thing"] (spNeedQ K CQ cK) := by
  refine F.okX scNeedQ (fun vs H Q E h => ?_) (fun cdv A outer s H vs Q E hr h => ?_)
  · obtain ⟨y, rfl, _⟩ := h
    rfl
  · obtain ⟨y, rfl, h⟩ := h
    refine ⟨_, pss_one (ps_if (pt_not (pt_val (pe_callB call_isi (by rfl) mi (by decide +kernel) (pa_cons (pv 0) (pa_cons (pe_glob (v := .ref CQ) (by rfl) gQ rfl (by decide)) pa_nil))))) (pss_one (ps_raiseE_wanted rfl TK hr (takes_of rfl rfl rfl rfl) (by exact (pa_cons pe_str pa_nil)))) pss_nil), ?_⟩
    rcases h with ⟨x, q, rfl, ⟨dx, a, hx, _⟩, k⟩ | ⟨tb, ty, kt, k⟩
    · exact ⟨_, rfl, _, _, _, _, true, rfl, .own _, O.ty hx, O.hk, _, rfl, iteF k⟩
    · exact ⟨_, rfl, _, _, tb, _, false, rfl, .own _, ty, kt, _, rfl, iteT ⟨_, rfl, fun d hd => k d _ (same_upd hd) upd_same⟩⟩
end
end Pk
namespace Pk
open PySem L2
/-! ### methods called by keywords alone; calls that let nothing out -/
section
variable {X : Cx} {CX : CXT} {k : Nat} {f C : Addr} {fd : FuncData} {ps ks : List Str} {sp : Sp} {E : XK} {m : Str} {p pos apos : Pos} {o : Expr} {ta : TE} {kws : List Keyword} {tk : TA} {g : List Value → List Value → List Value} {gV : List V → List V → List V}
theorem pass_no : Passes (L2.CX X.prog X.w) X E0 := fun _ _ _ _ _ _ _ ⟨_, _, _, _, _, _, _, _, _, _, _, _, h⟩ => h.elim
def tMethN (C : Addr) (m : Str) (nk : Nat) (sp : Sp) (gV : List V → List V → List V) (E : XK) (ta : TE) (tk : TA) : TE := fun σ H Q => ta σ H fun x H1 => ∃ a dx fs, x = .ref a ∧ H1 a = some (.ins C dx fs) ∧ fs.lookup m = none ∧ tk σ H1 fun zs H2 => zs.length = nk ∧ sp (gV [x] zs) H2 Q E
theorem pe_methN0 {pl : Sem Bool} (he : PE X o ta) (c : Cls X.K C) (hm : Meth X.K C m f) (F : FnOk X.prog X.w X.K X.mg X.base CX k f fd ps sp) (hr : Room k X.A) (hb : KBn X.K fd ps 1 ks g gV) (hx : Passes CX X E)
    (hkw : PK X kws tk) (hall : (backToKw pos (keywordEach kws X.env)).all (·.1.isSome) = true := by rfl) (hks : (backToKw pos (keywordEach kws X.env)).filterMap (·.1) = ks := by rfl)
    (hpl : ((backTo pos (starEach [] X.env)).any (·.1) || (backToKw pos (keywordEach kws X.env)).any (·.1.isNone)) = false := by rfl)
    (ht : eval (.Call (.Attribute o m apos) [] kws pos) X.env = (do
      let ov ← eval o X.env
      standAt apos.atName
      let (f, first) ← holding [ov] (getMethod ov m pl)
      callWith pos f first (backTo pos (starEach [] X.env)) (backToKw pos (keywordEach kws X.env))) := by rfl) :
    PE X (.Call (.Attribute o m apos) [] kws pos) (tMethN C m ks.length sp gV E ta tk) := by
  refine ⟨fun pins s σ H Q I h => ?_⟩
  refine PySem.W.methodCall_KW (pl := pl) (thn (he.run pins s σ H _ I h) fun u s1 ⟨x, H1, I1, rx, a, dx, fs, ex, ea, l, q⟩ => ?_) ht
  subst ex
  obtain rfl : u = Value.ref a := rx
  refine getmeth_ok I1 ea c hm l ?_
  refine PySem.W.callWith_KW0 (first := [.ref a]) (h₀ := X.base) I.ok.mod.kin hm.kp hall (thn (hkw.run pos pins s1 σ H1 _ I1 q) ?_) hpl
  rintro ws s2 ⟨zs, H2, I2, rz, l2, q2⟩
  refine ⟨I2.kIn, ?_⟩
  rw [hks]
  exact run_fnN (us := [.ref a]) (vs := [.ref a]) F hr hb hx I2 (.cons rfl .nil) rz rfl l2 q2
end
end Pk
namespace Pk
open PySem L2
/-! ### banks.py: the deeds -/
abbrev LkLine : List Value := [.type "LookupError", .type "Exception", .type "BaseException", .type "object"]
abbrev RuLine : List Value := [.type "RuntimeError", .type "Exception", .type "BaseException", .type "object"]
abbrev OvLine : List Value := [.type "OverflowError", .type "ArithmeticError", .type "Exception", .type "BaseException", .type "object"]
abbrev TxN (K : PySem.W.Frag) (mg : Str → Option Value) (C fI : Addr) : Prop := Er_name.Tx K mg "NoSuch" "NoSuch.__init__" C fI "LookupError" "LookupError.__new__" "LookupError.__init__" LkLine
abbrev TxT (K : PySem.W.Frag) (mg : Str → Option Value) (C fI : Addr) : Prop := Er_name.Tx K mg "Twice" "Twice.__init__" C fI "RuntimeError" "RuntimeError.__new__" "RuntimeError.__init__" RuLine
abbrev TxM (K : PySem.W.Frag) (mg : Str → Option Value) (C fI : Addr) : Prop := Er_most.Tx K mg "TooMany" "TooMany.__init__" C fI "OverflowError" "OverflowError.__new__" "OverflowError.__init__" OvLine
structure BadTxt (K : PySem.W.Frag) (mg : Str → Option Value) (C : Addr) : Prop where
  g : mg "BadText" = some (.ref C)
  x : PySem.W.excIn K C VaLine "ValueError.__new__" = true
  k : PySem.W.keepIn K (.ref C) = true
  b : PySem.W.subIn K (.ref C) (.type "BaseException") = some true
  t : PySem.W.typeIn K (.ref C) = some (.type "type")
section
variable {P : Program} {w : World} {K : PySem.W.Frag} {mg : Str → Option Value} {base : Heap} {CB CQ : Addr}
theorem scKnown : FnScope ["self", "name"] ["self", "name"] (defScope sBKnown) := ⟨rfl, rfl, rfl, by decide +kernel, rfl, by decide +kernel, by decide +kernel⟩
theorem ok_known {f cN fI : Addr} {fd : FuncData} (F : Fun K "need_known" "Bank.need_known" sBKnown f fd) (C : BCls K CB) (TN : TxN K mg cN fI) (mi : mg "isinstance" = none) (ms : mg "str" = none) : FnOk P w K mg base (L2.CX P w) 3 f fd ["self", "name"] (spKnown CB CQ cN) := by
  refine F.okX scKnown (fun vs H Q E h => ?_) (fun cdv A outer s H vs Q E hr h => ?_)
  · obtain ⟨b, k, r, d, B, y, rfl, _⟩ := h
    rfl
  · obtain ⟨b, k, r, d, B, y, rfl, hB, h⟩ := h
    have hu := hu_of hr
    refine ⟨_, pss_one (ps_if (PW.pt (pw_or (pt_not (pt_val (isb (i := 1) mi ms PyProof.Rows.boot_str))) (pw_or1 (pt_cmp (pc_dnotin hu (pv 1) (pe_fld (pv 0) rfl)))))) (pss_one (ps_raiseE_name rfl TN hr (takes_of rfl rfl rfl rfl) (by exact (pa_cons (pv 1) pa_nil)))) pss_nil), ?_⟩
    obtain ⟨dx, hb⟩ := hB.at_
    rcases h with ⟨n, hn, rfl, q⟩ | ⟨hn, ty, q⟩
    · obtain ⟨v, g, _⟩ := hB.kept.get hn
      exact ⟨_, rfl, _, _, _, _, true, rfl, .ty "str", .base (.str n), kit_ty (by decide +kernel : kitB "str" "str" = some true), _, rfl, iteF ⟨_, rfl, _, rfl, b, CB, dx, _, _, rfl, hb, C.cls, C.no _ (by decide), lb_kept _ _ _, k, _, rfl, g, _, rfl, iteF q⟩⟩
    · obtain ⟨t, ty', _, _, k3, _⟩ := ty.ty (K := K)
      refine ⟨_, rfl, _, _, _, _, _, rfl, .ty "str", ty', kit_ty k3, _, rfl, ?_⟩
      cases ty with
      | str z hl ho =>
        have nz : z ∉ B.ns := fun z' => hn z z' rfl
        exact iteF ⟨_, rfl, _, rfl, b, CB, dx, _, _, rfl, hb, C.cls, C.no _ (by decide), lb_kept _ _ _, k, _, rfl, hB.kept.none nz, _, rfl, iteT ⟨_, rfl, _, rfl, fun d hd => q d _ (same_upd hd) upd_same⟩⟩
      | non => exact iteT ⟨_, rfl, _, rfl, fun d hd => q d _ (same_upd hd) upd_same⟩
      | bl _ => exact iteT ⟨_, rfl, _, rfl, fun d hd => q d _ (same_upd hd) upd_same⟩
      | int _ => exact iteT ⟨_, rfl, _, rfl, fun d hd => q d _ (same_upd hd) upd_same⟩
      | lst _ => exact iteT ⟨_, rfl, _, rfl, fun d hd => q d _ (same_upd hd) upd_same⟩
      | tup _ => exact iteT ⟨_, rfl, _, rfl, fun d hd => q d _ (same_upd hd) upd_same⟩
      | dct _ => exact iteT ⟨_, rfl, _, rfl, fun d hd => q d _ (same_upd hd) upd_same⟩
/-! ### what becomes of a bank -/
theorem BankAt.keptE {H : Hp} {b k r d : Addr} {B : BD} (h : BankAt CB CQ H b k r d B) : ∃ kvs, H k = some (.dK kvs) ∧ TbK kvs B.ns (RKept CQ H B.f) := h.kept
theorem small60 {kvs : List (Key × V)} {ns : List Str} {R : Str → V → Prop} (h : TbK kvs ns R) (l : ns.length ≤ 1000) : kvs.length < sizeLine := by
  rw [h.len, sizeLine_eq]
  omega
theorem QI.off {H : Hp} {x a : Addr} {q : QD} {o u : HO} (h : QI CQ H x q) (e : H a = some o) (n1 : ∀ C dx fs, o ≠ .ins C dx fs) (n2 : ∀ L, o ≠ .tup L) : QI CQ (upd H a u) x q := by
  obtain ⟨dx, c, h1, h2, h3⟩ := h
  exact ⟨dx, c, by rw [upd_ne (fun z => by subst z; rw [e] at h1; cases h1; exact n1 _ _ _ rfl)]; exact h1, by rw [upd_ne (fun z => by subst z; rw [e] at h2; cases h2; exact n2 _ rfl)]; exact h2, h3⟩
theorem BankAt.addB {H : Hp} {b k r d x : Addr} {B : BD} {q : QD} (h : BankAt CB CQ H b k r d B) (hq : QI CQ H x q) (hn : q.nm ∉ B.ns) {kk kd : List (Key × V)} (ek : H k = some (.dK kk)) (ed : H d = some (.dK kd)) {l : Addr} (nl : H l = none) :
    BankAt CB CQ (upd (upd (upd H k (.dK (putK kk (.inr q.nm) (.ref x)))) l (.lst [])) d (.dK (putK kd (.inr q.nm) (.ref l)))) b k r d (B.add q) ∧ Bt [k, d] H (upd (upd (upd H k (.dK (putK kk (.inr q.nm) (.ref x)))) l (.lst [])) d (.dK (putK kd (.inr q.nm) (.ref l)))) := by
  have lk : l ≠ k := fun z => by subst z; rw [ek] at nl; cases nl
  have ld : l ≠ d := fun z => by subst z; rw [ed] at nl; cases nl
  generalize hG : upd (upd (upd H k (.dK (putK kk (.inr q.nm) (.ref x)))) l (.lst [])) d (.dK (putK kd (.inr q.nm) (.ref l))) = G
  have gk : G k = some (.dK (putK kk (.inr q.nm) (.ref x))) := by rw [← hG, upd_ne h.kd, upd_ne (Ne.symm lk), upd_same]
  have gd : G d = some (.dK (putK kd (.inr q.nm) (.ref l))) := by rw [← hG, upd_same]
  have gl : G l = some (.lst []) := by rw [← hG, upd_ne ld, upd_same]
  have go : ∀ {a : Addr} {o : HO}, a ≠ k → a ≠ d → H a = some o → G a = some o := fun {a o} n1 n2 e => by
    rw [← hG, upd_ne n2, upd_ne (fun z => by subst z; rw [nl] at e; cases e), upd_ne n1]
    exact e
  have gi : ∀ {a : Addr} {o : HO}, (∀ kvs, o ≠ .dK kvs) → H a = some o → G a = some o := fun {a o} n e => go (fun z => by subst z; rw [ek] at e; cases e; exact n _ rfl) (fun z => by subst z; rw [ed] at e; cases e; exact n _ rfl) e
  have gq : ∀ {a : Addr} {q : QD}, QI CQ H a q → QI CQ G a q := fun {a q} z => z.by fun a o n _ e => gi n e
  obtain ⟨dx, hb⟩ := h.at_
  obtain ⟨kk', ek', tk⟩ := h.kept
  obtain ⟨kd', ed', td⟩ := h.days
  rw [ek] at ek'
  cases ek'
  rw [ed] at ed'
  cases ed'
  obtain ⟨kr, er, tr⟩ := h.outs
  refine ⟨⟨⟨dx, gi (fun _ z => nomatch z) hb⟩, ⟨_, gk, ?_⟩, ⟨kr, go (Ne.symm h.kr) h.rd er, tr⟩, ⟨_, gd, ?_⟩, h.kr, h.kd, h.rd⟩, fun a o n e => ?_⟩
  · have z := tk.put (n := q.nm) (v := .ref x) (R' := RKept CQ G (B.add q).f) (fun m _ ne v ⟨y, e, qi⟩ => ⟨y, e, by show QI CQ G y (upF B.f q.nm q m); rw [upF_ne ne]; exact gq qi⟩) ⟨x, rfl, by show QI CQ G x (upF B.f q.nm q q.nm); rw [upF_at]; exact gq hq⟩
    rw [putN_new hn] at z
    exact z
  · have z := td.put (n := q.nm) (v := .ref l) (R' := RDays G (B.add q).h) (fun m _ ne v ⟨y, e, hy⟩ => ⟨y, e, by show G y = some (.lst ((upF B.h q.nm [] m).map .int)); rw [upF_ne ne]; exact gi (fun _ z => nomatch z) hy⟩) ⟨l, rfl, by show G l = some (.lst ((upF B.h q.nm [] q.nm).map .int)); rw [upF_at]; exact gl⟩
    rw [putN_new hn] at z
    exact z
  · simp only [List.mem_cons, List.not_mem_nil, or_false, not_or] at n
    exact go n.1 n.2 e
theorem scAdded : FnScope ["self", "question"] ["self", "question"] (defScope sBAdded) := ⟨rfl, rfl, rfl, by decide +kernel, rfl, by decide +kernel, by decide +kernel⟩
theorem ok_added {f fN cK cT cM fI fJ : Addr} {fd fdN : FuncData} (F : Fun K "added" "Bank.added" sBAdded f fd) (C : BCls K CB) (CC : QCls K CQ) (TT : TxT K mg cT fI) (TM : TxM K mg cM fJ) (ml : mg "len" = none) (g60 : ∃ t, mg "MOST_QUESTIONS" = some (.int 60 t))
    (GN : FnOk P w K mg base (L2.CX P w) 3 fN fdN ["thing"] (spNeedQ K CQ cK)) (kN : PySem.W.keepIn K (.ref fN) = true) (bN : Binds K fdN ["thing"] []) (gN : mg "need_question" = some (.ref fN)) :
    FnOk P w K mg base (L2.CX P w) 5 f fd ["self", "question"] (spAddedB K CB CQ cK cT cM) := by
  obtain ⟨t60, g60⟩ := g60
  refine F.okX scAdded (fun vs H Q E h => ?_) (fun cdv A outer s H vs Q E hr h => ?_)
  · obtain ⟨b, k, r, d, B, y, rfl, _⟩ := h
    rfl
  · obtain ⟨b, k, r, d, B, y, rfl, hB, h⟩ := h
    have hu := hu_of hr
    have r3 : Room 3 _ := hr.mono (by decide)
    refine ⟨_, pss_cons (ps_expr (pe_call (E := E) GN r3 (by rfl) gN kN bN .nil (passes_call (takes_of rfl rfl rfl rfl) fun _ _ _ _ h => h) (pa_cons (pv 1) pa_nil)))
      (pss_cons (ps_if (pt_cmp (pc_din hu (pe_fld (pv 1) rfl) (pe_fld (pv 0) rfl))) (pss_one (ps_raiseE_name rfl TT r3 (takes_of rfl rfl rfl rfl) (by exact (pa_cons (pe_fld (pv 1) rfl) pa_nil)))) pss_nil)
      (pss_cons (ps_if (pt_cmpR op_ge (pe_callB call_lenD (by rfl) ml PySem.boot_len (pa_cons (pe_fld (pv 0) rfl) pa_nil)) (pe_glob (v := .int 60) (by rfl) g60 ⟨_, rfl⟩) (nomark _)) (pss_one (ps_raiseE_most rfl TM r3 (takes_of rfl rfl rfl rfl) (by exact (pa_cons (pe_glob (v := .int 60) (by rfl) g60 ⟨_, rfl⟩) pa_nil)))) pss_nil)
      (pss_cons (ps_dput hu (pe_fld (pv 0) rfl) (pe_fld (pv 1) rfl) (pv 1) rfl)
      (pss_one (ps_dput hu (pe_fld (pv 0) rfl) (pe_fld (pv 1) rfl) (pe_lst pa_nil) rfl))))), ?_⟩
    rcases h with ⟨x, q, rfl, hq, h1, h2, h3⟩ | ⟨tb, ty, kt, h⟩
    case inr => exact ⟨_, rfl, y, rfl, .inr ⟨tb, ty, kt, h⟩⟩
    refine ⟨_, rfl, .ref x, rfl, .inl ⟨x, q, rfl, hq, ?_⟩⟩
    obtain ⟨dx, hb⟩ := hB.at_
    obtain ⟨dq, aq, hx, ha, _⟩ := id hq
    obtain ⟨o, ho, hs⟩ := hB.kept.has q.nm
    obtain ⟨kk, ek, tk⟩ := hB.kept
    obtain ⟨kd, ed, td⟩ := hB.days
    have fb : ∀ {G : Hp} {f : Str} {v : V}, G b = some (.ins CB dx (bFs k r d)) → (bFs k r d).lookup f = some v → True := fun _ _ => trivial
    refine ⟨_, rfl, x, CQ, dq, _, _, rfl, hx, CC.cls, CC.no _ (by decide), look_name _ _ _ _ _ _ _, _, rfl, b, CB, dx, _, _, rfl, hb, C.cls, C.no _ (by decide), lb_kept _ _ _, k, o, rfl, ho, _, rfl, ?_⟩
    rw [hs]
    by_cases hn : q.nm ∈ B.ns
    · rw [decide_eq_true hn]
      exact iteT ⟨_, rfl, x, CQ, dq, _, _, rfl, hx, CC.cls, CC.no _ (by decide), look_name _ _ _ _ _ _ _, _, rfl, fun e he => h1 hn e _ (same_upd he) upd_same⟩
    rw [decide_eq_false hn]
    refine iteF ⟨_, rfl, b, CB, dx, _, _, rfl, hb, C.cls, C.no _ (by decide), lb_kept _ _ _, k, kk, rfl, ek, _, _, rfl, rfl, _, rfl, ?_⟩
    rw [tk.len]
    by_cases h60 : 60 ≤ B.ns.length
    · exact iteT' (decide_eq_true (by omega)) ⟨_, rfl, fun e he => h2 hn h60 e _ (same_upd he) upd_same⟩
    refine iteF' (by simp; omega) ?_
    have l60 : B.ns.length < 60 := by omega
    obtain ⟨kr, er, tr⟩ := hB.outs
    refine ⟨_, rfl, _, rfl, b, CB, dx, _, _, rfl, hb, C.cls, C.no _ (by decide), lb_kept _ _ _, _, rfl, x, CQ, dq, _, _, rfl, hx, CC.cls, CC.no _ (by decide), look_name _ _ _ _ _ _ _, k, _, rfl, DPut.k (k := .inr q.nm) ek (small60 tk (by omega)), ?_⟩
    have nk : ∀ {a : Addr} {o : HO}, (∀ kvs, o ≠ .dK kvs) → H a = some o → a ≠ k := fun {a o} n e z => by subst z; rw [ek] at e; cases e; exact n _ rfl
    have ed1 : upd H k (.dK (putK kk (.inr q.nm) (.ref x))) d = some (.dK kd) := by rw [upd_ne (Ne.symm hB.kd)]; exact ed
    have hb1 : upd H k (.dK (putK kk (.inr q.nm) (.ref x))) b = some (.ins CB dx (bFs k r d)) := by rw [upd_ne (nk (fun _ z => by cases z) hb)]; exact hb
    have hx1 : upd H k (.dK (putK kk (.inr q.nm) (.ref x))) x = some (.ins CQ dq (qFs (.str q.nm) (.str q.mt) (.ref aq) (.int q.ri) (.int q.tl) (.int q.ma) (.str q.ki))) := by rw [upd_ne (nk (fun _ z => by cases z) hx)]; exact hx
    refine ⟨by show 0 ≤ sizeLine; exact Nat.zero_le _, fun l nl => ?_⟩
    have nl0 : H l = none := by
      by_cases z : l = k
      · subst z; rw [upd_same] at nl; cases nl
      · rw [upd_ne z] at nl; exact nl
    refine ⟨_, rfl, b, CB, dx, _, _, rfl, by rw [upd_ne (ne_of_none hb1 nl)]; exact hb1, C.cls, C.no _ (by decide), lb_days _ _ _, _, rfl, x, CQ, dq, _, _, rfl, by rw [upd_ne (ne_of_none hx1 nl)]; exact hx1, CC.cls, CC.no _ (by decide), look_name _ _ _ _ _ _ _, d, _, rfl, DPut.k (k := .inr q.nm) (by rw [upd_ne (ne_of_none ed1 nl)]; exact ed1) (small60 td (by omega)), ?_⟩
    obtain ⟨z1, z2⟩ := hB.addB hq hn ek ed nl0
    exact h3 hn l60 _ z2 z1
end
end Pk
namespace Pk
open PySem L2
section
variable {P : Program} {w : World} {K : PySem.W.Frag} {mg : Str → Option Value} {base : Heap} {CB CQ : Addr}
theorem BankAt.putB {H : Hp} {b k r d x : Addr} {B : BD} {q : QD} (h : BankAt CB CQ H b k r d B) (hq : QI CQ H x q) (hn : q.nm ∈ B.ns) {kk : List (Key × V)} (ek : H k = some (.dK kk)) :
    BankAt CB CQ (upd H k (.dK (putK kk (.inr q.nm) (.ref x)))) b k r d (B.put q) := by
  generalize hG : upd H k (.dK (putK kk (.inr q.nm) (.ref x))) = G
  have gk : G k = some (.dK (putK kk (.inr q.nm) (.ref x))) := by rw [← hG, upd_same]
  have go : ∀ {a : Addr} {o : HO}, a ≠ k → H a = some o → G a = some o := fun {a o} n1 e => by
    rw [← hG, upd_ne n1]
    exact e
  have gi : ∀ {a : Addr} {o : HO}, (∀ kvs, o ≠ .dK kvs) → H a = some o → G a = some o := fun {a o} n e => go (fun z => by subst z; rw [ek] at e; cases e; exact n _ rfl) e
  have gq : ∀ {a : Addr} {q : QD}, QI CQ H a q → QI CQ G a q := fun {a q} z => z.by fun a o n _ e => gi n e
  obtain ⟨dx, hb⟩ := h.at_
  obtain ⟨kk', ek', tk⟩ := h.kept
  rw [ek] at ek'
  cases ek'
  obtain ⟨kr, er, tr⟩ := h.outs
  obtain ⟨kd, ed, td⟩ := h.days
  refine ⟨⟨dx, gi (fun _ z => by cases z) hb⟩, ⟨_, gk, ?_⟩, ⟨kr, go (Ne.symm h.kr) er, tr⟩, ⟨kd, go (Ne.symm h.kd) ed, td.mono fun m _ v ⟨l, e, hl⟩ => ⟨l, e, gi (fun _ z => by cases z) hl⟩⟩, h.kr, h.kd, h.rd⟩
  have z := tk.put (n := q.nm) (v := .ref x) (R' := RKept CQ G (B.put q).f) (fun m _ ne v ⟨y, e, qi⟩ => ⟨y, e, by show QI CQ G y (upF B.f q.nm q m); rw [upF_ne ne]; exact gq qi⟩) ⟨x, rfl, by show QI CQ G x (upF B.f q.nm q q.nm); rw [upF_at]; exact gq hq⟩
  rw [putN_old hn] at z
  exact z
theorem BankAt.outB {H : Hp} {b k r d : Addr} {B : BD} {n z : Str} (h : BankAt CB CQ H b k r d B) {kr : List (Key × V)} (er : H r = some (.dK kr)) :
    BankAt CB CQ (upd H r (.dK (putK kr (.inr n) (.str z)))) b k r d (B.out n z) := by
  generalize hG : upd H r (.dK (putK kr (.inr n) (.str z))) = G
  have gr : G r = some (.dK (putK kr (.inr n) (.str z))) := by rw [← hG, upd_same]
  have go : ∀ {a : Addr} {o : HO}, a ≠ r → H a = some o → G a = some o := fun {a o} n1 e => by
    rw [← hG, upd_ne n1]
    exact e
  have gi : ∀ {a : Addr} {o : HO}, (∀ kvs, o ≠ .dK kvs) → H a = some o → G a = some o := fun {a o} n e => go (fun z => by subst z; rw [er] at e; cases e; exact n _ rfl) e
  obtain ⟨dx, hb⟩ := h.at_
  obtain ⟨kk, ek, tk⟩ := h.kept
  obtain ⟨kr', er', tr⟩ := h.outs
  rw [er] at er'
  cases er'
  obtain ⟨kd, ed, td⟩ := h.days
  refine ⟨⟨dx, gi (fun _ z => by cases z) hb⟩, ⟨kk, go h.kr ek, tk.mono fun m _ v ⟨x, e, qi⟩ => ⟨x, e, qi.by fun a o n _ e => gi n e⟩⟩, ⟨_, gr, ?_⟩, ⟨kd, go (Ne.symm h.rd) ed, td.mono fun m _ v ⟨l, e, hl⟩ => ⟨l, e, gi (fun _ z => by cases z) hl⟩⟩, h.kr, h.kd, h.rd⟩
  exact tr.put (n := n) (v := .str z) (R' := ROuts (B.out n z).g) (fun m _ ne v e => by show v = .str (upF B.g n z m); rw [upF_ne ne]; exact e) (by show V.str z = .str (upF B.g n z n); rw [upF_at])
theorem BankAt.dropB {H : Hp} {b k r d : Addr} {B : BD} {n : Str} (h : BankAt CB CQ H b k r d B) {kk kr kd : List (Key × V)} (ek : H k = some (.dK kk)) (er : H r = some (.dK kr)) (ed : H d = some (.dK kd)) {G : Hp} (gk : G k = some (.dK (dropK kk (.inr n)))) (gr : G r = some (.dK kr) ∧ n ∉ B.os ∨ G r = some (.dK (dropK kr (.inr n)))) (gd : G d = some (.dK (dropK kd (.inr n)))) (go : Bt [k, r, d] H G) : BankAt CB CQ G b k r d (B.drop n) := by
  have gi : ∀ {a : Addr} {o : HO}, (∀ kvs, o ≠ .dK kvs) → H a = some o → G a = some o := fun {a o} n e => go a o (fun z => by
    simp only [List.mem_cons, List.not_mem_nil, or_false] at z
    rcases z with z | z | z <;> subst z
    · rw [ek] at e; cases e; exact n _ rfl
    · rw [er] at e; cases e; exact n _ rfl
    · rw [ed] at e; cases e; exact n _ rfl) e
  obtain ⟨dx, hb⟩ := h.at_
  obtain ⟨kk', ek', tk⟩ := h.kept
  rw [ek] at ek'
  cases ek'
  obtain ⟨kr', er', tr⟩ := h.outs
  rw [er] at er'
  cases er'
  obtain ⟨kd', ed', td⟩ := h.days
  rw [ed] at ed'
  cases ed'
  refine ⟨⟨dx, gi (fun _ z => by cases z) hb⟩, ⟨_, gk, tk.drop.mono fun m _ v ⟨x, e, qi⟩ => ⟨x, e, qi.by fun a o n _ e => gi n e⟩⟩, ?_, ⟨_, gd, td.drop.mono fun m _ v ⟨l, e, hl⟩ => ⟨l, e, gi (fun _ z => by cases z) hl⟩⟩, h.kr, h.kd, h.rd⟩
  rcases gr with ⟨gr, hn⟩ | gr
  · refine ⟨kr, gr, ?_⟩
    have e : (B.drop n).os = B.os := List.filter_eq_self.mpr fun m hm => decide_eq_true fun z => hn (by rw [← z]; exact hm)
    rw [e]
    exact tr
  · exact ⟨_, gr, tr.drop⟩
theorem scDropped : FnScope ["self", "name"] ["self", "name"] (defScope sBDropped) := ⟨rfl, rfl, rfl, by decide +kernel, rfl, by decide +kernel, by decide +kernel⟩
theorem ok_dropped {f fO cN : Addr} {fd fdO : FuncData} (F : Fun K "dropped" "Bank.dropped" sBDropped f fd) (C : BCls K CB)
    (GO : FnOk P w K mg base (L2.CX P w) 3 fO fdO ["self", "name"] (spKnown CB CQ cN)) (MO : Meth K CB "need_known" fO) (bO : Binds K fdO ["self", "name"] []) :
    FnOk P w K mg base (L2.CX P w) 5 f fd ["self", "name"] (spDroppedB CB CQ cN) := by
  refine F.okX scDropped (fun vs H Q E h => ?_) (fun cdv A outer s H vs Q E hr h => ?_)
  · obtain ⟨b, k, r, d, B, y, rfl, _⟩ := h
    rfl
  · obtain ⟨b, k, r, d, B, y, rfl, hB, hos, h⟩ := h
    have hu := hu_of hr
    have r3 : Room 3 _ := hr.mono (by decide)
    refine ⟨_, pss_cons (ps_expr (pe_meth (E := E) (pv 0) C.cls MO GO r3 bO .nil (passes_call (takes_of rfl rfl rfl rfl) fun _ _ _ _ h => h) (pa_cons (pv 1) pa_nil)))
      (pss_cons (ps_ddel (pe_fld (pv 0) rfl) (pv 1))
      (pss_cons (ps_ddel (pe_fld (pv 0) rfl) (pv 1))
      (pss_one (ps_if (pt_cmp (pc_din hu (pv 1) (pe_fld (pv 0) rfl))) (pss_one (ps_ddel (pe_fld (pv 0) rfl) (pv 1))) pss_nil)))), ?_⟩
    obtain ⟨dx, hb⟩ := hB.at_
    refine ⟨_, rfl, b, dx, _, rfl, hb, lb_meth (by decide) _ _ _, _, rfl, b, k, r, d, B, y, rfl, hB, ?_⟩
    rcases h with ⟨n, hn, rfl, q⟩ | h
    case inr => exact .inr h
    obtain ⟨kk, ek, tk⟩ := hB.kept
    obtain ⟨kr, er, tr⟩ := hB.outs
    obtain ⟨kd, ed, td⟩ := hB.days
    obtain ⟨vk, hvk, _⟩ := tk.2 n hn
    obtain ⟨vd, hvd, _⟩ := td.2 n hn
    have nb : ∀ {kvs : List (Key × V)} {a : Addr}, H a = some (.dK kvs) → b ≠ a := fun {kvs a} e z => by subst z; rw [hb] at e; cases e
    refine .inl ⟨n, hn, rfl, _, rfl, b, CB, dx, _, _, rfl, hb, C.cls, C.no _ (by decide), lb_kept _ _ _, _, rfl, k, kk, .inr n, rfl, ek, rfl, by rw [hvk]; rfl, ?_⟩
    refine ⟨_, rfl, b, CB, dx, _, _, rfl, by rw [upd_ne (nb ek)]; exact hb, C.cls, C.no _ (by decide), lb_days _ _ _, _, rfl, d, kd, .inr n, rfl, by rw [upd_ne (Ne.symm hB.kd)]; exact ed, rfl, by rw [hvd]; rfl, ?_⟩
    generalize hG : upd (upd H k (.dK (dropK kk (.inr n)))) d (.dK (dropK kd (.inr n))) = G
    have gk : G k = some (.dK (dropK kk (.inr n))) := by rw [← hG, upd_ne hB.kd, upd_same]
    have gd : G d = some (.dK (dropK kd (.inr n))) := by rw [← hG, upd_same]
    have gr : G r = some (.dK kr) := by rw [← hG, upd_ne hB.rd, upd_ne (Ne.symm hB.kr)]; exact er
    have gb : G b = some (.ins CB dx (bFs k r d)) := by rw [← hG, upd_ne (nb ed), upd_ne (nb ek)]; exact hb
    have bt : Bt [k, r, d] H G := by
      rw [← hG]
      exact (Bt.put List.mem_cons_self).trans (Bt.put (by simp))
    have trG : TbAt G r B.os (ROuts B.g) := ⟨kr, gr, tr⟩
    obtain ⟨o, ho, hs⟩ := trG.has n
    refine ⟨_, rfl, _, rfl, b, CB, dx, _, _, rfl, gb, C.cls, C.no _ (by decide), lb_reasons _ _ _, r, o, rfl, ho, _, rfl, ?_⟩
    rw [hs]
    by_cases hno : n ∈ B.os
    · rw [decide_eq_true hno]
      obtain ⟨vr, hvr, _⟩ := tr.2 n hno
      refine iteT ⟨_, rfl, b, CB, dx, _, _, rfl, gb, C.cls, C.no _ (by decide), lb_reasons _ _ _, _, rfl, r, kr, .inr n, rfl, gr, rfl, by rw [hvr]; rfl, ?_⟩
      exact q _ (bt.trans (Bt.put (by simp))) (hB.dropB ek er ed (by rw [upd_ne hB.kr]; exact gk) (.inr upd_same) (by rw [upd_ne (Ne.symm hB.rd)]; exact gd) (bt.trans (Bt.put (by simp))))
    · rw [decide_eq_false hno]
      exact iteF (q _ bt (hB.dropB ek er ed gk (.inl ⟨gr, hno⟩) gd bt))
theorem scPutB : FnScope ["self", "question"] ["self", "question"] (defScope sBPut) := ⟨rfl, rfl, rfl, by decide +kernel, rfl, by decide +kernel, by decide +kernel⟩
theorem ok_putB {f fN fO cK cN : Addr} {fd fdN fdO : FuncData} (F : Fun K "put" "Bank.put" sBPut f fd) (C : BCls K CB) (CC : QCls K CQ)
    (GN : FnOk P w K mg base (L2.CX P w) 3 fN fdN ["thing"] (spNeedQ K CQ cK)) (kN : PySem.W.keepIn K (.ref fN) = true) (bN : Binds K fdN ["thing"] []) (gN : mg "need_question" = some (.ref fN))
    (GO : FnOk P w K mg base (L2.CX P w) 3 fO fdO ["self", "name"] (spKnown CB CQ cN)) (MO : Meth K CB "need_known" fO) (bO : Binds K fdO ["self", "name"] []) :
    FnOk P w K mg base (L2.CX P w) 5 f fd ["self", "question"] (spPutB K CB CQ cK cN) := by
  refine F.okX scPutB (fun vs H Q E h => ?_) (fun cdv A outer s H vs Q E hr h => ?_)
  · obtain ⟨b, k, r, d, B, y, rfl, _⟩ := h
    rfl
  · obtain ⟨b, k, r, d, B, y, rfl, hB, hl0, h⟩ := h
    have hu := hu_of hr
    have r3 : Room 3 _ := hr.mono (by decide)
    refine ⟨_, pss_cons (ps_expr (pe_call (E := E) GN r3 (by rfl) gN kN bN .nil (passes_call (takes_of rfl rfl rfl rfl) fun _ _ _ _ h => h) (pa_cons (pv 1) pa_nil)))
      (pss_cons (ps_expr (pe_meth (E := E) (pv 0) C.cls MO GO r3 bO .nil (passes_call (takes_of rfl rfl rfl rfl) fun _ _ _ _ h => h) (pa_cons (pe_fld (pv 1) rfl) pa_nil)))
      (pss_one (ps_dput hu (pe_fld (pv 0) rfl) (pe_fld (pv 1) rfl) (pv 1) rfl))), ?_⟩
    rcases h with ⟨x, q, rfl, hq, th, h1, h2⟩ | ⟨tb, ty, kt, h⟩
    case inr => exact ⟨_, rfl, y, rfl, .inr ⟨tb, ty, kt, h⟩⟩
    obtain ⟨dx, hb⟩ := hB.at_
    obtain ⟨dq, aq, hx, ha, _⟩ := id hq
    refine ⟨_, rfl, .ref x, rfl, .inl ⟨x, q, rfl, hq, ?_⟩⟩
    refine ⟨_, rfl, b, dx, _, rfl, hb, lb_meth (by decide) _ _ _, _, rfl, x, CQ, dq, _, _, rfl, hx, CC.cls, CC.no _ (by decide), look_name _ _ _ _ _ _ _, b, k, r, d, B, .str q.nm, rfl, hB, ?_⟩
    by_cases hn : q.nm ∈ B.ns
    · obtain ⟨kk, ek, tk⟩ := hB.kept
      have hl : kk.length < sizeLine := small60 tk hl0
      refine .inl ⟨q.nm, hn, rfl, _, rfl, _, rfl, b, CB, dx, _, _, rfl, hb, C.cls, C.no _ (by decide), lb_kept _ _ _, _, rfl, x, CQ, dq, _, _, rfl, hx, CC.cls, CC.no _ (by decide), look_name _ _ _ _ _ _ _, k, _, rfl, DPut.k (k := .inr q.nm) ek hl, ?_⟩
      exact h2 hn _ (Bt.put List.mem_cons_self) (hB.putB hq hn ek)
    · exact .inr ⟨fun n hn' e => hn (by rw [V.str.inj e]; exact hn'), th, h1 hn⟩
theorem scOut : FnScope ["self", "name", "why"] ["self", "name", "why"] (defScope sBOut) := ⟨rfl, rfl, rfl, by decide +kernel, rfl, by decide +kernel, by decide +kernel⟩
abbrev FunO (K : PySem.W.Frag) (f : Addr) (fd : FuncData) : Prop := FunD K "taken_out" "Bank.taken_out" (defArgs sBOut) (defBody sBOut) (defScope sBOut) [.str "wrong"] [] f fd
theorem ok_outB {f fT fO cN cX : Addr} {fd fdT fdO : FuncData} (F : FunO K f fd) (C : BCls K CB) (BX : BadTxt K mg cX)
    (GT : FnOk P w K mg base CX0 2 fT fdT ["thing"] spIsText) (kT : PySem.W.keepIn K (.ref fT) = true) (bT : Binds K fdT ["thing"] []) (gT : mg "is_text" = some (.ref fT))
    (GO : FnOk P w K mg base (L2.CX P w) 3 fO fdO ["self", "name"] (spKnown CB CQ cN)) (MO : Meth K CB "need_known" fO) (bO : Binds K fdO ["self", "name"] []) :
    FnOk P w K mg base (L2.CX P w) 5 f fd ["self", "name", "why"] (spOutB CB CQ cN cX) := by
  refine F.ok scOut (fun vs H Q E h => ?_) (fun cdv A outer s H vs Q E hr h => ?_)
  · obtain ⟨b, k, r, d, B, y, z, rfl, _⟩ := h
    rfl
  · obtain ⟨b, k, r, d, B, y, z, rfl, hB, hl, tz, h⟩ := h
    have hu := hu_of hr
    have r3 : Room 3 _ := hr.mono (by decide)
    have r2 : Room 2 _ := hr.mono (by decide)
    refine ⟨_, pss_cons (ps_expr (pe_meth (E := E) (pv 0) C.cls MO GO r3 bO .nil (passes_call (takes_of rfl rfl rfl rfl) fun _ _ _ _ h => h) (pa_cons (pv 1) pa_nil)))
      (pss_cons (ps_if (pt_not (pt_val (pe_call GT r2 (by rfl) gT kT bT .nil pass0 (pa_cons (pv 2) pa_nil)))) (pss_one (ps_raise rfl (takes_of rfl rfl rfl rfl) (pmk_own PySem.F.excBase_ValueError BX.x BX.g BX.k (raises_own BX.b BX.t) (by exact rfl)))) pss_nil)
      (pss_one (ps_dput hu (pe_fld (pv 0) rfl) (pv 1) (pv 2) rfl))), ?_⟩
    obtain ⟨dx, hb⟩ := hB.at_
    refine ⟨_, rfl, b, dx, _, rfl, hb, lb_meth (by decide) _ _ _, _, rfl, b, k, r, d, B, y, rfl, hB, ?_⟩
    rcases h with ⟨n, hn, rfl, h1, h2⟩ | h
    · refine .inl ⟨n, hn, rfl, _, rfl, z, rfl, tz, fun H1 s1 => ⟨_, rfl, ?_⟩⟩
      cases htz : textV z with
      | false => exact iteT (h2 htz H1 s1)
      | true =>
        cases z with
        | str t =>
          have hB1 := hB.same s1
          obtain ⟨kr, er, tr⟩ := hB1.outs
          refine iteF ⟨_, rfl, _, rfl, b, CB, dx, _, _, rfl, s1 _ _ hb, C.cls, C.no _ (by decide), lb_reasons _ _ _, _, rfl, r, _, rfl, DPut.k (k := .inr n) er (small60 tr hl), ?_⟩
          exact h1 t rfl htz _ ((Bt.same s1).trans (Bt.put List.mem_cons_self)) (hB1.outB er)
        | _ => cases htz
    · exact .inr h
end
end Pk
namespace Pk
open PySem L2
theorem keys_strs {kvs : List (Key × V)} {ns : List Str} {R : Str → V → Prop} (h : TbK kvs ns R) : (kvs.map fun kv => kV kv.1) = ns.map V.str := by
  have e := congrArg (List.map kV) h.1
  rw [List.map_map, List.map_map] at e
  exact e
theorem filter_snoc {α : Type} {l : List α} {p : α → Bool} {i : Nat} {x : α} (h : l[i]? = some x) : (l.take (i + 1)).filter p = if p x = true then (l.take i).filter p ++ [x] else (l.take i).filter p := by
  rw [List.take_add_one, h, List.filter_append]
  show _ ++ [x].filter p = _
  cases hp : p x with
  | true => rw [if_pos rfl, List.filter_cons, if_pos hp]; rfl
  | false => rw [if_neg (by decide), List.filter_cons, if_neg (by rw [hp]; decide)]; exact List.append_nil _
section
variable {P : Program} {w : World} {K : PySem.W.Frag} {mg : Str → Option Value} {base : Heap} {CB CQ : Addr}
theorem scNamesB : FnScope ["self"] ["self"] (defScope sBNames) := ⟨rfl, rfl, rfl, by decide +kernel, rfl, by decide +kernel, by decide +kernel⟩
theorem ok_namesB {f : Addr} {fd : FuncData} (F : Fun K "names" "Bank.names" sBNames f fd) (C : BCls K CB) (mso : mg "sorted" = none) (mli : mg "list" = none) : FnOk P w K mg base CX0 1 f fd ["self"] (spNamesB CB CQ) := by
  refine F.ok scNamesB (fun vs H Q E h => ?_) (fun cdv A outer s H vs Q E hr h => ?_)
  · obtain ⟨b, k, r, d, B, rfl, _⟩ := h
    rfl
  · obtain ⟨b, k, r, d, B, rfl, hB, hl, q⟩ := h
    refine ⟨_, pss_one (ps_ret (pe_callB cr_sortedS (by rfl) mso (by decide +kernel) (pa_cons (pe_callTy (call_listD rfl) (by rfl) mli (by decide +kernel) (pa_cons (pe_fld (pv 0) rfl) pa_nil)) pa_nil))), ?_⟩
    obtain ⟨dx, hb⟩ := hB.at_
    obtain ⟨kk, ek, tk⟩ := hB.kept
    refine ⟨_, rfl, b, CB, dx, _, _, rfl, hb, C.cls, C.no _ (by decide), lb_kept _ _ _, k, kk, rfl, .inl ek, fun p np => ?_⟩
    rw [keys_strs tk]
    refine ⟨p, B.ns, rfl, SqL.of upd_same, hl, fun ys p2 pm so n2 => ?_⟩
    rw [srt_of pm so]
    have s1 : Same H (upd H p (.lst (B.ns.map V.str))) := same_upd np
    have np2 : H p2 = none := by
      by_cases z : p2 = p
      · subst z; exact np
      · rw [upd_ne z] at n2; exact n2
    exact q p2 _ (s1.trans (same_upd n2)) np2 upd_same
theorem scNamesIn : FnScope ["self", "name"] ["self"] (defScope sBNamesIn) := ⟨rfl, rfl, rfl, by decide +kernel, rfl, by decide +kernel, by decide +kernel⟩
theorem ok_namesIn {f fN : Addr} {fd fdN : FuncData} (F : Fun K "names_in" "Bank.names_in" sBNamesIn f fd) (C : BCls K CB)
    (GN : FnOk P w K mg base CX0 1 fN fdN ["self"] (spNamesB CB CQ)) (MN : Meth K CB "names" fN) (bN : Binds K fdN ["self"] []) : FnOk P w K mg base CX0 2 f fd ["self"] (spNamesInB CB CQ) := by
  refine F.ok scNamesIn (fun vs H Q E h => ?_) (fun cdv A outer s H vs Q E hr h => ?_)
  · obtain ⟨b, k, r, d, B, rfl, _⟩ := h
    rfl
  · obtain ⟨b, k, r, d, B, rfl, hB, hl, q⟩ := h
    have hu := hu_of hr
    refine ⟨_, pss_one (ps_ret (pe_lc (own := [("name", 1)]) (g := gName 1) (tt := tB (tDNotIn (tVar 1) (tFld K (tVar 0) "reasons"))) (te := tVar 1) rfl scNamesIn.nd (pi_list (pe_meth0 (pv 0) C.cls MN GN hr bN .nil pass0)) (blkOk_by (N := ["self", "name"]) (sc := defScope sBNamesIn) (by decide +kernel))
        (fun _ _ _ _ _ => pg_name (i := 1) scNamesIn.nd rfl (Or.inl rfl)) (fun _ _ _ _ _ => pts_one (pt_cmp (pc_dnotin hu (pv 1) (pe_fld (pv 0) rfl)))) (fun _ _ _ _ _ => pv 1))), ?_⟩
    obtain ⟨dx, hb⟩ := hB.at_
    refine ⟨_, rfl, b, dx, _, rfl, hb, lb_meth (by decide) _ _ _, b, k, r, d, B, rfl, hB, hl, fun p H1 s1 np hp => ⟨p, rfl, ⟨_, SqL.of hp⟩, fun D nD => ?_⟩⟩
    have hB1 := hB.same s1
    have hb1 := s1 _ _ hb
    have nD0 : H D = none := by
      cases e : H D with
      | none => rfl
      | some o => rw [s1 _ _ e] at nD; cases nD
    have aD : ∀ {a : Addr} {o : HO}, H1 a = some o → a ≠ D := fun {a o} e => ne_of_none e nD
    refine lc_it (walk_list (K := K) (a := p) (xs := (srt B.ns).map V.str)) (fun i G => (∀ a o, a ≠ D → H1 a = some o → G a = some o) ∧ G D = some (.lst ((((srt B.ns).take i).filter fun n => !decide (n ∈ B.os)).map V.str))) ⟨fun a o n e => by rw [upd_ne n]; exact e, upd_same⟩ (fun i G _ h => SqL.of (h.1 _ _ (aD hp) hp)) ?_ ?_
    · rintro i x G G' hi ⟨kp, hd⟩ ⟨rfl, hx⟩
      obtain ⟨n, hn, rfl⟩ := getD_map hx
      have hBG := hB1.same (H' := G') fun a o e => kp a o (aD e) e
      obtain ⟨o, ho, hs⟩ := hBG.outs.has n
      refine ⟨rfl, _, rfl, _, rfl, b, CB, dx, _, _, rfl, kp _ _ (aD hb1) hb1, C.cls, C.no _ (by decide), lb_reasons _ _ _, r, o, rfl, ho, _, rfl, ?_⟩
      rw [filter_snoc hn, hs]
      cases hno : decide (n ∈ B.os) with
      | true => exact ⟨kp, by rw [if_neg (by decide)]; exact hd⟩
      | false =>
        refine ⟨_, rfl, _, hd, ?_, fun a o n e => by rw [upd_ne n]; exact kp a o n e, by rw [upd_same, if_pos (by decide), List.map_append]; rfl⟩
        have l1 := List.length_filter_le (fun n => !decide (n ∈ B.os)) ((srt B.ns).take i)
        have l2 : ((srt B.ns).take i).length ≤ (srt B.ns).length := by rw [List.length_take]; omega
        rw [List.length_map, sizeLine_eq]
        rw [srt_len] at l2
        omega
    · rintro G ⟨kp, hd⟩
      rw [List.length_map, List.take_of_length_le (Nat.le_refl _)] at hd
      exact q D G (fun a o e => kp a o (aD (s1 _ _ e)) (s1 _ _ e)) nD0 hd
theorem scLenB : FnScope ["self", "name"] ["self"] (defScope sBLen) := ⟨rfl, rfl, rfl, by decide +kernel, rfl, by decide +kernel, by decide +kernel⟩
theorem ok_lenB {f : Addr} {fd : FuncData} (F : Fun K "__len__" "Bank.__len__" sBLen f fd) (C : BCls K CB) (ml : mg "len" = none) : FnOk P w K mg base CX0 1 f fd ["self"] (spLenB CB CQ) := by
  refine F.ok scLenB (fun vs H Q E h => ?_) (fun cdv A outer s H vs Q E hr h => ?_)
  · obtain ⟨b, k, r, d, B, rfl, _⟩ := h
    rfl
  · obtain ⟨b, k, r, d, B, rfl, hB, hl, q⟩ := h
    have hu := hu_of hr
    refine ⟨_, pss_one (ps_ret (pe_callB call_len_seq (by rfl) ml PySem.boot_len (pa_cons (pe_lock (pe_lc (own := [("name", 1)]) (g := gName 1) (tt := tB (tDNotIn (tVar 1) (tFld K (tVar 0) "reasons"))) (te := tVar 1) rfl scLenB.nd (pi_keys (pe_fld (pv 0) rfl)) (blkOk_by (N := ["self", "name"]) (sc := defScope sBLen) (by decide +kernel))
        (fun _ _ _ _ _ => pg_name (i := 1) scLenB.nd rfl (Or.inl rfl)) (fun _ _ _ _ _ => pts_one (pt_cmp (pc_dnotin hu (pv 1) (pe_fld (pv 0) rfl)))) (fun _ _ _ _ _ => pv 1))) pa_nil))), ?_⟩
    obtain ⟨dx, hb⟩ := hB.at_
    obtain ⟨kk, ek, tk⟩ := hB.kept
    obtain ⟨kr, er, tr⟩ := hB.outs
    have bk : b ≠ k := fun z => by subst z; rw [hb] at ek; cases ek
    refine ⟨k, _, ek, trivial, fun od => ?_⟩
    have hb1 : upd H k (.frz od (.dK kk)) b = some (.ins CB dx (bFs k r d)) := by rw [upd_ne bk]; exact hb
    have er1 : upd H k (.frz od (.dK kk)) r = some (.dK kr) := by rw [upd_ne (Ne.symm hB.kr)]; exact er
    have ek1 : upd H k (.frz od (.dK kk)) k = some (.frz od (.dK kk)) := upd_same
    have so : ∀ a o, a ≠ k → H a = some o → upd H k (.frz od (.dK kk)) a = some o := fun a o n e => by rw [upd_ne n]; exact e
    generalize upd H k (.frz od (.dK kk)) = H1 at hb1 er1 ek1 so
    refine ⟨_, rfl, b, CB, dx, _, _, rfl, hb1, C.cls, C.no _ (by decide), lb_kept _ _ _, k, od, rfl, .inl ⟨kk, ek1, fun D nD => ?_⟩⟩
    have aD : ∀ {a : Addr} {o : HO}, H1 a = some o → a ≠ D := fun {a o} e => ne_of_none e nD
    refine lc_it (walk_keys (d := k) (o := od) (kvs := kk)) (fun i G => (∀ a o, a ≠ D → H1 a = some o → G a = some o) ∧ G D = some (.lst (((B.ns.take i).filter fun n => !decide (n ∈ B.os)).map V.str))) ⟨fun a o n e => by rw [upd_ne n]; exact e, upd_same⟩ (fun i G _ h => h.1 _ _ (aD ek1) ek1) ?_ ?_
    · rintro i x G G' hi ⟨kp, hd⟩ ⟨rfl, ke, v, hx, rfl⟩
      have hk : (kk.map (·.1))[i]? = some ke := by rw [List.getElem?_map, hx]; rfl
      rw [tk.1] at hk
      obtain ⟨n, hn, rfl⟩ := getD_map hk
      have tG : TbAt G' r B.os (ROuts B.g) := ⟨kr, kp _ _ (aD er1) er1, tr⟩
      obtain ⟨o, ho, hs⟩ := tG.has n
      refine ⟨rfl, _, rfl, _, rfl, b, CB, dx, _, _, rfl, kp _ _ (aD hb1) hb1, C.cls, C.no _ (by decide), lb_reasons _ _ _, r, o, rfl, ho, _, rfl, ?_⟩
      rw [filter_snoc hn, hs]
      cases hno : decide (n ∈ B.os) with
      | true => exact ⟨kp, by rw [if_neg (by decide)]; exact hd⟩
      | false =>
        refine ⟨_, rfl, _, hd, ?_, fun a o n e => by rw [upd_ne n]; exact kp a o n e, by rw [upd_same, if_pos (by decide), List.map_append]; rfl⟩
        have l1 := List.length_filter_le (fun n => !decide (n ∈ B.os)) (B.ns.take i)
        have l2 : (B.ns.take i).length ≤ B.ns.length := by rw [List.length_take]; omega
        rw [List.length_map, sizeLine_eq]
        omega
    · rintro G ⟨kp, hd⟩
      rw [tk.len, List.take_of_length_le (Nat.le_refl _)] at hd
      have kD : k ≠ D := aD ek1
      refine ⟨kp _ _ kD ek1, D, _, rfl, .inl (SqL.of (by rw [upd_ne (Ne.symm kD)]; exact hd)), ?_⟩
      have el : ((B.ns.filter fun n => !decide (n ∈ B.os)).map V.str).length = B.ins.length := by
        rw [List.length_map]
        exact (((srt_perm B.ns).symm).filter _).length_eq
      rw [el]
      refine q _ fun a o e => ?_
      by_cases z : a = k
      · subst z
        rw [upd_same]
        rw [ek] at e
        exact e
      · rw [upd_ne z]
        exact kp a o (aD (so a o z e)) (so a o z e)
theorem scQuestionB : FnScope ["self", "name"] ["self", "name"] (defScope sBQuestion) := ⟨rfl, rfl, rfl, by decide +kernel, rfl, by decide +kernel, by decide +kernel⟩
theorem ok_questionB {f fO cN : Addr} {fd fdO : FuncData} (F : Fun K "question" "Bank.question" sBQuestion f fd) (C : BCls K CB)
    (GO : FnOk P w K mg base (L2.CX P w) 3 fO fdO ["self", "name"] (spKnown CB CQ cN)) (MO : Meth K CB "need_known" fO) (bO : Binds K fdO ["self", "name"] []) :
    FnOk P w K mg base (L2.CX P w) 4 f fd ["self", "name"] (spQuestionB CB CQ cN) := by
  refine F.okX scQuestionB (fun vs H Q E h => ?_) (fun cdv A outer s H vs Q E hr h => ?_)
  · obtain ⟨b, k, r, d, B, y, rfl, _⟩ := h
    rfl
  · obtain ⟨b, k, r, d, B, y, rfl, hB, h⟩ := h
    have hu := hu_of hr
    refine ⟨_, pss_cons (ps_expr (pe_meth (E := E) (pv 0) C.cls MO GO hr bO .nil (passes_call (takes_of rfl rfl rfl rfl) fun _ _ _ _ h => h) (pa_cons (pv 1) pa_nil)))
      (pss_one (ps_ret (pe_dget hu (pe_fld (pv 0) rfl) (pv 1) (fun _ _ => rfl)))), ?_⟩
    obtain ⟨dx, hb⟩ := hB.at_
    refine ⟨_, rfl, b, dx, _, rfl, hb, lb_meth (by decide) _ _ _, _, rfl, b, k, r, d, B, y, rfl, hB, ?_⟩
    rcases h with ⟨n, hn, rfl, q⟩ | h
    · obtain ⟨v, g, x, rfl, qi⟩ := hB.kept.get hn
      exact .inl ⟨n, hn, rfl, _, rfl, b, CB, dx, _, _, rfl, hb, C.cls, C.no _ (by decide), lb_kept _ _ _, _, rfl, k, _, rfl, g, q x qi⟩
    · exact .inr h
theorem scDaysOf : FnScope ["self", "name"] ["self", "name"] (defScope sBDaysOf) := ⟨rfl, rfl, rfl, by decide +kernel, rfl, by decide +kernel, by decide +kernel⟩
theorem ok_daysOf {f fO cN : Addr} {fd fdO : FuncData} (F : Fun K "days_of" "Bank.days_of" sBDaysOf f fd) (C : BCls K CB) (mli : mg "list" = none)
    (GO : FnOk P w K mg base (L2.CX P w) 3 fO fdO ["self", "name"] (spKnown CB CQ cN)) (MO : Meth K CB "need_known" fO) (bO : Binds K fdO ["self", "name"] []) :
    FnOk P w K mg base (L2.CX P w) 4 f fd ["self", "name"] (spDaysOfB CB CQ cN) := by
  refine F.okX scDaysOf (fun vs H Q E h => ?_) (fun cdv A outer s H vs Q E hr h => ?_)
  · obtain ⟨b, k, r, d, B, y, rfl, _⟩ := h
    rfl
  · obtain ⟨b, k, r, d, B, y, rfl, hB, h⟩ := h
    have hu := hu_of hr
    refine ⟨_, pss_cons (ps_expr (pe_meth (E := E) (pv 0) C.cls MO GO hr bO .nil (passes_call (takes_of rfl rfl rfl rfl) fun _ _ _ _ h => h) (pa_cons (pv 1) pa_nil)))
      (pss_one (ps_ret (pe_callTy call_list_of (by rfl) mli (by decide +kernel) (pa_cons (pe_dget hu (pe_fld (pv 0) rfl) (pv 1) (fun _ _ => rfl)) pa_nil)))), ?_⟩
    obtain ⟨dx, hb⟩ := hB.at_
    refine ⟨_, rfl, b, dx, _, rfl, hb, lb_meth (by decide) _ _ _, _, rfl, b, k, r, d, B, y, rfl, hB, ?_⟩
    rcases h with ⟨n, hn, rfl, q⟩ | h
    · obtain ⟨v, g, x, rfl, qi⟩ := hB.days.get hn
      exact .inl ⟨n, hn, rfl, _, rfl, b, CB, dx, _, _, rfl, hb, C.cls, C.no _ (by decide), lb_days _ _ _, _, rfl, d, _, rfl, g, x, _, rfl, .inl (SqL.of qi), fun p np => q p _ (same_upd np) np upd_same⟩
    · exact .inr h
end
end Pk
namespace Pk
open PySem L2
/-! ### how often each stands in a list -/
theorem firsts_mem : ∀ {l : List Str} {x : Str}, x ∈ firsts l ↔ x ∈ l
  | [], x => Iff.rfl
  | y :: r, x => by
    unfold firsts
    rw [List.mem_cons, List.mem_cons, List.mem_filter, firsts_mem]
    constructor
    · rintro (h | h)
      · exact .inl h
      · exact .inr h.1
    · rintro (h | h)
      · exact .inl h
      · by_cases e : x = y
        · exact .inl e
        · exact .inr ⟨h, decide_eq_true e⟩
theorem firsts_snoc : ∀ {l : List Str} {x : Str}, firsts (l ++ [x]) = if x ∈ l then firsts l else firsts l ++ [x]
  | [], x => rfl
  | y :: r, x => by
    rw [List.cons_append]
    show y :: (firsts (r ++ [x])).filter _ = _
    rw [firsts_snoc]
    by_cases hr : x ∈ r
    · rw [if_pos hr, if_pos (List.mem_cons_of_mem _ hr)]
      rfl
    · rw [if_neg hr, List.filter_append]
      by_cases e : x = y
      · subst e
        rw [if_pos List.mem_cons_self]
        show x :: ((firsts r).filter _ ++ [x].filter _) = x :: _
        rw [show ([x] : List Str).filter (fun z => decide (z ≠ x)) = [] by simp, List.append_nil]
      · rw [if_neg (by rw [List.mem_cons, not_or]; exact ⟨e, hr⟩), show ([x] : List Str).filter (fun z => decide (z ≠ y)) = [x] by simp [e]]
        rfl
theorem firsts_nd : ∀ l : List Str, (firsts l).Nodup
  | [] => List.nodup_nil
  | y :: r => List.nodup_cons.mpr ⟨fun h => by
      have := (List.mem_filter.mp h).2
      simp at this, (firsts_nd r).filter _⟩
/-- how often, by a reckoning c -/
def cntBy (c : Str → Int) (l : List Str) : List (Str × Int) := (firsts l).map fun m => (m, c m)
theorem ti_val (c : Str → Int) (l : List Str) (m : Str) : valV (tiKv (cntBy c l)) (.inr m) = if m ∈ l then some (.int (c m)) else none := by
  have z : ∀ fs : List Str, valV (tiKv (fs.map fun m => (m, c m))) (.inr m) = if m ∈ fs then some (.int (c m)) else none := fun fs => by
    induction fs with
    | nil => rfl
    | cons y r ih =>
      by_cases e : y = m
      · subst e
        rw [if_pos List.mem_cons_self]
        exact valV_pos (p := (Sum.inr y, V.int (c y))) rfl
      · have e1 : valV (tiKv ((y :: r).map fun m => (m, c m))) (.inr m) = valV (tiKv (r.map fun m => (m, c m))) (.inr m) := valV_neg (p := (Sum.inr y, V.int (c y))) (fun z => e (Sum.inr.inj z))
        rw [e1, ih]
        by_cases h : m ∈ r
        · rw [if_pos h, if_pos (List.mem_cons_of_mem _ h)]
        · rw [if_neg h, if_neg (by rw [List.mem_cons, not_or]; exact ⟨fun z => e z.symm, h⟩)]
  unfold cntBy
  rw [z]
  by_cases h : m ∈ l
  · rw [if_pos h, if_pos (firsts_mem.mpr h)]
  · rw [if_neg h, if_neg (fun z => h (firsts_mem.mp z))]
/-- one more, with a reckoning that is another for it alone -/
theorem ti_put (c c' : Str → Int) (l : List Str) (m : Str) (h : ∀ x, x ≠ m → c' x = c x) : putK (tiKv (cntBy c l)) (.inr m) (.int (c' m)) = tiKv (cntBy c' (l ++ [m])) := by
  unfold cntBy
  rw [firsts_snoc]
  by_cases hm : m ∈ l
  · rw [if_pos hm]
    unfold putK
    rw [valV_any]
    have e := ti_val c l m
    unfold cntBy at e
    rw [e, if_pos hm]
    show (tiKv _).map _ = _
    unfold tiKv
    rw [List.map_map, List.map_map, List.map_map]
    refine List.map_congr_left fun x _ => ?_
    show (if (Sum.inr x : Key) = Sum.inr m then ((Sum.inr x : Key), V.int (c' m)) else (Sum.inr x, V.int (c x))) = (Sum.inr x, V.int (c' x))
    by_cases ex : x = m
    · subst ex
      rw [if_pos rfl]
    · rw [if_neg (fun z => ex (Sum.inr.inj z)), h x ex]
  · rw [if_neg hm]
    have e := ti_val c l m
    unfold cntBy at e
    rw [if_neg hm] at e
    rw [putK_new _ e]
    unfold tiKv
    rw [List.map_append, List.map_append]
    show _ ++ [((Sum.inr m : Key), V.int (c' m))] = _ ++ [((Sum.inr m : Key), V.int (c' m))]
    congr 1
    rw [List.map_map, List.map_map]
    refine List.map_congr_left fun x hx => ?_
    show ((Sum.inr x : Key), V.int (c x)) = (Sum.inr x, V.int (c' x))
    rw [h x (fun z => hm (by rw [← z]; exact firsts_mem.mp hx))]
theorem counted_by (l : List Str) : counted l = cntBy (fun m => (l.count m : Int)) l := rfl
theorem cntBy_len (c : Str → Int) : ∀ l : List Str, (cntBy c l).length ≤ l.length := fun l => by
  have z : ∀ l : List Str, (firsts l).length ≤ l.length := fun l => by
    induction l with
    | nil => exact Nat.le_refl _
    | cons y r ih =>
      unfold firsts
      have := List.length_filter_le (fun z => decide (z ≠ y)) (firsts r)
      rw [List.length_cons, List.length_cons]
      omega
  unfold cntBy
  rw [List.length_map]
  exact z l
theorem count_strs (ms : List Str) (x : Str) : (ms.map PyData.str).countP (fun z => PyData.eqv z (.str x)) = ms.count x := by
  rw [List.countP_map, List.count]
  refine List.countP_congr fun y _ => ?_
  show PyData.eqv (.str y) (.str x) = true ↔ (y == x) = true
  simp [PyData.eqv]
section
variable {P : Program} {w : World} {K : PySem.W.Frag} {mg : Str → Option Value} {base : Heap} {CB CQ : Addr}
theorem scOutsB : FnScope ["self", "name"] ["self"] (defScope sBOuts) := ⟨rfl, rfl, rfl, by decide +kernel, rfl, by decide +kernel, by decide +kernel⟩
theorem ok_outsB {f : Addr} {fd : FuncData} (F : Fun K "outs" "Bank.outs" sBOuts f fd) (C : BCls K CB) (mso : mg "sorted" = none) (mli : mg "list" = none) : FnOk P w K mg base CX0 1 f fd ["self"] (spOutsB CB CQ) := by
  refine F.ok scOutsB (fun vs H Q E h => ?_) (fun cdv A outer s H vs Q E hr h => ?_)
  · obtain ⟨b, k, r, d, B, rfl, _⟩ := h
    rfl
  · obtain ⟨b, k, r, d, B, rfl, hB, hl, q⟩ := h
    have hu := hu_of hr
    refine ⟨_, pss_one (ps_ret (pe_lc (own := [("name", 1)]) (g := gName 1) (te := tTup (tCons (tVar 1) (tCons (tDGet (tFld K (tVar 0) "reasons") (tVar 1)) tNil))) rfl scOutsB.nd (pi_list (pe_callB cr_sortedS (by rfl) mso (by decide +kernel) (pa_cons (pe_callTy (call_listD rfl) (by rfl) mli (by decide +kernel) (pa_cons (pe_fld (pv 0) rfl) pa_nil)) pa_nil))) (blkOk_by (N := ["self", "name"]) (sc := defScope sBOuts) (by decide +kernel))
        (fun _ _ _ _ _ => pg_name (i := 1) scOutsB.nd rfl (Or.inl rfl)) (fun _ _ _ _ _ => pts_nil) (fun _ _ _ _ _ => pe_tup (pa_cons (pv 1) (pa_cons (pe_dget hu (pe_fld (pv 0) rfl) (pv 1) (fun _ _ => rfl)) pa_nil))))), ?_⟩
    obtain ⟨dx, hb⟩ := hB.at_
    obtain ⟨kr, er, tr⟩ := hB.outs
    refine ⟨_, rfl, b, CB, dx, _, _, rfl, hb, C.cls, C.no _ (by decide), lb_reasons _ _ _, r, kr, rfl, .inl er, fun p np => ?_⟩
    rw [keys_strs tr]
    refine ⟨p, B.os, rfl, SqL.of upd_same, hl, fun ys p2 pm so n2 => ?_⟩
    rw [srt_of pm so]
    have s1 : Same H (upd H p (.lst (B.os.map V.str))) := same_upd np
    have s2 := s1.trans (same_upd (o := .lst ((srt B.os).map V.str)) n2)
    have e2 : upd (upd H p (.lst (B.os.map V.str))) p2 (.lst ((srt B.os).map V.str)) p2 = some (.lst ((srt B.os).map V.str)) := upd_same
    generalize upd (upd H p (.lst (B.os.map V.str))) p2 (.lst ((srt B.os).map V.str)) = H1 at s2 e2
    refine ⟨p2, rfl, ⟨_, SqL.of e2⟩, fun D nD => ?_⟩
    have nD0 : H D = none := by
      cases e : H D with
      | none => rfl
      | some o => rw [s2 _ _ e] at nD; cases nD
    have aD : ∀ {a : Addr} {o : HO}, H1 a = some o → a ≠ D := fun {a o} e => ne_of_none e nD
    have hb1 := s2 _ _ hb
    have er1 := s2 _ _ er
    refine lc_it (walk_list (K := K) (a := p2) (xs := (srt B.os).map V.str)) (fun i G => (∀ a o, a ≠ D → H1 a = some o → G a = some o) ∧ PairsAt G D (((srt B.os).take i).map fun n => (n, B.g n))) ⟨fun a o n e => by rw [upd_ne n]; exact e, [], upd_same, rfl, fun i a q e => by cases e⟩ (fun i G _ h => SqL.of (h.1 _ _ (aD e2) e2)) ?_ ?_
    · rintro i x G G' hi ⟨kp, as, hd, la, ha⟩ ⟨rfl, hx⟩
      obtain ⟨n, hn, rfl⟩ := getD_map hx
      have nm : n ∈ B.os := srt_mem.mp (List.mem_of_getElem? hn)
      obtain ⟨v, g, e⟩ := (show TbAt G' r B.os (ROuts B.g) from ⟨kr, kp _ _ (aD er1) er1, tr⟩).get nm
      have e : v = .str (B.g n) := e
      subst e
      have il : i < (srt B.os).length := (List.getElem?_eq_some_iff.mp hn).1
      rw [srt_len] at il
      have l0 : as.length = i := by
        rw [la, List.length_map, List.length_take, srt_len]
        omega
      refine ⟨rfl, _, rfl, _, rfl, b, CB, dx, _, _, rfl, kp _ _ (aD hb1) hb1, C.cls, C.no _ (by decide), lb_reasons _ _ _, _, rfl, r, _, rfl, g, by show 2 ≤ sizeLine; decide, fun t nt => ⟨_, by rw [upd_ne (ne_of_none hd nt)]; exact hd, by rw [List.length_map, l0, sizeLine_eq]; omega, fun a o n e => ?_, as ++ [t], by rw [upd_same, List.map_append]; rfl, ?_, fun j a q e1 e2 => ?_⟩⟩
      · rw [upd_ne n, upd_ne (ne_of_none (kp a o n e) nt)]
        exact kp a o n e
      · rw [List.length_append, List.length_singleton, l0, List.length_map, List.length_take, srt_len]
        omega
      · rw [List.take_add_one, hn, List.map_append] at e2
        have lm : (((srt B.os).take i).map fun n => (n, B.g n)).length = i := by rw [← la, l0]
        have tD : t ≠ D := fun z => by subst z; rw [hd] at nt; cases nt
        by_cases hj : j < i
        · rw [List.getElem?_append_left (by omega)] at e1 e2
          have z := ha j a q e1 e2
          have aD' : a ≠ D := fun z' => by subst z'; rw [hd] at z; cases z
          rw [upd_ne aD', upd_ne (ne_of_none z nt)]
          exact z
        · rw [List.getElem?_append_right (by omega)] at e1 e2
          rw [l0] at e1
          rw [lm] at e2
          cases hji : j - i with
          | zero =>
            rw [hji] at e1 e2
            cases e1
            cases e2
            rw [upd_ne tD, upd_same]
          | succ j' =>
            rw [hji] at e1
            cases e1
    · rintro G ⟨kp, pa⟩
      rw [List.length_map, List.take_of_length_le (Nat.le_refl _)] at pa
      exact q D G (fun a o e => kp a o (aD (s2 _ _ e)) (s2 _ _ e)) nD0 pa
end
end Pk
namespace Pk
open PySem L2
/-- a dict comprehension over a walk -/
theorem dc_it {J : It} {n : Nat} {G : Hp → Prop} {Y : Nat → Hp → V → Hp → Prop} (w : Walk J n G Y) {g : TG} {tt : TT} {tk tv : TE} {vs : List Nat} {σ : St} {H1 : Hp} {D : Addr} {Qd : Hp → Prop} (Pv : Nat → Hp → Prop) (h0 : Pv 0 (upd H1 D (.dK []))) (hG : ∀ i H, i ≤ n → Pv i H → G H)
    (hs : ∀ i x H H', i < n → Pv i H → Y i H x H' → g x (wipe σ vs) H' fun σ2 H2 => wipe σ2 vs = wipe σ vs ∧ tt σ2 H2 fun b H3 =>
      if b = true then tk σ2 H3 fun y H4 => tv σ2 H4 fun z H5 => ∃ kvs k, y = kV k ∧ H5 D = some (.dK kvs) ∧ kvs.length < sizeLine ∧ Pv (i + 1) (upd H5 D (.dK (putK kvs k z))) else Pv (i + 1) H3) (hd : ∀ H, Pv n H → Qd H) :
    ∃ W : Nat → Nat → Hp → Prop, (∃ m, W 0 m (upd H1 D (.dK []))) ∧ ∀ i m H, W i m H →
      (J.stop i H ∧ Qd H) ∨ (J.go i H ∧ ∃ Nx : Hp → Prop, (∀ H', Nx H' → ∃ m', m' < m ∧ W (i + 1) m' H') ∧ ∀ x H', J.yld i H x H' → g x (wipe σ vs) H' fun σ2 H2 => wipe σ2 vs = wipe σ vs ∧ tt σ2 H2 fun b H3 =>
        if b = true then tk σ2 H3 fun y H4 => tv σ2 H4 fun z H5 => ∃ kvs k, y = kV k ∧ H5 D = some (.dK kvs) ∧ kvs.length < sizeLine ∧ Nx (upd H5 D (.dK (putK kvs k z))) else Nx H3) := by
  refine ⟨fun i m H => m = n - i ∧ i ≤ n ∧ Pv i H, ⟨n, by simp, Nat.zero_le _, h0⟩, ?_⟩
  rintro i m H ⟨rfl, hi, p⟩
  have q := hG i H hi p
  by_cases hlt : i < n
  · refine .inr ⟨w.goes i H hlt q, Pv (i + 1), fun H' p' => ⟨n - (i + 1), by omega, rfl, hlt, p'⟩, fun x H' y => hs i x H H' hlt p (w.yields i H x H' hlt q y)⟩
  · have e : i = n := by omega
    subst e
    exact .inl ⟨w.stops H q, hd H p⟩
section
variable {P : Program} {w : World} {K : PySem.W.Frag} {mg : Str → Option Value} {base : Heap} {CB CQ : Addr}
abbrev NMatters : List Str := ["self", "told", "name", "matter"]
theorem scMatters : FnScope NMatters ["self"] (defScope sBMatters) := ⟨rfl, rfl, rfl, by decide +kernel, rfl, by decide +kernel, by decide +kernel⟩
theorem strs_shapedL {ws : List Str} (h : ws.all PyData.strOk = true) : SeqAt.shaped (.list (ws.map .str)) = true := by
  have e := PyProof.Rows.canLayAll_strs' ws
  rw [h] at e
  simp [SeqAt.shaped, PyData.canLay0, PyData.depth, e, strs_depthA]
theorem str_shaped {z : Str} (h : PyData.strOk z = true) : SeqAt.shaped (.str z) = true := by
  simp [SeqAt.shaped, PyData.canLay0, PyData.depth, h]
theorem ins_len (B : BD) : B.ins.length ≤ B.ns.length := by
  have := List.length_filter_le (fun n => !decide (n ∈ B.os)) (srt B.ns)
  rw [srt_len] at this
  exact this
theorem ins_mem {B : BD} {n : Str} (h : n ∈ B.ins) : n ∈ B.ns := srt_mem.mp (List.mem_filter.mp h).1
theorem ms_name {B : BD} (g : GoodB B) : ∀ m ∈ B.ms, nameT m = true := fun m hm => by
  obtain ⟨n, hn, rfl⟩ := List.mem_map.mp (srt_mem.mp hm)
  exact (g.nm n (ins_mem hn)).1.mt
theorem ms_len (B : BD) : B.ms.length = B.ins.length := by
  unfold BD.ms
  rw [srt_len, List.length_map]
theorem ok_matters {f fN : Addr} {fd fdN : FuncData} (F : Fun K "matters" "Bank.matters" sBMatters f fd) (C : BCls K CB) (CC : QCls K CQ) (mso : mg "sorted" = none)
    (GN : FnOk P w K mg base CX0 2 fN fdN ["self"] (spNamesInB CB CQ)) (MN : Meth K CB "names_in" fN) (bN : Binds K fdN ["self"] []) : FnOk P w K mg base CX0 3 f fd ["self"] (spMattersB CB CQ) := by
  refine F.ok scMatters (fun vs H Q E h => ?_) (fun cdv A outer s H vs Q E hr h => ?_)
  · obtain ⟨b, k, r, d, B, rfl, _⟩ := h
    rfl
  · obtain ⟨b, k, r, d, B, rfl, hB, gB, q⟩ := h
    have hu := hu_of hr
    have hu65 : _ + 65 < cLine := Nat.lt_of_le_of_lt (Nat.add_le_add_left (by decide) _) (room_show hr)
    refine ⟨_, pss_cons (ps_set (i := 1) scMatters.nd rfl (.inr rfl) (pe_callB cr_sortedS (by rfl) mso (by decide +kernel) (pa_cons (pe_lc (own := [("name", 2)]) (g := gName 2) (te := tFld K (tDGet (tFld K (tVar 0) "kept") (tVar 2)) "matter") rfl scMatters.nd (pi_list (pe_meth0 (pv 0) C.cls MN GN hr bN .nil pass0)) (blkOk_by (N := NMatters) (sc := defScope sBMatters) (by decide +kernel))
        (fun _ _ _ _ _ => pg_name (i := 2) scMatters.nd rfl (Or.inl rfl)) (fun _ _ _ _ _ => pts_nil) (fun _ _ _ _ _ => pe_fld (pe_dget hu (pe_fld (pv 0) rfl) (pv 2) (fun _ _ => rfl)) rfl)) pa_nil)))
      (pss_one (ps_ret (pe_dc (own := [("matter", 3)]) (g := gName 3) (tk := tVar 3) (tv := tBM K "list" (rCountD K) (tVar 1) (tCons (tVar 3) tNil)) rfl scMatters.nd (pi_list (pv 1)) (blkOk_by (N := NMatters) (sc := defScope sBMatters) (by decide +kernel))
        (fun _ _ _ _ _ => pg_name (i := 3) scMatters.nd rfl (Or.inl rfl)) (fun _ _ _ _ _ => pts_nil) (fun _ _ _ _ _ => pv 3) (fun _ _ _ _ _ => pe_bm PySem.F.plainAttrs_list PySem.F.slot_list_count PySem.F.type_list_count (mt_countD hu65) (pv 1) (pa_cons (pv 3) pa_nil))))), ?_⟩
    obtain ⟨dx, hb⟩ := hB.at_
    have l60 := gB.le
    refine ⟨_, rfl, b, dx, _, rfl, hb, lb_meth (by decide) _ _ _, b, k, r, d, B, rfl, hB, by omega, fun p H1 s1 np hp => ⟨p, rfl, ⟨_, SqL.of hp⟩, fun D nD => ?_⟩⟩
    have hB1 := hB.same s1
    have hb1 := s1 _ _ hb
    have nD0 : H D = none := by
      cases e : H D with
      | none => rfl
      | some o => rw [s1 _ _ e] at nD; cases nD
    have aD : ∀ {a : Addr} {o : HO}, H1 a = some o → a ≠ D := fun {a o} e => ne_of_none e nD
    have li := ins_len B
    refine lc_it (walk_list (K := K) (a := p) (xs := B.ins.map V.str)) (fun i G => (∀ a o, a ≠ D → H1 a = some o → G a = some o) ∧ G D = some (.lst (((B.ins.take i).map fun n => (B.f n).mt).map V.str))) ⟨fun a o n e => by rw [upd_ne n]; exact e, upd_same⟩ (fun i G _ h => SqL.of (h.1 _ _ (aD hp) hp)) ?_ ?_
    · rintro i x G G' hi ⟨kp, hd⟩ ⟨rfl, hx⟩
      obtain ⟨n, hn, rfl⟩ := getD_map hx
      have hBG := hB1.same (H' := G') fun a o e => kp a o (aD e) e
      obtain ⟨v, g, y, rfl, dq, aq, hy, _⟩ := hBG.kept.get (ins_mem (List.mem_of_getElem? hn))
      have il : i < B.ins.length := (List.getElem?_eq_some_iff.mp hn).1
      exact ⟨rfl, _, rfl, b, CB, dx, _, _, rfl, kp _ _ (aD hb1) hb1, C.cls, C.no _ (by decide), lb_kept _ _ _, _, rfl, k, _, rfl, g, y, CQ, dq, _, _, rfl, hy, CC.cls, CC.no _ (by decide), look_matter _ _ _ _ _ _ _, _, hd, by rw [List.length_map, List.length_map, List.length_take, sizeLine_eq]; omega, fun a o n e => by rw [upd_ne n]; exact kp a o n e, by rw [upd_same, List.take_add_one, hn, List.map_append, List.map_append]; rfl⟩
    · rintro G ⟨kp, hd⟩
      rw [List.length_map, List.take_of_length_le (Nat.le_refl _)] at hd
      have sG : Same H G := fun a o e => kp a o (aD (s1 _ _ e)) (s1 _ _ e)
      refine ⟨D, _, rfl, SqL.of hd, by rw [List.length_map]; omega, fun ys p2 pm so n2 => ?_⟩
      rw [srt_of pm so]
      rw [show srt (B.ins.map fun n => (B.f n).mt) = B.ms from rfl]
      have s2 := sG.trans (same_upd (o := .lst (B.ms.map V.str)) n2)
      have e2 : upd G p2 (.lst (B.ms.map V.str)) p2 = some (.lst (B.ms.map V.str)) := upd_same
      generalize upd G p2 (.lst (B.ms.map V.str)) = H2 at s2 e2 ⊢
      refine ⟨_, rfl, p2, rfl, ⟨_, SqL.of e2⟩, fun D2 nD2 => ?_⟩
      have nD3 : H D2 = none := by
        cases e : H D2 with
        | none => rfl
        | some o => rw [s2 _ _ e] at nD2; cases nD2
      have aD2 : ∀ {a : Addr} {o : HO}, H2 a = some o → a ≠ D2 := fun {a o} e => ne_of_none e nD2
      have ml := ms_len B
      have sok : B.ms.all PyData.strOk = true := List.all_eq_true.mpr fun m hm => name_strOk (ms_name gB m hm)
      refine dc_it (walk_list (K := K) (a := p2) (xs := B.ms.map V.str)) (fun i G => (∀ a o, a ≠ D2 → H2 a = some o → G a = some o) ∧ G D2 = some (.dK (tiKv (cntBy (fun m => (B.ms.count m : Int)) (B.ms.take i))))) ⟨fun a o n e => by rw [upd_ne n]; exact e, upd_same⟩ (fun i G _ h => SqL.of (h.1 _ _ (aD2 e2) e2)) ?_ ?_
      · rintro i x G1 G' hi ⟨kp2, hd2⟩ ⟨rfl, hx⟩
        obtain ⟨m, hm, rfl⟩ := getD_map hx
        have e2G := kp2 _ _ (aD2 e2) e2
        have cl := cntBy_len (fun m => (B.ms.count m : Int)) (B.ms.take i)
        rw [List.length_take] at cl
        refine ⟨rfl, _, rfl, _, rfl, .inl ⟨rfl, _, SqL.of e2G⟩, _, rfl, p2, .str m, .str m, B.ms.map .str, rfl, rfl, .lst (SqL.of e2G) (strs_dpA _), .str m, strs_shapedL sok, str_shaped (name_strOk (ms_name gB m (List.mem_of_getElem? hm))), _, .inr m, rfl, hd2, by unfold tiKv; rw [List.length_map, sizeLine_eq]; omega, fun a o n e => by rw [upd_ne n]; exact kp2 a o n e, ?_⟩
        rw [upd_same, count_strs, List.take_add_one, hm]
        rw [ti_put (fun m => (B.ms.count m : Int)) (fun m => (B.ms.count m : Int)) _ _ (fun _ _ => rfl)]
        rfl
      · rintro G1 ⟨kp2, hd2⟩
        rw [List.length_map, List.take_of_length_le (Nat.le_refl _)] at hd2
        exact q D2 G1 (fun a o e => kp2 a o (aD2 (s2 _ _ e)) (s2 _ _ e)) nD3 hd2
end
end Pk
namespace Pk
open PySem L2
/-! ### banks compared -/
def eqTb (ns ms : List Str) (e : Str → Bool) : Bool := ns.length == ms.length && ns.all fun n => decide (n ∈ ms) && e n
def eqBk (B1 B2 : BD) : Bool := eqTb B1.ns B2.ns (fun n => decide (B1.f n = B2.f n)) && (eqTb B1.os B2.os (fun n => decide (B1.g n = B2.g n)) && eqTb B1.ns B2.ns (fun n => decide (B1.h n = B2.h n)))
theorem valV_mem {kvs : List (Key × V)} {p : Key × V} (nd : (kvs.map (·.1)).Nodup) (h : p ∈ kvs) : valV kvs p.1 = some p.2 := by
  induction kvs with
  | nil => cases h
  | cons q r ih =>
    obtain ⟨n1, n2⟩ := List.nodup_cons.mp nd
    rcases List.mem_cons.mp h with e | e
    · subst e
      exact valV_pos rfl
    · rw [valV_neg (fun z => n1 (by show q.1 ∈ r.map (·.1); rw [z]; exact List.mem_map_of_mem (f := (·.1)) e))]
      exact ih n2 e
theorem inr_nd {ns : List Str} (h : ns.Nodup) : (ns.map (Sum.inr : Str → Key)).Nodup := by
  induction ns with
  | nil => exact List.nodup_nil
  | cons n r ih =>
    obtain ⟨h1, h2⟩ := List.nodup_cons.mp h
    refine List.nodup_cons.mpr ⟨fun z => ?_, ih h2⟩
    obtain ⟨m, hm, e⟩ := List.mem_map.mp z
    cases e
    exact h1 hm
theorem TbK.mem {kvs : List (Key × V)} {ns : List Str} {R : Str → V → Prop} {p : Key × V} (h : TbK kvs ns R) (nd : ns.Nodup) (hp : p ∈ kvs) : ∃ n ∈ ns, p.1 = Sum.inr n ∧ R n p.2 := by
  have h1 : p.1 ∈ ns.map (Sum.inr : Str → Key) := by rw [← h.1]; exact List.mem_map_of_mem hp
  obtain ⟨n, hn, e⟩ := List.mem_map.mp h1
  obtain ⟨v, ev, r⟩ := h.2 n hn
  have z := valV_mem (by rw [h.1]; exact inr_nd nd) hp
  rw [← e, ev] at z
  cases z
  exact ⟨n, hn, e.symm, r⟩
theorem all_keys {kvs : List (Key × V)} {ns : List Str} (h : kvs.map (·.1) = ns.map Sum.inr) (g : Key → Bool) : (kvs.all fun p => g p.1) = ns.all fun n => g (.inr n) := by
  have e : (kvs.map (·.1)).all g = (ns.map Sum.inr).all g := by rw [h]
  rw [List.all_map, List.all_map] at e
  exact e
def byName (e : Str → Bool) : Key → Bool
  | .inr n => e n
  | .inl _ => false
theorem TbK.eqs {ks ls : List (Key × V)} {ns ms : List Str} {R R' : Str → V → Prop} (h : TbK ks ns R) (k : TbK ls ms R') (e : Str → Bool) : (ks.length == ls.length && ks.all fun p => (valV ls p.1).isSome && byName e p.1) = eqTb ns ms e := by
  unfold eqTb
  rw [h.len, k.len]
  congr 1
  rw [all_keys h.1 (fun z => (valV ls z).isSome && byName e z)]
  congr 1
  funext n
  congr 1
  by_cases hn : n ∈ ms
  · obtain ⟨v, ev, _⟩ := k.2 n hn
    rw [ev, decide_eq_true hn]
    rfl
  · rw [k.no hn, decide_eq_false hn]
    rfl
theorem ints_dpA {K : PySem.W.Frag} {H : Hp} : ∀ ns : List Int, DpAll K H (ns.map V.int) (ns.map .int)
  | [] => .nil
  | z :: r => .cons (.int z) (ints_dpA r)
theorem ints_eqv (ns ms : List Int) : PyData.eqv (.list (ns.map PyData.int)) (.list (ms.map PyData.int)) = decide (ns = ms) := by
  rw [← SeqAt.same_eq_eqv _ _ (by simp only [SeqAt.noMix]; exact PySem.W.noMix_ints ns ms)]
  simp only [PySem.Spec.same]
  exact PySem.W.same_ints ns ms
def spEqB (K : PySem.W.Frag) (CB CQ : Addr) : Sp := fun vs H Q _ => ∃ (b k r d : Addr) (B : BD) (y : V), vs = [.ref b, y] ∧ BankAt CB CQ H b k r d B ∧ GoodB B ∧
  ((∃ (b2 k2 r2 d2 : Addr) (B2 : BD), y = .ref b2 ∧ BankAt CB CQ H b2 k2 r2 d2 B2 ∧ GoodB B2 ∧ k ≠ k2 ∧ r ≠ r2 ∧ d ≠ d2 ∧ Q (.bl (eqBk B B2)) H) ∨ ∃ tb, TyX K H y tb ∧ PySem.W.kitOne K tb (.ref CB) = some false ∧ Q (.bl false) H)
section
variable {P : Program} {w : World} {K : PySem.W.Frag} {mg : Str → Option Value} {base : Heap} {CB CQ : Addr}
theorem scEqB : FnScope ["self", "other"] ["self", "other"] (defScope sBEq) := ⟨rfl, rfl, rfl, by decide +kernel, rfl, by decide +kernel, by decide +kernel⟩
theorem ok_eqB {f fE : Addr} {fd fdE : FuncData} (F : Fun K "__eq__" "Bank.__eq__" sBEq f fd) (C : BCls K CB) (O : OTy K CB) (mi : mg "isinstance" = none) (gB : mg "Bank" = some (.ref CB))
    (GE : FnOk P w K mg base CX0 2 fE fdE ["self", "other"] (spQEq K CQ)) (aE : PySem.W.findIn K (.ref CQ) "__eq__" = some (some (.ref fE))) (hE : PySem.W.isFn K (.ref fE) = true) (bE : Binds K fdE ["self", "other"] []) : FnOk P w K mg base CX0 4 f fd ["self", "other"] (spEqB K CB CQ) := by
  refine F.ok scEqB (fun vs H Q E h => ?_) (fun cdv A outer s H vs Q E hr h => ?_)
  · obtain ⟨b, k, r, d, B, y, rfl, _⟩ := h
    rfl
  · obtain ⟨b, k, r, d, B, y, rfl, hB, gd, h⟩ := h
    have hu : _ < cLine := room1 hr
    have hu65 : _ + 65 < cLine := Nat.lt_of_le_of_lt (Nat.add_le_add_left (by decide) _) (room_show hr)
    refine ⟨_, pss_one (ps_ret (pe_and (pe_callB call_isi (by rfl) mi (by decide +kernel) (pa_cons (pv 1) (pa_cons (pe_glob (v := .ref CB) (by rfl) gB rfl (by decide)) pa_nil)))
      (pe_and (pe_cmpR (op_eqDO hu) (pe_fld (pv 0) rfl) (pe_fld (pv 1) rfl) (nomark _)) (pe_and (pe_cmpR (op_eqDO hu) (pe_fld (pv 0) rfl) (pe_fld (pv 1) rfl) (nomark _)) (pe_one (pe_cmpR (op_eqDO hu) (pe_fld (pv 0) rfl) (pe_fld (pv 1) rfl) (nomark _))))))), ?_⟩
    obtain ⟨dx, hb⟩ := hB.at_
    rcases h with ⟨b2, k2, r2, d2, B2, rfl, hB2, gd2, nk, nr, nd, q⟩ | ⟨tb, ty, kt, q⟩
    case inr => exact ⟨_, rfl, _, _, tb, _, false, rfl, .own _, ty, kt, _, rfl, iteF q⟩
    obtain ⟨dx2, hb2⟩ := hB2.at_
    obtain ⟨kk, ek, tk⟩ := hB.kept
    obtain ⟨kr, er, tr⟩ := hB.outs
    obtain ⟨kd, ed, td⟩ := hB.days
    obtain ⟨kk2, ek2, tk2⟩ := hB2.kept
    obtain ⟨kr2, er2, tr2⟩ := hB2.outs
    obtain ⟨kd2, ed2, td2⟩ := hB2.days
    refine ⟨_, rfl, _, _, _, _, true, rfl, .own _, O.ty hb2, O.hk, _, rfl, iteT ?_⟩
    have off : ∀ {a c : Addr} {kvs : List (Key × V)} {o : HO}, H a = some (.dK kvs) → (∀ kvs, o ≠ .dK kvs) → H c = some o → c ≠ a := fun {a c kvs o} e n e2 z => by subst z; rw [e] at e2; cases e2; exact n _ rfl
    refine ⟨_, rfl, b, CB, dx, _, _, rfl, hb, C.cls, C.no _ (by decide), lb_kept _ _ _, _, rfl, b2, CB, dx2, _, _, rfl, hb2, C.cls, C.no _ (by decide), lb_kept _ _ _, k, k2, kk, kk2, byName fun n => decide (B.f n = B2.f n), rfl, rfl, nk, ek, ek2, fun p hp z ez G hG => ?_, ?_⟩
    · obtain ⟨n, hn, e1, x, e2, qi⟩ := tk.mem gd.nd hp
      rw [e1] at ez ⊢
      have hn2 : n ∈ B2.ns := by
        by_cases hh : n ∈ B2.ns
        · exact hh
        · rw [tk2.no hh] at ez; cases ez
      obtain ⟨v2, ev2, x2, e3, qi2⟩ := tk2.2 n hn2
      rw [ev2] at ez
      cases ez
      rw [e2, e3]
      have sG : ∀ a o, (∀ kvs, o ≠ .dK kvs) → (∀ L, o ≠ .lst L) → H a = some o → G a = some o := fun a o n1 _ e => hG a o (off ek n1 e) (off ek2 n1 e) e
      exact EqV.own GE hr aE hE bE ((qi.by sG).eqOf (qi2.by sG))
    rw [tk.eqs tk2]
    refine ⟨_, rfl, ?_⟩
    unfold eqBk at q
    cases h1 : eqTb B.ns B2.ns (fun n => decide (B.f n = B2.f n)) with
    | false =>
      rw [h1, Bool.false_and] at q
      exact iteF q
    | true =>
    rw [h1, Bool.true_and] at q
    refine iteT ⟨_, rfl, b, CB, dx, _, _, rfl, hb, C.cls, C.no _ (by decide), lb_reasons _ _ _, _, rfl, b2, CB, dx2, _, _, rfl, hb2, C.cls, C.no _ (by decide), lb_reasons _ _ _, r, r2, kr, kr2, byName fun n => decide (B.g n = B2.g n), rfl, rfl, nr, er, er2, fun p hp z ez G hG => ?_, ?_⟩
    · obtain ⟨n, hn, e1, e2⟩ := tr.mem gd.od hp
      have e2 : p.2 = .str (B.g n) := e2
      rw [e1] at ez ⊢
      have hn2 : n ∈ B2.os := by
        by_cases hh : n ∈ B2.os
        · exact hh
        · rw [tr2.no hh] at ez; cases ez
      obtain ⟨v2, ev2, e3⟩ := tr2.2 n hn2
      have e3 : v2 = .str (B2.g n) := e3
      rw [ev2] at ez
      cases ez
      rw [e2, e3]
      exact EqV.str G _ _
    rw [tr.eqs tr2]
    refine ⟨_, rfl, ?_⟩
    cases h2 : eqTb B.os B2.os (fun n => decide (B.g n = B2.g n)) with
    | false =>
      rw [h2, Bool.false_and] at q
      exact iteF q
    | true =>
    rw [h2, Bool.true_and] at q
    refine iteT ⟨_, rfl, b, CB, dx, _, _, rfl, hb, C.cls, C.no _ (by decide), lb_days _ _ _, _, rfl, b2, CB, dx2, _, _, rfl, hb2, C.cls, C.no _ (by decide), lb_days _ _ _, d, d2, kd, kd2, byName fun n => decide (B.h n = B2.h n), rfl, rfl, nd, ed, ed2, fun p hp z ez G hG => ?_, ?_⟩
    · obtain ⟨n, hn, e1, x, e2, hx⟩ := td.mem gd.nd hp
      rw [e1] at ez ⊢
      have hn2 : n ∈ B2.ns := by
        by_cases hh : n ∈ B2.ns
        · exact hh
        · rw [td2.no hh] at ez; cases ez
      obtain ⟨v2, ev2, x2, e3, hx2⟩ := td2.2 n hn2
      rw [ev2] at ez
      cases ez
      rw [e2, e3]
      have g1 := hG x _ (off ed (fun _ z => by cases z) hx) (off ed2 (fun _ z => by cases z) hx) hx
      have g2 := hG x2 _ (off ed (fun _ z => by cases z) hx2) (off ed2 (fun _ z => by cases z) hx2) hx2
      have z := EqV.data (X := (cxOf CX0 P w K mg base ["self", "other"] (Str.ofString "Bank.__eq__") (defScope sBEq) f cdv A outer s H E).nox) (G := G) hu65 (.lst (SqL.of g1) (ints_dpA (B.h n))) (.lst (SqL.of g2) (ints_dpA (B2.h n))) (PySem.W.shaped_ints _) (PySem.W.shaped_ints _)
      rw [ints_eqv] at z
      exact z
    rw [td.eqs td2]
    exact q
end
end Pk
namespace Pk
open PySem L2
/-! ### banks made -/
/-- what is handed in for questions -/
def Handed (H : Hp) (y : V) (L : List V) : Prop := (y = .non ∧ L = []) ∨ ∃ a, y = .ref a ∧ (H a = some (.lst L) ∨ H a = some (.tup L))
theorem Handed.same {H H' : Hp} {y : V} {L : List V} (h : Handed H y L) (s : Same H H') : Handed H' y L := by
  rcases h with h | ⟨a, e, h | h⟩
  · exact .inl h
  · exact .inr ⟨a, e, .inl (s _ _ h)⟩
  · exact .inr ⟨a, e, .inr (s _ _ h)⟩
def NoList (K : PySem.W.Frag) (H : Hp) (y : V) : Prop := y ≠ .non ∧ ∃ tb, (∀ G, Same H G → TyX K G y tb) ∧ PySem.W.kitAny K tb [.type "list", .type "tuple"] = some false
def spListed (K : PySem.W.Frag) (cK : Addr) : Sp := fun vs H Q E => ∃ y : V, vs = [y] ∧ ((∃ L : List V, Handed H y L ∧ ∀ (p : Addr) (H' : Hp), Same H H' → H p = none → H' p = some (.lst L) → Q (.ref p) H') ∨ (NoList K H y ∧ Err1 cK "wanted" (.str "list") H E))
def spInitB (K : PySem.W.Frag) (CB CQ cK cT cM : Addr) : Sp := fun vs H Q E => ∃ (H0 : Hp) (b dx : Addr) (y : V), vs = [.ref b, y] ∧ H b = some (.ins CB dx []) ∧ H0 b = none ∧ Same H0 H ∧
  ((∃ (L : List V) (ts : List (Option QD)), Handed H0 y L ∧ L.length = ts.length ∧ (∀ (i : Nat) (v : V) (t : Option QD), L[i]? = some v → ts[i]? = some t → ThB K CQ H0 v t) ∧
      (∀ B, runB B0 ts = .inl B → ∀ (k r d : Addr) (H' : Hp), Same H0 H' → H0 k = none → H0 r = none → H0 d = none → BankAt CB CQ H' b k r d B → Q .non H') ∧ ∀ e, runB B0 ts = .inr e → BadE cK cT cM H0 E e) ∨
    (NoList K H0 y ∧ Err1 cK "wanted" (.str "list") H0 E))
theorem Err1.same {C : Addr} {fl : Str} {v : V} {H H' : Hp} {E : XK} (h : Err1 C fl v H E) (s : Same H H') : Err1 C fl v H' E := fun d G k e => h d G (s.trans k) e
theorem BadE.same {cK cT cM : Addr} {H H' : Hp} {E : XK} {e : Bad} (h : BadE cK cT cM H E e) (s : Same H H') : BadE cK cT cM H' E e := by
  cases e with
  | kind => exact Err1.same h s
  | many => exact Err1.same h s
  | twice n => exact Err1.same h s
theorem NoList.same {K : PySem.W.Frag} {H H' : Hp} {y : V} (h : NoList K H y) (s : Same H H') : NoList K H' y := ⟨h.1, by
  obtain ⟨tb, h1, h2⟩ := h.2
  exact ⟨tb, fun G k => h1 G (s.trans k), h2⟩⟩
theorem none_of {H H' : Hp} {a : Addr} (s : Same H H') (h : H' a = none) : H a = none := by
  cases e : H a with
  | none => rfl
  | some o => rw [s _ _ e] at h; cases h
theorem run_cons (B : BD) (q : QD) (r : List (Option QD)) : runB B (some q :: r) = if q.nm ∈ B.ns then .inr (.twice q.nm) else if 60 ≤ B.ns.length then .inr .many else runB (B.add q) r := rfl
section
variable {P : Program} {w : World} {K : PySem.W.Frag} {mg : Str → Option Value} {base : Heap} {CB CQ : Addr}
theorem scListed : FnScope ["questions"] ["questions"] (defScope sListed) := ⟨rfl, rfl, rfl, by decide +kernel, rfl, by decide +kernel, by decide +kernel⟩
theorem ok_listed {f cK fJ : Addr} {fd : FuncData} (F : Fun K "listed" "listed" sListed f fd) (TK : TxK K mg cK fJ) (mi : mg "isinstance" = none) (mli : mg "list" = none) (mt : mg "tuple" = none) : FnOk P w K mg base (L2.CX P w) 3 f fd ["questions"] (spListed K cK) := by
  refine F.okX scListed (fun vs H Q E h => ?_) (fun cdv A outer s H vs Q E hr h => ?_)
  · obtain ⟨y, rfl, _⟩ := h
    rfl
  · obtain ⟨y, rfl, h⟩ := h
    refine ⟨_, pss_cons (ps_if (pt_cmpR op_isN (pv 0) pe_non (nomark _)) (pss_one (ps_ret (pe_lst pa_nil))) pss_nil)
      (pss_cons (ps_if (pt_not (pt_val (pe_callB call_isiT (by rfl) mi (by decide +kernel) (pa_cons (pv 0) (pa_cons (pe_tup (pa_cons (pe_bltn (v := .ty "list") (by rfl) mli PyProof.Rows.boot_list rfl) (pa_cons (pe_bltn (v := .ty "tuple") (by rfl) mt PyProof.Rows.boot_tuple rfl) pa_nil))) pa_nil))))) (pss_one (ps_raiseE_wanted rfl TK hr (takes_of rfl rfl rfl rfl) (by exact (pa_cons pe_str pa_nil)))) pss_nil)
      (pss_one (ps_ret (pe_callTy call_list_of (by rfl) mli (by decide +kernel) (pa_cons (pv 0) pa_nil))))), ?_⟩
    refine ⟨_, rfl, rfl, _, rfl, ?_⟩
    rcases h with ⟨L, (⟨rfl, rfl⟩ | ⟨a, rfl, ha⟩), q⟩ | ⟨⟨ny, tb, ty, kt⟩, k⟩
    · exact iteT ⟨by show 0 ≤ sizeLine; exact Nat.zero_le _, fun p np => q p _ (same_upd np) np upd_same⟩
    · refine iteF' (by simp) ⟨_, rfl, by show 2 ≤ sizeLine; decide, fun t nt => ?_⟩
      rcases ha with ha | ha
      · have s1 := same_upd (o := .tup [.ty "list", .ty "tuple"]) nt
        refine ⟨.ref a, t, [.ty "list", .ty "tuple"], .type "list", [.type "list", .type "tuple"], true, rfl, upd_same, .cons (.ty _) (.cons (.ty _) .nil), .base (.lst (s1 _ _ ha)), kit_two (by decide), _, rfl, iteF ?_⟩
        refine ⟨_, rfl, a, L, rfl, .inl (SqL.of (s1 _ _ ha)), fun p np => q p _ (s1.trans (same_upd np)) (none_of s1 np) upd_same⟩
      · have s1 := same_upd (o := .tup [.ty "list", .ty "tuple"]) nt
        refine ⟨.ref a, t, [.ty "list", .ty "tuple"], .type "tuple", [.type "list", .type "tuple"], true, rfl, upd_same, .cons (.ty _) (.cons (.ty _) .nil), .base (.tup (s1 _ _ ha)), kit_two (by decide), _, rfl, iteF ?_⟩
        refine ⟨_, rfl, a, L, rfl, .inr (SqT.of (s1 _ _ ha)), fun p np => q p _ (s1.trans (same_upd np)) (none_of s1 np) upd_same⟩
    · refine iteF' (by simpa using ny) ⟨_, rfl, by show 2 ≤ sizeLine; decide, fun t nt => ?_⟩
      have s1 := same_upd (o := .tup [.ty "list", .ty "tuple"]) nt
      exact ⟨y, t, [.ty "list", .ty "tuple"], tb, [.type "list", .type "tuple"], false, rfl, upd_same, .cons (.ty _) (.cons (.ty _) .nil), ty _ s1, kt, _, rfl, iteT ⟨_, rfl, fun d hd => k d _ (s1.trans (same_upd hd)) upd_same⟩⟩
abbrev NInitB : List Str := ["self", "questions", "question"]
theorem scInitB : FnScope NInitB ["self", "questions"] (defScope sBInit) := ⟨rfl, rfl, rfl, by decide +kernel, rfl, by decide +kernel, by decide +kernel⟩
abbrev FunB (K : PySem.W.Frag) (f : Addr) (fd : FuncData) : Prop := FunD K "__init__" "Bank.__init__" (defArgs sBInit) (defBody sBInit) (defScope sBInit) [.non] [] f fd
theorem ok_initB {f fL fA cK cT cM : Addr} {fd fdL fdA : FuncData} (F : FunB K f fd) (C : BCls K CB)
    (GL : FnOk P w K mg base (L2.CX P w) 3 fL fdL ["questions"] (spListed K cK)) (kL : PySem.W.keepIn K (.ref fL) = true) (bL : Binds K fdL ["questions"] []) (gL : mg "listed" = some (.ref fL))
    (GA : FnOk P w K mg base (L2.CX P w) 5 fA fdA ["self", "question"] (spAddedB K CB CQ cK cT cM)) (MA : Meth K CB "added" fA) (bA : Binds K fdA ["self", "question"] []) :
    FnOk P w K mg base (L2.CX P w) 6 f fd ["self", "questions"] (spInitB K CB CQ cK cT cM) := by
  refine F.ok scInitB (fun vs H Q E h => ?_) (fun cdv A outer s H vs Q E hr h => ?_)
  · obtain ⟨H0, b, dx, y, rfl, _⟩ := h
    rfl
  · obtain ⟨H0, b, dx, y, rfl, hb, nb, s0, h⟩ := h
    have r3 : Room 3 _ := hr.mono (by decide)
    refine ⟨_, pss_cons (ps_fld (pv 0) pe_dnewK rfl) (pss_cons (ps_fld (pv 0) pe_dnewK rfl) (pss_cons (ps_fld (pv 0) pe_dnewK rfl)
      (pss_one (ps_for (passes_of rfl) rfl (pi_list (pe_call (E := E) GL r3 (by rfl) gL kL bL .nil (passes_call (takes_of rfl rfl rfl rfl) fun _ _ _ _ h => h) (pa_cons (pv 1) pa_nil))) (pg_name (i := 2) scInitB.nd rfl (.inl rfl))
        (pss_one (ps_expr (pe_meth (E := E) (pv 0) C.cls MA GA hr bA .nil (passes_call (takes_of rfl rfl rfl rfl) fun _ _ _ _ h => h) (pa_cons (pv 2) pa_nil)))))))), ?_⟩
    refine fun k nk => ⟨_, rfl, b, CB, dx, _, rfl, by rw [upd_ne (ne_of_none hb nk)]; exact hb, C.cls, C.no _ (by decide), by show 0 < 1000; decide, ?_⟩
    refine fun r nr => ⟨_, rfl, b, CB, dx, _, rfl, by rw [upd_ne (ne_of_none upd_same nr), upd_same], C.cls, C.no _ (by decide), Nat.lt_of_le_of_lt (put_le (Nat.le_refl 0)) (by decide), ?_⟩
    refine fun d nd => ⟨_, rfl, b, CB, dx, _, rfl, by rw [upd_ne (ne_of_none upd_same nd), upd_same], C.cls, C.no _ (by decide), Nat.lt_of_le_of_lt (put_le (put_le (Nat.le_refl 0))) (by decide), ?_⟩
    rw [bFs_put]
    have bk : b ≠ k := ne_of_none hb nk
    have br : b ≠ r := ne_of_none upd_same nr
    have bd : b ≠ d := ne_of_none upd_same nd
    have rk : r ≠ k := fun z => by subst z; rw [upd_ne (Ne.symm br), upd_same] at nr; cases nr
    have dr : d ≠ r := fun z => by subst z; rw [upd_ne (Ne.symm bd), upd_same] at nd; cases nd
    have dk : d ≠ k := fun z => by subst z; rw [upd_ne (Ne.symm bd), upd_ne (Ne.symm rk), upd_ne (Ne.symm bd), upd_same] at nd; cases nd
    have nr0 : H r = none := by rw [upd_ne (Ne.symm br), upd_ne rk] at nr; exact nr
    have nd0 : H d = none := by rw [upd_ne (Ne.symm bd), upd_ne dr, upd_ne (Ne.symm bd), upd_ne dk] at nd; exact nd
    generalize hG : upd (upd (upd (upd (upd (upd H k (.dK [])) b (.ins CB dx (putF "kept" (.ref k) []))) r (.dK [])) b (.ins CB dx (putF "reasons" (.ref r) (putF "kept" (.ref k) [])))) d (.dK [])) b (.ins CB dx (bFs k r d)) = G
    have gb : G b = some (.ins CB dx (bFs k r d)) := by rw [← hG, upd_same]
    have gk : G k = some (.dK []) := by rw [← hG, upd_ne (Ne.symm bk), upd_ne (Ne.symm dk), upd_ne (Ne.symm bk), upd_ne (Ne.symm rk), upd_ne (Ne.symm bk), upd_same]
    have gr : G r = some (.dK []) := by rw [← hG, upd_ne (Ne.symm br), upd_ne (Ne.symm dr), upd_ne (Ne.symm br), upd_same]
    have gd : G d = some (.dK []) := by rw [← hG, upd_ne (Ne.symm bd), upd_same]
    have sG : Same H0 G := fun a o e => by
      have e1 := s0 _ _ e
      have ab : a ≠ b := ne_of_none e nb
      rw [← hG, upd_ne ab, upd_ne (ne_of_none e1 nd0), upd_ne ab, upd_ne (ne_of_none e1 nr0), upd_ne ab, upd_ne (ne_of_none e1 nk)]
      exact e1
    have k0 : H0 k = none := none_of s0 nk
    have r0 : H0 r = none := none_of s0 nr0
    have d0 : H0 d = none := none_of s0 nd0
    have hB : BankAt CB CQ G b k r d B0 := ⟨⟨dx, gb⟩, ⟨[], gk, .nil⟩, ⟨[], gr, .nil⟩, ⟨[], gd, .nil⟩, Ne.symm rk, Ne.symm dk, Ne.symm dr⟩
    rcases h with ⟨L, ts, hL, ll, hT, q1, q2⟩ | ⟨nl, k⟩
    case inr => exact ⟨_, rfl, y, rfl, .inr ⟨nl.same sG, Err1.same k sG⟩⟩
    refine ⟨_, rfl, y, rfl, .inl ⟨L, hL.same sG, fun p H1 s1 np hp => ⟨p, rfl, ⟨_, SqL.of hp⟩, ?_⟩⟩⟩
    refine for_it (walk_list (K := K) (a := p) (xs := L)) (fun i σ G' => ∃ (v2 : Option V) (B : BD), σ = [some (.ref b), some y, v2] ∧ Same H0 G' ∧ BankAt CB CQ G' b k r d B ∧ runB B0 ts = runB B (ts.drop i) ∧ G' p = some (.lst L)) ⟨_, B0, rfl, sG.trans s1, hB.same s1, rfl, hp⟩ (fun i σ G' _ ⟨_, _, _, _, _, _, h⟩ => SqL.of h) ?_ ?_
    · rintro i x σ G1 G' hi ⟨v2, B, rfl, sg, hBg, er, hpg⟩ ⟨rfl, hx⟩
      have hti : i < ts.length := by rw [← ll]; exact hi
      have et := List.getElem?_eq_getElem hti
      have ed : ts.drop i = ts[i] :: ts.drop (i + 1) := List.drop_eq_getElem_cons hti
      have th := (hT i x _ hx et).same sg
      rw [ed] at er
      obtain ⟨dx', hb'⟩ := hBg.at_
      refine ⟨_, rfl, b, dx', _, rfl, hb', lb_meth (by decide) _ _ _, _, rfl, b, k, r, d, B, x, rfl, hBg, ?_⟩
      cases hq : ts[i] with
      | none =>
        rw [hq] at th er
        obtain ⟨tb, t1, t2⟩ := th
        exact .inr ⟨tb, t1 _ (Same.refl _), t2, Err1.same (q2 .kind er) sg⟩
      | some q =>
        rw [hq] at th er
        obtain ⟨z, rfl, qi⟩ := th
        rw [run_cons] at er
        refine .inl ⟨z, q, rfl, qi, fun hn => ?_, fun hn h60 => ?_, fun hn h60 H2 bt hB2 => ?_⟩
        · rw [if_pos hn] at er
          exact Err1.same (q2 (.twice _) er) sg
        · rw [if_neg hn, if_pos h60] at er
          exact Err1.same (q2 .many er) sg
        · rw [if_neg hn, if_neg (by omega)] at er
          obtain ⟨⟨_, ik⟩, _, ⟨_, id⟩⟩ := hBg.isB
          refine ⟨_, B.add q, rfl, bt.fresh sg fun a ha => ?_, hB2, er, bt p _ (fun z => ?_) hpg⟩
          · simp only [List.mem_cons, List.not_mem_nil, or_false] at ha
            rcases ha with rfl | rfl
            · exact k0
            · exact d0
          · simp only [List.mem_cons, List.not_mem_nil, or_false] at z
            rcases z with rfl | rfl
            · rw [ik] at hpg; cases hpg
            · rw [id] at hpg; cases hpg
    · rintro σ G' ⟨v2, B, rfl, sg, hBg, er, hpg⟩
      rw [ll, List.drop_length] at er
      exact q1 B er k r d G' sg k0 r0 d0 hBg
end
end Pk
namespace Pk
open PySem L2
/-! ### draws -/
abbrev drawKv (l c o t : Int) : List (Key × V) := [(.inr "left", .int l), (.inr "own", .int c), (.inr "other", .int o), (.inr "at", .int t)]
theorem dv_left (l c o t : Int) : valV (drawKv l c o t) (.inr "left") = some (.int l) := by kernel_rfl
theorem dv_own (l c o t : Int) : valV (drawKv l c o t) (.inr "own") = some (.int c) := by kernel_rfl
theorem dv_other (l c o t : Int) : valV (drawKv l c o t) (.inr "other") = some (.int o) := by kernel_rfl
theorem dv_at (l c o t : Int) : valV (drawKv l c o t) (.inr "at") = some (.int t) := by kernel_rfl
theorem dp_left (l c o t u : Int) : putK (drawKv l c o t) (.inr "left") (.int u) = drawKv u c o t := by kernel_rfl
theorem dp_at (l c o t u : Int) : putK (drawKv l c o t) (.inr "at") (.int u) = drawKv l c o u := by kernel_rfl
/-- a draw's dict, t numbers taken -/
def DrawAt (H : Hp) (d : Addr) (t : Int) : Prop := ∃ l c o : Int, H d = some (.dK (drawKv l c o t))
theorem DrawAt.same {H H' : Hp} {d : Addr} {t : Int} (h : DrawAt H d t) (s : Same H H') : DrawAt H' d t := by
  obtain ⟨l, c, o, e⟩ := h
  exact ⟨l, c, o, s _ _ e⟩
theorem DrawAt.bt {H H' : Hp} {d : Addr} {t : Int} {L : List Addr} (h : DrawAt H d t) (s : Bt L H H') (n : d ∉ L) : DrawAt H' d t := by
  obtain ⟨l, c, o, e⟩ := h
  exact ⟨l, c, o, s _ _ n e⟩
theorem DrawAt.ne {H : Hp} {d p : Addr} {t : Int} {o : HO} (h : DrawAt H d t) (e : H p = some o) (n : ∀ kvs, o ≠ .dK kvs) : p ≠ d := fun z => by
  obtain ⟨l, c, u, hd⟩ := h
  rw [z, hd] at e
  cases e
  exact n _ rfl
theorem DrawAt.new {H : Hp} {d p : Addr} {t : Int} (h : DrawAt H d t) (n : H p = none) : p ≠ d := fun z => by
  obtain ⟨l, c, u, hd⟩ := h
  rw [z, hd] at n
  cases n
/-- a dict whose values are no numbers is no draw's -/
theorem DrawAt.tb {H : Hp} {d p : Addr} {t : Int} {ns : List Str} {R : Str → V → Prop} (h : DrawAt H d t) (T : TbAt H p ns R) (n : ∀ m v, R m v → ∀ i, v ≠ .int i) : p ≠ d := fun z => by
  obtain ⟨l, c, u, hd⟩ := h
  obtain ⟨kvs, e, k1, k2⟩ := T
  rw [z, hd] at e
  cases e
  cases ns with
  | nil => cases k1
  | cons m ms =>
    obtain ⟨e1, _⟩ := List.cons.inj k1
    have e1 : (Sum.inr ("left" : Str) : Key) = Sum.inr m := e1
    obtain ⟨v, ev, r⟩ := k2 m List.mem_cons_self
    rw [← e1, dv_left] at ev
    cases ev
    exact n _ _ r _ rfl
theorem BankAt.draw {CB CQ : Addr} {H H' : Hp} {b k r d e : Addr} {B : BD} {t : Int} (h : BankAt CB CQ H b k r d B) (D : DrawAt H e t) (u : Bt [e] H H') : BankAt CB CQ H' b k r d B := by
  have nk : k ≠ e := D.tb h.kept fun m v ⟨x, z, _⟩ i => by rw [z]; exact fun z => nomatch z
  have nr : r ≠ e := D.tb h.outs fun m v z i => by rw [show v = .str (B.g m) from z]; exact fun z => nomatch z
  have nd : d ≠ e := D.tb h.days fun m v ⟨x, z, _⟩ i => by rw [z]; exact fun z => nomatch z
  exact h.by (fun a o _ _ _ n z => u.at (D.ne z n) z) (fun _ z => u.at nk z) (fun _ z => u.at nr z) (fun _ z => u.at nd z)
def spMixed : Sp := fun vs H Q _ => ∃ (c k : Int), vs = [.int c, .int k] ∧ 0 ≤ k ∧ k ≤ 1000000 ∧ ∀ (v : Int) (H' : Hp), 0 ≤ v → v < 2147483629 → Same H H' → Q (.int v) H'
def spTake : Sp := fun vs H Q _ => ∃ (d : Addr) (t many : Int), vs = [.ref d, .int many] ∧ DrawAt H d t ∧ 0 ≤ t ∧ t < 100000 ∧ 0 < many ∧ many < 1000000 ∧
  ∀ (v t' : Int) (H' : Hp), 0 ≤ v → v < many → Bt [d] H H' → DrawAt H' d t' → t ≤ t' → t' ≤ t + 1 → Q (.int v) H'
def spBegun (K : PySem.W.Frag) : Sp := fun vs H Q _ => ∃ (a : Addr) (k : Nat) (ns : List Int), vs = [.ref a, .int k] ∧ SqL K H a (ns.map V.int) ∧ k ≤ 100 ∧ ns.length ≤ 1000 ∧ ∀ (p : Addr) (H' : Hp), Same H H' → H p = none → DrawAt H' p (64 * k) → Q (.ref p) H'
section
variable {P : Program} {w : World} {K : PySem.W.Frag} {mg : Str → Option Value} {base : Heap}
theorem scMixed : FnScope ["_law_cell", "_law_k", "_law_number"] ["_law_cell", "_law_k"] (defScope sMixed) := ⟨rfl, rfl, rfl, by decide +kernel, rfl, by decide +kernel, by decide +kernel⟩
theorem ok_mixed {f : Addr} {fd : FuncData} (F : Fun K "_law_mixed" "_law_mixed" sMixed f fd) : FnOk P w K mg base CX0 1 f fd ["_law_cell", "_law_k"] spMixed := by
  refine F.ok scMixed (fun vs H Q E h => ?_) (fun cdv A outer s H vs Q E hr h => ?_)
  · obtain ⟨c, k, rfl, _⟩ := h
    rfl
  · obtain ⟨c, k, rfl, k0, k1, q⟩ := h
    refine ⟨_, pss_cons (ps_set (i := 2) scMixed.nd rfl (.inl rfl) (pe_op op_add (pe_op op_add (pe_op op_mod (pv 0) (pe_ix ix_list (pe_lst (pa_cons pe_int (pa_cons pe_int (pa_cons pe_int pa_nil)))) (pe_op op_mod (pv 1) pe_int) (fun _ _ => rfl))) (pe_op op_mul pe_int (pv 1))) pe_int))
      (pss_one (ps_ret (pe_op op_mod (pe_op op_mul (pe_op op_mod (pe_op op_pow (pv 2) pe_int) pe_int) (pe_op op_add pe_int (pe_op op_mul pe_int (pv 1)))) pe_int))), ?_⟩
    refine ⟨_, rfl, by show 3 ≤ sizeLine; decide, fun p np => ?_⟩
    have i0 : 0 ≤ k % 3 := Int.emod_nonneg _ (by decide)
    have i3 : k % 3 < 3 := Int.emod_lt_of_pos _ (by decide)
    obtain ⟨m, hm, m0, m1⟩ : ∃ m : Int, atI [V.int 2147483629, V.int 2147483587, V.int 2147483579] (k % 3) = some (.int m) ∧ 0 < m ∧ m < 2147483648 := by
      obtain h | h | h : k % 3 = 0 ∨ k % 3 = 1 ∨ k % 3 = 2 := by omega
      · rw [h]; exact ⟨2147483629, rfl, by decide, by decide⟩
      · rw [h]; exact ⟨2147483587, rfl, by decide, by decide⟩
      · rw [h]; exact ⟨2147483579, rfl, by decide, by decide⟩
    have b0 : 0 ≤ c % m := Int.emod_nonneg _ (by omega)
    have b1 : c % m < m := Int.emod_lt_of_pos _ m0
    refine ⟨_, rfl, k, 3, rfl, rfl, (by show (0 : Int) < 3; decide), p, _, _, .int m, rfl, rfl, SqL.of upd_same, hm, c, m, rfl, rfl, m0, _, rfl, _, _, rfl, rfl, .inl ⟨by decide, by decide⟩, _, _, rfl, rfl, _, _, rfl, rfl, ?_⟩
    refine ⟨_, rfl, _, _, rfl, rfl, ⟨by decide, by decide, by omega⟩, _, _, rfl, rfl, (by show (0 : Int) < 2147483647; decide), _, rfl, _, _, rfl, rfl, .inl ⟨by decide, by decide⟩, _, _, rfl, rfl, _, _, rfl, rfl, .inr ⟨by omega, by omega⟩, _, _, rfl, rfl, (by show (0 : Int) < 2147483629; decide), ?_⟩
    exact q _ _ (Int.emod_nonneg _ (by decide)) (Int.emod_lt_of_pos _ (by decide)) (same_upd np)
abbrev NTake : List Str := ["_law_state", "_law_many", "_law_found", "_law_number"]
theorem scTake : FnScope NTake ["_law_state", "_law_many"] (defScope sTake) := ⟨rfl, rfl, rfl, by decide +kernel, rfl, by decide +kernel, by decide +kernel⟩
theorem ok_take {f fM : Addr} {fd fdM : FuncData} (F : Fun K "_law_take" "_law_take" sTake f fd) (GM : FnOk P w K mg base CX0 1 fM fdM ["_law_cell", "_law_k"] spMixed) (kM : PySem.W.keepIn K (.ref fM) = true) (bM : Binds K fdM ["_law_cell", "_law_k"] []) (gM : mg "_law_mixed" = some (.ref fM)) :
    FnOk P w K mg base CX0 2 f fd ["_law_state", "_law_many"] spTake := by
  refine F.ok scTake (fun vs H Q E h => ?_) (fun cdv A outer s H vs Q E hr h => ?_)
  · obtain ⟨d, t, m, rfl, _⟩ := h
    rfl
  · obtain ⟨d, t, many, rfl, ⟨l, c, o, hd⟩, t0, t1, m0, m1, q⟩ := h
    have hu := hu_of hr
    refine ⟨_, pss_cons (ps_if (pt_cmpR op_gt (pe_dget hu (pv 0) pe_str (fun _ _ => rfl)) pe_int (nomark _))
        (pss_cons (ps_set (i := 2) scTake.nd rfl (.inl rfl) (pe_op op_mod (pe_dget hu (pv 0) pe_str (fun _ _ => rfl)) (pv 1)))
        (pss_cons (ps_dput hu (pv 0) pe_str (pe_op op_fdiv (pe_dget hu (pv 0) pe_str (fun _ _ => rfl)) (pv 1)) rfl)
        (pss_one (ps_ret (pv 2))))) pss_nil)
      (pss_cons (ps_dput hu (pv 0) pe_str (pe_op op_add (pe_dget hu (pv 0) pe_str (fun _ _ => rfl)) pe_int) rfl)
      (pss_cons (ps_set (i := 3) scTake.nd rfl (.inl rfl) (pe_op op_add (pe_op op_mul (pe_call GM hr (by rfl) gM kM bM .nil pass0 (pa_cons (pe_dget hu (pv 0) pe_str (fun _ _ => rfl)) (pa_cons (pe_dget hu (pv 0) pe_str (fun _ _ => rfl)) pa_nil))) pe_int)
          (pe_call GM hr (by rfl) gM kM bM .nil pass0 (pa_cons (pe_dget hu (pv 0) pe_str (fun _ _ => rfl)) (pa_cons (pe_op op_add (pe_dget hu (pv 0) pe_str (fun _ _ => rfl)) pe_int) pa_nil)))))
      (pss_one (ps_ret (pe_op op_mod (pe_op op_fdiv (pv 3) pe_int) (pv 1)))))), ?_⟩
    have ga : ∀ {G : Hp} {l c o t : Int}, G d = some (.dK (drawKv l c o t)) → DGet G d (.str "at") (some (.int t)) := fun {G l c o t} h => by
      have z := DGet.k (k := .inr "at") h
      rw [dv_at] at z
      exact z
    have gl : ∀ {G : Hp} {l c o t : Int}, G d = some (.dK (drawKv l c o t)) → DGet G d (.str "left") (some (.int l)) := fun {G l c o t} h => by
      have z := DGet.k (k := .inr "left") h
      rw [dv_left] at z
      exact z
    have go : ∀ {G : Hp} {l c o t : Int}, G d = some (.dK (drawKv l c o t)) → DGet G d (.str "own") (some (.int c)) := fun {G l c o t} h => by
      have z := DGet.k (k := .inr "own") h
      rw [dv_own] at z
      exact z
    have gt : ∀ {G : Hp} {l c o t : Int}, G d = some (.dK (drawKv l c o t)) → DGet G d (.str "other") (some (.int o)) := fun {G l c o t} h => by
      have z := DGet.k (k := .inr "other") h
      rw [dv_other] at z
      exact z
    have sl : (4 : Nat) < sizeLine := by decide
    refine ⟨_, rfl, d, .int l, rfl, gl hd, l, 0, rfl, rfl, _, rfl, ite2 (fun hl => ?_) (fun _ => ?_)⟩
    · refine ⟨_, rfl, d, .int l, rfl, gl hd, _, rfl, l, many, rfl, rfl, m0, ?_⟩
      refine ⟨_, rfl, d, .int l, rfl, gl hd, _, rfl, l, many, rfl, rfl, ⟨m0, by omega⟩, _, rfl, d, _, rfl, DPut.k (k := .inr "left") hd sl, _, rfl, ?_⟩
      rw [dp_left]
      exact q _ t _ (Int.emod_nonneg _ (by omega)) (Int.emod_lt_of_pos _ m0) (Bt.put List.mem_cons_self) ⟨_, c, o, upd_same⟩ (Int.le_refl _) (by omega)
    · refine ⟨_, rfl, d, .int t, rfl, ga hd, t, 1, rfl, rfl, _, rfl, d, _, rfl, DPut.k (k := .inr "at") hd sl, ?_⟩
      rw [dp_at]
      have h1 : upd H d (.dK (drawKv l c o (t + 1))) d = some (.dK (drawKv l c o (t + 1))) := upd_same
      have u1 : Bt [d] H (upd H d (.dK (drawKv l c o (t + 1)))) := Bt.put List.mem_cons_self
      generalize upd H d (.dK (drawKv l c o (t + 1))) = H1 at h1 u1 ⊢
      refine ⟨_, rfl, d, _, rfl, go h1, _, rfl, d, _, rfl, ga h1, c, t + 1, rfl, by omega, by omega, fun v1 H2 v10 v11 s2 => ?_⟩
      have h2 := s2 _ _ h1
      refine ⟨_, _, rfl, rfl, .inr ⟨by decide, by decide⟩, _, rfl, d, _, rfl, gt h2, _, rfl, d, _, rfl, ga h2, _, _, rfl, rfl, o, t + 1 + 9001, rfl, by omega, by omega, fun v2 H3 v20 v21 s3 => ?_⟩
      have h3 := s3 _ _ h2
      refine ⟨_, _, rfl, rfl, _, rfl, _, _, rfl, rfl, ⟨by decide, by decide⟩, _, rfl, _, _, rfl, rfl, m0, ?_⟩
      exact q _ (t + 1) _ (Int.emod_nonneg _ (by omega)) (Int.emod_lt_of_pos _ m0) (u1.trans (Bt.same (s2.trans s3))) ⟨l, c, o, h3⟩ (by omega) (Int.le_refl _)
end
end Pk
namespace Pk
open PySem L2
theorem cut_lo {L : List V} {i : Int} (i0 : 0 ≤ i) : cutV L none (some i) = L.take i.toNat := by
  obtain ⟨k, rfl⟩ := Int.eq_ofNat_of_zero_le i0
  unfold cutV
  rw [show HT.sIx L.length L.length (some (k : Int)) = min k L.length from HT.sIx_nat _ _ _]
  show (L.drop 0).take (min k L.length - 0) = _
  rw [List.drop_zero, Nat.sub_zero, Int.toNat_natCast, List.take_eq_take_iff]
  omega
theorem cut_hi {L : List V} {i : Int} (i0 : 0 ≤ i) : cutV L (some i) none = L.drop i.toNat := by
  obtain ⟨k, rfl⟩ := Int.eq_ofNat_of_zero_le i0
  unfold cutV
  rw [show HT.sIx L.length 0 (some (k : Int)) = min k L.length from HT.sIx_nat _ _ _]
  show (L.drop (min k L.length)).take (L.length - min k L.length) = _
  rw [List.take_of_length_le (by rw [List.length_drop]; omega), Int.toNat_natCast]
  by_cases h : k ≤ L.length
  · rw [Nat.min_eq_left h]
  · rw [Nat.min_eq_right (by omega), List.drop_of_length_le (Nat.le_refl _), List.drop_of_length_le (by omega)]
end Pk
namespace Pk
open PySem L2
/-! ### answers that go round -/
def rotL {α : Type} (l : List α) (k : Nat) : List α := l.drop k ++ l.take k
theorem rot_zero {α : Type} (l : List α) : rotL l 0 = l := by
  unfold rotL
  rw [List.drop_zero, List.take_zero, List.append_nil]
theorem rot_len {α : Type} (l : List α) (k : Nat) : (rotL l k).length = l.length := by
  unfold rotL
  rw [List.length_append, List.length_drop, List.length_take]
  omega
theorem rot_step {α : Type} {l : List α} {k : Nat} (h : k < l.length) : (rotL l k).drop 1 ++ (rotL l k).take 1 = rotL l (k + 1) := by
  unfold rotL
  rw [List.drop_eq_getElem_cons h, List.cons_append, List.drop_succ_cons, List.drop_zero, List.take_succ_cons, List.take_zero, List.append_assoc, List.take_append_getElem]
theorem rot_perm {α : Type} (l : List α) (k : Nat) : (rotL l k).Perm l := by
  unfold rotL
  exact List.perm_append_comm.trans (by rw [List.take_append_drop])
theorem rot_map {α β : Type} (f : α → β) (l : List α) (k : Nat) : (rotL l k).map f = rotL (l.map f) k := by
  unfold rotL
  rw [List.map_append, List.map_drop, List.map_take]
theorem rot_mem {α : Type} {l : List α} {k : Nat} {x : α} (h : x ∈ rotL l k) : x ∈ l := (rot_perm l k).mem_iff.mp h
theorem unlike_nodup {zs : List Str} (nd : zs.Nodup) : ∀ i, i ≤ zs.length → unlike zs i = i
  | 0, _ => rfl
  | i + 1, h => by
    have hi : i < zs.length := h
    have e1 : zs.getD i Str.empty = zs[i] := by rw [List.getD_eq_getElem?_getD, List.getElem?_eq_getElem hi]; rfl
    have no : seen zs i (zs.getD i Str.empty) = false := by
      unfold seen
      rw [e1, Bool.eq_false_iff]
      intro z
      obtain ⟨y, hy, e⟩ := List.any_eq_true.mp z
      have e' : y = zs[i] := eq_of_beq e
      subst e'
      obtain ⟨j, hj, ej⟩ := List.mem_take_iff_getElem.mp hy
      have hj' : j < i := by omega
      exact List.pairwise_iff_getElem.mp nd j i (by omega) hi hj' ej
    unfold unlike
    rw [no, unlike_nodup nd i (by omega)]
    rfl
theorem nodup_take {zs : List Str} : ∀ i, i ≤ zs.length → unlike zs i = i → (zs.take i).Nodup
  | 0, _, _ => by rw [List.take_zero]; exact List.nodup_nil
  | i + 1, h, e => by
    have hi : i < zs.length := h
    have e1 : zs.getD i Str.empty = zs[i] := by rw [List.getD_eq_getElem?_getD, List.getElem?_eq_getElem hi]; rfl
    have le := unlike_le zs i
    unfold unlike at e
    cases hs : seen zs i (zs.getD i Str.empty) with
    | true =>
      rw [hs, if_pos rfl] at e
      omega
    | false =>
      rw [hs, if_neg (by decide)] at e
      have ih := nodup_take (zs := zs) i (by omega) (by omega)
      rw [List.take_add_one, List.getElem?_eq_getElem hi, List.nodup_append]
      refine ⟨ih, List.pairwise_singleton _ _, fun x hx y hy z => ?_⟩
      have hy' : y = zs[i] := List.mem_singleton.mp hy
      unfold seen at hs
      rw [e1, Bool.eq_false_iff] at hs
      exact hs (List.any_eq_true.mpr ⟨x, hx, by rw [z, hy']; exact beq_self_eq_true _⟩)
theorem nodup_of_unlike {zs : List Str} (e : unlike zs zs.length = zs.length) : zs.Nodup := by
  have := nodup_take zs.length (Nat.le_refl _) e
  rwa [List.take_length] at this
theorem answers_is {ws : List V} (h : answersL ws = true) : 2 ≤ ws.length ∧ ws.length ≤ 6 ∧ ws.all textV = true ∧ (ws.map strV).Nodup := by
  unfold answersL at h
  simp only [Bool.and_eq_true, decide_eq_true_iff] at h
  refine ⟨h.1.1.1, h.1.1.2, h.1.2, nodup_of_unlike ?_⟩
  rw [List.length_map]
  exact h.2
theorem answers_of {ws : List V} (h2 : 2 ≤ ws.length) (h6 : ws.length ≤ 6) (ht : ws.all textV = true) (nd : (ws.map strV).Nodup) : answersL ws = true := by
  unfold answersL
  have e := unlike_nodup nd ws.length (by rw [List.length_map]; exact Nat.le_refl _)
  rw [decide_eq_true h2, decide_eq_true h6, ht, decide_eq_true e]
  rfl
theorem answers_rot {ws : List V} (h : answersL ws = true) (k : Nat) : answersL (rotL ws k) = true := by
  obtain ⟨h2, h6, ht, nd⟩ := answers_is h
  refine answers_of (by rw [rot_len]; exact h2) (by rw [rot_len]; exact h6) (List.all_eq_true.mpr fun v hv => List.all_eq_true.mp ht v (rot_mem hv)) ?_
  rw [rot_map]
  exact (rot_perm _ _).nodup_iff.mpr nd
/-- the place of the right one, one step on -/
theorem place_step {r n : Int} (k : Nat) (n0 : 0 < n) : (if 0 < (r - k) % n then (r - k) % n - 1 else n - 1) = (r - ((k + 1 : Nat) : Int)) % n := by
  have b0 := Int.emod_nonneg (r - k) (show n ≠ 0 by omega)
  have b1 := Int.emod_lt_of_pos (r - k) n0
  have e : (r - ((k + 1 : Nat) : Int)) % n = ((r - k) % n - 1) % n := by
    rw [show r - ((k + 1 : Nat) : Int) = (r - k) - 1 by omega]
    exact (Int.emod_sub_emod (r - k) n 1).symm
  rw [e]
  generalize (r - (k : Int)) % n = x at b0 b1 ⊢
  by_cases h : 0 < x
  · rw [if_pos h, Int.emod_eq_of_lt (by omega) (by omega)]
  · rw [if_neg h, show x = 0 by omega, show (0 - 1 : Int) = (n - 1) + n * (-1) by omega, Int.add_mul_emod_self_left, Int.emod_eq_of_lt (by omega) (by omega)]
end Pk
namespace Pk
open PySem L2
/-! ### begun, made, parts, empty -/
structure QG (q : QD) : Prop where
  v : QV q
  nd : q.ws.Nodup
def spMade (CQ : Addr) : Sp := fun vs H Q _ => ∃ (p : Addr) (q : QD), vs = [.ref p] ∧ RowAt H p q ∧ QG q ∧ ∀ (x : Addr) (H' : Hp), Same H H' → QI CQ H' x q → Q (.ref x) H'
def spParts (CQ : Addr) : Sp := fun vs H Q _ => ∃ (x : Addr) (q : QD), vs = [.ref x] ∧ QI CQ H x q ∧ ∀ (t : Addr) (H' : Hp), Same H H' → H t = none → RowAt H' t q → Q (.ref t) H'
abbrev ownKv (a1 a2 a3 : Addr) : List (Key × V) := [(.inr "rows", .ref a1), (.inr "outs", .ref a2), (.inr "days", .ref a3)]
theorem ov_rows (a1 a2 a3 : Addr) : valV (ownKv a1 a2 a3) (.inr "rows") = some (.ref a1) := by kernel_rfl
theorem ov_outs (a1 a2 a3 : Addr) : valV (ownKv a1 a2 a3) (.inr "outs") = some (.ref a2) := by kernel_rfl
theorem ov_days (a1 a2 a3 : Addr) : valV (ownKv a1 a2 a3) (.inr "days") = some (.ref a3) := by kernel_rfl
def RRow (H : Hp) (f : Str → QD) : Str → V → Prop := fun n v => ∃ p, v = .ref p ∧ RowAt H p (f n)
def RDaysP (H : Hp) (h : Str → List Int) : Str → V → Prop := fun n v => ∃ (l : Addr) (zs : List Int), v = .ref l ∧ H l = some (.lst (zs.map .int)) ∧ zs.Perm (h n)
/-- the law's own look at a bank -/
structure OwnAt (H : Hp) (o a1 a2 a3 : Addr) (B : BD) : Prop where
  at_ : H o = some (.dK (ownKv a1 a2 a3))
  rows : TbAt H a1 B.ns (RRow H B.f)
  outs : TbAt H a2 B.os (ROuts B.g)
  days : TbAt H a3 B.ns (RDaysP H B.h)
  o1 : o ≠ a1
  o2 : o ≠ a2
  o3 : o ≠ a3
  n12 : a1 ≠ a2
  n13 : a1 ≠ a3
  n23 : a2 ≠ a3
section
variable {H H' : Hp} {o a1 a2 a3 : Addr} {B : BD}
theorem RowAt.by {p : Addr} {q : QD} (h : RowAt H p q) (s : ∀ a u, (∀ kvs, u ≠ .dK kvs) → (∀ L, u ≠ .lst L) → H a = some u → H' a = some u) : RowAt H' p q := by
  obtain ⟨a, h1, h2⟩ := h
  exact ⟨a, s _ _ (fun _ z => nomatch z) (fun _ z => nomatch z) h1, s _ _ (fun _ z => nomatch z) (fun _ z => nomatch z) h2⟩
theorem OwnAt.by (h : OwnAt H o a1 a2 a3 B) (s : ∀ a u, (∀ kvs, u ≠ .dK kvs) → H a = some u → H' a = some u) (s0 : ∀ kvs, H o = some (.dK kvs) → H' o = some (.dK kvs)) (s1 : ∀ kvs, H a1 = some (.dK kvs) → H' a1 = some (.dK kvs)) (s2 : ∀ kvs, H a2 = some (.dK kvs) → H' a2 = some (.dK kvs)) (s3 : ∀ kvs, H a3 = some (.dK kvs) → H' a3 = some (.dK kvs)) : OwnAt H' o a1 a2 a3 B :=
  ⟨s0 _ h.at_, h.rows.mono s1 fun m _ v ⟨p, e, r⟩ => ⟨p, e, r.by fun a u n _ e => s a u n e⟩, h.outs.mono s2 fun _ _ _ e => e, h.days.mono s3 fun m _ v ⟨l, zs, e, hl, pm⟩ => ⟨l, zs, e, s _ _ (fun _ z => nomatch z) hl, pm⟩, h.o1, h.o2, h.o3, h.n12, h.n13, h.n23⟩
theorem OwnAt.same (h : OwnAt H o a1 a2 a3 B) (s : Same H H') : OwnAt H' o a1 a2 a3 B := h.by (fun a u _ e => s a u e) (fun _ e => s _ _ e) (fun _ e => s _ _ e) (fun _ e => s _ _ e) (fun _ e => s _ _ e)
theorem OwnAt.draw {e : Addr} {t : Int} (h : OwnAt H o a1 a2 a3 B) (D : DrawAt H e t) (u : Bt [e] H H') : OwnAt H' o a1 a2 a3 B := by
  have n1 : a1 ≠ e := D.tb h.rows fun m v ⟨x, z, _⟩ i => by rw [z]; exact fun z => nomatch z
  have n2 : a2 ≠ e := D.tb h.outs fun m v z i => by rw [show v = .str (B.g m) from z]; exact fun z => nomatch z
  have n3 : a3 ≠ e := D.tb h.days fun m v ⟨x, _, z, _⟩ i => by rw [z]; exact fun z => nomatch z
  have n0 : o ≠ e := fun z => by
    obtain ⟨l, c, u, hd⟩ := D
    have e := h.at_
    rw [z, hd] at e
    cases e
  exact h.by (fun a o n z => u.at (D.ne z n) z) (fun _ z => u.at n0 z) (fun _ z => u.at n1 z) (fun _ z => u.at n2 z) (fun _ z => u.at n3 z)
theorem OwnAt.gRows (h : OwnAt H o a1 a2 a3 B) : DGet H o (.str "rows") (some (.ref a1)) := by
  have z := DGet.k (k := .inr "rows") h.at_
  rw [ov_rows] at z
  exact z
theorem OwnAt.gOuts (h : OwnAt H o a1 a2 a3 B) : DGet H o (.str "outs") (some (.ref a2)) := by
  have z := DGet.k (k := .inr "outs") h.at_
  rw [ov_outs] at z
  exact z
theorem OwnAt.gDays (h : OwnAt H o a1 a2 a3 B) : DGet H o (.str "days") (some (.ref a3)) := by
  have z := DGet.k (k := .inr "days") h.at_
  rw [ov_days] at z
  exact z
theorem RowAt.draw {p e : Addr} {q : QD} {t : Int} (h : RowAt H p q) (D : DrawAt H e t) (u : Bt [e] H H') : RowAt H' p q := h.by fun a o n _ z => u.at (D.ne z n) z
theorem QI.draw {CQ x e : Addr} {q : QD} {t : Int} (h : QI CQ H x q) (D : DrawAt H e t) (u : Bt [e] H H') : QI CQ H' x q := h.by fun a o n _ z => u.at (D.ne z n) z
end
def spEmpty : Sp := fun vs H Q _ => vs = [] ∧ ∀ (o a1 a2 a3 : Addr) (H' : Hp), Same H H' → H o = none → H a1 = none → H a2 = none → H a3 = none → OwnAt H' o a1 a2 a3 B0 → Q (.ref o) H'
theorem merge_draw (l c o t : Int) : mergeK [] (drawKv l c o t) = drawKv l c o t := by kernel_rfl
theorem merge_own (a1 a2 a3 : Addr) : mergeK [] (ownKv a1 a2 a3) = ownKv a1 a2 a3 := by kernel_rfl
section
variable {P : Program} {w : World} {K : PySem.W.Frag} {mg : Str → Option Value} {base : Heap} {CQ : Addr}
theorem scMade : FnScope ["_law_row_here"] ["_law_row_here"] (defScope sMade) := ⟨rfl, rfl, rfl, by decide +kernel, rfl, by decide +kernel, by decide +kernel⟩
theorem ok_made {f fI cE : Addr} {fd fdI : FuncData} (F : Fun K "_law_made" "_law_made" sMade f fd) (FI : FunQ K fI fdI) (GI : FnOk P w K mg base (L2.CX P w) 5 fI fdI psQ (spQInit CQ cE)) (M : Mk K CQ fI) (gQ : mg "Question" = some (.ref CQ)) : FnOk P w K mg base CX0 7 f fd ["_law_row_here"] (spMade CQ) := by
  obtain ⟨its, kR⟩ := kQR FI
  refine F.ok scMade (fun vs H Q E h => ?_) (fun cdv A outer s H vs Q E hr h => ?_)
  · obtain ⟨p, q, rfl, _⟩ := h
    rfl
  · obtain ⟨p, q, rfl, hR, g, fin⟩ := h
    refine ⟨_, pss_one (ps_ret (pe_makeN (n := 3) (E := E0) M GI hr (by rfl) gQ kR pass_no (by exact (pa_cons (pe_ix ix_tup (pv 0) pe_int (fun _ _ => rfl)) (pa_cons (pe_ix ix_tup (pv 0) pe_int (fun _ _ => rfl)) (pa_cons (pe_ix ix_tup (pv 0) pe_int (fun _ _ => rfl)) pa_nil)))) (by exact (pk_cons (pe_ix ix_tup (pv 0) pe_int (fun _ _ => rfl)) (pk_cons (pe_ix ix_tup (pv 0) pe_int (fun _ _ => rfl)) (pk_cons (pe_ix ix_tup (pv 0) pe_int (fun _ _ => rfl)) (pk_cons (pe_ix ix_tup (pv 0) pe_int (fun _ _ => rfl)) pk_nil))))))), ?_⟩
    obtain ⟨a, hp, ha, ok⟩ := row_qok hR g.v (unlike_nodup g.nd _ (Nat.le_refl _))
    refine ⟨_, rfl, p, _, 0, _, rfl, rfl, SqT.of hp, rfl, _, rfl, p, _, 1, _, rfl, rfl, SqT.of hp, rfl, _, rfl, p, _, 2, _, rfl, rfl, SqT.of hp, rfl, _, rfl, p, _, 3, _, rfl, rfl, SqT.of hp, rfl, _, rfl, p, _, 4, _, rfl, rfl, SqT.of hp, rfl, _, rfl, p, _, 5, _, rfl, rfl, SqT.of hp, rfl, _, rfl, p, _, 6, _, rfl, rfl, SqT.of hp, rfl, rfl, rfl, fun x dx nx ndx ne => ?_⟩
    exact made_fin ok.pa (fun x' dx' H' s' _ hx' => fin x' H' s' ⟨dx', a, hx', s' _ _ ha, ws_strOk g.v⟩) (fun d H' _ n => absurd ok.ok n) x dx nx ndx ne
theorem scParts : FnScope ["_law_one"] ["_law_one"] (defScope sParts) := ⟨rfl, rfl, rfl, by decide +kernel, rfl, by decide +kernel, by decide +kernel⟩
theorem ok_parts {f : Addr} {fd : FuncData} (F : Fun K "_law_parts" "_law_parts" sParts f fd) (CC : QCls K CQ) : FnOk P w K mg base CX0 1 f fd ["_law_one"] (spParts CQ) := by
  refine F.ok scParts (fun vs H Q E h => ?_) (fun cdv A outer s H vs Q E hr h => ?_)
  · obtain ⟨x, q, rfl, _⟩ := h
    rfl
  · obtain ⟨x, q, rfl, ⟨dx, a, hx, ha, _⟩, fin⟩ := h
    refine ⟨_, pss_one (ps_ret (pe_tup (pa_cons (pe_fld (pv 0) rfl) (pa_cons (pe_fld (pv 0) rfl) (pa_cons (pe_fld (pv 0) rfl) (pa_cons (pe_fld (pv 0) rfl) (pa_cons (pe_fld (pv 0) rfl) (pa_cons (pe_fld (pv 0) rfl) (pa_cons (pe_fld (pv 0) rfl) pa_nil))))))))), ?_⟩
    refine ⟨_, rfl, x, CQ, dx, _, _, rfl, hx, CC.cls, CC.no _ (by decide), look_name _ _ _ _ _ _ _, _, rfl, x, CQ, dx, _, _, rfl, hx, CC.cls, CC.no _ (by decide), look_matter _ _ _ _ _ _ _, _, rfl, x, CQ, dx, _, _, rfl, hx, CC.cls, CC.no _ (by decide), look_answers _ _ _ _ _ _ _, _, rfl, x, CQ, dx, _, _, rfl, hx, CC.cls, CC.no _ (by decide), look_right _ _ _ _ _ _ _,
      _, rfl, x, CQ, dx, _, _, rfl, hx, CC.cls, CC.no _ (by decide), look_toil _ _ _ _ _ _ _, _, rfl, x, CQ, dx, _, _, rfl, hx, CC.cls, CC.no _ (by decide), look_marks _ _ _ _ _ _ _, _, rfl, x, CQ, dx, _, _, rfl, hx, CC.cls, CC.no _ (by decide), look_kin _ _ _ _ _ _ _, by show 7 ≤ sizeLine; decide, fun t nt => ?_⟩
    exact fin t _ (same_upd nt) nt ⟨a, upd_same, same_upd nt _ _ ha⟩
theorem scBegun : FnScope ["_law_script", "_law_k", "_law_cell", "_law_other"] ["_law_script", "_law_k"] (defScope sBegun) := ⟨rfl, rfl, rfl, by decide +kernel, rfl, by decide +kernel, by decide +kernel⟩
theorem two_ints {L : List V} (h : ∀ x ∈ L, ∃ i : Int, x = .int i) : ∃ c o : Int, cutV (L ++ [.int 5, .int 7]) none (some 2) = [.int c, .int o] := by
  rw [cut_lo (by decide)]
  match L, h with
  | [], _ => exact ⟨5, 7, rfl⟩
  | [x], h =>
    obtain ⟨i, rfl⟩ := h x (by simp)
    exact ⟨i, 5, rfl⟩
  | x :: y :: r, h =>
    obtain ⟨i, rfl⟩ := h x (by simp)
    obtain ⟨j, rfl⟩ := h y (by simp)
    exact ⟨i, j, rfl⟩
theorem ok_begun {f : Addr} {fd : FuncData} (F : Fun K "_law_begun" "_law_begun" sBegun f fd) : FnOk P w K mg base CX0 1 f fd ["_law_script", "_law_k"] (spBegun K) := by
  refine F.ok scBegun (fun vs H Q E h => ?_) (fun cdv A outer s H vs Q E hr h => ?_)
  · obtain ⟨a, k, ns, rfl, _⟩ := h
    rfl
  · obtain ⟨a, k, ns, rfl, hS, hk, hn, fin⟩ := h
    refine ⟨_, pss_cons (ps_asg (pe_slice sl_list (pe_op op_cat (pe_slice sl_list (pv 0) (po_some (pv 1)) (po_some (pe_op op_add (pv 1) pe_int))) (pe_lst (pa_cons pe_int (pa_cons pe_int pa_nil)))) po_none (po_some pe_int)) (pg_lst rfl (pgs_cons (pg_name (i := 2) scBegun.nd rfl (.inl rfl)) (pgs_cons (pg_name (i := 3) scBegun.nd rfl (.inl rfl)) pgs_nil))))
      (pss_one (ps_ret (pe_disp (pps_cons pe_str (pe_ifExp (pt_cmpR op_ge (pv 2) (pe_op op_pow pe_int pe_int) (nomark _)) (pv 2) pe_int) (pps_cons pe_str (pv 2) (pps_cons pe_str (pv 3) (pps_cons pe_str (pe_op op_mul pe_int (pv 1)) pps_nil)))) rfl rfl (by decide) (by decide)))), ?_⟩
    refine ⟨_, rfl, _, rfl, (k : Int), rfl, _, rfl, _, _, rfl, rfl, (k : Int) + 2, rfl, a, _, rfl, hS, fun p1 n1 => ?_⟩
    have s1 := same_upd (o := .lst (cutV (ns.map V.int) (some (k : Int)) (some ((k : Int) + 2)))) n1
    refine ⟨by show 2 ≤ sizeLine; decide, fun p2 n2 => ?_⟩
    have s2 := same_upd (o := .lst [.int 5, .int 7]) n2
    have e1 := s2 _ _ (upd_same (H := H) (a := p1) (o := .lst (cutV (ns.map V.int) (some (k : Int)) (some ((k : Int) + 2)))))
    have cl := cutV_length (ns.map V.int) (some (k : Int)) (some ((k : Int) + 2))
    rw [List.length_map] at cl
    refine ⟨p1, p2, _, _, rfl, rfl, e1, upd_same, by show _ + 2 ≤ sizeLine; rw [sizeLine_eq]; omega, fun p3 n3 => ?_⟩
    obtain ⟨c, o, e2⟩ := two_ints (L := cutV (ns.map V.int) (some (k : Int)) (some ((k : Int) + 2))) fun x hx => by
      obtain ⟨i, _, e⟩ := List.mem_map.mp (List.mem_of_mem_drop (List.mem_of_mem_take (show x ∈ ((ns.map V.int).drop _).take _ from hx)))
      exact ⟨i, e.symm⟩
    have s3 := same_upd (o := .lst (cutV (ns.map V.int) (some (k : Int)) (some ((k : Int) + 2)) ++ [.int 5, .int 7])) n3
    refine ⟨2, rfl, p3, _, rfl, SqL.of upd_same, fun p4 n4 => ?_⟩
    rw [e2]
    have s4 := same_upd (o := .lst [V.int c, V.int o]) n4
    have sA := ((s1.trans s2).trans s3).trans s4
    refine ⟨p4, _, rfl, SqL.of upd_same, rfl, _, _, rfl, _, _, rfl, rfl, fun p5 n5 => ?_⟩
    have nA : H p5 = none := none_of sA n5
    have sB := sA.trans (same_upd (o := .dK []) n5)
    have fin' : ∀ l : Int, Q (.ref p5) (upd (upd (upd (upd (upd (upd H p1 (.lst (cutV (ns.map V.int) (some (k : Int)) (some ((k : Int) + 2))))) p2 (.lst [.int 5, .int 7])) p3 (.lst (cutV (ns.map V.int) (some (k : Int)) (some ((k : Int) + 2)) ++ [.int 5, .int 7]))) p4 (.lst [V.int c, V.int o])) p5 (.dK [])) p5 (.dK (drawKv l c o (64 * k)))) := fun l => fin p5 _ (fun b u e => by
      rw [upd_ne (ne_of_none e nA)]
      exact sB _ _ e) nA ⟨l, c, o, upd_same⟩
    refine ⟨_, rfl, _, _, rfl, rfl, ⟨by decide, by decide, by decide⟩, _, _, rfl, rfl, _, rfl, ite2 (fun _ => ?_) (fun _ => ?_)⟩
    · refine ⟨_, rfl, _, rfl, _, rfl, _, rfl, _, _, rfl, rfl, .inl ⟨by decide, by decide⟩, upd_same, drawKv c c o (64 * k), rfl, by show 4 ≤ 15; decide, ?_⟩
      rw [merge_draw]
      exact fin' c
    · refine ⟨_, rfl, _, rfl, _, rfl, _, _, rfl, rfl, .inl ⟨by decide, by decide⟩, upd_same, drawKv 0 c o (64 * k), rfl, by show 4 ≤ 15; decide, ?_⟩
      rw [merge_draw]
      exact fin' 0
end
end Pk
namespace Pk
open PySem L2
/-! ### names of a draw -/
def words14 : List Str := ["in", "out", "wrong", "all", "none", "used", "bank", "kin", "with", "rest", "toil", "marks", "many", "name"]
def words5 : List Str := ["of", "right", "matter", "question", "put"]
def words19 : List Str := words14 ++ words5
theorem words_nd : words19.Nodup := by decide +kernel
theorem words_name : ∀ z ∈ words19, nameT z = true := by decide +kernel
abbrev one (c : Nat) : Str := ⟨#[c]⟩
theorem one_tl (c : Nat) : TL.tl (one c) = [c] := rfl
theorem joinL_ones : ∀ cs : List Nat, TL.joinL [] (cs.map fun c => [c]) = cs
  | [] => rfl
  | [c] => rfl
  | c :: e :: r => by
    show [c] ++ ([] ++ TL.joinL [] ((e :: r).map fun c => [c])) = _
    rw [joinL_ones (e :: r)]
    rfl
theorem join_ones (cs : List Nat) : Txt.join "" (cs.map one) = S cs := by
  refine TL.ext_tl ?_
  have e : TL.tl (Txt.join "" (cs.map one)) = TL.joinL (TL.tl "") ((cs.map one).map TL.tl) := by rw [TL.join_eq]; exact TL.tl_join _ _
  rw [List.map_map, empty_tl] at e
  have e2 : (cs.map (TL.tl ∘ one)) = cs.map fun c => [c] := List.map_congr_left fun c _ => rfl
  rw [e2, joinL_ones] at e
  rw [S_tl]
  exact e
theorem idx26 (n : Int) : (n % 26).toNat < 26 := by omega
theorem idx19 (n : Int) : (n % 19).toNat < 19 := by omega
def letN (n : Int) : Nat := letters.cps.toList[(n % 26).toNat]'(by rw [letters_len]; exact idx26 n)
theorem letN_mem (n : Int) : letN n ∈ letters.cps.toList := List.getElem_mem _
theorem letN_at (n : Int) : atI letters.cps.toList (n % 26) = some (letN n) := by
  have h0 : 0 ≤ n % 26 := Int.emod_nonneg _ (by decide)
  have e : n % 26 = (((n % 26).toNat : Nat) : Int) := by omega
  rw [e]
  refine atI_nat ?_
  exact List.getElem?_eq_getElem (by rw [letters_len]; exact idx26 n)
def wordN (n : Int) : Str := words19[(n % 19).toNat]'(by exact idx19 n)
theorem wordN_at (n : Int) : atI (words19.map V.str) (n % 19) = some (.str (wordN n)) := by
  have h0 : 0 ≤ n % 19 := Int.emod_nonneg _ (by decide)
  have e : n % 19 = (((n % 19).toNat : Nat) : Int) := by omega
  rw [e]
  refine atI_nat ?_
  rw [List.getElem?_map, List.getElem?_eq_getElem (show (n % 19).toNat < words19.length from idx19 n)]
  rfl
/-- the k-th name, by its way -/
def nmK (way : Int) (cs : List Nat) (first size : Int) (k : Nat) : Str :=
  if way = 0 then wordN (first + 3 * k) else if way = 1 then S (cs.take (k + 1)) else S (cs.take size.toNat ++ [letN (first + 5 * k)])
theorem nmK_name {way : Int} {cs : List Nat} {first size : Int} {k : Nat} (l8 : cs.length = 8) (hc : ∀ c ∈ cs, c ∈ letters.cps.toList) (s7 : size ≤ 7) (k8 : k < 8) : nameT (nmK way cs first size k) = true := by
  unfold nmK
  split
  · exact words_name _ (List.getElem_mem _)
  · split
    · refine name_of ?_ ?_ fun c h => hc c (List.mem_of_mem_take (show c ∈ cs.take (k + 1) from h))
      · rw [S_len, List.length_take]; omega
      · rw [S_len, List.length_take]; omega
    · refine name_of ?_ ?_ fun c h => ?_
      · rw [S_len, List.length_append, List.length_singleton]; omega
      · rw [S_len, List.length_append, List.length_singleton, List.length_take]; omega
      · rcases List.mem_append.mp (show c ∈ cs.take size.toNat ++ [letN (first + 5 * k)] from h) with h | h
        · exact hc c (List.mem_of_mem_take h)
        · rw [List.mem_singleton.mp h]
          exact letN_mem _
theorem nmK_inj {way : Int} {cs : List Nat} {first size : Int} {j k : Nat} (l8 : cs.length = 8) (j8 : j < 8) (k8 : k < 8) (e : nmK way cs first size j = nmK way cs first size k) : j = k := by
  unfold nmK at e
  split at e
  · have e2 := (List.getElem_inj words_nd).mp e
    omega
  · split at e
    · have e2 := congrArg Str.length e
      rw [S_len, S_len, List.length_take, List.length_take] at e2
      omega
    · have e2 : cs.take size.toNat ++ [letN (first + 5 * j)] = cs.take size.toNat ++ [letN (first + 5 * k)] := congrArg TL.tl e
      have e3 := (List.cons.inj (List.append_cancel_left e2)).1
      have e4 := (List.getElem_inj letters_nd).mp e3
      omega
theorem nms_nd {way : Int} {cs : List Nat} {first size : Int} {m : Nat} (l8 : cs.length = 8) (m8 : m ≤ 8) : ((List.range m).map (nmK way cs first size)).Nodup := by
  rw [List.nodup_iff_pairwise_ne, List.pairwise_map]
  refine (List.pairwise_iff_getElem.mpr fun i j hi hj hij e => ?_)
  rw [List.length_range] at hi hj
  rw [List.getElem_range, List.getElem_range] at e
  exact absurd (nmK_inj l8 (by omega) (by omega) e) (by omega)
theorem erase_map {l : List Str} {k : Nat} : (l.map V.str).eraseIdx k = (l.eraseIdx k).map V.str := by
  rw [List.eraseIdx_eq_take_drop_succ, List.eraseIdx_eq_take_drop_succ, List.map_append, List.map_take, List.map_drop]
theorem erase_perm {zs rest : List Str} {k : Nat} {y : Str} (h : rest[k]? = some y) : ((zs ++ [y]) ++ rest.eraseIdx k).Perm (zs ++ rest) := by
  obtain ⟨hk, rfl⟩ := List.getElem?_eq_some_iff.mp h
  rw [List.append_assoc, List.eraseIdx_eq_take_drop_succ]
  refine List.Perm.append_left _ ?_
  have e : rest = rest.take k ++ rest[k] :: rest.drop (k + 1) := by
    rw [← List.drop_eq_getElem_cons hk, List.take_append_drop]
  conv => rhs; rw [e]
  rw [List.singleton_append]
  exact (List.perm_middle (a := rest[k])).symm
theorem ones_map (cs : List Nat) : (cs.map fun c => V.str (one c)) = (cs.map one).map V.str := by rw [List.map_map]; rfl
theorem cut_ones {cs : List Nat} {i : Int} (h : 0 ≤ i) : cutV ((cs.map one).map V.str) none (some i) = ((cs.take i.toNat).map one).map V.str := by
  rw [cut_lo h, ← List.map_take, ← List.map_take]
def spNames : Sp := fun vs H Q _ => ∃ (d : Addr) (t : Int) (m : Nat), vs = [.ref d, .int m] ∧ DrawAt H d t ∧ 0 ≤ t ∧ t ≤ 90000 ∧ m ≤ 8 ∧
  ∀ (l : Addr) (zs : List Str) (H' : Hp) (t' : Int), Bt [d] H H' → H l = none → H' l = some (.lst (zs.map V.str)) → zs.length = m → (∀ z ∈ zs, nameT z = true) → zs.Nodup → DrawAt H' d t' → t ≤ t' → t' ≤ t + 20 → Q (.ref l) H'
theorem none_bt {L : List Addr} {H H' : Hp} {a : Addr} (s : Bt L H H') (n : a ∉ L) (h : H' a = none) : H a = none := by
  cases e : H a with
  | none => rfl
  | some o => rw [s _ _ n e] at h; cases h
theorem nin1 {a d : Addr} (h : a ≠ d) : a ∉ [d] := fun z => h (List.mem_singleton.mp z)
section
variable {P : Program} {w : World} {K : PySem.W.Frag} {mg : Str → Option Value} {base : Heap}
abbrev NNames : List Str := ["_law_state", "_law_many", "_law_letters", "_law_own", "_law_way", "_law_first", "_law_size", "_law_k", "_law_word", "_law_found", "_law_alike"]
theorem scNames : FnScope NNames ["_law_state", "_law_many"] (defScope sNames) := ⟨rfl, rfl, rfl, by decide +kernel, rfl, by decide +kernel, by decide +kernel⟩
theorem sone : (sizeLine : Nat) = 16777216 := sizeLine_eq
theorem ones_sum (cs : List Nat) (h : cs.length ≤ 100) : ((cs.map one).map (·.length)).sum + (cs.map one).length * ("" : Str).length ≤ 16777216 := by
  have e : ((cs.map one).map (·.length)).sum = cs.length := by
    rw [List.map_map]
    induction cs with
    | nil => rfl
    | cons c r ih =>
      rw [List.map_cons, List.sum_cons, ih (by rw [List.length_cons] at h; omega), List.length_cons]
      show (one c).length + _ = _
      rw [show (one c).length = 1 from rfl]
      omega
  rw [e, show ("" : Str).length = 0 by decide +kernel]
  omega
theorem ok_names {f fT : Addr} {fd fdT : FuncData} (F : Fun K "_law_names" "_law_names" sNames f fd) (ml : mg "len" = none) (mr : mg "range" = none)
    (GT : FnOk P w K mg base CX0 2 fT fdT ["_law_state", "_law_many"] spTake) (kT : PySem.W.keepIn K (.ref fT) = true) (bT : Binds K fdT ["_law_state", "_law_many"] []) (gT : mg "_law_take" = some (.ref fT)) :
    FnOk P w K mg base CX0 3 f fd ["_law_state", "_law_many"] spNames := by
  refine F.ok scNames (fun vs H Q E h => ?_) (fun cdv A outer s H vs Q E hr h => ?_)
  · obtain ⟨d, t, m, rfl, _⟩ := h
    rfl
  · obtain ⟨d, t, m, rfl, D, t0, t1, m8, q⟩ := h
    refine ⟨_, pss_cons (ps_set (i := 2) scNames.nd rfl (.inr rfl) pe_str)
      (pss_cons (ps_set (i := 3) scNames.nd rfl (.inl rfl) (pe_lst (pa_cons pe_str (pa_cons pe_str (pa_cons pe_str (pa_cons pe_str (pa_cons pe_str (pa_cons pe_str (pa_cons pe_str (pa_cons pe_str (pa_cons pe_str (pa_cons pe_str (pa_cons pe_str (pa_cons pe_str (pa_cons pe_str (pa_cons pe_str pa_nil))))))))))))))))
      (pss_cons (ps_set (i := 3) scNames.nd rfl (.inl rfl) (pe_op op_cat (pv 3) (pe_lst (pa_cons pe_str (pa_cons pe_str (pa_cons pe_str (pa_cons pe_str (pa_cons pe_str pa_nil))))))))
      (pss_cons (ps_par3 (i := 4) (j := 5) (l := 6) (by rfl) scNames.nd rfl rfl rfl (by decide) (by decide) (by decide) rfl rfl rfl (pa_cons (pe_call GT hr (by rfl) gT kT bT .nil pass0 (pa_cons (pv 0) (pa_cons pe_int pa_nil))) (pa_cons (pe_call GT hr (by rfl) gT kT bT .nil pass0 (pa_cons (pv 0) (pa_cons pe_int pa_nil))) (pa_cons (pe_call GT hr (by rfl) gT kT bT .nil pass0 (pa_cons (pv 0) (pa_cons pe_int pa_nil))) pa_nil))) (by rfl))
      (pss_cons (ps_asg (pe_tup (pa_cons (pe_lc (own := [("_law_k", 7)]) (g := gName 7) rfl scNames.nd (pi_range1 (by rfl) mr (pa_cons pe_int pa_nil)) (blkOk_by (N := NNames) (sc := defScope sNames) (by decide +kernel))
            (fun _ _ _ _ _ => pg_name (i := 7) scNames.nd rfl (Or.inl rfl)) (fun _ _ _ _ _ => pts_nil) (fun _ _ _ _ _ => pe_ix ix_str (pv 2) (pe_call (E := E0) GT hr (by rfl) gT kT bT .nil pass0 (pa_cons (pv 0) (pa_cons pe_int pa_nil))) (fun _ _ => rfl))) (pa_cons (pe_lst pa_nil) pa_nil)))
          (pg_tup rfl (pgs_cons (pg_name (i := 8) scNames.nd rfl (.inl rfl)) (pgs_cons (pg_name (i := 9) scNames.nd rfl (.inr rfl)) pgs_nil))))
      (pss_cons (ps_for PassesOwn.never rfl (pi_range1 (by rfl) mr (pa_cons (pv 1) pa_nil)) (pg_name (i := 7) scNames.nd rfl (.inl rfl))
          (pss_cons (ps_set (i := 10) scNames.nd rfl (.inl rfl) (pe_join pe_str (pe_op op_cat (pe_slice sl_list (pv 8) po_none (po_some (pv 6))) (pe_lst (pa_cons (pe_ix ix_str (pv 2) (pe_op op_mod (pe_op op_add (pv 5) (pe_op op_mul pe_int (pv 7))) pe_int) (fun _ _ => rfl)) pa_nil)))))
          (pss_one (ps_expr (pe_bm PySem.F.plainAttrs_list PySem.F.slot_list_append PySem.F.type_list_append mt_append (pv 9) (pa_cons (pe_ix ix_list (pe_lst (pa_cons (pe_ix ix_list (pv 3) (pe_op op_mod (pe_op op_add (pv 5) (pe_op op_mul pe_int (pv 7))) pe_int) (fun _ _ => rfl)) (pa_cons (pe_join pe_str (pe_slice sl_list (pv 8) po_none (po_some (pe_op op_add (pv 7) pe_int)))) (pa_cons (pv 10) pa_nil)))) (pv 4) (fun _ _ => rfl)) pa_nil))))))
      (pss_one (ps_ret (pe_lc (own := [("_law_k", 7)]) (g := gName 7) (te := tBM K "list" rPopAt (tVar 9) (tCons (tCall spTake [] E0 (tCons (tVar 0) (tCons (tCB (rLenQ K) (tCons (tVar 9) tNil)) tNil))) tNil)) rfl scNames.nd (pi_range1 (by rfl) mr (pa_cons (pv 1) pa_nil)) (blkOk_by (N := NNames) (sc := defScope sNames) (by decide +kernel))
          (fun _ _ _ _ _ => pg_name (i := 7) scNames.nd rfl (Or.inl rfl)) (fun _ _ _ _ _ => pts_nil)
          (fun _ _ _ _ _ => by exact pe_bm PySem.F.plainAttrs_list PySem.F.slot_list_pop PySem.F.type_list_pop mt_popAt (pv 9) (pa_cons (pe_call (E := E0) GT hr (by rfl) gT kT bT .nil pass0 (pa_cons (pv 0) (pa_cons (pe_callB call_lenQ (by rfl) ml PySem.boot_len (pa_cons (pv 9) pa_nil)) pa_nil))) pa_nil)))))))))), ?_⟩
    refine ⟨by show 14 ≤ sizeLine; decide, fun p1 n1 => ⟨_, rfl, by show 5 ≤ sizeLine; decide, fun p2 n2 => ⟨p1, p2, words14.map V.str, words5.map V.str, rfl, rfl, same_upd n2 _ _ upd_same, upd_same, by show 19 ≤ sizeLine; decide, fun p3 n3 => ?_⟩⟩⟩
    have s3 := ((same_upd (o := .lst (words14.map V.str)) n1).trans (same_upd (o := .lst (words5.map V.str)) n2)).trans (same_upd (o := .lst (words14.map V.str ++ words5.map V.str)) n3)
    have h3 : upd (upd (upd H p1 (.lst (words14.map V.str))) p2 (.lst (words5.map V.str))) p3 (.lst (words14.map V.str ++ words5.map V.str)) p3 = some (.lst (words19.map V.str)) := by
      rw [upd_same]; unfold words19; rw [List.map_append]
    have D3 := D.same s3
    show tSeq _ _ _ _ (upd (upd (upd H p1 (.lst (words14.map V.str))) p2 (.lst (words5.map V.str))) p3 (.lst (words14.map V.str ++ words5.map V.str)))
    generalize upd (upd (upd H p1 (.lst (words14.map V.str))) p2 (.lst (words5.map V.str))) p3 (.lst (words14.map V.str ++ words5.map V.str)) = H3 at s3 h3 D3 ⊢
    refine ⟨_, rfl, d, t, 3, rfl, D3, t0, by omega, by decide, by decide, fun way t4 H4 w0 w3 u4 D4 a4 b4 => ?_⟩
    refine ⟨_, rfl, d, t4, 26, rfl, D4, by omega, by omega, by decide, by decide, fun first t5 H5 f0 f26 u5 D5 a5 b5 => ?_⟩
    refine ⟨_, rfl, d, t5, 8, rfl, D5, by omega, by omega, by decide, by decide, fun size t6 H6 z0 z8 u6 D6 a6 b6 => ?_⟩
    refine ⟨_, _, _, rfl, ?_⟩
    have B6 : Bt [d] H3 H6 := (u4.trans u5).trans u6
    have D7 := D6
    generalize H6 = H7 at B6 D7 ⊢
    have p3d : p3 ≠ d := D3.ne h3 fun _ z => by cases z
    have h37 := B6.at p3d h3
    refine ⟨8, rfl, by decide, by decide, fun Dl hD => ?_⟩
    have Dd : Dl ≠ d := D7.new hD
    have sD := same_upd (o := .lst []) hD
    refine lc_it (walk_range (lo := 0) (n := 8)) (fun j G => (∀ b o, b ≠ d → b ≠ Dl → H7 b = some o → G b = some o) ∧ (∃ t', DrawAt G d t' ∧ t6 ≤ t' ∧ t' ≤ t6 + j) ∧ ∃ cs : List Nat, cs.length = j ∧ (∀ c ∈ cs, c ∈ letters.cps.toList) ∧ G Dl = some (.lst ((cs.map one).map V.str))) ⟨fun b o _ nb e => by rw [upd_ne nb]; exact e, ⟨t6, D7.same sD, Int.le_refl _, by omega⟩, [], rfl, (fun _ h => by cases h), upd_same⟩ (fun _ _ _ _ => trivial) ?_ ?_
    · rintro j x G G' hj ⟨kp, ⟨t', DG, g1, g2⟩, cs, lc, oc, hz⟩ ⟨rfl, rfl⟩
      refine ⟨rfl, _, rfl, _, rfl, d, t', 26, rfl, DG, by omega, by omega, by decide, by decide, fun v t2 G2 v0 v1 u7 D8 a7 b7 => ?_⟩
      obtain ⟨c6, hc6, mc6⟩ := at_some (l := letters.cps.toList) v0 (by rw [letters_len]; exact v1)
      have hz' := u7.at Dd hz
      refine ⟨_, v, c6, rfl, rfl, by decide +kernel, hc6, _, hz', by rw [List.length_map, List.length_map, lc, sizeLine_eq]; omega, fun b o n1 n2 e => by rw [upd_ne n2]; exact u7.at n1 (kp b o n1 n2 e), ⟨t2, ?_, by omega, by omega⟩, cs ++ [c6], by rw [List.length_append, lc]; rfl, fun c hc => ?_, by rw [upd_same, List.map_append, List.map_append]; rfl⟩
      · obtain ⟨l, c, o, e⟩ := D8
        exact ⟨l, c, o, by rw [upd_ne (Ne.symm Dd)]; exact e⟩
      · rcases List.mem_append.mp hc with h | h
        · exact oc c h
        · rw [List.mem_singleton.mp h]; exact mc6
    rintro G8 ⟨kp, ⟨t8, D8, g1, g2⟩, cs, lc, oc, hz⟩
    refine ⟨by show 0 ≤ sizeLine; exact Nat.zero_le _, fun pf nf => ⟨by show 2 ≤ sizeLine; decide, fun pt2 nt2 => ⟨pt2, _, rfl, SqT.of upd_same, rfl, _, _, rfl, _, _, rfl, rfl, ?_⟩⟩⟩
    have s9 := (same_upd (o := .lst []) nf).trans (same_upd (o := .tup [.ref Dl, .ref pf]) nt2)
    have hf9 : upd (upd G8 pf (.lst [])) pt2 (.tup [.ref Dl, .ref pf]) pf = some (.lst []) := same_upd nt2 _ _ upd_same
    have hz9 := s9 _ _ hz
    have D9 := D8.same s9
    have h39 := s9 _ _ (kp _ _ p3d (ne_of_none h37 hD) h37)
    have Df : Dl ≠ pf := fun z => by rw [z, nf] at hz; cases hz
    have p3f : p3 ≠ pf := ne_of_none (kp _ _ p3d (ne_of_none h37 hD) h37) nf
    have fd0 : pf ≠ d := D8.new nf
    have kp9 : ∀ b o, b ≠ d → b ≠ Dl → H7 b = some o → upd (upd G8 pf (.lst [])) pt2 (.tup [.ref Dl, .ref pf]) b = some o := fun b o n1 n2 e => s9 _ _ (kp b o n1 n2 e)
    have npf : H7 pf = none := by
      cases e : H7 pf with
      | none => rfl
      | some o =>
        by_cases z : pf = Dl
        · exact absurd z (Ne.symm Df)
        · rw [kp pf o fd0 z e] at nf; cases nf
    dsimp only [gName]
    generalize upd (upd G8 pf (.lst [])) pt2 (.tup [.ref Dl, .ref pf]) = G9 at s9 hf9 hz9 D9 h39 kp9 ⊢
    refine ⟨_, rfl, (m : Int), rfl, by omega, by omega, ?_⟩
    rw [Int.toNat_natCast]
    refine for_it (walk_range (lo := 0) (n := m)) (fun i σ G => ∃ v7 v10 : Option V, σ = [some (.ref d), some (.int m), some (.str letters), some (.ref p3), some (.int way), some (.int first), some (.int size), v7, some (.ref Dl), some (.ref pf), v10] ∧ (∀ b o, b ≠ pf → G9 b = some o → G b = some o) ∧ G pf = some (.lst (((List.range i).map (nmK way cs first size)).map V.str))) ⟨_, _, rfl, fun b o _ e => e, hf9⟩ (fun _ _ _ _ _ => trivial) ?_ ?_
    · rintro i x σ G G' hi ⟨v7, v10, rfl, kg, hp⟩ ⟨rfl, rfl⟩
      have hzG := kg _ _ Df hz9
      have h3G := kg _ _ p3f h39
      refine ⟨⟨_, rfl⟩, _, rfl, _, rfl, size, rfl, Dl, _, rfl, SqL.of hzG, fun q1 m1 => ?_⟩
      rw [cut_ones (by omega)]
      have e1 := same_upd (o := .lst (((cs.take size.toNat).map one).map V.str)) m1
      refine ⟨_, rfl, _, rfl, _, rfl, _, _, rfl, rfl, .inl ⟨by decide, by decide⟩, _, _, rfl, rfl, _, _, rfl, rfl, (by show (0 : Int) < 26; decide), letters, _, letN (first + 5 * (0 + (i : Int))), rfl, rfl, by decide +kernel, letN_at _, by show 1 ≤ sizeLine; decide, fun q2 m2 => ?_⟩
      have e2 := same_upd (o := .lst [.str (one (letN (first + 5 * (0 + (i : Int)))))]) m2
      have k1 := e2 _ _ (upd_same (H := G') (a := q1) (o := .lst (((cs.take size.toNat).map one).map V.str)))
      have lt1 : (cs.take size.toNat).length ≤ 8 := by rw [List.length_take, lc]; omega
      refine ⟨q1, q2, _, _, rfl, rfl, k1, upd_same, by rw [List.length_map, List.length_map, sizeLine_eq]; show _ + 1 ≤ _; omega, fun q3 m3 => ?_⟩
      have ec : ((cs.take size.toNat).map one).map V.str ++ [.str (one (letN (first + 5 * (0 + (i : Int)))))] = ((cs.take size.toNat ++ [letN (first + 5 * (0 + (i : Int)))]).map one).map V.str := by
        rw [List.map_append, List.map_append]
        rfl
      rw [ec]
      have e3 := same_upd (o := .lst (((cs.take size.toNat ++ [letN (first + 5 * (0 + (i : Int)))]).map one).map V.str)) m3
      refine ⟨"", q3, (cs.take size.toNat ++ [letN (first + 5 * (0 + (i : Int)))]).map one, rfl, rfl, .inl (SqL.of upd_same), ones_sum _ (by rw [List.length_append, List.length_singleton]; omega), ?_⟩
      rw [join_ones]
      have sE := (e1.trans e2).trans e3
      have hpE := sE _ _ hp
      have h3E := sE _ _ h3G
      have hzE := sE _ _ hzG
      have kE : ∀ b o, b ≠ pf → G9 b = some o → upd (upd (upd G' q1 (.lst (((cs.take size.toNat).map one).map V.str))) q2 (.lst [.str (one (letN (first + 5 * (0 + (i : Int)))))])) q3 (.lst (((cs.take size.toNat ++ [letN (first + 5 * (0 + (i : Int)))]).map one).map V.str)) b = some o := fun b o n e => sE _ _ (kg b o n e)
      generalize upd (upd (upd G' q1 (.lst (((cs.take size.toNat).map one).map V.str))) q2 (.lst [.str (one (letN (first + 5 * (0 + (i : Int)))))])) q3 (.lst (((cs.take size.toNat ++ [letN (first + 5 * (0 + (i : Int)))]).map one).map V.str)) = GE at hpE h3E hzE kE ⊢
      refine ⟨_, rfl, .inl ⟨rfl, _, SqL.of hpE⟩, _, rfl, _, rfl, _, rfl, _, _, rfl, rfl, .inl ⟨by decide, by decide⟩, _, _, rfl, rfl, _, _, rfl, rfl, (by show (0 : Int) < 19; decide), p3, _, _, .str (wordN (first + 3 * (0 + (i : Int)))), rfl, rfl, SqL.of h3E, wordN_at _, ?_⟩
      refine ⟨⟨_, rfl⟩, _, rfl, _, rfl, _, _, rfl, rfl, 0 + (i : Int) + 1, rfl, Dl, _, rfl, SqL.of hzE, fun q4 m4 => ?_⟩
      rw [cut_ones (by omega)]
      have e4 := same_upd (o := .lst (((cs.take (0 + (i : Int) + 1).toNat).map one).map V.str)) m4
      refine ⟨"", q4, (cs.take (0 + (i : Int) + 1).toNat).map one, rfl, rfl, .inl (SqL.of upd_same), ones_sum _ (by rw [List.length_take, lc]; omega), ?_⟩
      rw [join_ones]
      refine ⟨_, rfl, by show 3 ≤ sizeLine; decide, fun q5 m5 => ?_⟩
      have e5 := same_upd (o := .lst [V.str (wordN (first + 3 * (0 + (i : Int)))), V.str (S (cs.take (0 + (i : Int) + 1).toNat)), V.str (S (cs.take size.toNat ++ [letN (first + 5 * (0 + (i : Int)))]))]) m5
      have iz : (0 : Int) + (i : Int) = (i : Int) := by omega
      have ix : atI [V.str (wordN (first + 3 * (0 + (i : Int)))), V.str (S (cs.take (0 + (i : Int) + 1).toNat)), V.str (S (cs.take size.toNat ++ [letN (first + 5 * (0 + (i : Int)))]))] way = some (.str (nmK way cs first size i)) := by
        rw [iz, show ((i : Int) + 1).toNat = i + 1 by omega]
        obtain rfl | rfl | rfl : way = 0 ∨ way = 1 ∨ way = 2 := by omega
        · rfl
        · rfl
        · rfl
      refine ⟨_, rfl, q5, _, way, .str (nmK way cs first size i), rfl, rfl, SqL.of upd_same, ix, pf, _, _, rfl, rfl, e5 _ _ (e4 _ _ hpE), by rw [List.length_map, List.length_map, List.length_range, sizeLine_eq]; omega, _, _, rfl, fun b o n e => by rw [upd_ne n]; exact e5 _ _ (e4 _ _ (kE b o n e)), ?_⟩
      rw [upd_same, List.range_succ, List.map_append, List.map_append]
      rfl
    rintro σ G ⟨v7, v10, rfl, kg, hp⟩
    have DG : DrawAt G d t8 := by
      obtain ⟨l, c, o, e⟩ := D9
      exact ⟨l, c, o, kg _ _ (Ne.symm fd0) e⟩
    refine ⟨_, rfl, (m : Int), rfl, by omega, by omega, fun De hE => ?_⟩
    rw [Int.toNat_natCast]
    have Ed : De ≠ d := DG.new hE
    have Ef : De ≠ pf := fun z => by rw [z, hp] at hE; cases hE
    have sE := same_upd (o := .lst []) hE
    have nG : ∀ b o, b ≠ d → H b = some o → G b = some o := fun b o nb e => by
      have e7 := B6.at nb (s3 _ _ e)
      exact kg b o (fun z => by rw [z, npf] at e7; cases e7) (kp9 b o nb (ne_of_none e7 hD) e7)
    have nE0 : H De = none := by
      cases e : H De with
      | none => rfl
      | some o => rw [nG De o Ed e] at hE; cases hE
    refine lc_it (walk_range (lo := 0) (n := m)) (fun j G2 => (∀ b o, b ≠ d → b ≠ De → b ≠ pf → G b = some o → G2 b = some o) ∧ (∃ t', DrawAt G2 d t' ∧ t8 ≤ t' ∧ t' ≤ t8 + j) ∧ ∃ zs rest : List Str, zs.length = j ∧ G2 De = some (.lst (zs.map V.str)) ∧ G2 pf = some (.lst (rest.map V.str)) ∧ (zs ++ rest).Perm ((List.range m).map (nmK way cs first size))) ⟨fun b o _ nb _ e => by rw [upd_ne nb]; exact e, ⟨t8, DG.same sE, Int.le_refl _, by omega⟩, [], (List.range m).map (nmK way cs first size), rfl, upd_same, sE _ _ hp, List.Perm.refl _⟩ (fun _ _ _ _ => trivial) ?_ ?_
    · rintro j x G2 G' hj ⟨kp2, ⟨t', DG2, g3, g4⟩, zs, rest, lz, hz2, hr3, pm⟩ ⟨rfl, rfl⟩
      have lm := pm.length_eq
      rw [List.length_append, lz, List.length_map, List.length_range] at lm
      refine ⟨rfl, _, rfl, .inl ⟨rfl, _, SqL.of hr3⟩, _, rfl, _, rfl, pf, _, rfl, .inl (SqL.of hr3), d, t', _, rfl, DG2, by omega, by omega, by rw [List.length_map]; omega, by rw [List.length_map]; omega, fun v t2 G3 v0 v1 u2 D2 a7 b7 => ?_⟩
      rw [List.length_map] at v1
      have hr3' := u2.at fd0 hr3
      have hz' := u2.at Ed hz2
      have vi : v.toNat < rest.length := by omega
      refine ⟨pf, _, v, v.toNat, .str rest[v.toNat], rfl, rfl, hr3', by omega, by omega, by rw [List.length_map]; exact seqIndex_of v0 v1, by rw [List.getElem?_map, List.getElem?_eq_getElem vi]; rfl, ?_⟩
      have e1 : upd G3 pf (.lst ((rest.map V.str).eraseIdx v.toNat)) De = some (.lst (zs.map V.str)) := by
        rw [upd_ne Ef]
        exact hz'
      refine ⟨_, e1, by rw [List.length_map, lz, sizeLine_eq]; omega, fun b o n1 n2 n3 e => ?_, ⟨t2, ?_, by omega, by omega⟩, zs ++ [rest[v.toNat]], rest.eraseIdx v.toNat, by rw [List.length_append, lz]; rfl, by rw [upd_same, List.map_append]; rfl, ?_, (erase_perm (List.getElem?_eq_getElem vi)).trans pm⟩
      · rw [upd_ne n2, upd_ne n3]
        exact u2.at n1 (kp2 b o n1 n2 n3 e)
      · obtain ⟨l, c, o, e⟩ := D2
        exact ⟨l, c, o, by rw [upd_ne (Ne.symm Ed), upd_ne (Ne.symm fd0)]; exact e⟩
      · rw [upd_ne (Ne.symm Ef), upd_same, erase_map]
    · rintro G2 ⟨kp2, ⟨t', DG2, g3, g4⟩, zs, rest, lz, hz2, hr3, pm⟩
      have nd : (zs ++ rest).Nodup := pm.nodup_iff.mpr (nms_nd lc (by omega))
      refine q De zs G2 t' (Bt.one fun b o nb e => ?_) nE0 hz2 lz (fun z hz => ?_) (List.nodup_append.mp nd).1 DG2 (by omega) (by omega)
      · have e2 := nG b o nb e
        exact kp2 b o nb (ne_of_none e2 hE) (fun z => by
          have e7 := B6.at nb (s3 _ _ e)
          rw [z, npf] at e7
          cases e7) e2
      · obtain ⟨k, hk, rfl⟩ := List.mem_map.mp (pm.mem_iff.mp (List.mem_append_left _ hz))
        rw [List.mem_range] at hk
        exact nmK_name lc oc (by omega) (by omega)
end
end Pk
namespace Pk
open PySem L2
/-! ### a question's row -/
def texts8 : List Str := ["yes", "no", "7", "- 1", "a  b", "~", "A:b, c", "never"]
theorem texts_nd : texts8.Nodup := by decide +kernel
theorem texts_ok : ∀ z ∈ texts8, textT z = true := by decide +kernel
theorem idx8 (n : Int) : (n % 8).toNat < 8 := by omega
def textN (n : Int) : Str := texts8[(n % 8).toNat]'(by exact idx8 n)
theorem textN_at (n : Int) : atI (texts8.map V.str) (n % 8) = some (.str (textN n)) := by
  have h0 : 0 ≤ n % 8 := Int.emod_nonneg _ (by decide)
  have e : n % 8 = (((n % 8).toNat : Nat) : Int) := by omega
  rw [e]
  refine atI_nat ?_
  rw [List.getElem?_map, List.getElem?_eq_getElem (show (n % 8).toNat < texts8.length from idx8 n)]
  rfl
def rowWs (first stride : Int) (m : Nat) : List Str := (List.range m).map fun (k : Nat) => textN (first + stride * k)
theorem rowWs_nd {first stride : Int} {m : Nat} (hs : stride = 1 ∨ stride = 3 ∨ stride = 5 ∨ stride = 7) (m6 : m ≤ 6) : (rowWs first stride m).Nodup := by
  unfold rowWs
  rw [List.nodup_iff_pairwise_ne, List.pairwise_map]
  refine (List.pairwise_iff_getElem.mpr fun i j hi hj hij e => ?_)
  rw [List.length_range] at hi hj
  rw [List.getElem_range, List.getElem_range] at e
  have e2 := (List.getElem_inj texts_nd).mp e
  rcases hs with rfl | rfl | rfl | rfl <;> omega
theorem rowWs_ok {first stride : Int} {m : Nat} : ∀ z ∈ rowWs first stride m, textT z = true := fun z hz => by
  obtain ⟨k, _, rfl⟩ := List.mem_map.mp hz
  exact texts_ok _ (List.getElem_mem _)
theorem str_at {zs : List Str} {i : Int} (h0 : 0 ≤ i) (h1 : i < zs.length) : ∃ z, z ∈ zs ∧ atI (zs.map V.str) i = some (.str z) := by
  obtain ⟨c, hc, mc⟩ := at_some (l := zs.map V.str) h0 (by rw [List.length_map]; exact h1)
  obtain ⟨z, hz, rfl⟩ := List.mem_map.mp mc
  exact ⟨z, hz, hc⟩
def two0 : List Str := ["", ""]
def spRow : Sp := fun vs H Q _ => ∃ (d kd : Addr) (t : Int) (label : Str) (ks : List Str), vs = [.ref d, .str label, .ref kd] ∧ DrawAt H d t ∧ 0 ≤ t ∧ t ≤ 90000 ∧ nameT label = true ∧ H kd = some (.lst (ks.map V.str)) ∧ 1 ≤ ks.length ∧ ks.length ≤ 8 ∧ (∀ z ∈ ks, nameT z = true) ∧
  ∀ (p : Addr) (q : QD) (H' : Hp) (t' : Int), Bt [d] H H' → H p = none → RowAt H' p q → QG q → q.nm = label → (q.ki = "" ∨ q.ki ∈ ks) → DrawAt H' d t' → t ≤ t' → t' ≤ t + 9 → Q (.ref p) H'
section
variable {P : Program} {w : World} {K : PySem.W.Frag} {mg : Str → Option Value} {base : Heap}
abbrev NRow : List Str := ["_law_state", "_law_label", "_law_kinds", "_law_some", "_law_many", "_law_first", "_law_stride", "_law_texts", "_law_clan", "_law_field", "_law_hit", "_law_k"]
theorem scRow : FnScope NRow ["_law_state", "_law_label", "_law_kinds"] (defScope sRow) := ⟨rfl, rfl, rfl, by decide +kernel, rfl, by decide +kernel, by decide +kernel⟩
theorem ok_row {f fT : Addr} {fd fdT : FuncData} (F : Fun K "_law_row" "_law_row" sRow f fd) (ml : mg "len" = none) (mr : mg "range" = none) (mtu : mg "tuple" = none)
    (GT : FnOk P w K mg base CX0 2 fT fdT ["_law_state", "_law_many"] spTake) (kT : PySem.W.keepIn K (.ref fT) = true) (bT : Binds K fdT ["_law_state", "_law_many"] []) (gT : mg "_law_take" = some (.ref fT)) :
    FnOk P w K mg base CX0 3 f fd ["_law_state", "_law_label", "_law_kinds"] spRow := by
  refine F.ok scRow (fun vs H Q E h => ?_) (fun cdv A outer s H vs Q E hr h => ?_)
  · obtain ⟨d, kd, t, lb, ks, rfl, _⟩ := h
    rfl
  · obtain ⟨d, kd, t, lb, ks, rfl, D, t0, t1, hlb, hkd, k1, k8, hks, fin⟩ := h
    refine ⟨_, pss_cons (ps_set (i := 3) scRow.nd rfl (.inr rfl) (pe_lst (pa_cons pe_str (pa_cons pe_str (pa_cons pe_str (pa_cons pe_str (pa_cons pe_str (pa_cons pe_str (pa_cons pe_str (pa_cons pe_str pa_nil))))))))))
      (pss_cons (ps_asg (pe_tup (pa_cons (pe_op op_add pe_int (pe_call GT hr (by rfl) gT kT bT .nil pass0 (pa_cons (pv 0) (pa_cons pe_int pa_nil)))) (pa_cons (pe_call GT hr (by rfl) gT kT bT .nil pass0 (pa_cons (pv 0) (pa_cons pe_int pa_nil))) (pa_cons (pe_ix ix_list (pe_lst (pa_cons pe_int (pa_cons pe_int (pa_cons pe_int (pa_cons pe_int pa_nil))))) (pe_call GT hr (by rfl) gT kT bT .nil pass0 (pa_cons (pv 0) (pa_cons pe_int pa_nil))) (fun _ _ => rfl)) pa_nil))))
          (pg_tup rfl (pgs_cons (pg_name (i := 4) scRow.nd rfl (.inl rfl)) (pgs_cons (pg_name (i := 5) scRow.nd rfl (.inr rfl)) (pgs_cons (pg_name (i := 6) scRow.nd rfl (.inr rfl)) pgs_nil)))))
      (pss_cons (ps_set (i := 7) scRow.nd rfl (.inl rfl) (pe_callTy call_tuple_of (by rfl) mtu PyProof.Rows.boot_tuple (pa_cons (pe_lc (own := [("_law_k", 11)]) (g := gName 11) (te := tOp (rIxL K) (tVar 3) (tOp (rI (fun _ j => 0 < j) fun i j => .int (i % j)) (tOp (rI0 fun i j => .int (i + j)) (tVar 5) (tOp (rI CMul fun i j => .int (i * j)) (tVar 6) (tVar 11))) (tC (.int 8)))) rfl scRow.nd (pi_range1 (by rfl) mr (pa_cons (pv 4) pa_nil)) (blkOk_by (N := NRow) (sc := defScope sRow) (by decide +kernel))
            (fun _ _ _ _ _ => pg_name (i := 11) scRow.nd rfl (Or.inl rfl)) (fun _ _ _ _ _ => pts_nil) (fun _ _ _ _ _ => by exact pe_ix ix_list (pv 3) (pe_op op_mod (pe_op op_add (pv 5) (pe_op op_mul (pv 6) (pv 11))) pe_int) (fun _ _ => rfl))) pa_nil)))
      (pss_cons (ps_set (i := 8) scRow.nd rfl (.inl rfl) (pe_ix ix_list (pe_op op_cat (pv 2) (pe_lst (pa_cons pe_str (pa_cons pe_str pa_nil)))) (pe_call GT hr (by rfl) gT kT bT .nil pass0 (pa_cons (pv 0) (pa_cons (pe_op op_add (pe_callB call_lenQ (by rfl) ml PySem.boot_len (pa_cons (pv 2) pa_nil)) pe_int) pa_nil))) (fun _ _ => rfl)))
      (pss_cons (ps_par (i := 9) (j := 10) (by rfl) scRow.nd rfl rfl (by decide) rfl rfl (pa_cons (pe_ix ix_list (pv 2) (pe_call GT hr (by rfl) gT kT bT .nil pass0 (pa_cons (pv 0) (pa_cons (pe_callB call_lenQ (by rfl) ml PySem.boot_len (pa_cons (pv 2) pa_nil)) pa_nil))) (fun _ _ => rfl)) (pa_cons (pe_call GT hr (by rfl) gT kT bT .nil pass0 (pa_cons (pv 0) (pa_cons (pv 4) pa_nil))) pa_nil)) (by rfl))
      (pss_one (ps_ret (pe_tup (pa_cons (pv 1) (pa_cons (pv 9) (pa_cons (pv 7) (pa_cons (pv 10) (pa_cons (pe_op op_add pe_int (pe_call GT hr (by rfl) gT kT bT .nil pass0 (pa_cons (pv 0) (pa_cons pe_int pa_nil)))) (pa_cons (pe_op op_add pe_int (pe_call GT hr (by rfl) gT kT bT .nil pass0 (pa_cons (pv 0) (pa_cons pe_int pa_nil)))) (pa_cons (pv 8) pa_nil))))))))))))))
      , ?_⟩
    refine ⟨by show 8 ≤ sizeLine; decide, fun p1 n1 => ?_⟩
    have s1 := same_upd (o := .lst (texts8.map V.str)) n1
    have h1 : upd H p1 (.lst (texts8.map V.str)) p1 = some (.lst (texts8.map V.str)) := upd_same
    have D1 := D.same s1
    have kd1 := s1 _ _ hkd
    show tSeq _ _ _ _ (upd H p1 (.lst (texts8.map V.str)))
    generalize upd H p1 (.lst (texts8.map V.str)) = H1 at s1 h1 D1 kd1 ⊢
    refine ⟨_, rfl, d, t, 5, rfl, D1, t0, by omega, by decide, by decide, fun many t2 H2 w0 w5 u2 D2 a2 b2 => ⟨_, _, rfl, rfl, ?_⟩⟩
    refine ⟨_, rfl, d, t2, 8, rfl, D2, by omega, by omega, by decide, by decide, fun first t3 H3 f0 f8 u3 D3 a3 b3 => ?_⟩
    refine ⟨by show 4 ≤ sizeLine; decide, fun p2 n2 => ⟨_, rfl, d, t3, 4, rfl, D3.same (same_upd n2), by omega, by omega, by decide, by decide, fun i4 t4 H4 i0 i44 u4 D4 a4 b4 => ?_⟩⟩
    have p2d : p2 ≠ d := D3.new n2
    have hp2 := u4.at p2d (upd_same (H := H3) (a := p2) (o := .lst [V.int 1, V.int 3, V.int 5, V.int 7]))
    obtain ⟨stride, hst, est⟩ : ∃ stride : Int, (stride = 1 ∨ stride = 3 ∨ stride = 5 ∨ stride = 7) ∧ atI [V.int 1, V.int 3, V.int 5, V.int 7] i4 = some (.int stride) := by
      obtain h | h | h | h : i4 = 0 ∨ i4 = 1 ∨ i4 = 2 ∨ i4 = 3 := by omega
      · rw [h]; exact ⟨1, by omega, rfl⟩
      · rw [h]; exact ⟨3, by omega, rfl⟩
      · rw [h]; exact ⟨5, by omega, rfl⟩
      · rw [h]; exact ⟨7, by omega, rfl⟩
    refine ⟨p2, _, _, .int stride, rfl, rfl, SqL.of hp2, est, by show 3 ≤ sizeLine; decide, fun pt nt => ⟨pt, _, rfl, SqT.of upd_same, rfl, _, _, rfl, _, _, rfl, _, _, rfl, rfl, ?_⟩⟩
    have B4 : Bt [d] H1 (upd H4 pt (.tup [.int (2 + many), .int first, .int stride])) := ((u2.trans u3).trans ((Bt.same (same_upd n2)).trans u4)).trans (Bt.same (same_upd nt))
    have D5 := D4.same (same_upd (o := .tup [.int (2 + many), .int first, .int stride]) nt)
    dsimp only [gName]
    generalize upd H4 pt (.tup [.int (2 + many), .int first, .int stride]) = H5 at B4 D5 ⊢
    have p1d : p1 ≠ d := D1.ne h1 fun _ z => by cases z
    have kdd : kd ≠ d := D1.ne kd1 fun _ z => by cases z
    have h15 := B4.at p1d h1
    have kd5 := B4.at kdd kd1
    obtain ⟨m, hm⟩ : ∃ m : Nat, 2 + many = (m : Int) := ⟨(2 + many).toNat, by omega⟩
    rw [hm]
    refine ⟨_, rfl, (m : Int), rfl, by omega, by omega, fun Dl hD => ?_⟩
    rw [Int.toNat_natCast]
    have sD := same_upd (o := .lst []) hD
    have aD : ∀ {a : Addr} {o : HO}, H5 a = some o → a ≠ Dl := fun {a o} e => ne_of_none e hD
    refine lc_it (walk_range (lo := 0) (n := m)) (fun j G => (∀ b o, b ≠ Dl → H5 b = some o → G b = some o) ∧ G Dl = some (.lst ((rowWs first stride j).map V.str))) ⟨fun b o nb e => by rw [upd_ne nb]; exact e, upd_same⟩ (fun _ _ _ _ => trivial) ?_ ?_
    · rintro j x G G' hj ⟨kp, hz⟩ ⟨rfl, rfl⟩
      have h1G := kp _ _ (aD h15) h15
      refine ⟨rfl, _, rfl, _, rfl, _, rfl, _, rfl, _, _, rfl, rfl, .inl ⟨by omega, by omega⟩, _, _, rfl, rfl, _, _, rfl, rfl, (by show (0 : Int) < 8; decide), p1, _, _, .str (textN (first + stride * (0 + (j : Int)))), rfl, rfl, SqL.of h1G, textN_at _, _, hz, ?_, fun b o nb e => by rw [upd_ne nb]; exact kp b o nb e, ?_⟩
      · rw [List.length_map]
        unfold rowWs
        rw [List.length_map, List.length_range, sizeLine_eq]
        omega
      · rw [upd_same]
        unfold rowWs
        rw [List.range_succ, List.map_append, List.map_append, show (0 : Int) + (j : Int) = (j : Int) by omega]
        rfl
    rintro G6 ⟨kp, hz⟩
    have lw : (rowWs first stride m).length = m := by unfold rowWs; rw [List.length_map, List.length_range]
    refine ⟨Dl, _, rfl, .inl ⟨SqL.of hz, fun pw nw => ?_⟩⟩
    have s6 : Same H5 (upd G6 pw (.tup ((rowWs first stride m).map V.str))) := fun b o e => same_upd nw _ _ (kp b o (aD e) e)
    have hw6 : upd G6 pw (.tup ((rowWs first stride m).map V.str)) pw = some (.tup ((rowWs first stride m).map V.str)) := upd_same
    have D6 := D5.same s6
    have kd6 := s6 _ _ kd5
    dsimp only [gName]
    generalize upd G6 pw (.tup ((rowWs first stride m).map V.str)) = H6 at s6 hw6 D6 kd6 ⊢
    refine ⟨_, rfl, by show 2 ≤ sizeLine; decide, fun p7 n7 => ?_⟩
    have s7 := same_upd (o := .lst [V.str "", V.str ""]) n7
    refine ⟨kd, p7, _, _, rfl, rfl, s7 _ _ kd6, upd_same, by rw [List.length_map, sizeLine_eq]; show _ + 2 ≤ _; omega, fun p8 n8 => ?_⟩
    have s8 := s7.trans (same_upd (o := .lst (ks.map V.str ++ [V.str "", V.str ""])) n8)
    have h8 : upd (upd H6 p7 (.lst [V.str "", V.str ""])) p8 (.lst (ks.map V.str ++ [V.str "", V.str ""])) p8 = some (.lst ((ks ++ two0).map V.str)) := by rw [upd_same]; rw [List.map_append]; rfl
    have D8 := D6.same s8
    have kd8 := s8 _ _ kd6
    have hw8 := s8 _ _ hw6
    generalize upd (upd H6 p7 (.lst [V.str "", V.str ""])) p8 (.lst (ks.map V.str ++ [V.str "", V.str ""])) = H8 at s8 h8 D8 kd8 hw8 ⊢
    refine ⟨_, rfl, _, rfl, kd, _, rfl, .inl (SqL.of kd8), _, _, rfl, rfl, d, t4, _, rfl, D8, by omega, by omega, by rw [List.length_map]; omega, by rw [List.length_map]; omega, fun i9 t9 H9 i90 i91 u9 D9 a9 b9 => ?_⟩
    rw [List.length_map] at i91
    have p8d : p8 ≠ d := D8.ne h8 fun _ z => by cases z
    have pwd : pw ≠ d := D8.ne hw8 fun _ z => by cases z
    have h89 := u9.at p8d h8
    have kd9 := u9.at kdd kd8
    have hw9 := u9.at pwd hw8
    obtain ⟨clan, hcl, ecl⟩ := str_at (zs := ks ++ two0) i90 (by rw [List.length_append]; show i9 < ((ks.length + 2 : Nat) : Int); omega)
    have hki : clan = "" ∨ clan ∈ ks := by
      rcases List.mem_append.mp hcl with h | h
      · exact .inr h
      · simp only [two0, List.mem_cons, List.not_mem_nil, or_false, or_self] at h
        exact .inl h
    refine ⟨p8, _, _, .str clan, rfl, rfl, SqL.of h89, ecl, ?_⟩
    refine ⟨_, rfl, _, rfl, _, rfl, kd, _, rfl, .inl (SqL.of kd9), d, t9, _, rfl, D9, by omega, by omega, by rw [List.length_map]; omega, by rw [List.length_map]; omega, fun ia ta Ha ia0 ia1 ua Da aa ba => ?_⟩
    rw [List.length_map] at ia1
    obtain ⟨field, hfd, efd⟩ := str_at (zs := ks) ia0 ia1
    refine ⟨kd, _, _, .str field, rfl, rfl, SqL.of (ua.at kdd kd9), efd, _, rfl, _, rfl, d, ta, (m : Int), rfl, Da, by omega, by omega, by omega, by omega, fun hit tb Hb hi0 hi1 ub Db ab bb => ⟨_, _, rfl, ?_⟩⟩
    refine ⟨_, rfl, _, rfl, _, rfl, _, rfl, _, rfl, d, tb, 9, rfl, Db, by omega, by omega, by decide, by decide, fun x1 tc Hc x10 x19 uc Dc ac bc => ⟨_, _, rfl, rfl, ?_⟩⟩
    refine ⟨_, rfl, d, tc, 9, rfl, Dc, by omega, by omega, by decide, by decide, fun x2 td Hd x20 x29 ud Dd ad bd => ⟨_, _, rfl, rfl, _, rfl, by show 7 ≤ sizeLine; decide, fun pr nr => ?_⟩⟩
    have hwd := ud.at pwd (uc.at pwd (ub.at pwd (ua.at pwd hw9)))
    have uA : Bt [d] H Hd := (Bt.same s1).trans (B4.trans ((Bt.same (s6.trans s8)).trans (u9.trans (ua.trans (ub.trans (uc.trans ud))))))
    have prd : pr ≠ d := Dd.new nr
    refine fin pr ⟨lb, field, rowWs first stride m, hit, 1 + x1, 1 + x2, clan⟩ _ td (uA.trans (Bt.same (same_upd nr))) (none_bt uA (nin1 prd) nr) ⟨pw, upd_same, same_upd nr _ _ hwd⟩ ⟨⟨hlb, hks _ hfd, by show 2 ≤ (rowWs first stride m).length; omega, by show (rowWs first stride m).length ≤ 6; omega, rowWs_ok, hi0, by show hit < ((rowWs first stride m).length : Int); omega, by show 1 ≤ 1 + x1; omega, by show 1 + x1 ≤ 9; omega, by show 1 ≤ 1 + x2; omega, by show 1 + x2 ≤ 9; omega, ?_⟩, rowWs_nd hst (by omega)⟩ rfl hki (Dd.same (same_upd nr)) (by omega) (by omega)
    show nameE (.str clan) = true
    unfold nameE
    rcases List.mem_append.mp hcl with h | h
    · rw [show nameV (.str clan) = nameT clan from rfl, hks _ h]
      rfl
    · have e : clan = "" := by
        simp only [two0, List.mem_cons, List.not_mem_nil, or_false, or_self] at h
        exact h
      rw [e]
      decide +kernel
end
end Pk
/-! ### len, repr, str of an instance, by the text's own -/
namespace Pk
open PySem PySem.Spec L2
section
variable {X : Cx} {k : Nat} {f C : Addr} {fd : FuncData} {sp : Sp} {e : Expr} {te : TE} {p pos : Pos}
def rLenO (C : Addr) (sp : Sp) : List V → Hp → VK → Prop := fun xs H Q => ∃ (a dx : Addr) (fs : List (Str × V)), xs = [.ref a] ∧ H a = some (.ins C dx fs) ∧ sp [.ref a] H (fun v H' => ∃ n : Int, v = .int n ∧ 0 ≤ n ∧ n < 2 ^ 63 ∧ Q (.int n) H') E0
theorem call_lenO (F : FnOk X.prog X.w X.K X.mg X.base CX0 k f fd ["self"] sp) (hr : Room (k + 1) X.A) (hs : PySem.W.findIn X.K (.ref C) "__len__" = some (some (.ref f))) (hf : PySem.W.isFn X.K (.ref f) = true) (hb : Binds X.K fd ["self"] []) : CallR X (.builtin "len") (rLenO C sp) := by
  rintro pins s σ H xs us Q I rs ⟨a, dx, fs, rfl, ha, h⟩
  obtain ⟨u, rfl, ru⟩ := rs.one
  cases ru
  obtain ⟨mA, J, _⟩ := ins_get I.hok ha
  obtain ⟨od, J, _⟩ := J.look
  obtain ⟨m, hF⟩ := I.fr
  refine PySem.W.len_K hF I.ok.mod.kin J hs hf ?_
  refine wpAny_call (codeAny_mono (F.run X.A.in1 X.stack s H ⟨[.ref a], []⟩ [.ref a] [.ref a] _ E0 hr.in1 I.env0.in1 (hb s [.ref a] I.kIn rfl) (.cons rfl .nil) h) fun r s' hq => ?_)
  match r, hq with
  | .error e, hq => exact hq.elim
  | .ok .next, hq => exact hq.elim
  | .ok .brk, hq => exact hq.elim
  | .ok .cont, hq => exact hq.elim
  | .ok (.ret z), hq =>
    obtain ⟨v, H2, I2, rv, n, rfl, n0, n1, q2⟩ := I.after hq
    obtain ⟨t, rfl⟩ := rv
    exact ⟨⟨n0, n1⟩, .int n, H2, I2.tok _, ⟨_, rfl⟩, q2⟩
def rReprO (C : Addr) (sp : Sp) : List V → Hp → VK → Prop := fun xs H Q => ∃ (a dx : Addr) (fs : List (Str × V)), xs = [.ref a] ∧ H a = some (.ins C dx fs) ∧ sp [.ref a] H (fun v H' => (∃ z, v = .str z) ∧ Q v H') E0
theorem call_reprO (F : FnOk X.prog X.w X.K X.mg X.base CX0 k f fd ["self"] sp) (hr : Room (k + 1) X.A) (hs : PySem.W.findIn X.K (.ref C) "__repr__" = some (some (.ref f))) (hf : PySem.W.isFn X.K (.ref f) = true) (hb : Binds X.K fd ["self"] []) : CallR X (.builtin "repr") (rReprO C sp) := by
  rintro pins s σ H xs us Q I rs ⟨a, dx, fs, rfl, ha, h⟩
  obtain ⟨u, rfl, ru⟩ := rs.one
  cases ru
  obtain ⟨mA, J, _⟩ := ins_get I.hok ha
  obtain ⟨od, J, _⟩ := J.look
  obtain ⟨m, hF⟩ := I.fr
  refine PySem.W.repr_K hr.in1.units0 hF I.ok.mod.kin J hs hf ?_
  refine wpAny_call (codeAny_mono (F.run X.A.in1 X.stack s H ⟨[.ref a], []⟩ [.ref a] [.ref a] _ E0 hr.in1 I.env0.in1 (hb s [.ref a] I.kIn rfl) (.cons rfl .nil) h) fun r s' hq => ?_)
  match r, hq with
  | .error e, hq => exact hq.elim
  | .ok .next, hq => exact hq.elim
  | .ok .brk, hq => exact hq.elim
  | .ok .cont, hq => exact hq.elim
  | .ok (.ret z), hq =>
    obtain ⟨v, H2, I2, rv, ⟨y, rfl⟩, q2⟩ := I.after hq
    obtain ⟨t, rfl⟩ := rv
    exact ⟨.str y, H2, I2, ⟨t, rfl⟩, q2⟩
/-- str(x) -/
def tStrO (C : Addr) (sp : Sp) (te : TE) : TE := fun σ H Q => te σ H fun x H1 => ∃ (a dx : Addr) (fs : List (Str × V)), x = .ref a ∧ H1 a = some (.ins C dx fs) ∧ sp [.ref a] H1 (fun v H2 => (∃ z, v = .str z) ∧ Q v H2) E0
theorem pe_strO (F : FnOk X.prog X.w X.K X.mg X.base CX0 k f fd ["self"] sp) (hr : Room (k + 2) X.A) (hs : PySem.W.findIn X.K (.ref C) "__str__" = some (some (.ref f))) (hf : PySem.W.isFn X.K (.ref f) = true) (hb : Binds X.K fd ["self"] []) (hg : Gl X "str") (hm : X.mg "str" = none) (he : PE X e te)
    (na : starEach [e] X.env = (false, eval e X.env) :: starEach [] X.env := by rfl) : PE X (.Call (.Name "str" p) [e] [] pos) (tStrO C sp te) := by
  constructor
  intro pins s σ H Q I h
  refine PyProof.Rows.Call_ (ld_blt I hg hm PyProof.Rows.boot_str ?_)
  refine PyProof.Rows.callWith_type1 (PyProof.Rows.args_cons (thn (he.run pins s σ H _ I h) ?_) na) na rfl
  rintro v s1 ⟨x, H1, I1, r1, a, dx, fs, rfl, ha, q⟩
  cases (show v = Value.ref a from r1)
  obtain ⟨mA, J, _⟩ := ins_get I1.hok ha
  obtain ⟨od, J, _⟩ := J.look
  refine PyProof.Rows.args_nil (PySem.W.kso_call (by have := hr.un; show X.A.in1.in1.units < cLine; have e1 := (hr.in1.in1).un; omega) I1.kIn J hs hf ?_)
  refine wpAny_call (codeAny_mono (F.run _ X.stack s1 H1 ⟨[.ref a], []⟩ [.ref a] [.ref a] _ E0 hr.in1.in1 I1.env0.in1.in1 (hb s1 [.ref a] I1.kIn rfl) (.cons rfl .nil) q) fun r s' hq => ?_)
  cases r with
  | error e => exact hq.elim
  | ok fl =>
    cases fl with
    | ret u =>
      obtain ⟨v, H2, I2, rv, ⟨z, rfl⟩, q2⟩ := I1.after hq
      obtain ⟨t, rfl⟩ := rv
      exact ⟨.str z, H2, I2, ⟨t, rfl⟩, q2⟩
    | next => exact False.elim hq
    | brk => exact False.elim hq
    | cont => exact False.elim hq
end
end Pk
/-! ### days of questions, deeds to a bank, whatever the law's text -/
namespace Pk
open PySem L2
theorem in_ints {z : Int} : ∀ zs : List Int, inV (.int z) (zs.map V.int) = decide (z ∈ zs)
  | [] => rfl
  | y :: zs => by
    have ih := in_ints (z := z) zs
    unfold inV at ih ⊢
    rw [List.map_cons, List.any_cons, ih]
    show ((y == z) || _) = _
    rw [Bool.eq_iff_iff, Bool.or_eq_true, beq_iff_eq, decide_eq_true_iff, decide_eq_true_iff, List.mem_cons]
    exact ⟨fun h => h.imp Eq.symm id, fun h => h.imp Eq.symm id⟩
theorem flat_ints : ∀ zs : List Int, (zs.map V.int).all flatV = true
  | [] => rfl
  | z :: zs => by
    rw [List.map_cons, List.all_cons, flat_ints zs]
    rfl
/-- a day more -/
def addD (ds : List Int) (i : Int) : List Int := if i ∈ ds then ds else srtZ (ds ++ [i])
/-- a day less -/
def delD (ds : List Int) (i : Int) : List Int := ds.filter fun x => decide (x ≠ i)
theorem addD_mem {ds : List Int} {i j : Int} : j ∈ addD ds i ↔ j ∈ ds ∨ j = i := by
  unfold addD
  split
  case isTrue h => exact ⟨.inl, fun z => z.elim id fun e => e ▸ h⟩
  case isFalse h => rw [(srtZ_perm _).mem_iff, List.mem_append, List.mem_singleton]
theorem addD_len {ds : List Int} {i : Int} : (addD ds i).length ≤ ds.length + 1 := by
  unfold addD
  split
  · omega
  · rw [(srtZ_perm _).length_eq, List.length_append, List.length_singleton]
    exact Nat.le_refl _
theorem addD_pair {ds : List Int} {i : Int} (h : ds.Pairwise (· < ·)) : (addD ds i).Pairwise (· < ·) := by
  unfold addD
  split
  case isTrue _ => exact h
  case isFalse n =>
    have nd : (srtZ (ds ++ [i])).Nodup := (srtZ_perm _).nodup_iff.mpr (nd_snoc (h.imp fun z => by omega) n)
    exact ((srtZ_pair (ds ++ [i])).and nd).imp fun z => by omega
theorem delD_pair {ds : List Int} {i : Int} (h : ds.Pairwise (· < ·)) : (delD ds i).Pairwise (· < ·) := h.filter _
theorem delD_mem {ds : List Int} {i j : Int} : j ∈ delD ds i ↔ j ∈ ds ∧ j ≠ i := by
  unfold delD
  rw [List.mem_filter]
  simp
theorem delD_len {ds : List Int} {i : Int} : (delD ds i).length ≤ ds.length := List.length_filter_le _ _
/-- what the law leaves of days, and puts one behind, are the same days -/
theorem day_perm {zs ds : List Int} {i : Int} (p : zs.Perm ds) (h : ds.Pairwise (· < ·)) : (delD zs i ++ [i]).Perm (addD ds i) := by
  have q : (delD zs i ++ [i]).Perm (delD ds i ++ [i]) := (p.filter _).append_right _
  refine q.trans ?_
  have nd : ds.Nodup := h.imp fun z => by omega
  unfold addD
  split
  case isTrue hi =>
    refine (List.perm_append_comm).trans ?_
    show (i :: delD ds i).Perm ds
    have e : delD ds i = ds.erase i := by rw [nd.erase_eq_filter]; unfold delD; congr; funext x; by_cases z : x = i <;> simp [z]
    rw [e]
    exact (List.perm_cons_erase hi).symm
  case isFalse hi =>
    have e : delD ds i = ds := List.filter_eq_self.mpr fun x hx => decide_eq_true fun z => hi (by rw [← z]; exact hx)
    rw [e]
    exact (srtZ_perm _).symm
theorem del_perm {zs ds : List Int} {i : Int} (p : zs.Perm ds) : (delD zs i).Perm (delD ds i) := p.filter _
theorem GoodB.day {B : BD} {n : Str} {ds : List Int} (g : GoodB B) (h : ds.Pairwise (· < ·) ∧ (∀ i ∈ ds, 0 ≤ i ∧ i ≤ 9999) ∧ ds.length ≤ 500) : GoodB (B.day n ds) := ⟨g.nd, g.le, g.nm, g.od, g.os, g.tx, fun m hm => by
  show (upF B.h n ds m).Pairwise (· < ·) ∧ (∀ i ∈ upF B.h n ds m, 0 ≤ i ∧ i ≤ 9999) ∧ (upF B.h n ds m).length ≤ 500
  by_cases e : m = n
  · subst e
    rw [upF_at]
    exact h
  · rw [upF_ne e]
    exact g.dy m hm⟩
theorem upF_self {α : Type} (f : Str → α) (n : Str) : upF f n (f n) = f := by
  funext m
  by_cases e : m = n
  · subst e
    rw [upF_at]
  · rw [upF_ne e]
theorem BD.day_self (B : BD) (n : Str) : B.day n (B.h n) = B := by
  unfold BD.day
  rw [upF_self]
section
variable {CB CQ : Addr} {H : Hp} {b k r d : Addr} {B : BD}
theorem BankAt.backB {n : Str} (h : BankAt CB CQ H b k r d B) {kr : List (Key × V)} (er : H r = some (.dK kr)) :
    BankAt CB CQ (upd H r (.dK (dropK kr (.inr n)))) b k r d (B.back n) := by
  generalize hG : upd H r (.dK (dropK kr (.inr n))) = G
  have gr : G r = some (.dK (dropK kr (.inr n))) := by rw [← hG, upd_same]
  have go : ∀ {a : Addr} {o : HO}, a ≠ r → H a = some o → G a = some o := fun {a o} n1 e => by
    rw [← hG, upd_ne n1]
    exact e
  have gi : ∀ {a : Addr} {o : HO}, (∀ kvs, o ≠ .dK kvs) → H a = some o → G a = some o := fun {a o} n e => go (fun z => by subst z; rw [er] at e; cases e; exact n _ rfl) e
  obtain ⟨dx, hb⟩ := h.at_
  obtain ⟨kk, ek, tk⟩ := h.kept
  obtain ⟨kr', er', tr⟩ := h.outs
  rw [er] at er'
  cases er'
  obtain ⟨kd, ed, td⟩ := h.days
  exact ⟨⟨dx, gi (fun _ z => by cases z) hb⟩, ⟨kk, go h.kr ek, tk.mono fun m _ v ⟨x, e, qi⟩ => ⟨x, e, qi.by fun a o n _ e => gi n e⟩⟩, ⟨_, gr, tr.drop⟩, ⟨kd, go (Ne.symm h.rd) ed, td.mono fun m _ v ⟨l, e, hl⟩ => ⟨l, e, gi (fun _ z => by cases z) hl⟩⟩, h.kr, h.kd, h.rd⟩
theorem BankAt.dayB {n : Str} {ds : List Int} {l : Addr} (h : BankAt CB CQ H b k r d B) (hn : n ∈ B.ns) {kd : List (Key × V)} (ed : H d = some (.dK kd)) (hl : H l = some (.lst (ds.map V.int))) :
    BankAt CB CQ (upd H d (.dK (putK kd (.inr n) (.ref l)))) b k r d (B.day n ds) := by
  generalize hG : upd H d (.dK (putK kd (.inr n) (.ref l))) = G
  have gd : G d = some (.dK (putK kd (.inr n) (.ref l))) := by rw [← hG, upd_same]
  have go : ∀ {a : Addr} {o : HO}, a ≠ d → H a = some o → G a = some o := fun {a o} n1 e => by
    rw [← hG, upd_ne n1]
    exact e
  have gi : ∀ {a : Addr} {o : HO}, (∀ kvs, o ≠ .dK kvs) → H a = some o → G a = some o := fun {a o} n e => go (fun z => by subst z; rw [ed] at e; cases e; exact n _ rfl) e
  obtain ⟨dx, hb⟩ := h.at_
  obtain ⟨kk, ek, tk⟩ := h.kept
  obtain ⟨kd', ed', td⟩ := h.days
  rw [ed] at ed'
  cases ed'
  obtain ⟨kr, er, tr⟩ := h.outs
  refine ⟨⟨dx, gi (fun _ z => by cases z) hb⟩, ⟨kk, go h.kd ek, tk.mono fun m _ v ⟨x, e, qi⟩ => ⟨x, e, qi.by fun a o n _ e => gi n e⟩⟩, ⟨kr, go h.rd er, tr⟩, ⟨_, gd, ?_⟩, h.kr, h.kd, h.rd⟩
  have z := td.put (n := n) (v := .ref l) (R' := RDays G (B.day n ds).h) (fun m _ ne v ⟨y, e, hy⟩ => ⟨y, e, by show G y = some (.lst ((upF B.h n ds m).map .int)); rw [upF_ne ne]; exact gi (fun _ z => nomatch z) hy⟩) ⟨l, rfl, by show G l = some (.lst ((upF B.h n ds n).map .int)); rw [upF_at]; exact gi (fun _ z => nomatch z) hl⟩
  rw [putN_old hn] at z
  exact z
end
/-! ### what the methods promise -/
def Err0 (C : Addr) (H : Hp) (E : XK) : Prop := ∀ H', Same H H' → E (.ref C) none H'
def spNeedDay (cP : Addr) : Sp := fun vs H Q E => ∃ x, vs = [x] ∧ Thg H x ∧ (whole x 0 9999 = true → Q .non H) ∧ (whole x 0 9999 = false → Err1 cP "at" x H E)
def spBackB (CB CQ cN cG : Addr) : Sp := fun vs H Q E => ∃ (b k r d : Addr) (B : BD) (y : V), vs = [.ref b, y] ∧ BankAt CB CQ H b k r d B ∧
  KnownV H B y cN (fun n => (n ∈ B.os → ∀ H', Bt [r] H H' → BankAt CB CQ H' b k r d (B.back n) → Q .non H') ∧ (n ∉ B.os → Err0 cG H E)) E
def spUsedB (CB CQ cN cP : Addr) : Sp := fun vs H Q E => ∃ (b k r d : Addr) (B : BD) (y z : V), vs = [.ref b, y, z] ∧ BankAt CB CQ H b k r d B ∧ B.ns.length ≤ 1000 ∧ (∀ n ∈ B.ns, (B.h n).length ≤ 1000) ∧ Thg H z ∧
  KnownV H B y cN (fun n => (whole z 0 9999 = false → Err1 cP "at" z H E) ∧ ∀ i : Int, z = .int i → 0 ≤ i → i ≤ 9999 → ∀ H', Bt [d] H H' → BankAt CB CQ H' b k r d (B.day n (addD (B.h n) i)) → Q .non H') E
def spUnusedB (CB CQ cN cP cG : Addr) : Sp := fun vs H Q E => ∃ (b k r d : Addr) (B : BD) (y z : V), vs = [.ref b, y, z] ∧ BankAt CB CQ H b k r d B ∧ B.ns.length ≤ 1000 ∧ (∀ n ∈ B.ns, (B.h n).length ≤ 1000) ∧ Thg H z ∧
  KnownV H B y cN (fun n => (whole z 0 9999 = false → Err1 cP "at" z H E) ∧ ∀ i : Int, z = .int i → 0 ≤ i → i ≤ 9999 → (i ∉ B.h n → Err0 cG H E) ∧ (i ∈ B.h n → ∀ H', Bt [d] H H' → BankAt CB CQ H' b k r d (B.day n (delD (B.h n) i)) → Q .non H')) E
structure GoneX (K : PySem.W.Frag) (mg : Str → Option Value) (C : Addr) : Prop where
  g : mg "Gone" = some (.ref C)
  x : PySem.W.excIn K C [.type "Exception", .type "BaseException", .type "object"] "Exception.__new__" = true
  k : PySem.W.keepIn K (.ref C) = true
  b : PySem.W.subIn K (.ref C) (.type "BaseException") = some true
  t : PySem.W.typeIn K (.ref C) = some (.type "type")
/-! ### deeds -/
inductive Deed where
  | add (q : QD) | put (q : QD) | out (n z : Str) | back (n : Str) | drop (n : Str) | use (n : Str) (i : Int) | unuse (n : Str) (i : Int)
def Deed.nm : Deed → Str
  | .add q | .put q => q.nm
  | .out n _ | .back n | .drop n | .use n _ | .unuse n _ => n
def Deed.ok : Deed → Prop
  | .add q | .put q => QV q ∧ q.ws.Nodup
  | .out n z => nameT n = true ∧ textT z = true
  | .back n | .drop n => nameT n = true
  | .use n i | .unuse n i => nameT n = true ∧ 0 ≤ i ∧ i ≤ 9999
theorem Deed.ok_nm : ∀ {D : Deed}, D.ok → nameT D.nm = true
  | .add _, h | .put _, h => h.1.nm
  | .out _ _, h | .use _ _, h | .unuse _ _, h => h.1
  | .back _, h | .drop _, h => h
/-- what a deed makes of a bank that lets it by -/
def BD.raw (B : BD) : Deed → BD
  | .add q => B.add q
  | .put q => B.put q
  | .out n z => B.out n z
  | .back n => B.back n
  | .drop n => B.drop n
  | .use n i => B.day n (addD (B.h n) i)
  | .unuse n i => B.day n (delD (B.h n) i)
inductive Wrong where
  | gone | such (n : Str) | twice (n : Str)
/-- what is wrong with a deed -/
def BD.err (B : BD) : Deed → Option Wrong
  | .add q => if q.nm ∈ B.ns then some (.twice q.nm) else none
  | .put q => if q.nm ∈ B.ns then none else some (.such q.nm)
  | .out n _ => if n ∈ B.ns then none else some (.such n)
  | .back n => if n ∈ B.ns then (if n ∈ B.os then none else some .gone) else some (.such n)
  | .drop n => if n ∈ B.ns then none else some (.such n)
  | .use n _ => if n ∈ B.ns then none else some (.such n)
  | .unuse n i => if n ∈ B.ns then (if i ∈ B.h n then none else some .gone) else some (.such n)
def shW (x y : Str) : Str := (PyData.tuple [.str x, .str y]).shown
def shG : Str := (PyData.tuple [.str "gone", .none]).shown
def Wrong.txt : Wrong → Str
  | .gone => shG
  | .such n => shW "such" n
  | .twice n => shW "twice" n
def BD.app (B : BD) (D : Deed) : BD := match B.err D with
  | some _ => B
  | none => B.raw D
/-- what is due -/
def BD.due (B : BD) (D : Deed) : Str := match B.err D with
  | some e => e.txt
  | none => "None"
def WrongE (c : Nat → Addr) (H : Hp) (E : XK) : Wrong → Prop
  | .gone => Err0 (c 1) H E
  | .such n => Err1 (c 3) "name" (.str n) H E
  | .twice n => Err1 (c 6) "name" (.str n) H E
theorem paren_ne {x : Str} : ("(" : Str) ++ x ≠ "None" := fun e => by
  have z := congrArg (fun s : Str => s.cps.toList) e
  have a : ∀ x y : Str, (x ++ y).cps.toList = x.cps.toList ++ y.cps.toList := fun x y => by show (x.cps ++ y.cps).toList = _; rw [Array.toList_append]
  simp only [a] at z
  have e1 : (("(" : Str)).cps.toList = [40] := by decide +kernel
  have e2 : (("None" : Str)).cps.toList = [78, 111, 110, 101] := by decide +kernel
  rw [e1, e2] at z
  cases z
theorem app_assoc (x y z : Str) : x ++ y ++ z = x ++ (y ++ z) := by
  show (⟨x.cps ++ y.cps ++ z.cps⟩ : Str) = ⟨x.cps ++ (y.cps ++ z.cps)⟩
  rw [Array.append_assoc]
theorem tup_ne {xs : List PyData} : (PyData.tuple xs).shown ≠ "None" := by
  rw [PyData.shown]
  unfold tupleText
  rw [app_assoc]
  exact paren_ne
theorem Wrong.ne : ∀ e : Wrong, e.txt ≠ "None"
  | .gone | .such _ | .twice _ => tup_ne
theorem BD.due_none {B : BD} {D : Deed} (h : B.err D = none) : B.due D = "None" := by unfold BD.due; rw [h]
theorem BD.due_some {B : BD} {D : Deed} {e : Wrong} (h : B.err D = some e) : B.due D = e.txt := by unfold BD.due; rw [h]
theorem BD.app_none {B : BD} {D : Deed} (h : B.err D = none) : B.app D = B.raw D := by unfold BD.app; rw [h]
theorem BD.app_some {B : BD} {D : Deed} {e : Wrong} (h : B.err D = some e) : B.app D = B := by unfold BD.app; rw [h]
theorem GoodB.raw {B : BD} {D : Deed} (g : GoodB B) (o : D.ok) (l : B.ns.length < 60) (hl : ∀ n ∈ B.ns, (B.h n).length < 500) (h : B.err D = none) : GoodB (B.raw D) := by
  cases D with
  | add q =>
    by_cases hn : q.nm ∈ B.ns
    · rw [BD.err, if_pos hn] at h; cases h
    · exact g.add o.1 hn l
  | put q => exact g.put o.1
  | out n z =>
    by_cases hn : n ∈ B.ns
    · exact g.out hn o.2
    · rw [BD.err, if_neg hn] at h; cases h
  | back n => exact g.back
  | drop n => exact g.drop
  | use n i =>
    by_cases hn : n ∈ B.ns
    · obtain ⟨h1, h2, h3⟩ := g.dy n hn
      have h4 := hl n hn
      have h5 := addD_len (ds := B.h n) (i := i)
      exact g.day ⟨addD_pair h1, fun j hj => (addD_mem.mp hj).elim (h2 j) fun e => e ▸ o.2, by omega⟩
    · rw [BD.err, if_neg hn] at h; cases h
  | unuse n i =>
    by_cases hn : n ∈ B.ns
    · obtain ⟨h1, h2, h3⟩ := g.dy n hn
      have h5 := delD_len (ds := B.h n) (i := i)
      exact g.day ⟨delD_pair h1, fun j hj => h2 j (delD_mem.mp hj).1, by omega⟩
    · rw [BD.err, if_neg hn] at h; cases h
theorem GoodB.app {B : BD} {D : Deed} (g : GoodB B) (o : D.ok) (l : B.ns.length < 60) (hl : ∀ n ∈ B.ns, (B.h n).length < 500) : GoodB (B.app D) := by
  cases h : B.err D with
  | none => rw [BD.app_none h]; exact g.raw o l hl h
  | some e => rw [BD.app_some h]; exact g
/-- names come in by deeds of them alone -/
theorem app_ns {B : BD} {D : Deed} {n : Str} (h : n ∈ (B.app D).ns) : n ∈ B.ns ∨ n = D.nm := by
  cases e : B.err D with
  | some _ => rw [BD.app_some e] at h; exact .inl h
  | none =>
    rw [BD.app_none e] at h
    cases D with
    | add q => exact (List.mem_append.mp (show n ∈ B.ns ++ [q.nm] from h)).imp id fun z => List.mem_singleton.mp z
    | drop m => exact .inl (dropN_mem.mp (show n ∈ dropN B.ns m from h)).1
    | _ => exact .inl h
/-- days are at most one more -/
theorem app_days {B : BD} {D : Deed} {t : Nat} (h : ∀ n ∈ B.ns, (B.h n).length ≤ t) : ∀ n ∈ (B.app D).ns, ((B.app D).h n).length ≤ t + 1 := fun n hn => by
  cases e : B.err D with
  | some _ => rw [BD.app_some e] at hn ⊢; exact Nat.le_succ_of_le (h n hn)
  | none =>
    rw [BD.app_none e] at hn ⊢
    cases D with
    | add q =>
      show (upF B.h q.nm [] n).length ≤ t + 1
      by_cases z : n = q.nm
      · rw [z, upF_at]; exact Nat.zero_le _
      · rw [upF_ne z]
        exact Nat.le_succ_of_le (h n ((List.mem_append.mp (show n ∈ B.ns ++ [q.nm] from hn)).resolve_right fun y => z (List.mem_singleton.mp y)))
    | use m i =>
      show (upF B.h m (addD (B.h m) i) n).length ≤ t + 1
      by_cases z : n = m
      · subst z
        rw [upF_at]
        have := addD_len (ds := B.h n) (i := i)
        have := h n hn
        omega
      · rw [upF_ne z]; exact Nat.le_succ_of_le (h n hn)
    | unuse m i =>
      show (upF B.h m (delD (B.h m) i) n).length ≤ t + 1
      by_cases z : n = m
      · subst z
        rw [upF_at]
        have := delD_len (ds := B.h n) (i := i)
        have := h n hn
        omega
      · rw [upF_ne z]; exact Nat.le_succ_of_le (h n hn)
    | drop m => exact Nat.le_succ_of_le (h n (dropN_mem.mp (show n ∈ dropN B.ns m from hn)).1)
    | _ => exact Nat.le_succ_of_le (h n hn)
/-- answers unlike -/
def NdB (B : BD) : Prop := ∀ n ∈ B.ns, (B.f n).ws.Nodup
theorem NdB.b0 : NdB B0 := fun _ h => nomatch h
theorem NdB.app {B : BD} {D : Deed} (h : NdB B) (o : D.ok) : NdB (B.app D) := fun n hn => by
  cases e : B.err D with
  | some _ => rw [BD.app_some e] at hn ⊢; exact h n hn
  | none =>
    rw [BD.app_none e] at hn ⊢
    cases D with
    | add q =>
      show (upF B.f q.nm q n).ws.Nodup
      by_cases z : n = q.nm
      · rw [z, upF_at]; exact o.2
      · rw [upF_ne z]
        exact h n ((List.mem_append.mp (show n ∈ B.ns ++ [q.nm] from hn)).resolve_right fun y => z (List.mem_singleton.mp y))
    | put q =>
      show (upF B.f q.nm q n).ws.Nodup
      by_cases z : n = q.nm
      · rw [z, upF_at]; exact o.2
      · rw [upF_ne z]; exact h n hn
    | drop m => exact h n (dropN_mem.mp (show n ∈ dropN B.ns m from hn)).1
    | _ => exact h n hn
/-- a deed as the law has it -/
def DeedAt (H : Hp) (p : Addr) : Deed → Prop
  | .add q => ∃ r, H p = some (.tup [.str "added", .ref r]) ∧ RowAt H r q
  | .put q => ∃ r, H p = some (.tup [.str "put", .ref r]) ∧ RowAt H r q
  | .out n z => H p = some (.tup [.str "out", .str n, .str z])
  | .back n => H p = some (.tup [.str "back", .str n])
  | .drop n => H p = some (.tup [.str "dropped", .str n])
  | .use n i => H p = some (.tup [.str "used", .str n, .int i])
  | .unuse n i => H p = some (.tup [.str "unused", .str n, .int i])
theorem RowAt.byT {H H' : Hp} {p : Addr} {q : QD} (h : RowAt H p q) (s : ∀ a L, H a = some (.tup L) → H' a = some (.tup L)) : RowAt H' p q := by
  obtain ⟨a, h1, h2⟩ := h
  exact ⟨a, s _ _ h1, s _ _ h2⟩
theorem DeedAt.byT {H H' : Hp} {p : Addr} {D : Deed} (h : DeedAt H p D) (s : ∀ a L, H a = some (.tup L) → H' a = some (.tup L)) : DeedAt H' p D := by
  cases D with
  | add q => obtain ⟨r, h1, h2⟩ := h; exact ⟨r, s _ _ h1, h2.byT s⟩
  | put q => obtain ⟨r, h1, h2⟩ := h; exact ⟨r, s _ _ h1, h2.byT s⟩
  | _ => exact s _ _ h
end Pk
namespace Pk
open PySem L2
/-! ### banks.py: put back, days noted -/
abbrev IxLine : List Value := [.type "IndexError", .type "LookupError", .type "Exception", .type "BaseException", .type "object"]
abbrev TxP (K : PySem.W.Frag) (mg : Str → Option Value) (C fI : Addr) : Prop := Er_at.Tx K mg "NoPlace" "NoPlace.__init__" C fI "IndexError" "IndexError.__new__" "IndexError.__init__" IxLine
section
variable {P : Program} {w : World} {K : PySem.W.Frag} {mg : Str → Option Value} {base : Heap} {CB CQ : Addr}
theorem bW1 {f : Addr} {fd : FuncData} (F : FunDf K "is_whole" sIsWhole [.int 0, .int 9999] f fd) : ∃ ds, Vals ([.int 0, .int 9999] : List V) ds ∧ Binds K fd ["thing", "least", "most"] ds :=
  F.binds1 1 0 (fun z => nomatch z) rfl fun T kV doc pm an cdv ct us its l1 l2 => match us, its, l1, l2 with
    | [_], [_, _], _, _ => ⟨_, rfl, rfl⟩
theorem scNeedDay : FnScope ["thing"] ["thing"] (defScope sNeedDay) := ⟨rfl, rfl, rfl, by decide +kernel, rfl, by decide +kernel, by decide +kernel⟩
theorem ok_needDay {f fW cP fI : Addr} {fd fdW : FuncData} (F : Fun K "need_day" "need_day" sNeedDay f fd) (TP : TxP K mg cP fI) (FW : FunDf K "is_whole" sIsWhole [.int 0, .int 9999] fW fdW) (GW : FnOk P w K mg base CX0 2 fW fdW ["thing", "least", "most"] spIsWhole) (kW : PySem.W.keepIn K (.ref fW) = true) (gW : mg "is_whole" = some (.ref fW)) :
    FnOk P w K mg base (L2.CX P w) 3 f fd ["thing"] (spNeedDay cP) := by
  obtain ⟨ds, hds, bW⟩ := bW1 FW
  refine F.okX scNeedDay (fun vs H Q E h => ?_) (fun cdv A outer s H vs Q E hr h => ?_)
  · obtain ⟨x, rfl, _⟩ := h
    rfl
  · obtain ⟨x, rfl, hx, q1, q2⟩ := h
    have r2 : Room 2 _ := hr.mono (by decide)
    refine ⟨_, pss_one (ps_if (pt_not (pt_val (pe_call GW r2 (by rfl) gW kW bW hds pass0 (pa_cons (pv 0) pa_nil)))) (pss_one (ps_raiseE_at rfl TP hr (takes_of rfl rfl rfl rfl) (by exact (pa_cons (pv 0) pa_nil)))) pss_nil), ?_⟩
    refine ⟨_, rfl, x, 0, 9999, rfl, hx, _, rfl, ?_⟩
    cases hn : whole x 0 9999 with
    | true => exact iteF (q1 hn)
    | false => exact iteT ⟨_, rfl, x, rfl, fun d hd => q2 hn d _ (same_upd hd) upd_same⟩
theorem scBack : FnScope ["self", "name"] ["self", "name"] (defScope sBBack) := ⟨rfl, rfl, rfl, by decide +kernel, rfl, by decide +kernel, by decide +kernel⟩
theorem ok_backB {f fO cN cG : Addr} {fd fdO : FuncData} (F : Fun K "put_back" "Bank.put_back" sBBack f fd) (C : BCls K CB) (GX : GoneX K mg cG)
    (GO : FnOk P w K mg base (L2.CX P w) 3 fO fdO ["self", "name"] (spKnown CB CQ cN)) (MO : Meth K CB "need_known" fO) (bO : Binds K fdO ["self", "name"] []) :
    FnOk P w K mg base (L2.CX P w) 5 f fd ["self", "name"] (spBackB CB CQ cN cG) := by
  refine F.okX scBack (fun vs H Q E h => ?_) (fun cdv A outer s H vs Q E hr h => ?_)
  · obtain ⟨b, k, r, d, B, y, rfl, _⟩ := h
    rfl
  · obtain ⟨b, k, r, d, B, y, rfl, hB, h⟩ := h
    have hu := hu_of hr
    have r3 : Room 3 _ := hr.mono (by decide)
    refine ⟨_, pss_cons (ps_expr (pe_meth (E := E) (pv 0) C.cls MO GO r3 bO .nil (passes_call (takes_of rfl rfl rfl rfl) fun _ _ _ _ h => h) (pa_cons (pv 1) pa_nil)))
      (pss_cons (ps_if (pt_cmp (pc_dnotin hu (pv 1) (pe_fld (pv 0) rfl))) (pss_one (ps_raise rfl (takes_of rfl rfl rfl rfl) (pmk_own PySem.F.excBase_Exception GX.x GX.g GX.k (raises_own GX.b GX.t) (by exact rfl)))) pss_nil)
      (pss_one (ps_ddel (pe_fld (pv 0) rfl) (pv 1)))), ?_⟩
    obtain ⟨dx, hb⟩ := hB.at_
    refine ⟨_, rfl, b, dx, _, rfl, hb, lb_meth (by decide) _ _ _, _, rfl, b, k, r, d, B, y, rfl, hB, ?_⟩
    rcases h with ⟨n, hn, rfl, q1, q2⟩ | h
    case inr => exact .inr h
    obtain ⟨kr, er, tr⟩ := id hB.outs
    obtain ⟨o, ho, hs⟩ := hB.outs.has n
    refine .inl ⟨n, hn, rfl, _, rfl, _, rfl, b, CB, dx, _, _, rfl, hb, C.cls, C.no _ (by decide), lb_reasons _ _ _, r, o, rfl, ho, _, rfl, ?_⟩
    rw [hs]
    by_cases hno : n ∈ B.os
    · rw [decide_eq_true hno]
      obtain ⟨vr, hvr, _⟩ := tr.2 n hno
      refine iteF ⟨_, rfl, b, CB, dx, _, _, rfl, hb, C.cls, C.no _ (by decide), lb_reasons _ _ _, _, rfl, r, kr, .inr n, rfl, er, rfl, by rw [hvr]; rfl, ?_⟩
      exact q1 hno _ (Bt.put List.mem_cons_self) (hB.backB er)
    · rw [decide_eq_false hno]
      exact iteT (q2 hno _ (Same.refl _))
theorem scUsed : FnScope ["self", "name", "day"] ["self", "name", "day"] (defScope sBUsed) := ⟨rfl, rfl, rfl, by decide +kernel, rfl, by decide +kernel, by decide +kernel⟩
theorem ok_usedB {f fO fY cN cP : Addr} {fd fdO fdY : FuncData} (F : Fun K "used_on" "Bank.used_on" sBUsed f fd) (C : BCls K CB) (mso : mg "sorted" = none)
    (GY : FnOk P w K mg base (L2.CX P w) 3 fY fdY ["thing"] (spNeedDay cP)) (kY : PySem.W.keepIn K (.ref fY) = true) (bY : Binds K fdY ["thing"] []) (gY : mg "need_day" = some (.ref fY))
    (GO : FnOk P w K mg base (L2.CX P w) 3 fO fdO ["self", "name"] (spKnown CB CQ cN)) (MO : Meth K CB "need_known" fO) (bO : Binds K fdO ["self", "name"] []) :
    FnOk P w K mg base (L2.CX P w) 5 f fd ["self", "name", "day"] (spUsedB CB CQ cN cP) := by
  refine F.okX scUsed (fun vs H Q E h => ?_) (fun cdv A outer s H vs Q E hr h => ?_)
  · obtain ⟨b, k, r, d, B, y, z, rfl, _⟩ := h
    rfl
  · obtain ⟨b, k, r, d, B, y, z, rfl, hB, l1000, hl, tz, h⟩ := h
    have hu := hu_of hr
    have r3 : Room 3 _ := hr.mono (by decide)
    refine ⟨_, pss_cons (ps_expr (pe_meth (E := E) (pv 0) C.cls MO GO r3 bO .nil (passes_call (takes_of rfl rfl rfl rfl) fun _ _ _ _ h => h) (pa_cons (pv 1) pa_nil)))
      (pss_cons (ps_expr (pe_call (E := E) GY r3 (by rfl) gY kY bY .nil (passes_call (takes_of rfl rfl rfl rfl) fun _ _ _ _ h => h) (pa_cons (pv 2) pa_nil)))
      (pss_one (ps_if (pt_cmpR op_notIn_seq (pv 2) (pe_dget hu (pe_fld (pv 0) rfl) (pv 1) (fun _ _ => rfl)) (by rfl))
        (pss_one (ps_dput hu (pe_fld (pv 0) rfl) (pv 1) (pe_callB cr_sortedI (by rfl) mso (by decide +kernel) (pa_cons (pe_lst (StX.pa_star (pe_dget hu (pe_fld (pv 0) rfl) (pv 1) (fun _ _ => rfl)) (pa_cons (pv 2) pa_nil))) pa_nil)) rfl)) pss_nil))), ?_⟩
    obtain ⟨dx, hb⟩ := hB.at_
    refine ⟨_, rfl, b, dx, _, rfl, hb, lb_meth (by decide) _ _ _, _, rfl, b, k, r, d, B, y, rfl, hB, ?_⟩
    rcases h with ⟨n, hn, rfl, q1, q2⟩ | h
    case inr => exact .inr h
    refine .inl ⟨n, hn, rfl, _, rfl, z, rfl, tz, fun hw => ?_, q1⟩
    obtain ⟨i, rfl, i0, i9⟩ := whole_is hw
    obtain ⟨v, gv, l, rfl, hl0⟩ := hB.days.get hn
    obtain ⟨kd, ed, td⟩ := id hB.days
    have ln := hl n hn
    refine ⟨_, rfl, _, rfl, b, CB, dx, _, _, rfl, hb, C.cls, C.no _ (by decide), lb_days _ _ _, _, rfl, d, _, rfl, gv, l, _, rfl, .inl (SqL.of hl0), rfl, flat_ints _, _, rfl, ?_⟩
    rw [show (if true = true then !inV (V.int i) ((B.h n).map V.int) else inV (V.int i) ((B.h n).map V.int)) = !inV (V.int i) ((B.h n).map V.int) from rfl, in_ints]
    by_cases hi : i ∈ B.h n
    · refine iteF' (by simp [hi]) (q2 i rfl i0 i9 H Bt.refl ?_)
      have e : addD (B.h n) i = B.h n := if_pos hi
      rw [e, BD.day_self]
      exact hB
    · refine iteT' (by simp [hi]) ?_
      refine ⟨_, rfl, b, CB, dx, _, _, rfl, hb, C.cls, C.no _ (by decide), lb_days _ _ _, _, rfl, d, _, rfl, gv, l, _, rfl, .inr (SqL.of hl0), _, rfl, by rw [List.length_append, List.length_map]; show _ + 1 ≤ sizeLine; rw [sizeLine_eq]; omega, fun p np => ?_⟩
      have s1 := same_upd (o := .lst ((B.h n).map V.int ++ [V.int i])) np
      have e1 : (B.h n).map V.int ++ [V.int i] = (B.h n ++ [i]).map V.int := by rw [List.map_append]; rfl
      rw [e1] at s1 ⊢
      refine ⟨p, B.h n ++ [i], rfl, SqL.of upd_same, fun ys p2 pm so n2 => ?_⟩
      have ey : ys = addD (B.h n) i := by rw [show addD (B.h n) i = srtZ (B.h n ++ [i]) from if_neg hi]; exact srtZ_of pm so
      rw [ey]
      have s2 := s1.trans (same_upd (o := .lst ((addD (B.h n) i).map V.int)) n2)
      have h2 : upd (upd H p (.lst ((B.h n ++ [i]).map V.int))) p2 (.lst ((addD (B.h n) i).map V.int)) p2 = some (.lst ((addD (B.h n) i).map V.int)) := upd_same
      generalize upd (upd H p (.lst ((B.h n ++ [i]).map V.int))) p2 (.lst ((addD (B.h n) i).map V.int)) = H2 at s2 h2
      have hB2 := hB.same s2
      refine ⟨_, rfl, b, CB, dx, _, _, rfl, s2 _ _ hb, C.cls, C.no _ (by decide), lb_days _ _ _, _, rfl, d, _, rfl, DPut.k (k := .inr n) (s2 _ _ ed) (small60 td l1000), ?_⟩
      exact q2 i rfl i0 i9 _ ((Bt.same s2).trans (Bt.put List.mem_cons_self)) (hB2.dayB hn (s2 _ _ ed) h2)
abbrev NUnused : List Str := ["self", "name", "day", "each"]
theorem scUnused : FnScope NUnused ["self", "name", "day"] (defScope sBUnused) := ⟨rfl, rfl, rfl, by decide +kernel, rfl, by decide +kernel, by decide +kernel⟩
theorem ok_unusedB {f fO fY cN cP cG : Addr} {fd fdO fdY : FuncData} (F : Fun K "unused_on" "Bank.unused_on" sBUnused f fd) (C : BCls K CB) (GX : GoneX K mg cG)
    (GY : FnOk P w K mg base (L2.CX P w) 3 fY fdY ["thing"] (spNeedDay cP)) (kY : PySem.W.keepIn K (.ref fY) = true) (bY : Binds K fdY ["thing"] []) (gY : mg "need_day" = some (.ref fY))
    (GO : FnOk P w K mg base (L2.CX P w) 3 fO fdO ["self", "name"] (spKnown CB CQ cN)) (MO : Meth K CB "need_known" fO) (bO : Binds K fdO ["self", "name"] []) :
    FnOk P w K mg base (L2.CX P w) 5 f fd ["self", "name", "day"] (spUnusedB CB CQ cN cP cG) := by
  refine F.okX scUnused (fun vs H Q E h => ?_) (fun cdv A outer s H vs Q E hr h => ?_)
  · obtain ⟨b, k, r, d, B, y, z, rfl, _⟩ := h
    rfl
  · obtain ⟨b, k, r, d, B, y, z, rfl, hB, l1000, hl, tz, h⟩ := h
    have hu := hu_of hr
    have r3 : Room 3 _ := hr.mono (by decide)
    refine ⟨_, pss_cons (ps_expr (pe_meth (E := E) (pv 0) C.cls MO GO r3 bO .nil (passes_call (takes_of rfl rfl rfl rfl) fun _ _ _ _ h => h) (pa_cons (pv 1) pa_nil)))
      (pss_cons (ps_expr (pe_call (E := E) GY r3 (by rfl) gY kY bY .nil (passes_call (takes_of rfl rfl rfl rfl) fun _ _ _ _ h => h) (pa_cons (pv 2) pa_nil)))
      (pss_cons (ps_if (pt_cmpR op_notIn_seq (pv 2) (pe_dget hu (pe_fld (pv 0) rfl) (pv 1) (fun _ _ => rfl)) (by rfl)) (pss_one (ps_raise rfl (takes_of rfl rfl rfl rfl) (pmk_own PySem.F.excBase_Exception GX.x GX.g GX.k (raises_own GX.b GX.t) (by exact rfl)))) pss_nil)
      (pss_one (ps_dput hu (pe_fld (pv 0) rfl) (pv 1) (pe_lc (own := [("each", 3)]) (g := gName 3) (tt := tTest (tOp rNe (tVar 3) (tVar 2))) (te := tVar 3) rfl scUnused.nd (pi_list (pe_dget hu (pe_fld (pv 0) rfl) (pv 1) (fun _ _ => rfl))) (blkOk_by (N := NUnused) (sc := defScope sBUnused) (by decide +kernel))
          (fun _ _ _ _ _ => pg_name (i := 3) scUnused.nd rfl (Or.inl rfl)) (fun _ _ _ _ _ => pts_one (pt_cmpR op_ne (pv 3) (pv 2) (nomark _))) (fun _ _ _ _ _ => pv 3)) rfl)))), ?_⟩
    obtain ⟨dx, hb⟩ := hB.at_
    refine ⟨_, rfl, b, dx, _, rfl, hb, lb_meth (by decide) _ _ _, _, rfl, b, k, r, d, B, y, rfl, hB, ?_⟩
    rcases h with ⟨n, hn, rfl, q1, q2⟩ | h
    case inr => exact .inr h
    refine .inl ⟨n, hn, rfl, _, rfl, z, rfl, tz, fun hw => ?_, q1⟩
    obtain ⟨i, rfl, i0, i9⟩ := whole_is hw
    obtain ⟨v, gv, l, rfl, hl0⟩ := hB.days.get hn
    obtain ⟨kd, ed, td⟩ := id hB.days
    have ln := hl n hn
    obtain ⟨z1, z2⟩ := q2 i rfl i0 i9
    refine ⟨_, rfl, _, rfl, b, CB, dx, _, _, rfl, hb, C.cls, C.no _ (by decide), lb_days _ _ _, _, rfl, d, _, rfl, gv, l, _, rfl, .inl (SqL.of hl0), rfl, flat_ints _, _, rfl, ?_⟩
    rw [show (if true = true then !inV (V.int i) ((B.h n).map V.int) else inV (V.int i) ((B.h n).map V.int)) = !inV (V.int i) ((B.h n).map V.int) from rfl, in_ints]
    by_cases hi : i ∈ B.h n
    case neg => exact iteT' (by simp [hi]) (z1 hi _ (Same.refl _))
    refine iteF' (by simp [hi]) ?_
    refine ⟨_, rfl, b, CB, dx, _, _, rfl, hb, C.cls, C.no _ (by decide), lb_days _ _ _, _, rfl, d, _, rfl, gv, l, rfl, ⟨_, SqL.of hl0⟩, fun D nD => ?_⟩
    have aD : ∀ {a : Addr} {o : HO}, H a = some o → a ≠ D := fun {a o} e => ne_of_none e nD
    refine lc_it (walk_list (K := K) (a := l) (xs := (B.h n).map V.int)) (fun j G => (∀ a o, a ≠ D → H a = some o → G a = some o) ∧ G D = some (.lst ((delD ((B.h n).take j) i).map V.int))) ⟨fun a o n e => by rw [upd_ne n]; exact e, upd_same⟩ (fun j G _ h => SqL.of (h.1 _ _ (aD hl0) hl0)) ?_ ?_
    · rintro j x G G' hj ⟨kp, hd⟩ ⟨rfl, hx⟩
      obtain ⟨u, hu', rfl⟩ := getD_map hx
      refine ⟨rfl, _, rfl, _, rfl, rfl, _, rfl, ?_⟩
      have e1 : delD ((B.h n).take (j + 1)) i = if decide (u ≠ i) = true then delD ((B.h n).take j) i ++ [u] else delD ((B.h n).take j) i := filter_snoc hu'
      rw [e1]
      by_cases hui : u = i
      · subst hui
        refine ite2 (fun z => absurd z (by simp)) fun _ => ⟨kp, by rw [if_neg (by simp)]; exact hd⟩
      · refine ite2 (fun _ => ?_) fun z => absurd (by simpa using hui) z
        refine ⟨_, rfl, _, hd, ?_, fun a o n e => by rw [upd_ne n]; exact kp a o n e, by rw [upd_same, if_pos (by simpa using hui), List.map_append]; rfl⟩
        have l1 := delD_len (ds := (B.h n).take j) (i := i)
        rw [List.length_take] at l1
        rw [List.length_map, sizeLine_eq]
        omega
    rintro G ⟨kp, hd⟩
    rw [List.length_map, List.take_of_length_le (Nat.le_refl _)] at hd
    have s2 : Same H G := fun a o e => kp a o (aD e) e
    have hB2 := hB.same s2
    refine ⟨_, rfl, b, CB, dx, _, _, rfl, s2 _ _ hb, C.cls, C.no _ (by decide), lb_days _ _ _, _, rfl, d, _, rfl, DPut.k (k := .inr n) (s2 _ _ ed) (small60 td l1000), ?_⟩
    exact z2 hi _ ((Bt.same s2).trans (Bt.put List.mem_cons_self)) (hB2.dayB hn (s2 _ _ ed) hd)
end
end Pk
namespace Pk
open PySem L2
/-! ### a bank of some questions -/
def rEqE (K : PySem.W.Frag) : R2 := fun x y H Q => ∃ (a b : Addr) (xs : List V), x = .ref a ∧ y = .ref b ∧ SqL K H a xs ∧ SqL K H b [] ∧ Q (.bl xs.isEmpty) H
theorem op_eqE {X : Cx} (hu : X.A.units < cLine) : OpR X (compareOp .Eq) (rEqE X.K) := by
  rintro pins s σ H x y v u Q I rx ry ⟨a, b, xs, rfl, rfl, ha, hb, q⟩
  cases (show v = Value.ref a from rx)
  cases (show u = Value.ref b from ry)
  obtain ⟨its, rv, la, _⟩ := I.list ha
  obtain ⟨its2, rv2, lb, _⟩ := I.list hb
  cases rv2
  cases rv with
  | nil => exact SeqAt.eq_listAt la.isList lb.isList rfl hu (e := fun _ => true) (fun j h1 _ => absurd h1 (by simp)) ⟨.bl true, H, I, rfl, q⟩
  | cons h t => exact SeqAt.eq_list_lengthsAt la.isList lb.isList (by simp) hu ⟨.bl false, H, I, rfl, q⟩
def bOf (qs : List QD) : BD := qs.foldl BD.add B0
theorem run_fold : ∀ (qs : List QD) (B : BD), (B.ns ++ qs.map QD.nm).Nodup → B.ns.length + qs.length ≤ 60 → runB B (qs.map some) = .inl (qs.foldl BD.add B)
  | [], B, _, _ => rfl
  | q :: r, B, nd, l => by
    have hn : q.nm ∉ B.ns := fun h => by
      have := (List.nodup_append.mp nd).2.2 q.nm h q.nm (by simp)
      exact this rfl
    rw [List.map_cons, run_cons, if_neg hn, if_neg (by rw [List.length_cons] at l; omega), List.foldl_cons]
    refine run_fold r (B.add q) ?_ ?_
    · show ((B.ns ++ [q.nm]) ++ r.map QD.nm).Nodup
      rw [List.append_assoc]
      exact nd
    · show (B.ns ++ [q.nm]).length + r.length ≤ 60
      rw [List.length_append, List.length_singleton]
      rw [List.length_cons] at l
      omega
theorem fold_ns : ∀ (qs : List QD) (B : BD), (qs.foldl BD.add B).ns = B.ns ++ qs.map QD.nm
  | [], B => (List.append_nil _).symm
  | q :: r, B => by
    rw [List.foldl_cons, fold_ns r (B.add q)]
    show (B.ns ++ [q.nm]) ++ r.map QD.nm = _
    rw [List.append_assoc]
    rfl
theorem bOf_ns (qs : List QD) : (bOf qs).ns = qs.map QD.nm := fold_ns qs B0
theorem fold_os : ∀ (qs : List QD) (B : BD), (qs.foldl BD.add B).os = B.os
  | [], B => rfl
  | q :: r, B => fold_os r (B.add q)
theorem fold_good : ∀ (qs : List QD) (B : BD), GoodB B → (∀ q ∈ qs, QV q) → (B.ns ++ qs.map QD.nm).Nodup → B.ns.length + qs.length ≤ 60 → GoodB (qs.foldl BD.add B)
  | [], B, g, _, _, _ => g
  | q :: r, B, g, v, nd, l => by
    have hn : q.nm ∉ B.ns := fun h => by
      have := (List.nodup_append.mp nd).2.2 q.nm h q.nm (by simp)
      exact this rfl
    rw [List.length_cons] at l
    refine fold_good r (B.add q) (g.add (v q List.mem_cons_self) hn (by omega)) (fun x hx => v x (List.mem_cons_of_mem _ hx)) ?_ ?_
    · show ((B.ns ++ [q.nm]) ++ r.map QD.nm).Nodup
      rw [List.append_assoc]
      exact nd
    · show (B.ns ++ [q.nm]).length + r.length ≤ 60
      rw [List.length_append, List.length_singleton]
      omega
theorem bOf_good {qs : List QD} (v : ∀ q ∈ qs, QG q) (nd : (qs.map QD.nm).Nodup) (l : qs.length ≤ 60) : GoodB (bOf qs) := fold_good qs B0 good0 (fun q hq => (v q hq).v) nd (by show 0 + _ ≤ 60; omega)
/-- rows at a list -/
structure Rws (H : Hp) (rw_ : Addr) (qs : List QD) : Prop where
  at_ : ∃ ps : List Addr, H rw_ = some (.lst (ps.map V.ref)) ∧ ps.length = qs.length ∧ ∀ (i : Nat) (p : Addr) (q : QD), ps[i]? = some p → qs[i]? = some q → RowAt H p q
  v : ∀ q ∈ qs, QG q
theorem Rws.same {H H' : Hp} {a : Addr} {qs : List QD} (h : Rws H a qs) (s : Same H H') : Rws H' a qs := ⟨by
  obtain ⟨ps, h1, h2, h3⟩ := h.at_
  exact ⟨ps, s _ _ h1, h2, fun i p q e1 e2 => (h3 i p q e1 e2).same s⟩, h.v⟩
theorem Rws.draw {H H' : Hp} {a e : Addr} {t : Int} {qs : List QD} (h : Rws H a qs) (D : DrawAt H e t) (u : Bt [e] H H') : Rws H' a qs := ⟨by
  obtain ⟨ps, h1, h2, h3⟩ := h.at_
  exact ⟨ps, u.at (D.ne h1 fun _ z => by cases z) h1, h2, fun i p q e1 e2 => (h3 i p q e1 e2).draw D u⟩, h.v⟩
/-- questions at a list -/
def Qns (CQ : Addr) (H : Hp) (xs : List Addr) (qs : List QD) : Prop := xs.length = qs.length ∧ ∀ (i : Nat) (x : Addr) (q : QD), xs[i]? = some x → qs[i]? = some q → QI CQ H x q
theorem Qns.same {CQ : Addr} {H H' : Hp} {xs : List Addr} {qs : List QD} (h : Qns CQ H xs qs) (s : Same H H') : Qns CQ H' xs qs := ⟨h.1, fun i x q e1 e2 => (h.2 i x q e1 e2).same s⟩
theorem Qns.th {K : PySem.W.Frag} {CQ : Addr} {H : Hp} {xs : List Addr} {qs : List QD} (h : Qns CQ H xs qs) : ∀ (i : Nat) (v : V) (t : Option QD), (xs.map V.ref)[i]? = some v → (qs.map some)[i]? = some t → ThB K CQ H v t := fun i v t e1 e2 => by
  obtain ⟨x, hx, rfl⟩ := getD_map e1
  obtain ⟨q, hq, rfl⟩ := getD_map e2
  exact ⟨x, rfl, h.2 i x q hx hq⟩
theorem BankAt.putL {CB CQ : Addr} {H : Hp} {b k r d D : Addr} {B : BD} {L : List V} {o : HO} (h : BankAt CB CQ H b k r d B) (e : H D = some (.lst L)) (n : ∀ m ∈ B.ns, L ≠ (B.h m).map V.int) : BankAt CB CQ (upd H D o) b k r d B := by
  have off : ∀ {a : Addr} {u : HO}, (∀ L, u ≠ .lst L) → H a = some u → upd H D o a = some u := fun {a u} z e2 => by
    rw [upd_ne (fun y => by subst y; rw [e] at e2; cases e2; exact z _ rfl)]
    exact e2
  obtain ⟨dx, hb⟩ := h.at_
  exact ⟨⟨dx, off (fun _ z => by cases z) hb⟩, h.kept.mono (fun _ z => off (fun _ z => by cases z) z) fun m _ v ⟨x, e1, q⟩ => ⟨x, e1, q.by fun a u _ z e2 => off z e2⟩, h.outs.mono (fun _ z => off (fun _ z => by cases z) z) fun _ _ _ z => z, h.days.mono (fun _ z => off (fun _ z => by cases z) z) fun m hm v ⟨l, e1, hl⟩ => ⟨l, e1, by
    rw [upd_ne (fun y => by subst y; rw [e] at hl; exact n m hm (HO.lst.inj (Option.some.inj hl)))]
    exact hl⟩, h.kr, h.kd, h.rd⟩
/-- a new bank -/
def NewB (CB CQ : Addr) (H H' : Hp) (b : Addr) (B : BD) : Prop := Same H H' ∧ ∃ k r d, H k = none ∧ H r = none ∧ H d = none ∧ BankAt CB CQ H' b k r d B
def spBankL (CB CQ : Addr) : Sp := fun vs H Q _ => ∃ (rw_ : Addr) (way : Int) (qs : List QD), vs = [.ref rw_, .int way] ∧ 0 ≤ way ∧ way ≤ 3 ∧ Rws H rw_ qs ∧ (qs.map QD.nm).Nodup ∧ qs.length ≤ 60 ∧ ∀ (b : Addr) (H' : Hp), NewB CB CQ H H' b (bOf qs) → Q (.ref b) H'
section
variable {K : PySem.W.Frag} {f : Addr} {fd : FuncData}
theorem bB1 (F : FunB K f fd) : ∃ ds, Vals ([] : List V) ds ∧ Binds K fd ["self", "questions"] ds :=
  F.binds1 2 1 (fun z => nomatch z) rfl fun T kV doc pm an cdv ct us its l1 l2 => match us, its, l1, l2 with
    | [_, _], [_], _, _ => ⟨_, rfl, rfl⟩
theorem bB0 (F : FunB K f fd) : ∃ ds, Vals ([.non] : List V) ds ∧ Binds K fd ["self", "questions"] ds :=
  F.binds1 1 0 (fun z => nomatch z) rfl fun T kV doc pm an cdv ct us its l1 l2 => match us, its, l1, l2 with
    | [_], [_], _, _ => ⟨_, rfl, rfl⟩
theorem kB (F : FunB K f fd) : ∃ its : List Value, KBn K fd ["self", "questions"] 1 ["questions"] (fun us ws => gQR us its ws) (fun vs zs => gQR vs [.non] zs) :=
  kbnD F 1 ["questions"] gQR (fun z => nomatch z) (fun r1 _ r3 => r1.append r3)
    fun T kV doc pm an cdv ct us its ws l1 l2 l3 => match us, its, ws, l1, l2, l3 with
    | [_], [_], [_], _, _, _ => ⟨_, rfl, rfl⟩
end
section
variable {P : Program} {w : World} {K : PySem.W.Frag} {mg : Str → Option Value} {base : Heap} {CB CQ cK cT cM : Addr}
/-- the promise of a making, from the heap ahead of it -/
theorem init_good {H : Hp} {y : V} {L : List V} {qs : List QD} (hL : Handed H y L) (ll : L.length = (qs.map some).length) (hT : ∀ (i : Nat) (v : V) (t : Option QD), L[i]? = some v → (qs.map some)[i]? = some t → ThB K CQ H v t) (nd : (qs.map QD.nm).Nodup) (l60 : qs.length ≤ 60) {Q : VK} (fin : ∀ b H', NewB CB CQ H H' b (bOf qs) → Q (.ref b) H') :
    ∀ x dx, H x = none → H dx = none → dx ≠ x → spInitB K CB CQ cK cT cM [.ref x, y] (upd (upd H dx (.own x)) x (.ins CB dx [])) (fun v H2 => v = .non ∧ Q (.ref x) H2) E0 := fun x dx nx ndx ne => by
  have s0 : Same H (upd (upd H dx (.own x)) x (.ins CB dx [])) := (same_upd ndx).trans (same_upd (by rw [upd_ne (Ne.symm ne)]; exact nx))
  have e := run_fold qs B0 (by exact nd) (by show 0 + _ ≤ 60; omega)
  refine ⟨H, x, dx, y, rfl, upd_same, nx, s0, .inl ⟨L, qs.map some, hL, ll, hT, fun B eB k r d H' s' k0 r0 d0 hB => ⟨rfl, ?_⟩, fun b eB => by rw [e] at eB; cases eB⟩⟩
  rw [e] at eB
  cases eB
  exact fin x H' ⟨s', k, r, d, k0, r0, d0, hB⟩
theorem init_goodX {H : Hp} {x dx : Addr} {y : V} {L : List V} {qs : List QD} (nx : H x = none) (ndx : H dx = none) (ne : dx ≠ x) (hL : Handed H y L) (ll : L.length = (qs.map some).length) (hT : ∀ (i : Nat) (v : V) (t : Option QD), L[i]? = some v → (qs.map some)[i]? = some t → ThB K CQ H v t) (nd : (qs.map QD.nm).Nodup) (l60 : qs.length ≤ 60) {Q : VK} (fin : ∀ H', NewB CB CQ H H' x (bOf qs) → Q .non H') :
    spInitB K CB CQ cK cT cM [.ref x, y] (upd (upd H dx (.own x)) x (.ins CB dx [])) Q E0 := by
  have s0 : Same H (upd (upd H dx (.own x)) x (.ins CB dx [])) := (same_upd ndx).trans (same_upd (by rw [upd_ne (Ne.symm ne)]; exact nx))
  have e := run_fold qs B0 (by exact nd) (by show 0 + _ ≤ 60; omega)
  refine ⟨H, x, dx, y, rfl, upd_same, nx, s0, .inl ⟨L, qs.map some, hL, ll, hT, fun B eB k r d H' s' k0 r0 d0 hB => ?_, fun b eB => by rw [e] at eB; cases eB⟩⟩
  rw [e] at eB
  cases eB
  exact fin H' ⟨s', k, r, d, k0, r0, d0, hB⟩
end
end Pk
namespace Pk
open PySem L2
theorem len_sub {B : BD} {ls : List Str} (g : GoodB B) (h : ∀ n ∈ B.ns, n ∈ ls) : B.ns.length ≤ ls.length := g.nd.length_le_of_subset h
theorem app_keep {B : BD} {D : Deed} {n : Str} (h : n ∈ B.ns) (nd : ∀ m, D ≠ .drop m) : n ∈ (B.app D).ns := by
  cases e : B.err D with
  | some _ => rw [BD.app_some e]; exact h
  | none =>
    rw [BD.app_none e]
    cases D with
    | add q => exact List.mem_append_left _ h
    | drop m => exact absurd rfl (nd m)
    | _ => exact h
theorem app_add {B : BD} {q : QD} : q.nm ∈ (B.app (.add q)).ns := by
  cases e : B.err (.add q) with
  | some _ =>
    rw [BD.app_some e]
    by_cases h : q.nm ∈ B.ns
    · exact h
    · rw [show B.err (.add q) = none from if_neg h] at e; cases e
  | none => rw [BD.app_none e]; exact List.mem_append_right _ (List.mem_singleton.mpr rfl)
end Pk
/-! ### the last day up to a day -/
namespace Pk
open PySem L2
def lastD (ds : List Int) (i : Int) : Option Int := (ds.filter fun x => decide (x ≤ i)).getLast?
def optV : Option Int → V
  | none => .non
  | some i => .int i
def optD : Option Int → PyData
  | none => .none
  | some i => .int i
/-- the greatest of those up to i -/
def IsMax (zs : List Int) (i : Int) : Option Int → Prop
  | none => ∀ z ∈ zs, ¬ z ≤ i
  | some m => m ∈ zs ∧ m ≤ i ∧ ∀ z ∈ zs, z ≤ i → z ≤ m
theorem IsMax.uniq {zs ds : List Int} {i : Int} : ∀ {r r' : Option Int}, IsMax zs i r → IsMax ds i r' → zs.Perm ds → r = r'
  | none, none, _, _, _ => rfl
  | none, some m, h, h', p => absurd h'.2.1 (h m (p.mem_iff.mpr h'.1))
  | some m, none, h, h', p => absurd h.2.1 (h' m (p.mem_iff.mp h.1))
  | some m, some m', h, h', p => by
    have h1 := h.2.2 m' (p.mem_iff.mpr h'.1) h'.2.1
    have h2 := h'.2.2 m (p.mem_iff.mp h.1) h.2.1
    rw [show m = m' by omega]
theorem last_ge {l : List Int} {m : Int} (h : l.Pairwise (· < ·)) (e : l.getLast? = some m) : ∀ z ∈ l, z ≤ m := fun z hz => by
  obtain ⟨ys, rfl⟩ := List.getLast?_eq_some_iff.mp e
  rcases List.mem_append.mp hz with h1 | h1
  · have := (List.pairwise_append.mp h).2.2 z h1 m (List.mem_singleton.mpr rfl)
    omega
  · rw [List.mem_singleton.mp h1]
    exact Int.le_refl _
theorem lastD_max {ds : List Int} {i : Int} (h : ds.Pairwise (· < ·)) : IsMax ds i (lastD ds i) := by
  unfold lastD
  cases e : (ds.filter fun x => decide (x ≤ i)).getLast? with
  | none =>
    intro z hz hzi
    have e2 := List.getLast?_eq_none_iff.mp e
    have : z ∈ ds.filter fun x => decide (x ≤ i) := List.mem_filter.mpr ⟨hz, decide_eq_true hzi⟩
    rw [e2] at this
    cases this
  | some m =>
    have hm := List.mem_filter.mp (List.mem_of_getLast? e)
    exact ⟨hm.1, of_decide_eq_true hm.2, fun z hz hzi => last_ge (h.filter _) e z (List.mem_filter.mpr ⟨hz, decide_eq_true hzi⟩)⟩
theorem lastD_mem {ds : List Int} {i m : Int} (h : lastD ds i = some m) : m ∈ ds := (List.mem_filter.mp (List.mem_of_getLast? h)).1
theorem atI_last {α : Type} (l : List α) (x : α) : atI (l ++ [x]) (-1) = some x := by
  unfold atI ixN
  rw [if_neg (by decide), if_pos (by rw [List.length_append, List.length_singleton]; omega)]
  have e : (-1 + ((l ++ [x]).length : Int)).toNat = l.length := by rw [List.length_append, List.length_singleton]; omega
  show (l ++ [x])[(-1 + ((l ++ [x]).length : Int)).toNat]? = some x
  rw [e, List.getElem?_append_right (Nat.le_refl _), Nat.sub_self]
  rfl
/-- one step of the law's own looking -/
def stepM (i : Int) (r : Option Int) (z : Int) : Option Int := if z ≤ i ∧ (r = none ∨ ∃ m, r = some m ∧ m < z) then some z else r
theorem IsMax.step {zs : List Int} {i z : Int} {r : Option Int} (h : IsMax zs i r) : IsMax (zs ++ [z]) i (stepM i r z) := by
  unfold stepM
  split
  case isTrue c =>
    obtain ⟨c1, c2⟩ := c
    refine ⟨List.mem_append_right _ (List.mem_singleton.mpr rfl), c1, fun y hy hyi => ?_⟩
    rcases List.mem_append.mp hy with h1 | h1
    · rcases c2 with rfl | ⟨m, rfl, hm⟩
      · exact absurd hyi (h y h1)
      · have := h.2.2 y h1 hyi
        omega
    · rw [List.mem_singleton.mp h1]; exact Int.le_refl _
  case isFalse c =>
    cases r with
    | none =>
      intro y hy hyi
      rcases List.mem_append.mp hy with h1 | h1
      · exact h y h1 hyi
      · rw [List.mem_singleton.mp h1] at hyi
        exact c ⟨hyi, .inl rfl⟩
    | some m =>
      refine ⟨List.mem_append_left _ h.1, h.2.1, fun y hy hyi => ?_⟩
      rcases List.mem_append.mp hy with h1 | h1
      · exact h.2.2 y h1 hyi
      · rw [List.mem_singleton.mp h1] at hyi ⊢
        by_cases hc : m < z
        · exact absurd ⟨hyi, .inr ⟨m, rfl, hc⟩⟩ c
        · omega
def spLastB (CB CQ cN cP : Addr) : Sp := fun vs H Q E => ∃ (b k r d : Addr) (B : BD) (y z : V), vs = [.ref b, y, z] ∧ BankAt CB CQ H b k r d B ∧ (∀ n ∈ B.ns, (B.h n).length ≤ 1000) ∧ Thg H z ∧
  KnownV H B y cN (fun n => (whole z 0 9999 = false → Err1 cP "at" z H E) ∧ ∀ i : Int, z = .int i → 0 ≤ i → i ≤ 9999 → ∀ H', Same H H' → Q (optV (lastD (B.h n) i)) H') E
end Pk
namespace Pk
open PySem L2

/-! ### the last day -/
section
variable {P : Program} {w : World} {K : PySem.W.Frag} {mg : Str → Option Value} {base : Heap} {CB CQ : Addr}
abbrev FunL (K : PySem.W.Frag) (f : Addr) (fd : FuncData) : Prop := FunD K "last_day" "Bank.last_day" (defArgs sBLastDay) (defBody sBLastDay) (defScope sBLastDay) [.int 9999] [] f fd
abbrev NLastDay : List Str := ["self", "name", "day", "noted", "each"]
theorem scLastDay : FnScope NLastDay ["self", "name", "day"] (defScope sBLastDay) := ⟨rfl, rfl, rfl, by decide +kernel, rfl, by decide +kernel, by decide +kernel⟩
theorem ok_lastB {f fO fY cN cP : Addr} {fd fdO fdY : FuncData} (F : FunL K f fd) (C : BCls K CB) (ml : mg "len" = none)
    (GY : FnOk P w K mg base (L2.CX P w) 3 fY fdY ["thing"] (spNeedDay cP)) (kY : PySem.W.keepIn K (.ref fY) = true) (bY : Binds K fdY ["thing"] []) (gY : mg "need_day" = some (.ref fY))
    (GO : FnOk P w K mg base (L2.CX P w) 3 fO fdO ["self", "name"] (spKnown CB CQ cN)) (MO : Meth K CB "need_known" fO) (bO : Binds K fdO ["self", "name"] []) :
    FnOk P w K mg base (L2.CX P w) 5 f fd ["self", "name", "day"] (spLastB CB CQ cN cP) := by
  refine F.ok scLastDay (fun vs H Q E h => ?_) (fun cdv A outer s H vs Q E hr h => ?_)
  · obtain ⟨b, k, r, d, B, y, z, rfl, _⟩ := h
    rfl
  · obtain ⟨b, k, r, d, B, y, z, rfl, hB, hl, tz, h⟩ := h
    have hu := hu_of hr
    have r3 : Room 3 _ := hr.mono (by decide)
    refine ⟨_, pss_cons (ps_expr (pe_meth (E := E) (pv 0) C.cls MO GO r3 bO .nil (passes_call (takes_of rfl rfl rfl rfl) fun _ _ _ _ h => h) (pa_cons (pv 1) pa_nil)))
      (pss_cons (ps_expr (pe_call (E := E) GY r3 (by rfl) gY kY bY .nil (passes_call (takes_of rfl rfl rfl rfl) fun _ _ _ _ h => h) (pa_cons (pv 2) pa_nil)))
      (pss_cons (ps_setLc (i := 3) (own := [("each", 4)]) (g := gName 4) (tt := tTest (tOp (rI0 fun i j => .bl (decide (i ≤ j))) (tVar 4) (tVar 2))) (te := tVar 4) rfl scLastDay.nd rfl rfl (sw_true rfl rfl rfl (by decide +kernel)) (pi_list (pe_dget hu (pe_fld (pv 0) rfl) (pv 1) (fun _ _ => rfl))) (blkOk_by (N := NLastDay) (sc := defScope sBLastDay) (by decide +kernel))
          (fun _ _ _ _ _ => pg_name (i := 4) scLastDay.nd rfl (Or.inl rfl)) (fun _ _ _ _ _ => pts_one (pt_cmpR op_le (pv 4) (pv 2) (nomark _))) (fun _ _ _ _ _ => pv 4))
      (pss_one (ps_ret (pe_ifExp (pt_cmpR op_gt (pe_callB call_len_seq (by rfl) ml PySem.boot_len (pa_cons (pv 3) pa_nil)) pe_int (nomark _)) (pe_ix ix_list (pv 3) (pe_un un_neg pe_int) (fun _ _ => rfl)) pe_non))))), ?_⟩
    obtain ⟨dx, hb⟩ := hB.at_
    refine ⟨_, rfl, b, dx, _, rfl, hb, lb_meth (by decide) _ _ _, _, rfl, b, k, r, d, B, y, rfl, hB, ?_⟩
    rcases h with ⟨n, hn, rfl, q1, q2⟩ | h
    case inr => exact .inr h
    refine .inl ⟨n, hn, rfl, _, rfl, z, rfl, tz, fun hw => ?_, q1⟩
    obtain ⟨i, rfl, i0, i9⟩ := whole_is hw
    obtain ⟨v, gv, l, rfl, hl0⟩ := hB.days.get hn
    have ln := hl n hn
    refine ⟨_, rfl, b, CB, dx, _, _, rfl, hb, C.cls, C.no _ (by decide), lb_days _ _ _, _, rfl, d, _, rfl, gv, l, rfl, ⟨_, SqL.of hl0⟩, fun D nD => ?_⟩
    have aD : ∀ {a : Addr} {o : HO}, H a = some o → a ≠ D := fun {a o} e => ne_of_none e nD
    refine lc_it (walk_list (K := K) (a := l) (xs := (B.h n).map V.int)) (fun j G => (∀ a o, a ≠ D → H a = some o → G a = some o) ∧ G D = some (.lst ((((B.h n).take j).filter fun x => decide (x ≤ i)).map V.int))) ⟨fun a o n e => by rw [upd_ne n]; exact e, upd_same⟩ (fun j G _ h => SqL.of (h.1 _ _ (aD hl0) hl0)) ?_ ?_
    · rintro j x G G' hj ⟨kp, hd⟩ ⟨rfl, hx⟩
      obtain ⟨u, hu', rfl⟩ := getD_map hx
      refine ⟨rfl, _, rfl, _, rfl, _, _, rfl, rfl, _, rfl, ?_⟩
      rw [filter_snoc hu']
      by_cases hui : u ≤ i
      · refine ite2 (fun _ => ?_) fun z => absurd (by simpa using hui) z
        refine ⟨_, rfl, _, hd, ?_, fun a o n e => by rw [upd_ne n]; exact kp a o n e, by rw [upd_same, if_pos (by simpa using hui), List.map_append]; rfl⟩
        have l1 := List.length_filter_le (fun x => decide (x ≤ i)) ((B.h n).take j)
        rw [List.length_take] at l1
        rw [List.length_map, sizeLine_eq]
        omega
      · refine ite2 (fun z => absurd z (by simpa using hui)) fun _ => ⟨kp, by rw [if_neg (by simpa using hui)]; exact hd⟩
    rintro G ⟨kp, hd⟩
    rw [List.length_map, List.take_of_length_le (Nat.le_refl _)] at hd
    have s2 : Same H G := fun a o e => kp a o (aD e) e
    have hq := q2 i rfl i0 i9 G s2
    refine ⟨_, rfl, D, _, rfl, .inl (SqL.of hd), _, _, rfl, rfl, _, rfl, ?_⟩
    rw [List.length_map]
    unfold lastD at hq
    generalize ((B.h n).filter fun x => decide (x ≤ i)) = fs at hd hq ⊢
    cases e : fs.getLast? with
    | none =>
      rw [e] at hq
      have e2 := List.getLast?_eq_none_iff.mp e
      exact ite2 (fun z => absurd z (by rw [e2]; simp)) fun _ => hq
    | some m =>
      rw [e] at hq
      obtain ⟨ys, rfl⟩ := List.getLast?_eq_some_iff.mp e
      refine ite2 (fun _ => ⟨_, rfl, _, rfl, D, _, -1, .int m, rfl, rfl, SqL.of hd, ?_, hq⟩) fun z => absurd (by simp) z
      rw [List.map_append]
      exact atI_last _ _
end
end Pk
/-! ### what is found in a bank, whatever the law's text -/
namespace Pk
open PySem L2
/-- what is asked: matter, least, most, kin, day, rest -/
structure Ask where
  fl : Str
  lo : Int
  hi : Int
  cl : Str
  w : Option Int
  sp : Int
def Ask.vs (A : Ask) : List V := [.str A.fl, .int A.lo, .int A.hi, .str A.cl, optV A.w, .int A.sp]
def Ask0 : Ask := ⟨"", 1, 9, "", none, 0⟩
/-- used on a day between two -/
def wasU (zs : List Int) (x y : Int) : Bool := zs.any fun z => decide (x ≤ z) && decide (z ≤ y)
theorem wasU_snoc (zs : List Int) (z x y : Int) : wasU (zs ++ [z]) x y = (wasU zs x y || (decide (x ≤ z) && decide (z ≤ y))) := by
  unfold wasU
  rw [List.any_append, List.any_cons, List.any_nil, Bool.or_false]
theorem wasU_in {zs : List Int} {z x y : Int} (h : z ∈ zs) (h1 : x ≤ z) (h2 : z ≤ y) : wasU zs x y = true := List.any_eq_true.mpr ⟨z, h, by simp [h1, h2]⟩
theorem wasU_perm {zs ws : List Int} (p : zs.Perm ws) (x y : Int) : wasU zs x y = wasU ws x y := by
  rw [Bool.eq_iff_iff]
  unfold wasU
  rw [List.any_eq_true, List.any_eq_true]
  exact ⟨fun ⟨z, h, e⟩ => ⟨z, p.mem_iff.mp h, e⟩, fun ⟨z, h, e⟩ => ⟨z, p.mem_iff.mpr h, e⟩⟩
def suitA (A : Ask) (q : QD) : Bool := (decide (A.lo ≤ q.tl) && decide (q.tl ≤ A.hi)) && ((decide (A.fl = "") || decide (A.fl = q.mt)) && (decide (A.cl = "") || decide (A.cl = q.ki)))
def restA (A : Ask) (zs : List Int) : Bool := match A.w with
  | none => false
  | some w => wasU zs (w - A.sp + 1) w
def BD.found (B : BD) (A : Ask) : List Str := B.ins.filter fun n => suitA A (B.f n) && !restA A (B.h n)
theorem inV_two (x y z : Str) : inV (.str x) [.str y, .str z] = (decide (x = y) || decide (x = z)) := by
  unfold inV
  rw [List.any_cons, List.any_cons, List.any_nil, Bool.or_false]
  show ((y == x) || (z == x)) = _
  rw [Bool.eq_iff_iff, Bool.or_eq_true, Bool.or_eq_true, beq_iff_eq, beq_iff_eq, decide_eq_true_iff, decide_eq_true_iff]
  exact ⟨fun h => h.imp Eq.symm Eq.symm, fun h => h.imp Eq.symm Eq.symm⟩
def spWasB (CB CQ : Addr) : Sp := fun vs H Q _ => ∃ (b k r d : Addr) (B : BD) (n : Str) (x y : Int), vs = [.ref b, .str n, .int x, .int y] ∧ BankAt CB CQ H b k r d B ∧ n ∈ B.ns ∧ Q (.bl (wasU (B.h n) x y)) H
def spRestsOn (CB CQ : Addr) : Sp := fun vs H Q _ => ∃ (b k r d : Addr) (B : BD) (n : Str) (w sp : Int), vs = [.ref b, .str n, .int w, .int sp] ∧ BankAt CB CQ H b k r d B ∧ n ∈ B.ns ∧ Q (.bl (wasU (B.h n) (w - sp + 1) w)) H
def spSuits (CQ : Addr) : Sp := fun vs H Q _ => ∃ (x : Addr) (q : QD) (A : Ask), vs = [.ref x, .str A.fl, .int A.lo, .int A.hi, .str A.cl] ∧ QI CQ H x q ∧ ∀ H', Same H H' → Q (.bl (suitA A q)) H'
def spFoundB (CB CQ : Addr) : Sp := fun vs H Q _ => ∃ (b k r d : Addr) (B : BD) (A : Ask), vs = .ref b :: A.vs ∧ BankAt CB CQ H b k r d B ∧ GoodB B ∧ ∀ (p : Addr) (H' : Hp), Same H H' → H p = none → H' p = some (.lst ((B.found A).map V.str)) → Q (.ref p) H'
end Pk
namespace Pk
open PySem L2
/-! ### was_used, rests_on, suits, found -/
section
variable {P : Program} {w : World} {K : PySem.W.Frag} {mg : Str → Option Value} {base : Heap} {CB CQ : Addr}
abbrev NWas : List Str := ["self", "name", "first", "last", "day"]
theorem scWas : FnScope NWas ["self", "name", "first", "last"] (defScope sBWasUsed) := ⟨rfl, rfl, rfl, by decide +kernel, rfl, by decide +kernel, by decide +kernel⟩
theorem ok_wasB {f : Addr} {fd : FuncData} (F : Fun K "was_used" "Bank.was_used" sBWasUsed f fd) (C : BCls K CB) : FnOk P w K mg base CX0 1 f fd ["self", "name", "first", "last"] (spWasB CB CQ) := by
  refine F.ok scWas (fun vs H Q E h => ?_) (fun cdv A outer s H vs Q E hr h => ?_)
  · obtain ⟨b, k, r, d, B, n, x, y, rfl, _⟩ := h
    rfl
  · obtain ⟨b, k, r, d, B, n, x, y, rfl, hB, hn, q⟩ := h
    have hu := hu_of hr
    refine ⟨_, pss_cons (ps_for PassesOwn.never rfl (pi_list (pe_dget hu (pe_fld (pv 0) rfl) (pv 1) (fun _ _ => rfl))) (pg_name (i := 4) scWas.nd rfl (.inl rfl))
        (pss_one (ps_if (pt_chain op_le op_le (pv 2) (pv 4) (pv 3)) (pss_one (ps_ret pe_bl)) pss_nil)))
      (pss_one (ps_ret pe_bl)), ?_⟩
    obtain ⟨dx, hb⟩ := hB.at_
    obtain ⟨v, gv, l, rfl, hl⟩ := hB.days.get hn
    refine ⟨_, rfl, b, CB, dx, _, _, rfl, hb, C.cls, C.no _ (by decide), lb_days _ _ _, _, rfl, d, _, rfl, gv, l, rfl, ⟨_, SqL.of hl⟩, ?_⟩
    refine for_it (walk_list (K := K) (a := l) (xs := (B.h n).map V.int)) (fun j σ G => (∃ v4 : Option V, σ = [some (.ref b), some (.str n), some (.int x), some (.int y), v4]) ∧ wasU ((B.h n).take j) x y = false ∧ G = H) ⟨⟨_, rfl⟩, rfl, rfl⟩ (fun j σ G _ h => by rw [h.2.2]; exact SqL.of hl) ?_ ?_
    · rintro j z σ G G' hj ⟨⟨v4, rfl⟩, hw, rfl⟩ ⟨rfl, hx⟩
      obtain ⟨z, hz, rfl⟩ := getD_map hx
      have et : (B.h n).take (j + 1) = (B.h n).take j ++ [z] := by rw [List.take_add_one, hz]; rfl
      refine ⟨_, rfl, _, rfl, _, _, rfl, rfl, _, rfl, ?_⟩
      by_cases h1 : x ≤ z
      · refine iteT' (by simpa using h1) ⟨_, rfl, _, _, rfl, rfl, _, rfl, ?_⟩
        by_cases h2 : z ≤ y
        · refine iteT' (by simpa using h2) ?_
          rw [wasU_in (List.mem_of_getElem? hz) h1 h2] at q
          exact q
        · exact iteF' (by simpa using h2) ⟨⟨_, rfl⟩, by rw [et, wasU_snoc, hw, decide_eq_false h2]; simp, rfl⟩
      · exact iteF' (by simpa using h1) ⟨_, rfl, iteF ⟨⟨_, rfl⟩, by rw [et, wasU_snoc, hw, decide_eq_false h1]; rfl, rfl⟩⟩
    · rintro σ G ⟨⟨v4, rfl⟩, hw, rfl⟩
      rw [List.length_map, List.take_of_length_le (Nat.le_refl _)] at hw
      rw [hw] at q
      exact q
theorem scRestsOn : FnScope ["bank", "name", "day", "rest"] ["bank", "name", "day", "rest"] (defScope sRestsOn) := ⟨rfl, rfl, rfl, by decide +kernel, rfl, by decide +kernel, by decide +kernel⟩
theorem ok_restsOn {f fW : Addr} {fd fdW : FuncData} (F : Fun K "rests_on" "rests_on" sRestsOn f fd) (C : BCls K CB)
    (GW : FnOk P w K mg base CX0 1 fW fdW ["self", "name", "first", "last"] (spWasB CB CQ)) (MW : Meth K CB "was_used" fW) (bW : Binds K fdW ["self", "name", "first", "last"] []) : FnOk P w K mg base CX0 2 f fd ["bank", "name", "day", "rest"] (spRestsOn CB CQ) := by
  refine F.ok scRestsOn (fun vs H Q E h => ?_) (fun cdv A outer s H vs Q E hr h => ?_)
  · obtain ⟨b, k, r, d, B, n, x, y, rfl, _⟩ := h
    rfl
  · obtain ⟨b, k, r, d, B, n, x, y, rfl, hB, hn, q⟩ := h
    have hu := hu_of hr
    refine ⟨_, pss_one (ps_ret (pe_meth (E := E0) (pv 0) C.cls MW GW hr bW .nil pass0 (pa_cons (pv 1) (pa_cons (pe_op op_add (pe_op op_sub (pv 2) (pv 3)) pe_int) (pa_cons (pv 2) pa_nil))))), ?_⟩
    obtain ⟨dx, hb⟩ := hB.at_
    exact ⟨_, rfl, b, dx, _, rfl, hb, lb_meth (by decide) _ _ _, _, rfl, _, rfl, _, rfl, _, _, rfl, rfl, _, _, rfl, rfl, _, rfl, b, k, r, d, B, n, x - y + 1, x, rfl, hB, hn, q⟩
theorem scSuits : FnScope ["question", "matter", "least", "most", "kin"] ["question", "matter", "least", "most", "kin"] (defScope sSuits) := ⟨rfl, rfl, rfl, by decide +kernel, rfl, by decide +kernel, by decide +kernel⟩
theorem ok_suits {f : Addr} {fd : FuncData} (F : Fun K "suits" "suits" sSuits f fd) (CC : QCls K CQ) : FnOk P w K mg base CX0 1 f fd ["question", "matter", "least", "most", "kin"] (spSuits CQ) := by
  refine F.ok scSuits (fun vs H Q E h => ?_) (fun cdv A outer s H vs Q E hr h => ?_)
  · obtain ⟨x, q, A, rfl, _⟩ := h
    rfl
  · obtain ⟨x, q, B, rfl, hq, fin⟩ := h
    have hu := hu_of hr
    refine ⟨_, pss_cons (ps_if (pt_not (pt_chain op_le op_le (pv 2) (pe_fld (pv 0) rfl) (pv 3))) (pss_one (ps_ret pe_bl)) pss_nil)
      (pss_one (ps_ret (pe_and (pe_cmpR op_in_seq (pv 1) (pe_tup (pa_cons pe_str (pa_cons (pe_fld (pv 0) rfl) pa_nil))) (by rfl)) (pe_one (pe_cmpR op_in_seq (pv 4) (pe_tup (pa_cons pe_str (pa_cons (pe_fld (pv 0) rfl) pa_nil))) (by rfl)))))), ?_⟩
    have fin0 := fin H (Same.refl H)
    obtain ⟨dq, a, hx, ha, _⟩ := id hq
    have rest : (decide (B.lo ≤ q.tl) && decide (q.tl ≤ B.hi)) = true → ∀ Z : Prop, Z → Z := fun _ _ h => h
    unfold suitA at fin fin0
    refine ⟨_, rfl, _, rfl, x, CQ, dq, _, _, rfl, hx, CC.cls, CC.no _ (by decide), look_toil _ _ _ _ _ _ _, _, _, rfl, rfl, _, rfl, ?_⟩
    by_cases h1 : B.lo ≤ q.tl
    case neg =>
      rw [decide_eq_false h1, Bool.false_and, Bool.false_and] at fin0
      exact iteF' (by simpa using h1) ⟨_, rfl, iteT fin0⟩
    refine iteT' (by simpa using h1) ⟨_, rfl, _, _, rfl, rfl, _, rfl, ?_⟩
    by_cases h2 : q.tl ≤ B.hi
    case neg =>
      rw [decide_eq_false h2, Bool.and_false, Bool.false_and] at fin0
      exact iteT' (by simpa using h2) fin0
    rw [decide_eq_true h1, decide_eq_true h2, Bool.true_and, Bool.true_and] at fin
    refine iteF' (by simpa using h2) ?_
    refine ⟨_, rfl, _, rfl, x, CQ, dq, _, _, rfl, hx, CC.cls, CC.no _ (by decide), look_matter _ _ _ _ _ _ _, by show 2 ≤ sizeLine; decide, fun p1 n1 => ?_⟩
    have s1 := same_upd (o := .tup [V.str "", V.str q.mt]) n1
    refine ⟨p1, _, rfl, .inr (SqT.of upd_same), rfl, rfl, _, rfl, ?_⟩
    rw [show (if (false : Bool) then !inV (.str B.fl) [V.str "", V.str q.mt] else inV (.str B.fl) [V.str "", V.str q.mt]) = inV (.str B.fl) [V.str "", V.str q.mt] from rfl, inV_two]
    cases h3 : (decide (B.fl = "") || decide (B.fl = q.mt)) with
    | false =>
      rw [h3, Bool.false_and] at fin
      exact iteF (fin _ s1)
    | true =>
      rw [h3, Bool.true_and] at fin
      refine iteT ⟨_, rfl, _, rfl, x, CQ, dq, _, _, rfl, s1 _ _ hx, CC.cls, CC.no _ (by decide), look_kin _ _ _ _ _ _ _, by show 2 ≤ sizeLine; decide, fun p2 n2 => ⟨p2, _, rfl, .inr (SqT.of upd_same), rfl, rfl, ?_⟩⟩
      have z := fin _ (s1.trans (same_upd (o := .tup [V.str "", V.str q.ki]) n2))
      rw [← inV_two] at z
      exact z
end
section
variable {P : Program} {w : World} {K : PySem.W.Frag} {mg : Str → Option Value} {base : Heap} {CB CQ : Addr}
abbrev FunFd (K : PySem.W.Frag) (f : Addr) (fd : FuncData) : Prop := FunD K "found" "Bank.found" (defArgs sBFound) (defBody sBFound) (defScope sBFound) [.str "", .int 1, .int 9, .str "", .non, .int 0] [] f fd
abbrev PFound : List Str := ["self", "matter", "least", "most", "kin", "day", "rest"]
abbrev NFound : List Str := ["self", "matter", "least", "most", "kin", "day", "rest", "suiting", "name"]
theorem scFoundB : FnScope NFound PFound (defScope sBFound) := ⟨rfl, rfl, rfl, by decide +kernel, rfl, by decide +kernel, by decide +kernel⟩
theorem ok_foundB {f fN fS fR : Addr} {fd fdN fdS fdR : FuncData} (F : FunFd K f fd) (C : BCls K CB) (CC : QCls K CQ)
    (GN : FnOk P w K mg base CX0 2 fN fdN ["self"] (spNamesInB CB CQ)) (MN : Meth K CB "names_in" fN) (bN : Binds K fdN ["self"] [])
    (GS : FnOk P w K mg base CX0 1 fS fdS ["question", "matter", "least", "most", "kin"] (spSuits CQ)) (kS : PySem.W.keepIn K (.ref fS) = true) (bS : Binds K fdS ["question", "matter", "least", "most", "kin"] []) (gS : mg "suits" = some (.ref fS))
    (GR : FnOk P w K mg base CX0 2 fR fdR ["bank", "name", "day", "rest"] (spRestsOn CB CQ)) (kR : PySem.W.keepIn K (.ref fR) = true) (bR : Binds K fdR ["bank", "name", "day", "rest"] []) (gR : mg "rests_on" = some (.ref fR)) :
    FnOk P w K mg base CX0 3 f fd PFound (spFoundB CB CQ) := by
  refine F.ok scFoundB (fun vs H Q E h => ?_) (fun cdv A outer s H vs Q E hr h => ?_)
  · obtain ⟨b, k, r, d, B, A, rfl, _⟩ := h
    rfl
  · obtain ⟨b, k, r, d, B, ⟨fl, lo, hi, cl, wo, sp⟩, rfl, hB, gB, fin⟩ := h
    have hu := hu_of hr
    have r1 : Room 1 _ := hr.mono (by decide)
    refine ⟨_, pss_cons (ps_setLc (i := 7) (own := [("name", 8)]) (g := gName 8) (tt := tB (tCall (spSuits CQ) [] E0 (tCons (tDGet (tFld K (tVar 0) "kept") (tVar 8)) (tCons (tVar 1) (tCons (tVar 2) (tCons (tVar 3) (tCons (tVar 4) tNil))))))) (te := tVar 8) rfl scFoundB.nd rfl rfl (sw_true rfl rfl rfl (by decide +kernel)) (pi_list (pe_meth0 (pv 0) C.cls MN GN hr bN .nil pass0)) (blkOk_by (N := NFound) (sc := defScope sBFound) (by decide +kernel))
          (fun _ _ _ _ _ => pg_name (i := 8) scFoundB.nd rfl (Or.inl rfl)) (fun _ _ _ _ _ => by exact pts_one (pt_val (pe_call GS r1 (by rfl) gS kS bS .nil pass0 (pa_cons (pe_dget hu (pe_fld (pv 0) rfl) (pv 8) (fun _ _ => rfl)) (pa_cons (pv 1) (pa_cons (pv 2) (pa_cons (pv 3) (pa_cons (pv 4) pa_nil)))))))) (fun _ _ _ _ _ => pv 8))
      (pss_cons (ps_if (pt_cmpR op_isN (pv 5) pe_non (nomark _)) (pss_one (ps_ret (pv 7))) pss_nil)
      (pss_one (ps_ret (pe_lc (own := [("name", 8)]) (g := gName 8) (tt := tNot (tB (tCall (spRestsOn CB CQ) [] E0 (tCons (tVar 0) (tCons (tVar 8) (tCons (tVar 5) (tCons (tVar 6) tNil))))))) (te := tVar 8) rfl scFoundB.nd (pi_list (pv 7)) (blkOk_by (N := NFound) (sc := defScope sBFound) (by decide +kernel))
          (fun _ _ _ _ _ => pg_name (i := 8) scFoundB.nd rfl (Or.inl rfl)) (fun _ _ _ _ _ => by exact pts_one (pt_not (pt_val (pe_call GR hr (by rfl) gR kR bR .nil pass0 (pa_cons (pv 0) (pa_cons (pv 8) (pa_cons (pv 5) (pa_cons (pv 6) pa_nil)))))))) (fun _ _ _ _ _ => pv 8))))), ?_⟩
    obtain ⟨dx, hb⟩ := hB.at_
    have l60 := gB.le
    have li := ins_len B
    have nof : ∀ {G G' : Hp} {a : Addr}, Same G G' → G' a = none → G a = none := fun {G G' a} s n => by
      cases e : G a with
      | none => rfl
      | some o => rw [s _ _ e] at n; cases n
    generalize hA : (⟨fl, lo, hi, cl, wo, sp⟩ : Ask) = A at fin
    refine ⟨_, rfl, b, dx, _, rfl, hb, lb_meth (by decide) _ _ _, b, k, r, d, B, rfl, hB, by omega, fun p H1 s1 np hp => ⟨p, rfl, ⟨_, SqL.of hp⟩, fun D nD => ?_⟩⟩
    have hB1 := hB.same s1
    have hb1 := s1 _ _ hb
    have nD0 : H D = none := nof s1 nD
    have aD : ∀ {a : Addr} {o : HO}, H1 a = some o → a ≠ D := fun {a o} e => ne_of_none e nD
    refine lc_it (walk_list (K := K) (a := p) (xs := B.ins.map V.str)) (fun i G => (∀ a o, a ≠ D → H1 a = some o → G a = some o) ∧ G D = some (.lst ((((B.ins).take i).filter fun n => suitA A (B.f n)).map V.str))) ⟨fun a o n e => by rw [upd_ne n]; exact e, upd_same⟩ (fun i G _ h => SqL.of (h.1 _ _ (aD hp) hp)) ?_ ?_
    · rintro i x G G' hi ⟨kp, hd⟩ ⟨rfl, hx⟩
      obtain ⟨n, hn, rfl⟩ := getD_map hx
      have hBG := hB1.same (H' := G') fun a o e => kp a o (aD e) e
      obtain ⟨v, g, y, rfl, qi⟩ := hBG.kept.get (ins_mem (List.mem_of_getElem? hn))
      refine ⟨rfl, _, rfl, b, CB, dx, _, _, rfl, kp _ _ (aD hb1) hb1, C.cls, C.no _ (by decide), lb_kept _ _ _, _, rfl, k, _, rfl, g, _, rfl, _, rfl, _, rfl, _, rfl, y, B.f n, A, by rw [← hA]; rfl, qi, fun G2 s2 => ⟨_, rfl, ?_⟩⟩
      rw [filter_snoc hn]
      have kp2 : ∀ a o, a ≠ D → H1 a = some o → G2 a = some o := fun a o n e => s2 _ _ (kp a o n e)
      cases hs : suitA A (B.f n) with
      | false => exact iteF ⟨kp2, by rw [if_neg (by simp)]; exact s2 _ _ hd⟩
      | true =>
        refine iteT ⟨_, rfl, _, s2 _ _ hd, ?_, fun a o n e => by rw [upd_ne n]; exact kp2 a o n e, by rw [upd_same, if_pos (by simp), List.map_append]; rfl⟩
        have l1 := List.length_filter_le (fun n => suitA A (B.f n)) (B.ins.take i)
        have l2 : (B.ins.take i).length ≤ B.ins.length := by rw [List.length_take]; omega
        rw [List.length_map, sizeLine_eq]
        omega
    rintro G ⟨kp, hd⟩
    rw [List.length_map, List.take_of_length_le (Nat.le_refl _)] at hd
    have sG : Same H G := fun a o e => kp a o (aD (s1 _ _ e)) (s1 _ _ e)
    unfold BD.found at fin
    have hw : A.w = wo := by rw [← hA]
    have hsp : A.sp = sp := by rw [← hA]
    cases wo with
    | none =>
      refine ⟨_, rfl, rfl, _, rfl, iteT' (by rw [hw]; rfl) ⟨_, rfl, fin D G sG nD0 ?_⟩⟩
      rw [hd]
      congr 4
      funext n
      unfold restA
      rw [hw]
      simp
    | some wd =>
      refine ⟨_, rfl, rfl, _, rfl, iteF' (by simp [optV, hw]) ⟨_, rfl, D, rfl, ⟨_, SqL.of hd⟩, fun D2 nD2 => ?_⟩⟩
      have aD2 : ∀ {a : Addr} {o : HO}, G a = some o → a ≠ D2 := fun {a o} e => ne_of_none e nD2
      generalize hfs : (B.ins.filter fun n => suitA A (B.f n)) = fs at hd
      have hBG := hB.same sG
      have lf : fs.length ≤ 60 := by
        rw [← hfs]
        have := List.length_filter_le (fun n => suitA A (B.f n)) B.ins
        omega
      have mf : ∀ n ∈ fs, n ∈ B.ns := fun n hn => by
        rw [← hfs] at hn
        exact ins_mem (List.mem_filter.mp hn).1
      refine lc_it (walk_list (K := K) (a := D) (xs := fs.map V.str)) (fun i G' => (∀ a o, a ≠ D2 → G a = some o → G' a = some o) ∧ G' D2 = some (.lst (((fs.take i).filter fun n => !restA A (B.h n)).map V.str))) ⟨fun a o n e => by rw [upd_ne n]; exact e, upd_same⟩ (fun i G' _ h => SqL.of (h.1 _ _ (aD2 hd) hd)) ?_ ?_
      · rintro i x G1 G' hi ⟨kp2, hd2⟩ ⟨rfl, hx⟩
        obtain ⟨n, hn, rfl⟩ := getD_map hx
        have hB2 := hBG.same (H' := G') fun a o e => kp2 a o (aD2 e) e
        refine ⟨rfl, _, rfl, _, rfl, _, rfl, _, rfl, b, k, r, d, B, n, wd, sp, by rw [hw, hsp]; rfl, hB2, mf n (List.mem_of_getElem? hn), ?_⟩
        rw [filter_snoc hn]
        have er : restA A (B.h n) = wasU (B.h n) (wd - sp + 1) wd := by unfold restA; rw [hw, hsp]
        rw [← er]
        cases hs : restA A (B.h n) with
        | true => exact ⟨_, rfl, iteF ⟨kp2, by rw [if_neg (by simp)]; exact hd2⟩⟩
        | false =>
          refine ⟨_, rfl, iteT ⟨_, rfl, _, hd2, ?_, fun a o n e => by rw [upd_ne n]; exact kp2 a o n e, by rw [upd_same, if_pos (by simp), List.map_append]; rfl⟩⟩
          have l1 := List.length_filter_le (fun n => !restA A (B.h n)) (fs.take i)
          have l2 : (fs.take i).length ≤ fs.length := by rw [List.length_take]; omega
          rw [List.length_map, sizeLine_eq]
          omega
      · rintro G' ⟨kp2, hd2⟩
        rw [List.length_map, List.take_of_length_le (Nat.le_refl _)] at hd2
        refine fin D2 G' (fun a o e => kp2 a o (aD2 (sG _ _ e)) (sG _ _ e)) (nof sG nD2) ?_
        rw [hd2, ← hfs, List.filter_filter]
        congr 4
        funext n
        exact Bool.and_comm _ _
end
end Pk
namespace Pk
open PySem L2
/-! ### need_bank, resting -/
def BD.rests (B : BD) (i j : Int) : List Str := B.ins.filter fun n => wasU (B.h n) (i - j + 1) i
def spNeedBank (K : PySem.W.Frag) (CB cK : Addr) : Sp := fun vs H Q E => ∃ y, vs = [y] ∧ ((∃ (b dx : Addr) (fs : List (Str × V)), y = .ref b ∧ H b = some (.ins CB dx fs) ∧ Q .non H) ∨ ∃ tb, TyX K H y tb ∧ PySem.W.kitOne K tb (.ref CB) = some false ∧ Err1 cK "wanted" (.str "Bank") H E)
def spResting (K : PySem.W.Frag) (CB CQ cK cP : Addr) : Sp := fun vs H Q E => ∃ (y z u : V), vs = [y, z, u] ∧ ((∃ (b k r d : Addr) (B : BD), y = .ref b ∧ BankAt CB CQ H b k r d B ∧ GoodB B ∧ Thg H z ∧ Thg H u ∧ (whole z 0 9999 = false → Err1 cP "at" z H E) ∧ (whole z 0 9999 = true → whole u 0 9999 = false → Err1 cP "at" u H E) ∧
    ∀ i j : Int, z = .int i → u = .int j → whole z 0 9999 = true → whole u 0 9999 = true → ∀ (p : Addr) (H' : Hp), Same H H' → H p = none → H' p = some (.lst ((B.rests i j).map V.str)) → Q (.ref p) H') ∨
  ∃ tb, TyX K H y tb ∧ PySem.W.kitOne K tb (.ref CB) = some false ∧ Err1 cK "wanted" (.str "Bank") H E)
section
variable {P : Program} {w : World} {K : PySem.W.Frag} {mg : Str → Option Value} {base : Heap} {CB CQ : Addr}
theorem scNeedBank : FnScope ["thing"] ["thing"] (defScope sNeedBank) := ⟨rfl, rfl, rfl, by decide +kernel, rfl, by decide +kernel, by decide +kernel⟩
theorem ok_needBank {f cK fJ : Addr} {fd : FuncData} (F : Fun K "need_bank" "need_bank" sNeedBank f fd) (O : OTy K CB) (TK : TxK K mg cK fJ) (mi : mg "isinstance" = none) (gB : mg "Bank" = some (.ref CB)) : FnOk P w K mg base (L2.CX P w) 3 f fd ["thing"] (spNeedBank K CB cK) := by
  refine F.okX scNeedBank (fun vs H Q E h => ?_) (fun cdv A outer s H vs Q E hr h => ?_)
  · obtain ⟨y, rfl, _⟩ := h
    rfl
  · obtain ⟨y, rfl, h⟩ := h
    refine ⟨_, pss_one (ps_if (pt_not (pt_val (pe_callB call_isi (by rfl) mi (by decide +kernel) (pa_cons (pv 0) (pa_cons (pe_glob (v := .ref CB) (by rfl) gB rfl (by decide)) pa_nil))))) (pss_one (ps_raiseE_wanted rfl TK hr (takes_of rfl rfl rfl rfl) (by exact (pa_cons pe_str pa_nil)))) pss_nil), ?_⟩
    rcases h with ⟨x, dx, fs, rfl, hx, k⟩ | ⟨tb, ty, kt, k⟩
    · exact ⟨_, rfl, _, _, _, _, true, rfl, .own _, O.ty hx, O.hk, _, rfl, iteF k⟩
    · exact ⟨_, rfl, _, _, tb, _, false, rfl, .own _, ty, kt, _, rfl, iteT ⟨_, rfl, fun d hd => k d _ (same_upd hd) upd_same⟩⟩
abbrev NResting : List Str := ["bank", "day", "rest", "name"]
theorem scResting : FnScope NResting ["bank", "day", "rest"] (defScope sResting) := ⟨rfl, rfl, rfl, by decide +kernel, rfl, by decide +kernel, by decide +kernel⟩
theorem ok_resting {f fB fY fW fN fR cK cP fI : Addr} {fd fdB fdY fdW fdN fdR : FuncData} (F : Fun K "resting" "resting" sResting f fd) (C : BCls K CB) (TP : TxP K mg cP fI)
    (GB : FnOk P w K mg base (L2.CX P w) 3 fB fdB ["thing"] (spNeedBank K CB cK)) (kB : PySem.W.keepIn K (.ref fB) = true) (bB : Binds K fdB ["thing"] []) (gB : mg "need_bank" = some (.ref fB))
    (GY : FnOk P w K mg base (L2.CX P w) 3 fY fdY ["thing"] (spNeedDay cP)) (kY : PySem.W.keepIn K (.ref fY) = true) (bY : Binds K fdY ["thing"] []) (gY : mg "need_day" = some (.ref fY))
    (FW : FunDf K "is_whole" sIsWhole [.int 0, .int 9999] fW fdW) (GW : FnOk P w K mg base CX0 2 fW fdW ["thing", "least", "most"] spIsWhole) (kW : PySem.W.keepIn K (.ref fW) = true) (gW : mg "is_whole" = some (.ref fW))
    (GN : FnOk P w K mg base CX0 2 fN fdN ["self"] (spNamesInB CB CQ)) (MN : Meth K CB "names_in" fN) (bN : Binds K fdN ["self"] [])
    (GR : FnOk P w K mg base CX0 2 fR fdR ["bank", "name", "day", "rest"] (spRestsOn CB CQ)) (kR : PySem.W.keepIn K (.ref fR) = true) (bR : Binds K fdR ["bank", "name", "day", "rest"] []) (gR : mg "rests_on" = some (.ref fR)) :
    FnOk P w K mg base (L2.CX P w) 5 f fd ["bank", "day", "rest"] (spResting K CB CQ cK cP) := by
  obtain ⟨ds, hds, bW⟩ := bW1 FW
  refine F.okX scResting (fun vs H Q E h => ?_) (fun cdv A outer s H vs Q E hr h => ?_)
  · obtain ⟨y, z, u, rfl, _⟩ := h
    rfl
  · obtain ⟨y, z, u, rfl, h⟩ := h
    have r2 : Room 2 _ := hr.mono (by decide)
    have r3 : Room 3 _ := hr.mono (by decide)
    refine ⟨_, pss_cons (ps_expr (pe_call (E := E) GB r3 (by rfl) gB kB bB .nil (passes_call (takes_of rfl rfl rfl rfl) fun _ _ _ _ h => h) (pa_cons (pv 0) pa_nil)))
      (pss_cons (ps_expr (pe_call (E := E) GY r3 (by rfl) gY kY bY .nil (passes_call (takes_of rfl rfl rfl rfl) fun _ _ _ _ h => h) (pa_cons (pv 1) pa_nil)))
      (pss_cons (ps_if (pt_not (pt_val (pe_call GW r2 (by rfl) gW kW bW hds pass0 (pa_cons (pv 2) pa_nil)))) (pss_one (ps_raiseE_at rfl TP r3 (takes_of rfl rfl rfl rfl) (by exact (pa_cons (pv 2) pa_nil)))) pss_nil)
      (pss_one (ps_ret (pe_lc (own := [("name", 3)]) (g := gName 3) (tt := tB (tCall (spRestsOn CB CQ) [] E0 (tCons (tVar 0) (tCons (tVar 3) (tCons (tVar 1) (tCons (tVar 2) tNil)))))) (te := tVar 3) rfl scResting.nd (pi_list (pe_meth0 (pv 0) C.cls MN GN r2 bN .nil pass0)) (blkOk_by (N := NResting) (sc := defScope sResting) (by decide +kernel))
          (fun _ _ _ _ _ => pg_name (i := 3) scResting.nd rfl (Or.inl rfl)) (fun _ _ _ _ _ => by exact pts_one (pt_val (pe_call GR r2 (by rfl) gR kR bR .nil pass0 (pa_cons (pv 0) (pa_cons (pv 3) (pa_cons (pv 1) (pa_cons (pv 2) pa_nil))))))) (fun _ _ _ _ _ => pv 3)))))), ?_⟩
    rcases h with ⟨b, k, r, d, B, rfl, hB, gd, tz, tu, q1, q2, q3⟩ | ⟨tb, ty, kt, q⟩
    case inr => exact ⟨_, rfl, _, rfl, .inr ⟨tb, ty, kt, q⟩⟩
    obtain ⟨dx, hb⟩ := id hB.at_
    refine ⟨_, rfl, _, rfl, .inl ⟨b, dx, _, rfl, hb, _, rfl, z, rfl, tz, fun hz => ?_, q1⟩⟩
    refine ⟨_, rfl, u, 0, 9999, rfl, tu, _, rfl, ?_⟩
    cases hu : whole u 0 9999 with
    | false => exact iteT ⟨_, rfl, u, rfl, fun d hd => q2 hz hu d _ (same_upd hd) upd_same⟩
    | true =>
      obtain ⟨i, rfl, i0, i9⟩ := whole_is hz
      obtain ⟨j, rfl, j0, j9⟩ := whole_is hu
      have fin := q3 i j rfl rfl hz hu
      have l60 := gd.le
      have li := ins_len B
      refine iteF ⟨_, rfl, b, dx, _, rfl, hb, lb_meth (by decide) _ _ _, b, k, r, d, B, rfl, hB, by omega, fun p H1 s1 np hp => ⟨p, rfl, ⟨_, SqL.of hp⟩, fun D nD => ?_⟩⟩
      have hB1 := hB.same s1
      have aD : ∀ {a : Addr} {o : HO}, H1 a = some o → a ≠ D := fun {a o} e => ne_of_none e nD
      refine lc_it (walk_list (K := K) (a := p) (xs := B.ins.map V.str)) (fun m G => (∀ a o, a ≠ D → H1 a = some o → G a = some o) ∧ G D = some (.lst (((B.ins.take m).filter fun n => wasU (B.h n) (i - j + 1) i).map V.str))) ⟨fun a o n e => by rw [upd_ne n]; exact e, upd_same⟩ (fun m G _ h => SqL.of (h.1 _ _ (aD hp) hp)) ?_ ?_
      · rintro m x G G' hm ⟨kp, hd⟩ ⟨rfl, hx⟩
        obtain ⟨n, hn, rfl⟩ := getD_map hx
        have hBG := hB1.same (H' := G') fun a o e => kp a o (aD e) e
        refine ⟨rfl, _, rfl, _, rfl, _, rfl, _, rfl, b, k, r, d, B, n, i, j, rfl, hBG, ins_mem (List.mem_of_getElem? hn), ?_⟩
        rw [filter_snoc hn]
        cases hs : wasU (B.h n) (i - j + 1) i with
        | false => exact ⟨_, rfl, iteF ⟨kp, by rw [if_neg (by simp)]; exact hd⟩⟩
        | true =>
          refine ⟨_, rfl, iteT ⟨_, rfl, _, hd, ?_, fun a o n e => by rw [upd_ne n]; exact kp a o n e, by rw [upd_same, if_pos (by simp), List.map_append]; rfl⟩⟩
          have l1 := List.length_filter_le (fun n => wasU (B.h n) (i - j + 1) i) (B.ins.take m)
          have l2 : (B.ins.take m).length ≤ B.ins.length := by rw [List.length_take]; omega
          rw [List.length_map, sizeLine_eq]
          omega
      · rintro G ⟨kp, hd⟩
        rw [List.length_map, List.take_of_length_le (Nat.le_refl _)] at hd
        exact fin D G (fun a o e => kp a o (aD (s1 _ _ e)) (s1 _ _ e)) (none_of s1 nD) hd
end
end Pk
/-! ### != of two dicts whose values are compared by an own ==, or as data; of one with itself -/
namespace DQ
open PySem PySem.W PyProof.Rows PySem.Spec
section
variable {prog : Program} {w : World} {K : Type} [DecidableEq K] {knd : KeyKind prog w K} {A : Around} {E : Value → Shared → Prop} {s : Shared}
theorem neJ {a b : Addr} {oa ob : Obj} {ka kb : List (K × Value)} {e : K → Bool} {J : Shared → Prop} {Q : Value → Shared → Prop} (ha : (a == sysModules) = false) (hb : (b == sysModules) = false)
    (T : TwoJ prog w A.in1 E a b oa ob ka kb e J) (hs : J s) (da : s.heap.DictOf knd a ka) (db : s.heap.DictOf knd b kb) (hu : A.units < cLine) (h : ∀ s', J s' → Q (.bool (!(ka.length == kb.length && ka.all (good kb e)))) s') :
    wpAny (model prog w) A (compareOp .NotEq (.ref a) (.ref b)) Q E s := by
  refine wpAny_richCompare_same_room (op := .NotEq) da.typeIs db.typeIs PySem.F.slot_dict_ne (wpAny_call_entry PySem.F.slot_dict_ne da.typeIs PySem.F.entry_dict_ne ?_ (PySem.F.args_dict_ne_2 _ _)) hu
  show wpAny _ _ (Builtin.Dict.dictSlotArgs "__ne__" ⟨[.ref a, .ref b], []⟩ >>= _) _ _ s
  refine wpAny_bind ?_
  unfold Builtin.Dict.dictSlotArgs
  refine wpAny_bind (wpAny_notOrdered_dict da.typeIs ?_)
  show wpAny _ _ (pure (Value.ref a, Value.ref b)) _ _ s
  refine wpAny_pure ?_
  refine wpAny_bind (wpAny_isInstance (T := "dict") db.typeIs PySem.F.sub_dict_dict ?_)
  simp only [Bool.not_true, Bool.false_eq_true, if_false]
  refine wpAny_bind (wpAny_pure (wpAny_bind (wpAny_pure ?_)))
  refine wpAny_bind (samePairsJ ha hb T hs da db fun s' js => ?_)
  refine wpAny_pure ⟨_, rfl, ?_, ?_⟩
  · exact fun x => nomatch x
  · simpa using h s' js
end
end DQ
namespace Pk
open PySem PySem.Spec L2
section
variable {X : Cx}
/-- a != b of two dicts -/
def rNeDO (X : Cx) : R2 := fun x y H Q => ∃ (a b : Addr) (ks ls : List (Key × V)) (e : Key → Bool), x = .ref a ∧ y = .ref b ∧ a ≠ b ∧ H a = some (.dK ks) ∧ H b = some (.dK ls) ∧
  (∀ p ∈ ks, ∀ z, valV ls p.1 = some z → ∀ G : Hp, (∀ c o, c ≠ a → c ≠ b → H c = some o → G c = some o) → EqV X G p.2 z (e p.1)) ∧ Q (.bl (!(ks.length == ls.length && ks.all fun p => (valV ls p.1).isSome && e p.1))) H
theorem op_neDO (hu : X.A.units < cLine) : OpR X (compareOp .NotEq) (rNeDO X) := by
  rintro pins s σ H x y v u Q I rx ry ⟨a, b, ks, ls, e, rfl, rfl, nab, ea, eb, hp, q⟩
  cases (show v = Value.ref a from rx)
  cases (show u = Value.ref b from ry)
  obtain ⟨oa, I1⟩ := I.lock ea trivial
  have eb1 : upd H a (.frz oa (.dK ks)) b = some (.dK ls) := by rw [upd_ne (Ne.symm nab)]; exact eb
  obtain ⟨ob, I2⟩ := I1.lock eb1 trivial
  generalize hG : upd (upd H a (.frz oa (.dK ks))) b (.frz ob (.dK ls)) = G at I2
  have ga : G a = some (.frz oa (.dK ks)) := by rw [← hG, upd_ne nab, upd_same]
  have gb : G b = some (.frz ob (.dK ls)) := by rw [← hG, upd_same]
  have gc : ∀ c o, c ≠ a → c ≠ b → H c = some o → G c = some o := fun c o n1 n2 h => by rw [← hG, upd_ne n2, upd_ne n1]; exact h
  have at_ : ∀ (s' : Shared), L2.Inv X pins σ G s' → s'.heap.get? a = some oa ∧ s'.heap.get? b = some ob := fun s' I' => ⟨(I'.hok a _ ga).1, (I'.hok b _ gb).1⟩
  obtain ⟨_, ya, va, ra, da⟩ := dk_rd I2.hok (.inr ⟨oa, ga⟩)
  obtain ⟨_, yb, vb, rb, db⟩ := dk_rd I2.hok (.inr ⟨ob, gb⟩)
  have T : DQ.TwoJ X.prog X.w X.A.in1 X.xe a b oa ob va vb e (fun s' => L2.Inv X pins σ G s') := by
    refine ⟨fun s' I' => (at_ s' I').1, fun s' I' => (at_ s' I').2, fun k v y hm hy s' I' => ?_⟩
    obtain ⟨x1, hx1, rx1⟩ := kv_mem ra hm
    rcases kv_at rb k with ⟨z, _⟩ | ⟨v2, x2, z1, z2, rx2⟩
    · rw [z] at hy; cases hy
    · rw [z1] at hy
      cases hy
      exact hp (k, x1) hx1 x2 z2 G gc pins s' σ v y I' rx1 rx2
  refine DQ.neJ (knd := mixKind X.prog X.w) ya yb T I2 da db hu fun s' I' => ?_
  have I3 := I'.unlock gb (I1.nofrz eb1 trivial)
  have I4 := I3.unlock (d := a) (od := oa) (u := .dK ks) (by rw [upd_ne nab]; exact ga) (I.nofrz ea trivial)
  have eH : upd (upd G b (.dK ls)) a (.dK ks) = H := by
    funext c
    by_cases h1 : c = a
    · subst h1
      rw [upd_same, ea]
    · rw [upd_ne h1]
      by_cases h2 : c = b
      · subst h2
        rw [upd_same, eb]
      · rw [upd_ne h2, ← hG, upd_ne h2, upd_ne h1]
  rw [eH] at I4
  refine fin_bl I4 q ?_
  rw [show va.length = ks.length from ra.length.symm, show vb.length = ls.length from rb.length.symm]
  congr 2
  have e1 : va.all (DQ.good vb e) = va.all (fun p => (fun k => (valV ls k).isSome && e k) p.1) := by
    congr 1
    funext p
    unfold DQ.good
    congr 1
    rcases kv_at rb p.1 with ⟨z1, z2⟩ | ⟨v2, x2, z1, z2, _⟩
    · rw [z1, z2]
      rfl
    · rw [z1, z2]
      rfl
  rw [e1]
  exact (kv_all ra (fun k => (valV ls k).isSome && e k)).symm
/-- a != a -/
def rNeDS : R2 := fun x y H Q => ∃ (a : Addr) (ks : List (Key × V)), x = .ref a ∧ y = .ref a ∧ H a = some (.dK ks) ∧ (ks.map (·.1)).Nodup ∧ Q (.bl false) H
theorem kv_keys {ks : List (Key × V)} {va : List (Key × Value)} (ra : KV ks va) : va.map (·.1) = ks.map (·.1) := by
  unfold KV at ra
  induction ra with
  | nil => rfl
  | @cons p q ps qs h t ih => rw [List.map_cons, List.map_cons, ih, h.1]
theorem valueAt_mem : ∀ {va : List (Key × Value)} {k : Key} {v : Value}, (va.map (·.1)).Nodup → (k, v) ∈ va → valueAt va k = some v
  | [], _, _, _, h => nomatch h
  | q :: qs, k, v, nd, h => by
    rw [List.map_cons, List.nodup_cons] at nd
    rcases List.mem_cons.mp h with e | e
    · subst e
      unfold valueAt
      simp
    · have n : ¬ q.1 = k := fun z => nd.1 (by rw [z]; exact List.mem_map_of_mem (f := (·.1)) e)
      have z : valueAt (q :: qs) k = valueAt qs k := by unfold valueAt; simp [n]
      rw [z]
      exact valueAt_mem nd.2 e
theorem op_neDS (hu : X.A.units < cLine) : OpR X (compareOp .NotEq) rNeDS := by
  rintro pins s σ H x y v u Q I rx ry ⟨a, ks, rfl, rfl, ea, nd, q⟩
  cases (show v = Value.ref a from rx)
  cases (show u = Value.ref a from ry)
  obtain ⟨_, ya, va, ra, da⟩ := dk_rd I.hok (.inl ea)
  obtain ⟨oa, es, ep, hoa, hda⟩ := id da
  have ndv : (va.map (·.1)).Nodup := by rw [kv_keys ra]; exact nd
  have T : DQ.TwoJ X.prog X.w X.A.in1 X.xe a a oa oa va va (fun _ => true) (fun s' => s' = s) := by
    refine ⟨fun s' e => by rw [e]; exact hoa, fun s' e => by rw [e]; exact hoa, fun k v y hm hy s' e => ?_⟩
    rw [valueAt_mem ndv hm] at hy
    cases hy
    subst e
    exact (SeqAt.EqAt.same v) X.prog X.w X.xe _ ⟨rfl, rfl⟩
  refine DQ.neJ (knd := mixKind X.prog X.w) ya ya T rfl da da hu fun s' e => ?_
  subst e
  have hall : va.all (DQ.good va fun _ => true) = true := List.all_eq_true.mpr fun p hp => by
    unfold DQ.good
    rw [valueAt_mem ndv (k := p.1) (v := p.2) hp]
    rfl
  refine fin_bl I q ?_
  rw [hall]
  simp
/-- a == a -/
def rEqDS : R2 := fun x y H Q => ∃ (a : Addr) (ks : List (Key × V)), x = .ref a ∧ y = .ref a ∧ H a = some (.dK ks) ∧ (ks.map (·.1)).Nodup ∧ Q (.bl true) H
theorem op_eqDS (hu : X.A.units < cLine) : OpR X (compareOp .Eq) rEqDS := by
  rintro pins s σ H x y v u Q I rx ry ⟨a, ks, rfl, rfl, ea, nd, q⟩
  cases (show v = Value.ref a from rx)
  cases (show u = Value.ref a from ry)
  obtain ⟨_, ya, va, ra, da⟩ := dk_rd I.hok (.inl ea)
  obtain ⟨oa, es, ep, hoa, hda⟩ := id da
  have ndv : (va.map (·.1)).Nodup := by rw [kv_keys ra]; exact nd
  have T : DQ.TwoJ X.prog X.w X.A.in1 X.xe a a oa oa va va (fun _ => true) (fun s' => s' = s) := by
    refine ⟨fun s' e => by rw [e]; exact hoa, fun s' e => by rw [e]; exact hoa, fun k v y hm hy s' e => ?_⟩
    rw [valueAt_mem ndv hm] at hy
    cases hy
    subst e
    exact (SeqAt.EqAt.same v) X.prog X.w X.xe _ ⟨rfl, rfl⟩
  refine DQ.eqJ (knd := mixKind X.prog X.w) ya ya T rfl da da hu fun s' e => ?_
  subst e
  have hall : va.all (DQ.good va fun _ => true) = true := List.all_eq_true.mpr fun p hp => by
    unfold DQ.good
    rw [valueAt_mem ndv (k := p.1) (v := p.2) hp]
    rfl
  refine fin_bl I q ?_
  rw [hall]
  simp
/-- both -/
def rNeDW (X : Cx) : R2 := fun x y H Q => rNeDO X x y H Q ∨ rNeDS x y H Q
theorem op_neDW (hu : X.A.units < cLine) : OpR X (compareOp .NotEq) (rNeDW X) := fun pins s σ H x y v u Q I rx ry h => h.elim (op_neDO hu pins s σ H x y v u Q I rx ry) (op_neDS hu pins s σ H x y v u Q I rx ry)
def rEqDW (X : Cx) : R2 := fun x y H Q => rEqDO X x y H Q ∨ rEqDS x y H Q
theorem op_eqDW (hu : X.A.units < cLine) : OpR X (compareOp .Eq) (rEqDW X) := fun pins s σ H x y v u Q I rx ry h => h.elim (op_eqDO hu pins s σ H x y v u Q I rx ry) (op_eqDS hu pins s σ H x y v u Q I rx ry)
end
end Pk
namespace Pk
open PySem L2
/-! ### banks compared, one with itself too -/
def spEqB2 (K : PySem.W.Frag) (CB CQ : Addr) : Sp := fun vs H Q _ => ∃ (b k r d : Addr) (B : BD) (y : V), vs = [.ref b, y] ∧ BankAt CB CQ H b k r d B ∧ GoodB B ∧
  ((∃ (b2 k2 r2 d2 : Addr) (B2 : BD), y = .ref b2 ∧ BankAt CB CQ H b2 k2 r2 d2 B2 ∧ GoodB B2 ∧ k ≠ k2 ∧ r ≠ r2 ∧ d ≠ d2 ∧ Q (.bl (eqBk B B2)) H) ∨ (∃ tb, TyX K H y tb ∧ PySem.W.kitOne K tb (.ref CB) = some false ∧ Q (.bl false) H) ∨ (y = .ref b ∧ Q (.bl true) H))
section
variable {P : Program} {w : World} {K : PySem.W.Frag} {mg : Str → Option Value} {base : Heap} {CB CQ : Addr}
theorem ok_eqB2 {f fE : Addr} {fd fdE : FuncData} (F : Fun K "__eq__" "Bank.__eq__" sBEq f fd) (C : BCls K CB) (O : OTy K CB) (mi : mg "isinstance" = none) (gB : mg "Bank" = some (.ref CB))
    (GE : FnOk P w K mg base CX0 2 fE fdE ["self", "other"] (spQEq K CQ)) (aE : PySem.W.findIn K (.ref CQ) "__eq__" = some (some (.ref fE))) (hE : PySem.W.isFn K (.ref fE) = true) (bE : Binds K fdE ["self", "other"] []) : FnOk P w K mg base CX0 4 f fd ["self", "other"] (spEqB2 K CB CQ) := by
  refine F.ok scEqB (fun vs H Q E h => ?_) (fun cdv A outer s H vs Q E hr h => ?_)
  · obtain ⟨b, k, r, d, B, y, rfl, _⟩ := h
    rfl
  · obtain ⟨b, k, r, d, B, y, rfl, hB, gd, h⟩ := h
    have hu : _ < cLine := room1 hr
    have hu65 : _ + 65 < cLine := Nat.lt_of_le_of_lt (Nat.add_le_add_left (by decide) _) (room_show hr)
    refine ⟨_, pss_one (ps_ret (pe_and (pe_callB call_isi (by rfl) mi (by decide +kernel) (pa_cons (pv 1) (pa_cons (pe_glob (v := .ref CB) (by rfl) gB rfl (by decide)) pa_nil)))
      (pe_and (pe_cmpR (op_eqDW hu) (pe_fld (pv 0) rfl) (pe_fld (pv 1) rfl) (nomark _)) (pe_and (pe_cmpR (op_eqDW hu) (pe_fld (pv 0) rfl) (pe_fld (pv 1) rfl) (nomark _)) (pe_one (pe_cmpR (op_eqDW hu) (pe_fld (pv 0) rfl) (pe_fld (pv 1) rfl) (nomark _))))))), ?_⟩
    obtain ⟨dx, hb⟩ := hB.at_
    rcases h with ⟨b2, k2, r2, d2, B2, rfl, hB2, gd2, nk, nr, nd, q⟩ | ⟨tb, ty, kt, q⟩ | ⟨rfl, q⟩
    case inr.inr =>
      obtain ⟨kk, ek, tk⟩ := hB.kept
      obtain ⟨kr, er, tr⟩ := hB.outs
      obtain ⟨kd, ed, td⟩ := hB.days
      exact ⟨_, rfl, _, _, _, _, true, rfl, .own _, O.ty hb, O.hk, _, rfl, iteT ⟨_, rfl, b, CB, dx, _, _, rfl, hb, C.cls, C.no _ (by decide), lb_kept _ _ _, _, rfl, b, CB, dx, _, _, rfl, hb, C.cls, C.no _ (by decide), lb_kept _ _ _, .inr ⟨k, kk, rfl, rfl, ek, by rw [tk.1]; exact inr_nd gd.nd, _, rfl, iteT ⟨_, rfl, b, CB, dx, _, _, rfl, hb, C.cls, C.no _ (by decide), lb_reasons _ _ _, _, rfl, b, CB, dx, _, _, rfl, hb, C.cls, C.no _ (by decide), lb_reasons _ _ _, .inr ⟨r, kr, rfl, rfl, er, by rw [tr.1]; exact inr_nd gd.od, _, rfl, iteT ⟨_, rfl, b, CB, dx, _, _, rfl, hb, C.cls, C.no _ (by decide), lb_days _ _ _, _, rfl, b, CB, dx, _, _, rfl, hb, C.cls, C.no _ (by decide), lb_days _ _ _, .inr ⟨d, kd, rfl, rfl, ed, by rw [td.1]; exact inr_nd gd.nd, q⟩⟩⟩⟩⟩⟩⟩
    case inr.inl => exact ⟨_, rfl, _, _, tb, _, false, rfl, .own _, ty, kt, _, rfl, iteF q⟩
    obtain ⟨dx2, hb2⟩ := hB2.at_
    obtain ⟨kk, ek, tk⟩ := hB.kept
    obtain ⟨kr, er, tr⟩ := hB.outs
    obtain ⟨kd, ed, td⟩ := hB.days
    obtain ⟨kk2, ek2, tk2⟩ := hB2.kept
    obtain ⟨kr2, er2, tr2⟩ := hB2.outs
    obtain ⟨kd2, ed2, td2⟩ := hB2.days
    refine ⟨_, rfl, _, _, _, _, true, rfl, .own _, O.ty hb2, O.hk, _, rfl, iteT ?_⟩
    have off : ∀ {a c : Addr} {kvs : List (Key × V)} {o : HO}, H a = some (.dK kvs) → (∀ kvs, o ≠ .dK kvs) → H c = some o → c ≠ a := fun {a c kvs o} e n e2 z => by subst z; rw [e] at e2; cases e2; exact n _ rfl
    refine ⟨_, rfl, b, CB, dx, _, _, rfl, hb, C.cls, C.no _ (by decide), lb_kept _ _ _, _, rfl, b2, CB, dx2, _, _, rfl, hb2, C.cls, C.no _ (by decide), lb_kept _ _ _, .inl ⟨k, k2, kk, kk2, byName fun n => decide (B.f n = B2.f n), rfl, rfl, nk, ek, ek2, fun p hp z ez G hG => ?_, ?_⟩⟩
    · obtain ⟨n, hn, e1, x, e2, qi⟩ := tk.mem gd.nd hp
      rw [e1] at ez ⊢
      have hn2 : n ∈ B2.ns := by
        by_cases hh : n ∈ B2.ns
        · exact hh
        · rw [tk2.no hh] at ez; cases ez
      obtain ⟨v2, ev2, x2, e3, qi2⟩ := tk2.2 n hn2
      rw [ev2] at ez
      cases ez
      rw [e2, e3]
      have sG : ∀ a o, (∀ kvs, o ≠ .dK kvs) → (∀ L, o ≠ .lst L) → H a = some o → G a = some o := fun a o n1 _ e => hG a o (off ek n1 e) (off ek2 n1 e) e
      exact EqV.own GE hr aE hE bE ((qi.by sG).eqOf (qi2.by sG))
    rw [tk.eqs tk2]
    refine ⟨_, rfl, ?_⟩
    unfold eqBk at q
    cases h1 : eqTb B.ns B2.ns (fun n => decide (B.f n = B2.f n)) with
    | false =>
      rw [h1, Bool.false_and] at q
      exact iteF q
    | true =>
    rw [h1, Bool.true_and] at q
    refine iteT ⟨_, rfl, b, CB, dx, _, _, rfl, hb, C.cls, C.no _ (by decide), lb_reasons _ _ _, _, rfl, b2, CB, dx2, _, _, rfl, hb2, C.cls, C.no _ (by decide), lb_reasons _ _ _, .inl ⟨r, r2, kr, kr2, byName fun n => decide (B.g n = B2.g n), rfl, rfl, nr, er, er2, fun p hp z ez G hG => ?_, ?_⟩⟩
    · obtain ⟨n, hn, e1, e2⟩ := tr.mem gd.od hp
      have e2 : p.2 = .str (B.g n) := e2
      rw [e1] at ez ⊢
      have hn2 : n ∈ B2.os := by
        by_cases hh : n ∈ B2.os
        · exact hh
        · rw [tr2.no hh] at ez; cases ez
      obtain ⟨v2, ev2, e3⟩ := tr2.2 n hn2
      have e3 : v2 = .str (B2.g n) := e3
      rw [ev2] at ez
      cases ez
      rw [e2, e3]
      exact EqV.str G _ _
    rw [tr.eqs tr2]
    refine ⟨_, rfl, ?_⟩
    cases h2 : eqTb B.os B2.os (fun n => decide (B.g n = B2.g n)) with
    | false =>
      rw [h2, Bool.false_and] at q
      exact iteF q
    | true =>
    rw [h2, Bool.true_and] at q
    refine iteT ⟨_, rfl, b, CB, dx, _, _, rfl, hb, C.cls, C.no _ (by decide), lb_days _ _ _, _, rfl, b2, CB, dx2, _, _, rfl, hb2, C.cls, C.no _ (by decide), lb_days _ _ _, .inl ⟨d, d2, kd, kd2, byName fun n => decide (B.h n = B2.h n), rfl, rfl, nd, ed, ed2, fun p hp z ez G hG => ?_, ?_⟩⟩
    · obtain ⟨n, hn, e1, x, e2, hx⟩ := td.mem gd.nd hp
      rw [e1] at ez ⊢
      have hn2 : n ∈ B2.ns := by
        by_cases hh : n ∈ B2.ns
        · exact hh
        · rw [td2.no hh] at ez; cases ez
      obtain ⟨v2, ev2, x2, e3, hx2⟩ := td2.2 n hn2
      rw [ev2] at ez
      cases ez
      rw [e2, e3]
      have g1 := hG x _ (off ed (fun _ z => by cases z) hx) (off ed2 (fun _ z => by cases z) hx) hx
      have g2 := hG x2 _ (off ed (fun _ z => by cases z) hx2) (off ed2 (fun _ z => by cases z) hx2) hx2
      have z := EqV.data (X := (cxOf CX0 P w K mg base ["self", "other"] (Str.ofString "Bank.__eq__") (defScope sBEq) f cdv A outer s H E).nox) (G := G) hu65 (.lst (SqL.of g1) (ints_dpA (B.h n))) (.lst (SqL.of g2) (ints_dpA (B2.h n))) (PySem.W.shaped_ints _) (PySem.W.shaped_ints _)
      rw [ints_eqv] at z
      exact z
    rw [td.eqs td2]
    exact q
end
end Pk
namespace Pk
open PySem L2
/-! ### a bank's twin -/
def BD.twin (B : BD) : BD := { B with ns := srt B.ns }
theorem fold_keep : ∀ (qs : List QD) (B : BD) (n : Str), n ∉ qs.map QD.nm → (qs.foldl BD.add B).f n = B.f n ∧ (qs.foldl BD.add B).h n = B.h n
  | [], B, n, _ => ⟨rfl, rfl⟩
  | q :: r, B, n, h => by
    rw [List.map_cons, List.mem_cons] at h
    obtain ⟨e1, e2⟩ := fold_keep r (B.add q) n fun z => h (.inr z)
    rw [List.foldl_cons, e1, e2]
    exact ⟨upF_ne fun z => h (.inl z), upF_ne fun z => h (.inl z)⟩
theorem fold_at : ∀ (qs : List QD) (B : BD) (q : QD), (qs.map QD.nm).Nodup → q ∈ qs → (qs.foldl BD.add B).f q.nm = q ∧ (qs.foldl BD.add B).h q.nm = []
  | [], B, q, _, h => nomatch h
  | z :: r, B, q, nd, h => by
    rw [List.map_cons, List.nodup_cons] at nd
    rw [List.foldl_cons]
    rcases List.mem_cons.mp h with rfl | h
    · obtain ⟨e1, e2⟩ := fold_keep r (B.add q) q.nm nd.1
      rw [e1, e2]
      exact ⟨upF_at _ _ _, upF_at _ _ _⟩
    · exact fold_at r (B.add z) q nd.2 h
theorem bFs_reasons (k r d r2 : Addr) : putF "reasons" (.ref r2) (bFs k r d) = bFs k r2 d := by kernel_rfl
theorem bFs_days (k r d d2 : Addr) : putF "days" (.ref d2) (bFs k r d) = bFs k r d2 := by kernel_rfl
def spTwin (CB CQ : Addr) : Sp := fun vs H Q _ => ∃ (b k r d : Addr) (B : BD), vs = [.ref b] ∧ BankAt CB CQ H b k r d B ∧ GoodB B ∧ ∀ (b2 k2 r2 d2 : Addr) (H' : Hp), Same H H' → H b2 = none → H k2 = none → H r2 = none → H d2 = none → BankAt CB CQ H' b2 k2 r2 d2 B.twin → Q (.ref b2) H'
section
variable {P : Program} {w : World} {K : PySem.W.Frag} {mg : Str → Option Value} {base : Heap} {CB CQ cK cT cM : Addr}
abbrev NTwin : List Str := ["self", "other", "name"]
theorem scTwin : FnScope NTwin ["self"] (defScope sBTwin) := ⟨rfl, rfl, rfl, by decide +kernel, rfl, by decide +kernel, by decide +kernel⟩
theorem ok_twin {f fN fI : Addr} {fd fdN fdI : FuncData} (F : Fun K "twin" "Bank.twin" sBTwin f fd) (C : BCls K CB) (mdi : mg "dict" = none) (mli : mg "list" = none)
    (GN : FnOk P w K mg base CX0 1 fN fdN ["self"] (spNamesB CB CQ)) (MN : Meth K CB "names" fN) (bN : Binds K fdN ["self"] [])
    (FI : FunB K fI fdI) (GI : FnOk P w K mg base (L2.CX P w) 6 fI fdI ["self", "questions"] (spInitB K CB CQ cK cT cM)) (M : Mk K CB fI) (gBk : mg "Bank" = some (.ref CB)) :
    FnOk P w K mg base CX0 8 f fd ["self"] (spTwin CB CQ) := by
  obtain ⟨d1, hd1, bb1⟩ := bB1 FI
  refine F.ok scTwin (fun vs H Q E h => ?_) (fun cdv A outer s H vs Q E hr h => ?_)
  · obtain ⟨b, k, r, d, B, rfl, _⟩ := h
    rfl
  · obtain ⟨b, k, r, d, B, rfl, hB, gB, fin⟩ := h
    have hu := hu_of hr
    have r1 : Room 1 _ := hr.mono (by decide)
    have l60 := gB.le
    refine ⟨_, pss_cons (ps_set (i := 1) scTwin.nd rfl (.inl rfl) (pe_make (E := E0) M GI hr (by rfl) gBk bb1 hd1 pass_no (pa_cons (pe_lc (own := [("name", 2)]) (g := gName 2) (te := tDGet (tFld K (tVar 0) "kept") (tVar 2)) rfl scTwin.nd (pi_list (pe_meth0 (pv 0) C.cls MN GN r1 bN .nil pass0)) (blkOk_by (N := NTwin) (sc := defScope sBTwin) (by decide +kernel))
          (fun _ _ _ _ _ => pg_name (i := 2) scTwin.nd rfl (Or.inl rfl)) (fun _ _ _ _ _ => pts_nil) (fun _ _ _ _ _ => by exact pe_dget hu (pe_fld (pv 0) rfl) (pv 2) (fun _ _ => rfl))) pa_nil)))
      (pss_cons (ps_fld (pv 1) (pe_callTy call_dictD (by rfl) mdi PyProof.Rows.boot_dict (pa_cons (pe_fld (pv 0) rfl) pa_nil)) rfl)
      (pss_cons (ps_fld (pv 1) (pe_dc (own := [("name", 2)]) (g := gName 2) (tk := tVar 2) (tv := tCB (fun xs H Q => ∃ p ys, xs = [.ref p] ∧ (SqL K H p ys ∨ SqT K H p ys) ∧ ∀ l, H l = none → Q (.ref l) (upd H l (.lst ys))) (tCons (tDGet (tFld K (tVar 0) "days") (tVar 2)) tNil)) rfl scTwin.nd (pi_list (pe_meth0 (pv 0) C.cls MN GN r1 bN .nil pass0)) (blkOk_by (N := NTwin) (sc := defScope sBTwin) (by decide +kernel))
          (fun _ _ _ _ _ => pg_name (i := 2) scTwin.nd rfl (Or.inl rfl)) (fun _ _ _ _ _ => pts_nil) (fun _ _ _ _ _ => pv 2) (fun _ _ _ _ _ => by exact pe_callTy call_list_of (by rfl) mli (by decide +kernel) (pa_cons (pe_dget hu (pe_fld (pv 0) rfl) (pv 2) (fun _ _ => rfl)) pa_nil))) rfl)
      (pss_one (ps_ret (pv 1))))), ?_⟩
    obtain ⟨dx, hb⟩ := id hB.at_
    refine ⟨_, rfl, b, dx, _, rfl, hb, lb_meth (by decide) _ _ _, b, k, r, d, B, rfl, hB, by omega, fun p H1 s1 np hp => ⟨p, rfl, ⟨_, SqL.of hp⟩, fun D nD => ?_⟩⟩
    have hB1 := hB.same s1
    have hb1 := s1 _ _ hb
    have aD : ∀ {a : Addr} {o : HO}, H1 a = some o → a ≠ D := fun {a o} e => ne_of_none e nD
    refine lc_it (walk_list (K := K) (a := p) (xs := (srt B.ns).map V.str)) (fun i G => (∀ a o, a ≠ D → H1 a = some o → G a = some o) ∧ ∃ xs : List Addr, G D = some (.lst (xs.map V.ref)) ∧ Qns CQ G xs (((srt B.ns).take i).map B.f)) ⟨fun a o n e => by rw [upd_ne n]; exact e, [], upd_same, rfl, fun i x q e => by cases e⟩ (fun i G _ h => SqL.of (h.1 _ _ (aD hp) hp)) ?_ ?_
    · rintro i x G G' hi ⟨kp, xs, hd, hq⟩ ⟨rfl, hx⟩
      obtain ⟨n, hn, rfl⟩ := getD_map hx
      have hn' : n ∈ B.ns := srt_mem.mp (List.mem_of_getElem? hn)
      have il := (List.getElem?_eq_some_iff.mp hn).1
      rw [srt_len] at il
      have li : xs.length = i := by rw [hq.1, List.length_map, List.length_take, srt_len]; omega
      have hBG := hB1.same (H' := G') fun a o e => kp a o (aD e) e
      obtain ⟨v, g, y, rfl, qi⟩ := hBG.kept.get hn'
      refine ⟨rfl, _, rfl, b, CB, dx, _, _, rfl, kp _ _ (aD hb1) hb1, C.cls, C.no _ (by decide), lb_kept _ _ _, _, rfl, k, _, rfl, g, _, hd, by rw [List.length_map, li, sizeLine_eq]; omega, fun a o n e => by rw [upd_ne n]; exact kp a o n e, xs ++ [y], by rw [upd_same, List.map_append]; rfl, ?_, fun j x q e1 e2 => ?_⟩
      · rw [List.length_append, List.length_singleton, li, List.length_map, List.length_take, srt_len]
        omega
      · rw [List.take_add_one, hn, List.map_append] at e2
        have lt : (((srt B.ns).take i).map B.f).length = i := by rw [List.length_map, List.length_take, srt_len]; omega
        by_cases hj : j < i
        · rw [List.getElem?_append_left (by omega)] at e1 e2
          exact (hq.2 j x q e1 e2).off hd (fun _ _ _ z => by cases z) (fun _ z => by cases z)
        · rw [List.getElem?_append_right (by omega)] at e1 e2
          rw [li] at e1
          rw [lt] at e2
          cases hji : j - i with
          | zero =>
            rw [hji] at e1 e2
            cases e1
            cases e2
            exact qi.off hd (fun _ _ _ z => by cases z) (fun _ z => by cases z)
          | succ j' =>
            rw [hji] at e1
            cases e1
    rintro G ⟨kp, xs, hD, hq⟩
    rw [List.length_map, List.take_of_length_le (Nat.le_refl _)] at hq
    have sG : Same H G := fun a o e => kp a o (aD (s1 _ _ e)) (s1 _ _ e)
    intro b2 dx2 nx ndx ne
    have enm : ((srt B.ns).map B.f).map QD.nm = srt B.ns := by
      rw [List.map_map]
      exact (List.map_congr_left fun n hn => (gB.nm n (srt_mem.mp hn)).2).trans (List.map_id _)
    have snd : (srt B.ns).Nodup := (srt_perm B.ns).nodup_iff.mpr gB.nd
    have ndq : (((srt B.ns).map B.f).map QD.nm).Nodup := by rw [enm]; exact snd
    have lq : ((srt B.ns).map B.f).length ≤ 60 := by rw [List.length_map, srt_len]; exact l60
    have lx : (xs.map V.ref).length = (((srt B.ns).map B.f).map some).length := by rw [List.length_map, List.length_map]; exact hq.1
    refine init_goodX nx ndx ne (.inr ⟨D, rfl, .inl hD⟩) lx hq.th ndq lq fun H3 ⟨s3, k2, r0, d0, k20, r00, d00, hB2⟩ => ⟨rfl, ?_⟩
    have sH3 := sG.trans s3
    have hbk := hB.same sH3
    have hb3 := sH3 _ _ hb
    obtain ⟨dxn, hbn⟩ := id hB2.at_
    have nG : ∀ {a : Addr}, G a = none → H a = none := fun h => none_of sG h
    obtain ⟨kr, er, tr⟩ := id hbk.outs
    refine ⟨_, rfl, b, CB, dx, _, _, rfl, hb3, C.cls, C.no _ (by decide), lb_reasons _ _ _, r, kr, rfl, .inl er, fun r2 nr2 => ?_⟩
    have w4 := same_upd (o := .dK kr) nr2
    have hbn4 := w4 _ _ hbn
    refine ⟨_, rfl, b2, CB, dxn, _, rfl, hbn4, C.cls, C.no _ (by decide), by show 3 < 1000; decide, ?_⟩
    rw [bFs_reasons]
    have hr4 : upd H3 r2 (.dK kr) r2 = some (.dK kr) := upd_same
    have br2 : b2 ≠ r2 := ne_of_none hbn nr2
    have nb2 : H b2 = none := nG nx
    have nr2H : H r2 = none := none_of sH3 nr2
    have put : ∀ {G0 : Hp} {u : HO}, Same H G0 → Same H (upd G0 b2 u) := fun {G0 u} s => fun a o e => by rw [upd_ne (ne_of_none e nb2)]; exact s _ _ e
    have s5 : Same H (upd (upd H3 r2 (.dK kr)) b2 (.ins CB dxn (bFs k2 r2 d0))) := put (sH3.trans w4)
    have hb5 : upd (upd H3 r2 (.dK kr)) b2 (.ins CB dxn (bFs k2 r2 d0)) b2 = some (.ins CB dxn (bFs k2 r2 d0)) := upd_same
    have hr5 : upd (upd H3 r2 (.dK kr)) b2 (.ins CB dxn (bFs k2 r2 d0)) r2 = some (.dK kr) := by rw [upd_ne (Ne.symm br2)]; exact hr4
    obtain ⟨kk, ek, tk⟩ := id hB2.kept
    have kb2 : k2 ≠ b2 := fun z => by rw [z, hbn] at ek; cases ek
    have k2r2 : k2 ≠ r2 := ne_of_none ek nr2
    have ek5 : upd (upd H3 r2 (.dK kr)) b2 (.ins CB dxn (bFs k2 r2 d0)) k2 = some (.dK kk) := by rw [upd_ne kb2]; exact w4 _ _ ek
    have tk5 : TbK kk (srt B.ns) (RKept CQ (upd (upd H3 r2 (.dK kr)) b2 (.ins CB dxn (bFs k2 r2 d0))) B.f) := by
      have ens : (bOf ((srt B.ns).map B.f)).ns = srt B.ns := by rw [bOf_ns, enm]
      rw [ens] at tk
      have tb := hbk.kept
      obtain ⟨kb, eb, tb⟩ := tb
      refine tk.mono fun m hm v ⟨x, e, q⟩ => ⟨x, e, ?_⟩
      have ef : (bOf ((srt B.ns).map B.f)).f m = B.f m := by
        have z := (fold_at ((srt B.ns).map B.f) B0 (B.f m) ndq (List.mem_map_of_mem hm)).1
        rw [(gB.nm m (srt_mem.mp hm)).2] at z
        exact z
      rw [ef] at q
      obtain ⟨dq, a, h1, h2, h3⟩ := q
      have n1 : x ≠ b2 := fun z => by
        rw [z, hbn] at h1
        have y := congrArg (fun o => match o with | some (.ins _ _ fs) => fs.length | _ => 0) h1
        revert y
        simp [bFs, qFs]
      exact ⟨dq, a, by rw [upd_ne n1]; exact w4 _ _ h1, by rw [upd_ne (fun z => by rw [z, hbn] at h2; cases h2)]; exact w4 _ _ h2, h3⟩
    have k2H : H k2 = none := nG k20
    generalize upd (upd H3 r2 (.dK kr)) b2 (.ins CB dxn (bFs k2 r2 d0)) = H5 at s5 hb5 hr5 ek5 tk5 ⊢
    have hB5 := hB.same s5
    have hbo5 := s5 _ _ hb
    refine ⟨_, rfl, b, dx, _, rfl, hbo5, lb_meth (by decide) _ _ _, b, k, r, d, B, rfl, hB5, by omega, fun p6 H6 s6 np6 hp6 => ⟨p6, rfl, ⟨_, SqL.of hp6⟩, fun D6 nD6 => ?_⟩⟩
    have s56 := s5.trans s6
    have hB6 := hB.same s56
    have hbo6 := s56 _ _ hb
    have aD6 : ∀ {a : Addr} {o : HO}, H6 a = some o → a ≠ D6 := fun {a o} e => ne_of_none e nD6
    refine dc_it (walk_list (K := K) (a := p6) (xs := (srt B.ns).map V.str)) (fun i G => (∀ a o, a ≠ D6 → H6 a = some o → G a = some o) ∧ ∃ kvs : List (Key × V), G D6 = some (.dK kvs) ∧ TbK kvs ((srt B.ns).take i) (RDays G B.h)) ⟨fun a o n e => by rw [upd_ne n]; exact e, [], upd_same, .nil⟩ (fun i G _ h => SqL.of (h.1 _ _ (aD6 hp6) hp6)) ?_ ?_
    · rintro i x G1 G' hi ⟨kp6, kvs, hd6, t6⟩ ⟨rfl, hx⟩
      obtain ⟨n, hn, rfl⟩ := getD_map hx
      have hn' : n ∈ B.ns := srt_mem.mp (List.mem_of_getElem? hn)
      have il := (List.getElem?_eq_some_iff.mp hn).1
      rw [srt_len] at il
      have hBG := hB6.same (H' := G') fun a o e => kp6 a o (aD6 e) e
      obtain ⟨v, gv, l, rfl, hl⟩ := hBG.days.get hn'
      have lk := t6.len
      rw [List.length_take, srt_len] at lk
      refine ⟨rfl, _, rfl, _, rfl, b, CB, dx, _, _, rfl, kp6 _ _ (aD6 hbo6) hbo6, C.cls, C.no _ (by decide), lb_days _ _ _, _, rfl, d, _, rfl, gv, l, _, rfl, .inl (SqL.of hl), fun l2 nl2 => ?_⟩
      have w := same_upd (o := .lst ((B.h n).map V.int)) nl2
      have l2D : l2 ≠ D6 := fun z => by subst z; rw [hd6] at nl2; cases nl2
      have hd7 := w _ _ hd6
      have hl2 : upd G' l2 (.lst ((B.h n).map V.int)) l2 = some (.lst ((B.h n).map V.int)) := upd_same
      have hni : n ∉ (srt B.ns).take i := fun h => by
        obtain ⟨j, hj, ej⟩ := List.mem_iff_getElem.mp h
        rw [List.length_take, srt_len] at hj
        rw [List.getElem_take] at ej
        have e2 := List.getElem?_eq_some_iff.mp hn
        have z := (List.getElem_inj snd (i := j) (j := i) (h₀ := by rw [srt_len]; omega) (h₁ := by rw [srt_len]; exact il)).mp (by rw [ej, e2.2])
        omega
      refine ⟨kvs, .inr n, rfl, hd7, by rw [lk, sizeLine_eq]; omega, fun a o n1 e => by rw [upd_ne n1]; exact w _ _ (kp6 a o n1 e), _, upd_same, ?_⟩
      have off : ∀ {a : Addr} {L : List V}, upd G' l2 (.lst ((B.h n).map V.int)) a = some (.lst L) → upd (upd G' l2 (.lst ((B.h n).map V.int))) D6 (.dK (putK kvs (.inr n) (.ref l2))) a = some (.lst L) := fun {a L} e => by rw [upd_ne (fun z => by subst z; rw [hd7] at e; cases e)]; exact e
      have z := t6.put (n := n) (v := .ref l2) (R' := RDays (upd (upd G' l2 (.lst ((B.h n).map V.int))) D6 (.dK (putK kvs (.inr n) (.ref l2)))) B.h) (fun m _ _ v ⟨y, e, hy⟩ => ⟨y, e, off (w _ _ hy)⟩) ⟨l2, rfl, off hl2⟩
      rw [putN_new hni] at z
      rw [List.take_add_one, hn]
      exact z
    · rintro G7 ⟨kp7, kvs, hd7, t7⟩
      rw [List.length_map, List.take_of_length_le (Nat.le_refl _)] at t7
      have s7 : Same H5 G7 := fun a o e => kp7 a o (aD6 (s6 _ _ e)) (s6 _ _ e)
      have nD5 : H5 D6 = none := none_of s6 nD6
      have nDH : H D6 = none := none_of s5 nD5
      refine ⟨_, rfl, b2, CB, dxn, _, rfl, s7 _ _ hb5, C.cls, C.no _ (by decide), by show 3 < 1000; decide, ?_⟩
      rw [bFs_days]
      have hbG := s7 _ _ hb5
      have db2 : D6 ≠ b2 := Ne.symm (ne_of_none hb5 nD5)
      have so : ∀ a o, a ≠ b2 → G7 a = some o → upd G7 b2 (.ins CB dxn (bFs k2 r2 D6)) a = some o := fun a o n e => by rw [upd_ne n]; exact e
      refine ⟨_, rfl, fin b2 k2 r2 D6 _ (put (s5.trans s7)) nb2 k2H nr2H nDH ⟨⟨dxn, upd_same⟩, ⟨kk, so _ _ kb2 (s7 _ _ ek5), tk5.mono fun m _ v ⟨x, e, q⟩ => ⟨x, e, ?_⟩⟩, ⟨kr, so _ _ (Ne.symm br2) (s7 _ _ hr5), tr⟩, ⟨kvs, so _ _ db2 hd7, t7.mono fun m _ v ⟨l, e, hl⟩ => ⟨l, e, so _ _ (fun z => by rw [z, hbG] at hl; cases hl) hl⟩⟩, k2r2, ne_of_none ek5 nD5, ne_of_none hr5 nD5⟩⟩
      obtain ⟨dq, a, h1, h2, h3⟩ := q
      have n1 : x ≠ b2 := fun z => by
        rw [z, hb5] at h1
        have y := congrArg (fun o => match o with | some (.ins _ _ fs) => fs.length | _ => 0) h1
        revert y
        simp [bFs, qFs]
      exact ⟨dq, a, so _ _ n1 (s7 _ _ h1), so _ _ (fun z => by rw [z, hb5] at h2; cases h2) (s7 _ _ h2), h3⟩
end
end Pk
/-! ### two looks at a bank that differ but in the order of their names -/
namespace Pk
open PySem L2
structure EqvB (B C : BD) : Prop where
  ns : B.ns.Perm C.ns
  os : B.os.Perm C.os
  f : ∀ n ∈ B.ns, B.f n = C.f n
  g : ∀ n ∈ B.os, B.g n = C.g n
  h : ∀ n ∈ B.ns, B.h n = C.h n
theorem EqvB.refl (B : BD) : EqvB B B := ⟨.refl _, .refl _, fun _ _ => rfl, fun _ _ => rfl, fun _ _ => rfl⟩
theorem EqvB.symm {B C : BD} (e : EqvB B C) : EqvB C B := ⟨e.ns.symm, e.os.symm, fun n hn => (e.f n (e.ns.mem_iff.mpr hn)).symm, fun n hn => (e.g n (e.os.mem_iff.mpr hn)).symm, fun n hn => (e.h n (e.ns.mem_iff.mpr hn)).symm⟩
theorem EqvB.trans {B C D : BD} (e : EqvB B C) (k : EqvB C D) : EqvB B D := ⟨e.ns.trans k.ns, e.os.trans k.os, fun n hn => (e.f n hn).trans (k.f n (e.ns.mem_iff.mp hn)), fun n hn => (e.g n hn).trans (k.g n (e.os.mem_iff.mp hn)), fun n hn => (e.h n hn).trans (k.h n (e.ns.mem_iff.mp hn))⟩
section
variable {B C : BD}
theorem EqvB.mem (e : EqvB B C) (n : Str) : n ∈ B.ns ↔ n ∈ C.ns := e.ns.mem_iff
theorem EqvB.memO (e : EqvB B C) (n : Str) : n ∈ B.os ↔ n ∈ C.os := e.os.mem_iff
theorem srt_perm_eq {ms ns : List Str} (p : ms.Perm ns) : srt ms = srt ns := perm_eq (((srt_perm ms).trans p).trans (srt_perm ns).symm) (srt_pair ms) (srt_pair ns)
theorem EqvB.srt (e : EqvB B C) : srt B.ns = srt C.ns := srt_perm_eq e.ns
theorem EqvB.srtO (e : EqvB B C) : Pk.srt B.os = Pk.srt C.os := srt_perm_eq e.os
theorem EqvB.ins (e : EqvB B C) : B.ins = C.ins := by
  unfold BD.ins
  rw [e.srt]
  congr 1
  funext n
  rw [decide_eq_decide.mpr (e.memO n)]
theorem EqvB.ms (e : EqvB B C) : B.ms = C.ms := by
  unfold BD.ms
  rw [← e.ins]
  congr 1
  exact List.map_congr_left fun n hn => by rw [e.f n (srt_mem.mp (List.mem_filter.mp hn).1)]
theorem EqvB.err (e : EqvB B C) : ∀ D : Deed, B.err D = C.err D
  | .add q | .put q => by simp only [BD.err, e.mem]
  | .out n z | .drop n | .use n i => by simp only [BD.err, e.mem]
  | .back n => by simp only [BD.err, e.mem, e.memO]
  | .unuse n i => by
    simp only [BD.err, e.mem]
    by_cases hn : n ∈ C.ns
    · rw [if_pos hn, if_pos hn, e.h n ((e.mem n).mpr hn)]
    · rw [if_neg hn, if_neg hn]
theorem EqvB.due (e : EqvB B C) (D : Deed) : B.due D = C.due D := by
  unfold BD.due
  rw [e.err D]
theorem putN_perm {ms ns : List Str} (p : ms.Perm ns) (n : Str) : (putN ms n).Perm (putN ns n) := by
  by_cases h : n ∈ ms
  · rw [putN_old h, putN_old (p.mem_iff.mp h)]
    exact p
  · rw [putN_new h, putN_new (fun z => h (p.mem_iff.mpr z))]
    exact p.append_right _
theorem upF_eq {α : Type} {f g : Str → α} {n m : Str} {v : α} (h : m ≠ n → f m = g m) : upF f n v m = upF g n v m := by
  by_cases e : m = n
  · rw [e, upF_at, upF_at]
  · rw [upF_ne e, upF_ne e, h e]
theorem mem_putN {ns : List Str} {n m : Str} (h : m ∈ putN ns n) (ne : m ≠ n) : m ∈ ns := by
  unfold putN at h
  split at h
  · exact h
  · rcases List.mem_append.mp h with z | z
    · exact z
    · exact absurd (List.mem_singleton.mp z) ne
theorem EqvB.raw (e : EqvB B C) : ∀ D : Deed, B.err D = none → EqvB (B.raw D) (C.raw D)
  | .add q, _ => ⟨e.ns.append_right _, e.os, fun n hn => upF_eq fun ne => e.f n ((List.mem_append.mp hn).elim id fun z => absurd (List.mem_singleton.mp z) ne), e.g, fun n hn => upF_eq fun ne => e.h n ((List.mem_append.mp hn).elim id fun z => absurd (List.mem_singleton.mp z) ne)⟩
  | .put q, _ => ⟨e.ns, e.os, fun n hn => upF_eq fun _ => e.f n hn, e.g, e.h⟩
  | .out n z, _ => ⟨e.ns, putN_perm e.os n, e.f, fun m hm => upF_eq fun ne => e.g m (mem_putN hm ne), e.h⟩
  | .back n, _ => ⟨e.ns, e.os.filter _, e.f, fun m hm => e.g m (List.mem_filter.mp hm).1, e.h⟩
  | .drop n, _ => ⟨e.ns.filter _, e.os.filter _, fun m hm => e.f m (List.mem_filter.mp hm).1, fun m hm => e.g m (List.mem_filter.mp hm).1, fun m hm => e.h m (List.mem_filter.mp hm).1⟩
  | .use n i, he => by
    have hn : n ∈ B.ns := Decidable.byContradiction fun z => by simp only [BD.err, if_neg z] at he; cases he
    exact ⟨e.ns, e.os, e.f, e.g, fun m hm => by
      show upF B.h n (addD (B.h n) i) m = upF C.h n (addD (C.h n) i) m
      rw [e.h n hn]
      exact upF_eq fun _ => e.h m hm⟩
  | .unuse n i, he => by
    have hn : n ∈ B.ns := Decidable.byContradiction fun z => by simp only [BD.err, if_neg z] at he; cases he
    exact ⟨e.ns, e.os, e.f, e.g, fun m hm => by
      show upF B.h n (delD (B.h n) i) m = upF C.h n (delD (C.h n) i) m
      rw [e.h n hn]
      exact upF_eq fun _ => e.h m hm⟩
theorem EqvB.app (e : EqvB B C) (D : Deed) : EqvB (B.app D) (C.app D) := by
  cases he : B.err D with
  | some x =>
    rw [BD.app_some he, BD.app_some ((e.err D).symm.trans he)]
    exact e
  | none =>
    rw [BD.app_none he, BD.app_none ((e.err D).symm.trans he)]
    exact e.raw D he
theorem EqvB.good (e : EqvB B C) (g : GoodB B) : GoodB C := ⟨e.ns.nodup_iff.mp g.nd, by rw [← e.ns.length_eq]; exact g.le, (fun n hn => by rw [← e.f n ((e.mem n).mpr hn)]; exact g.nm n ((e.mem n).mpr hn)), e.os.nodup_iff.mp g.od, (fun n hn => (e.mem n).mp (g.os n ((e.memO n).mpr hn))), (fun n hn => by rw [← e.g n ((e.memO n).mpr hn)]; exact g.tx n ((e.memO n).mpr hn)), fun n hn => by rw [← e.h n ((e.mem n).mpr hn)]; exact g.dy n ((e.mem n).mpr hn)⟩
end
end Pk
/-! ### != of lists that are the same; o.m(e, k = v) -/
namespace Pk
open PySem PySem.Spec PyProof.Rows L2
def rNeS (K : PySem.W.Frag) : R2 := fun x y H Q => ∃ (a b : Addr) (xs : List V), x = .ref a ∧ y = .ref b ∧ SqL K H a xs ∧ SqL K H b xs ∧ (∀ v ∈ xs, flatB v = true) ∧ Q (.bl false) H
theorem op_neS {X : Cx} (hu : X.A.units + 64 < cLine) : OpR X (compareOp .NotEq) (rNeS X.K) := by
  rintro pins s σ H x y v u Q I rx ry ⟨a, b, xs, rfl, rfl, ha, hb, hf, q⟩
  cases (show v = Value.ref a from rx)
  cases (show u = Value.ref b from ry)
  obtain ⟨us, r1, p1, _⟩ := I.list ha
  obtain ⟨ws, r2, p2, _⟩ := I.list hb
  have hsz : us.toArray.size = ws.toArray.size := by
    rw [List.size_toArray, List.size_toArray, ← r1.length, ← r2.length]
  have all : ∀ {xs : List V} {us ws : List Value}, (∀ v ∈ xs, flatB v = true) → Vals xs us → Vals xs ws → ∀ j (h1 : j < us.length) (h2 : j < ws.length), SeqAt.EqAt X.A.in1 s us[j] ws[j] true := by
    intro xs
    induction xs with
    | nil =>
      intro us ws _ r1 r2 j h1 h2
      cases r1
      exact absurd h1 (Nat.not_lt_zero j)
    | cons x xs ih =>
      intro us ws hf r1 r2 j h1 h2
      cases r1 with
      | cons a1 b1 =>
        cases r2 with
        | cons a2 b2 =>
          cases j with
          | zero => exact eqAt_same a1 a2 (hf x List.mem_cons_self)
          | succ j => exact ih (fun v hv => hf v (List.mem_cons_of_mem _ hv)) b1 b2 j (Nat.lt_of_succ_lt_succ h1) (Nat.lt_of_succ_lt_succ h2)
  refine SeqAt.RcNeAt.lists (e := fun _ => true) p1.isList p2.isList hsz (by omega) (fun j h1 h2 => ?_) X.prog X.w _ _ ?_
  · have k := all hf r1 r2 j (by simpa using h1) (by simpa using h2)
    simpa using k
  · rw [show ((List.range us.toArray.size).all fun _ => true) = true from List.all_eq_true.mpr fun _ _ => rfl]
    exact ⟨.bl false, H, I, rfl, q⟩
section
variable {X : Cx} {CX : CXT} {k n : Nat} {f C : Addr} {fd : FuncData} {ps ks : List Str} {sp : Sp} {E : XK} {m : Str} {p pos apos : Pos} {o e : Expr} {es : List Expr} {ta : TE} {t : TA} {kws : List Keyword} {tk : TA} {g : List Value → List Value → List Value} {gV : List V → List V → List V}
def tMethNP (C : Addr) (m : Str) (n nk : Nat) (sp : Sp) (gV : List V → List V → List V) (E : XK) (ta : TE) (t tk : TA) : TE := fun σ H Q => ta σ H fun x H1 => ∃ a dx fs, x = .ref a ∧ H1 a = some (.ins C dx fs) ∧ fs.lookup m = none ∧ t σ H1 fun vs H2 => tk σ H2 fun zs H3 => vs.length = n ∧ zs.length = nk ∧ sp (gV (x :: vs) zs) H3 Q E
theorem pe_methNP {pl : Sem Bool} (he : PE X o ta) (c : Cls X.K C) (hm : Meth X.K C m f) (F : FnOk X.prog X.w X.K X.mg X.base CX k f fd ps sp) (hr : Room k X.A) (hb : KBn X.K fd ps (n + 1) ks g gV) (hx : Passes CX X E)
    (ha : PA X (e :: es) t) (hkw : PK X kws tk) (hall : (backToKw pos (keywordEach kws X.env)).all (·.1.isSome) = true := by rfl) (hks : (backToKw pos (keywordEach kws X.env)).filterMap (·.1) = ks := by rfl)
    (hes : starEach (e :: es) X.env = (false, eval e X.env) :: starEach es X.env := by rfl)
    (hpl : ((backTo pos (starEach (e :: es) X.env)).any (·.1) || (backToKw pos (keywordEach kws X.env)).any (·.1.isNone)) = false := by rfl)
    (ht : eval (.Call (.Attribute o m apos) (e :: es) kws pos) X.env = (do
      let ov ← eval o X.env
      standAt apos.atName
      let (f, first) ← holding [ov] (getMethod ov m pl)
      callWith pos f first (backTo pos (starEach (e :: es) X.env)) (backToKw pos (keywordEach kws X.env))) := by rfl) :
    PE X (.Call (.Attribute o m apos) (e :: es) kws pos) (tMethNP C m n ks.length sp gV E ta t tk) := by
  refine ⟨fun pins s σ H Q I h => ?_⟩
  refine PySem.W.methodCall_KW (pl := pl) (thn (he.run pins s σ H _ I h) fun u s1 ⟨x, H1, I1, rx, a, dx, fs, ex, ea, l, q⟩ => ?_) ht
  subst ex
  obtain rfl : u = Value.ref a := rx
  refine getmeth_ok I1 ea c hm l ?_
  refine PySem.W.callWith_KW (first := [.ref a]) (h₀ := X.base) I.ok.mod.kin hm.kp hall (thn (ha.run pos pins s1 σ H1 _ I1 q) fun us s2 ⟨vs, H2, I2, r, q2⟩ => ?_) hpl hes
  refine thn (hkw.run pos pins s2 σ H2 _ I2 q2) ?_
  rintro ws s3 ⟨zs, H3, I3, rz, l1, l2, q3⟩
  refine ⟨I3.kIn, ?_⟩
  rw [hks]
  exact run_fnN (us := .ref a :: us) (vs := .ref a :: vs) F hr hb hx I3 (.cons rfl r) rz (by rw [List.length_cons, l1]) l2 q3
end
end Pk
/-! ### != of a list and an empty one -/
namespace Pk
open PySem PySem.Spec PyProof.Rows L2
def rNeE (K : PySem.W.Frag) : R2 := fun x y H Q => ∃ (a b : Addr) (xs : List V), x = .ref a ∧ y = .ref b ∧ SqL K H a xs ∧ SqL K H b [] ∧ Q (.bl (!xs.isEmpty)) H
theorem op_neE {X : Cx} (hu : X.A.units < cLine) : OpR X (compareOp .NotEq) (rNeE X.K) := by
  rintro pins s σ H x y v u Q I rx ry ⟨a, b, xs, rfl, rfl, ha, hb, q⟩
  cases (show v = Value.ref a from rx)
  cases (show u = Value.ref b from ry)
  obtain ⟨us, r1, p1, _⟩ := I.list ha
  obtain ⟨ws, r2, p2, _⟩ := I.list hb
  cases r2
  cases r1 with
  | nil =>
    refine SeqAt.RcNeAt.lists (e := fun _ => true) p1.isList p2.isList rfl hu (fun j h1 h2 => absurd h1 (by simp)) X.prog X.w _ _ ?_
    exact ⟨.bl false, H, I, rfl, q⟩
  | cons h t => exact SeqAt.RcNeAt.lists_lengths p1.isList p2.isList (by simp) hu X.prog X.w _ _ ⟨.bl true, H, I, rfl, q⟩
end Pk
/-! ### dict(zip(texts, list)) -/
namespace Pk
open PySem PySem.Spec PyProof.Rows L2
def tDictZip (K : PySem.W.Frag) (ta : TA) : TE := fun σ H Q => ta σ H fun vs H1 => ∃ (a b : Addr) (ks : List Str) (ys : List V), vs = [.ref a, .ref b] ∧ SqL K H1 a (ks.map V.str) ∧ SqL K H1 b ys ∧ ks.length ≤ ys.length ∧
  ∀ D, H1 D = none → Q (.ref D) (upd H1 D (.dK (mergeK [] ((ks.map Sum.inr).zip ys))))
theorem zip_kv : ∀ {ks : List Str} {ys : List V} {is js : List Value}, Vals (ks.map V.str) is → Vals ys js → KV ((ks.map Sum.inr : List Key).zip ys) ((ks.map Sum.inr : List Key).zip js)
  | [], _, _, _, _, _ => .nil
  | _ :: _, [], _, _, _, k => by cases k; exact .nil
  | z :: ks, y :: ys, _, _, h, k => by
    cases h with
    | cons _ h2 => cases k with
      | cons k1 k2 => exact .cons ⟨rfl, k1⟩ (zip_kv h2 k2)
theorem putK_len (k : Key) (v : V) (acc : List (Key × V)) : (putK acc k v).length ≤ acc.length + 1 := by
  unfold putK
  split
  · rw [List.length_map]; omega
  · rw [List.length_append, List.length_singleton]; exact Nat.le_refl _
theorem zipApartN (N a b : Nat) (ga : a < N) (gb : b < N) : ZipApart (N + 4) (N + 2) (N + 3) N (N + 1) a b := by
  constructor <;> first | exact Nat.ne_of_lt (by omega) | exact Nat.ne_of_gt (by omega)
theorem mergeK_len : ∀ (kvs acc : List (Key × V)), (mergeK acc kvs).length ≤ acc.length + kvs.length
  | [], acc => Nat.le_refl _
  | p :: r, acc => by
    have h1 := mergeK_len r (putK acc p.1 p.2)
    have h2 := putK_len p.1 p.2 acc
    show (mergeK (putK acc p.1 p.2) r).length ≤ _
    rw [List.length_cons]
    omega
theorem ns_lt {h : Heap} {a : Addr} {m : Str → Option Value} (x : h.Ns a m) : a < h.objs.size := by
  obtain ⟨_, _, _, e, _⟩ := x
  exact Heap.lt_size e
theorem pe_dictZip {X : Cx} {e1 e2 : Expr} {ta : TA} {p p2 q pos : Pos} (hg : Gl X "dict") (hm : X.mg "dict" = none) (hg2 : Gl X "zip") (hm2 : X.mg "zip" = none) (ha : PA X [e1, e2] ta) (hc : X.calm = true := by rfl)
    (na : starEach [e1, e2] X.env = (false, eval e1 X.env) :: starEach [e2] X.env := by rfl) (nb : ((backTo q (starEach [e2] X.env)).any fun x => x.1) = false := by rfl) : PE X (.Call (.Name "dict" p) [.Call (.Name "zip" p2) [e1, e2] [] q] [] pos) (tDictZip X.K ta) := by
  constructor
  intro pins s σ H Q I h
  refine PyProof.Rows.Call_ (ld_blt I hg hm boot_dict (PyProof.Rows.callWith_type1 (PyProof.Rows.args_cons ?_ rfl) rfl rfl))
  refine PyProof.Rows.Call_ (ld_blt I hg2 hm2 PyProof.Rows.boot_zip ?_)
  refine PyProof.Rows.callWith_type1 (thn (ha.run _ pins s σ H _ I h) ?_) na nb
  rintro us s1 ⟨vs, H1, I1, rv, a, b, ks, ys, rfl, hA, hB, hle, q1⟩
  obtain ⟨u1, u2, rfl, r1, r2⟩ := vals2 rv
  cases r1
  cases r2
  obtain ⟨ia, va, la, za⟩ := I1.list hA
  obtain ⟨ib, vb, lb, zb⟩ := I1.list hB
  have la := la.isList
  have lb := lb.isList
  have na1 : ia.length = ks.length := by rw [← va.length, List.length_map]
  have nb1 : ib.length = ys.length := by rw [← vb.length]
  refine call_zip_2 la lb fun h' z1 z2 z3 z4 z5 z6 z7 => ?_
  have ga : a < s1.heap.objs.size := by obtain ⟨_, e, _⟩ := id la; exact Heap.lt_size e
  have gb : b < s1.heap.objs.size := by obtain ⟨_, e, _⟩ := id lb; exact Heap.lt_size e
  have la' : h'.IsList a ia.toArray := by obtain ⟨o, e, r⟩ := la; exact ⟨o, z7 _ _ e, r⟩
  have lb' : h'.IsList b ib.toArray := by obtain ⟨o, e, r⟩ := lb; exact ⟨o, z7 _ _ e, r⟩
  generalize hN : s1.heap.objs.size = N at z1 z2 z3 z4 z5 z6 z7 ga gb ⊢
  refine PyProof.Rows.args_nil (call_dict_pairs (knd := mixKind X.prog X.w) (kvs := (ks.map Sum.inr : List Key).zip ib) (PairArg.zip (N + 4) (N + 2) (N + 3) N (N + 1) a b (zipApartN N a b ga gb) ia.toArray ib.toArray) (I1.ok.hd hc)
    ⟨z1, z2, ⟨_, _, z3⟩, z4, z5, la', lb'⟩ ⟨?_, ?_⟩ ?_ fun h2 tk hD hk => ?_)
  · rw [List.length_zip, List.length_map, List.size_toArray, List.size_toArray, na1]
  · rintro i key v ⟨e1, e2⟩
    rw [List.getElem?_toArray] at e1 e2
    have hi : i < ks.length := by rw [← na1]; exact (List.getElem?_eq_some_iff.mp e1).1
    obtain ⟨u, hu, ru⟩ := va.get (i := i) (x := V.str ks[i]) (by rw [List.getElem?_map, List.getElem?_eq_getElem hi]; rfl)
    rw [e1] at hu
    cases hu
    refine ⟨Sum.inr ks[i], by rw [List.getElem?_zip_eq_some]; exact ⟨by rw [List.getElem?_map, List.getElem?_eq_getElem hi]; rfl, e2⟩, ?_⟩
    rw [mixKind_is]
    obtain ⟨t, rfl⟩ := ru
    show (ks[i] == ks[i]) = true
    exact beq_self_eq_true _
  · rw [List.size_toArray, List.size_toArray, na1]
    rw [List.length_map] at za
    exact Nat.le_trans (Nat.min_le_left _ _) za
  · have hsz : N + 5 ≤ h'.objs.size := by omega
    have kpt : ∀ (c : Addr) (o : Obj), s1.heap.get? c = some o → h2.get? c = some o := fun c o e => by
      have hc := Heap.lt_size e
      refine hk c o (fun q => ?_) (z7 c o e)
      simp only [List.mem_cons, List.not_mem_nil, or_false] at q
      have hc : (c : Nat) < N := by rw [← hN]; exact hc
      rcases q with q | q | q | q
      · exact absurd q (Nat.ne_of_lt (Nat.lt_of_lt_of_le hc (Nat.le_add_right N 4)))
      · exact absurd q (Nat.ne_of_lt (Nat.lt_of_lt_of_le hc (Nat.le_add_right N 3)))
      · exact absurd q (Nat.ne_of_lt hc)
      · exact absurd q (Nat.ne_of_lt (Nat.lt_of_lt_of_le hc (Nat.le_add_right N 1)))
    have hN1 : s1.heap.objs.size ≤ h'.objs.size := by omega
    refine ⟨.ref h'.objs.size, upd H1 h'.objs.size (.dK (mergeK [] ((ks.map Sum.inr).zip ys))), I1.laid (t' := tk) kpt hN1 ⟨?_, ?_, _, KV.merge (zip_kv va vb) .nil, hD⟩, rfl, q1 _ (I1.hok.fresh hN1)⟩
    · refine Nat.le_trans (mergeK_len _ []) ?_
      rw [List.length_zip, List.length_map]
      rw [List.length_map] at za
      exact Nat.le_trans (by rw [List.length_nil]; omega) za
    · have g3 : 3 < X.base.objs.size := ns_lt I1.ok.mod.glob
      have h1 := I1.ok.above
      have h2 : X.env.locals < s1.heap.objs.size := by
        obtain ⟨m, hm, _⟩ := I1.loc
        exact ns_lt hm
      have h3 := I1.ok.bsz
      have h4 : (3 : Nat) < h'.objs.size := Nat.lt_of_lt_of_le (Nat.lt_of_lt_of_le g3 (Nat.le_trans h3 (Nat.le_trans h1 (Nat.le_of_lt h2)))) hN1
      exact beq_eq_false_iff_ne.mpr (Nat.ne_of_gt (Nat.lt_trans (by decide : (1 : Nat) < 3) h4))
end Pk
namespace Pk
open PySem L2
/-! ### t + u and t[a:b], whatever object it is -/
theorem cut_whole {L : List V} {lo hi : Option Int} (h : HT.sIx L.length 0 lo = 0 ∧ HT.sIx L.length L.length hi = L.length) : cutV L lo hi = L := by
  unfold cutV
  rw [h.1, h.2, List.drop_zero, Nat.sub_zero, List.take_length]
section
variable {X : Cx}
def rSlE : V → Option Int → Option Int → Hp → VK → Prop := fun x lo hi H Q => ∃ a xs, x = .ref a ∧ H a = some (.tup xs) ∧ ∀ (p : Addr) (H' : Hp), Same H H' → H' p = some (.tup (cutV xs lo hi)) → Q (.ref p) H'
theorem sl_tupE : SlR X rSlE := by
  intro pins s σ H x v vl vu lo hi sl Q I rx hs pl pu h
  obtain ⟨a, xs, rfl, hx, q⟩ := h
  exact sl_tupA pins s σ H _ v vl vu lo hi sl Q I rx hs pl pu ⟨a, xs, rfl, SqT.of hx, fun w => q a H (Same.refl H) (by rw [cut_whole w]; exact hx), fun _ p n => q p _ (same_upd n) upd_same⟩
def rCatE : R2 := fun x y H Q => ∃ a b xs ys, x = .ref a ∧ y = .ref b ∧ H a = some (.tup xs) ∧ H b = some (.tup ys) ∧ xs.length + ys.length ≤ 1000 ∧ ∀ (p : Addr) (H' : Hp), Same H H' → H' p = some (.tup (xs ++ ys)) → Q (.ref p) H'
theorem op_catE : OpR X (binaryOp .Add) rCatE := by
  intro pins s σ H x y v u Q I rx ry h
  obtain ⟨a, b, xs, ys, rfl, rfl, ha, hb, hz, q⟩ := h
  refine op_catA pins s σ H _ _ v u Q I rx ry ⟨a, b, xs, ys, rfl, rfl, SqT.of ha, SqT.of hb, by rw [sizeLine_eq]; omega, fun e => q b H (Same.refl H) (by rw [e]; exact hb), fun _ e => q a H (Same.refl H) (by rw [e, List.append_nil]; exact ha), fun _ _ p n => q p _ (same_upd n) upd_same⟩
end
theorem cut_neg1 {L : List V} (h : L ≠ []) : cutV L none (some (-1)) = L.dropLast := by
  unfold cutV
  have hl : 0 < L.length := List.length_pos_iff.mpr h
  have e : HT.sIx L.length L.length (some (-1)) = L.length - 1 := by
    show (if (-1 : Int) < 0 then ((-1 : Int) + (L.length : Int)).toNat else min (-1 : Int).toNat L.length) = _
    rw [if_pos (by decide)]
    omega
  rw [e]
  show (L.drop 0).take (L.length - 1 - 0) = _
  rw [List.drop_zero, Nat.sub_zero, List.dropLast_eq_take]
end Pk
namespace Pk
open PySem L2
/-! ### what a bank's methods promise, and in which ways they are called -/
theorem eqTb_congr {ns ns' ms ms' : List Str} {e e' : Str → Bool} (p : ns.Perm ns') (q : ms.Perm ms') (h : ∀ n ∈ ns, n ∈ ms → e n = e' n) : eqTb ns ms e = eqTb ns' ms' e' := by
  unfold eqTb
  rw [p.length_eq, q.length_eq]
  congr 1
  rw [Bool.eq_iff_iff, List.all_eq_true, List.all_eq_true]
  constructor
  · intro x n hn
    obtain ⟨h1, h2⟩ := Bool.and_eq_true_iff.mp (x n (p.mem_iff.mpr hn))
    have hm := of_decide_eq_true h1
    rw [Bool.and_eq_true]
    exact ⟨decide_eq_true (q.mem_iff.mp hm), (h n (p.mem_iff.mpr hn) hm).symm.trans h2⟩
  · intro x n hn
    obtain ⟨h1, h2⟩ := Bool.and_eq_true_iff.mp (x n (p.mem_iff.mp hn))
    have hm := q.mem_iff.mpr (of_decide_eq_true h1)
    rw [Bool.and_eq_true]
    exact ⟨decide_eq_true hm, (h n hn hm).trans h2⟩
theorem eqBk_congr {B C B' C' : BD} (e : EqvB B C) (k : EqvB B' C') : eqBk B B' = eqBk C C' := by
  unfold eqBk
  rw [eqTb_congr e.ns k.ns (fun n h1 h2 => by rw [e.f n h1, k.f n h2] : ∀ n ∈ B.ns, n ∈ B'.ns → decide (B.f n = B'.f n) = decide (C.f n = C'.f n)),
    eqTb_congr e.os k.os (fun n h1 h2 => by rw [e.g n h1, k.g n h2] : ∀ n ∈ B.os, n ∈ B'.os → decide (B.g n = B'.g n) = decide (C.g n = C'.g n)),
    eqTb_congr e.ns k.ns (fun n h1 h2 => by rw [e.h n h1, k.h n h2] : ∀ n ∈ B.ns, n ∈ B'.ns → decide (B.h n = B'.h n) = decide (C.h n = C'.h n))]
theorem twin_eqv (B : BD) : EqvB B.twin B := ⟨srt_perm B.ns, .refl _, fun _ _ => rfl, fun _ _ => rfl, fun _ _ => rfl⟩
structure BkW (P : Program) (w : World) (K : PySem.W.Frag) (mg : Str → Option Value) (base : Heap) (CB CQ cN : Addr) : Prop where
  C : BCls K CB
  CC : QCls K CQ
  names : ∃ (f : Addr) (fd : FuncData), FnOk P w K mg base CX0 1 f fd ["self"] (spNamesB CB CQ) ∧ Meth K CB "names" f ∧ Binds K fd ["self"] []
  namesIn : ∃ (f : Addr) (fd : FuncData), FnOk P w K mg base CX0 2 f fd ["self"] (spNamesInB CB CQ) ∧ Meth K CB "names_in" f ∧ Binds K fd ["self"] []
  len : ∃ (f : Addr) (fd : FuncData), FnOk P w K mg base CX0 1 f fd ["self"] (spLenB CB CQ) ∧ PySem.W.findIn K (.ref CB) "__len__" = some (some (.ref f)) ∧ PySem.W.isFn K (.ref f) = true ∧ Binds K fd ["self"] []
  outs : ∃ (f : Addr) (fd : FuncData), FnOk P w K mg base CX0 1 f fd ["self"] (spOutsB CB CQ) ∧ Meth K CB "outs" f ∧ Binds K fd ["self"] []
  question : ∃ (f : Addr) (fd : FuncData), FnOk P w K mg base (L2.CX P w) 4 f fd ["self", "name"] (spQuestionB CB CQ cN) ∧ Meth K CB "question" f ∧ Binds K fd ["self", "name"] []
  daysOf : ∃ (f : Addr) (fd : FuncData), FnOk P w K mg base (L2.CX P w) 4 f fd ["self", "name"] (spDaysOfB CB CQ cN) ∧ Meth K CB "days_of" f ∧ Binds K fd ["self", "name"] []
  matters : ∃ (f : Addr) (fd : FuncData), FnOk P w K mg base CX0 3 f fd ["self"] (spMattersB CB CQ) ∧ Meth K CB "matters" f ∧ Binds K fd ["self"] []
theorem name_100 {z : Str} (h : nameT z = true) : z.length ≤ 100 ∧ Sgn z := ⟨by have := (name_len h).2; omega, name_sgn h⟩
theorem text_100 {z : Str} (h : textT z = true) : z.length ≤ 100 ∧ Sgn z := by
  unfold textT at h
  simp only [Bool.and_eq_true, decide_eq_true_iff, List.all_eq_true] at h
  exact ⟨by omega, fun c hc => .inl (sign_sgn (h.2 c hc))⟩
theorem GoodB.name {B : BD} (g : GoodB B) {n : Str} (h : n ∈ B.ns) : nameT n = true := by
  obtain ⟨v, e⟩ := g.nm n h
  rw [← e]
  exact v.nm
theorem log_small {i : Int} (h0 : 0 ≤ i) (h1 : i ≤ 1000000) : i.natAbs.log2 < 1920 := by
  have h : i.natAbs < 2 ^ 20 := by
    have : (2 : Nat) ^ 20 = 1048576 := by decide
    omega
  by_cases z : i.natAbs = 0
  · rw [z]
    decide
  · exact Nat.lt_trans ((Nat.log2_lt z).mpr h) (by decide)
theorem os_len {B : BD} (g : GoodB B) : B.os.length ≤ 60 := by
  have z : B.os.length ≤ B.ns.length := g.od.length_le_of_subset fun n hn => g.os n hn
  have := g.le
  omega
def gO1 {α : Type} (us its ws : List α) : List α := us ++ (ws ++ its)
def gO2 {α : Type} (us _its ws : List α) : List α := us ++ (ws.drop 1 ++ ws.take 1)
section
variable {K : PySem.W.Frag} {f : Addr} {fd : FuncData}
theorem bOut2 (F : FunO K f fd) : ∃ ds, Vals ([] : List V) ds ∧ Binds K fd ["self", "name", "why"] ds :=
  F.binds1 3 1 (fun z => nomatch z) rfl fun T kV doc pm an cdv ct us its l1 l2 => match us, its, l1, l2 with
    | [_, _, _], [_], _, _ => ⟨_, rfl, rfl⟩
theorem bOut1 (F : FunO K f fd) : ∃ ds, Vals ([.str "wrong"] : List V) ds ∧ Binds K fd ["self", "name", "why"] ds :=
  F.binds1 2 0 (fun z => nomatch z) rfl fun T kV doc pm an cdv ct us its l1 l2 => match us, its, l1, l2 with
    | [_, _], [_], _, _ => ⟨_, rfl, rfl⟩
theorem kOut3 (F : FunO K f fd) : ∃ its : List Value, KBn K fd ["self", "name", "why"] 2 ["why"] (fun us ws => gQR us its ws) (fun vs zs => gQR vs [.str "wrong"] zs) :=
  kbnD F 2 ["why"] gQR (fun z => nomatch z) (fun r1 _ r3 => r1.append r3)
    fun T kV doc pm an cdv ct us its ws l1 l2 l3 => match us, its, ws, l1, l2, l3 with
    | [_, _], [_], [_], _, _, _ => ⟨_, rfl, rfl⟩
theorem bFd2 (F : FunFd K f fd) : ∃ ds, Vals ([.int 1, .int 9, .str "", .non, .int 0] : List V) ds ∧ Binds K fd PFound ds :=
  F.binds1 2 1 (fun z => nomatch z) rfl fun T kV doc pm an cdv ct us its l1 l2 => match us, its, l1, l2 with
    | [_, _], [_, _, _, _, _, _], _, _ => ⟨_, rfl, rfl⟩
abbrev dFd : List V := [.str "", .int 1, .int 9, .str "", .non, .int 0]
def gFm {α : Type} (us its ws : List α) : List α := us ++ (ws ++ its.drop 1)
theorem kFdm (F : FunFd K f fd) : ∃ its : List Value, KBn K fd PFound 1 ["matter"] (fun us ws => gFm us its ws) (fun vs zs => gFm vs dFd zs) :=
  kbnD F 1 ["matter"] gFm (fun z => nomatch z) (fun r1 r2 r3 => r1.append (r3.append (r2.drop 1)))
    fun T kV doc pm an cdv ct us its ws l1 l2 l3 => match us, its, ws, l1, l2, l3 with
    | [_], [_, _, _, _, _, _], [_], _, _, _ => ⟨_, rfl, rfl⟩
def gFl {α : Type} (us its ws : List α) : List α := us ++ (its.take 1 ++ (ws ++ its.drop 3))
theorem kFdl (F : FunFd K f fd) : ∃ its : List Value, KBn K fd PFound 1 ["least", "most"] (fun us ws => gFl us its ws) (fun vs zs => gFl vs dFd zs) :=
  kbnD F 1 ["least", "most"] gFl (fun z => nomatch z) (fun r1 r2 r3 => r1.append ((r2.take 1).append (r3.append (r2.drop 3))))
    fun T kV doc pm an cdv ct us its ws l1 l2 l3 => match us, its, ws, l1, l2, l3 with
    | [_], [_, _, _, _, _, _], [_, _], _, _, _ => ⟨_, rfl, rfl⟩
def gFk {α : Type} (us its ws : List α) : List α := us ++ (its.take 3 ++ (ws ++ its.drop 4))
theorem kFdk (F : FunFd K f fd) : ∃ its : List Value, KBn K fd PFound 1 ["kin"] (fun us ws => gFk us its ws) (fun vs zs => gFk vs dFd zs) :=
  kbnD F 1 ["kin"] gFk (fun z => nomatch z) (fun r1 r2 r3 => r1.append ((r2.take 3).append (r3.append (r2.drop 4))))
    fun T kV doc pm an cdv ct us its ws l1 l2 l3 => match us, its, ws, l1, l2, l3 with
    | [_], [_, _, _, _, _, _], [_], _, _, _ => ⟨_, rfl, rfl⟩
def gFd {α : Type} (us its ws : List α) : List α := us ++ (its.take 4 ++ ws)
theorem kFdd (F : FunFd K f fd) : ∃ its : List Value, KBn K fd PFound 1 ["day", "rest"] (fun us ws => gFd us its ws) (fun vs zs => gFd vs dFd zs) :=
  kbnD F 1 ["day", "rest"] gFd (fun z => nomatch z) (fun r1 r2 r3 => r1.append ((r2.take 4).append r3))
    fun T kV doc pm an cdv ct us its ws l1 l2 l3 => match us, its, ws, l1, l2, l3 with
    | [_], [_, _, _, _, _, _], [_, _], _, _, _ => ⟨_, rfl, rfl⟩
def gFe {α : Type} (us its ws : List α) : List α := us ++ (its.take 1 ++ (ws.drop 2 ++ ((its.drop 2).take 2 ++ ws.take 2)))
theorem kFde (F : FunFd K f fd) : ∃ its : List Value, KBn K fd PFound 1 ["day", "rest", "least"] (fun us ws => gFe us its ws) (fun vs zs => gFe vs dFd zs) :=
  kbnD F 1 ["day", "rest", "least"] gFe (fun z => nomatch z) (fun r1 r2 r3 => r1.append ((r2.take 1).append ((r3.drop 2).append (((r2.drop 2).take 2).append (r3.take 2)))))
    fun T kV doc pm an cdv ct us its ws l1 l2 l3 => match us, its, ws, l1, l2, l3 with
    | [_], [_, _, _, _, _, _], [_, _, _], _, _, _ => ⟨_, rfl, rfl⟩
theorem bL2 (F : FunL K f fd) : ∃ ds, Vals ([.int 9999] : List V) ds ∧ Binds K fd ["self", "name", "day"] ds :=
  F.binds1 2 0 (fun z => nomatch z) rfl fun T kV doc pm an cdv ct us its l1 l2 => match us, its, l1, l2 with
    | [_, _], [_], _, _ => ⟨_, rfl, rfl⟩
theorem bL3 (F : FunL K f fd) : ∃ ds, Vals ([] : List V) ds ∧ Binds K fd ["self", "name", "day"] ds :=
  F.binds1 3 1 (fun z => nomatch z) rfl fun T kV doc pm an cdv ct us its l1 l2 => match us, its, l1, l2 with
    | [_, _, _], [_], _, _ => ⟨_, rfl, rfl⟩
end
/-- what a bank's methods promise -/
structure DeedW (P : Program) (w : World) (K : PySem.W.Frag) (mg : Str → Option Value) (base : Heap) (CB CQ : Addr) (c : Nat → Addr) : Prop where
  C : BCls K CB
  added : ∃ (f : Addr) (fd : FuncData), Fun K "added" "Bank.added" sBAdded f fd ∧ FnOk P w K mg base (L2.CX P w) 5 f fd ["self", "question"] (spAddedB K CB CQ (c 2) (c 6) (c 5)) ∧ Meth K CB "added" f ∧ Binds K fd ["self", "question"] []
  put : ∃ (f : Addr) (fd : FuncData), Fun K "put" "Bank.put" sBPut f fd ∧ FnOk P w K mg base (L2.CX P w) 5 f fd ["self", "question"] (spPutB K CB CQ (c 2) (c 3)) ∧ Meth K CB "put" f ∧ Binds K fd ["self", "question"] []
  out : ∃ (f : Addr) (fd : FuncData), FunO K f fd ∧ FnOk P w K mg base (L2.CX P w) 5 f fd ["self", "name", "why"] (spOutB CB CQ (c 3) (c 0)) ∧ Meth K CB "taken_out" f
  back : ∃ (f : Addr) (fd : FuncData), Fun K "put_back" "Bank.put_back" sBBack f fd ∧ FnOk P w K mg base (L2.CX P w) 5 f fd ["self", "name"] (spBackB CB CQ (c 3) (c 1)) ∧ Meth K CB "put_back" f ∧ Binds K fd ["self", "name"] []
  dropped : ∃ (f : Addr) (fd : FuncData), Fun K "dropped" "Bank.dropped" sBDropped f fd ∧ FnOk P w K mg base (L2.CX P w) 5 f fd ["self", "name"] (spDroppedB CB CQ (c 3)) ∧ Meth K CB "dropped" f ∧ Binds K fd ["self", "name"] []
  used : ∃ (f : Addr) (fd : FuncData), Fun K "used_on" "Bank.used_on" sBUsed f fd ∧ FnOk P w K mg base (L2.CX P w) 5 f fd ["self", "name", "day"] (spUsedB CB CQ (c 3) (c 4)) ∧ Meth K CB "used_on" f ∧ Binds K fd ["self", "name", "day"] []
  unused : ∃ (f : Addr) (fd : FuncData), Fun K "unused_on" "Bank.unused_on" sBUnused f fd ∧ FnOk P w K mg base (L2.CX P w) 5 f fd ["self", "name", "day"] (spUnusedB CB CQ (c 3) (c 4) (c 1)) ∧ Meth K CB "unused_on" f ∧ Binds K fd ["self", "name", "day"] []
structure FoundW (P : Program) (w : World) (K : PySem.W.Frag) (mg : Str → Option Value) (base : Heap) (CB CQ : Addr) : Prop where
  C : BCls K CB
  found : ∃ (f : Addr) (fd : FuncData), FunFd K f fd ∧ FnOk P w K mg base CX0 3 f fd PFound (spFoundB CB CQ) ∧ Meth K CB "found" f
structure LastW (P : Program) (w : World) (K : PySem.W.Frag) (mg : Str → Option Value) (base : Heap) (CB CQ : Addr) (c : Nat → Addr) : Prop where
  last : ∃ (f : Addr) (fd : FuncData), FunL K f fd ∧ FnOk P w K mg base (L2.CX P w) 5 f fd ["self", "name", "day"] (spLastB CB CQ (c 3) (c 4)) ∧ Meth K CB "last_day" f
  eq : ∃ (f : Addr) (fd : FuncData), FnOk P w K mg base CX0 4 f fd ["self", "other"] (spEqB2 K CB CQ) ∧ PySem.W.findIn K (.ref CB) "__eq__" = some (some (.ref f)) ∧ PySem.W.isFn K (.ref f) = true ∧ Binds K fd ["self", "other"] []
  qeq : ∃ (f : Addr) (fd : FuncData), FnOk P w K mg base CX0 2 f fd ["self", "other"] (spQEq K CQ) ∧ PySem.W.findIn K (.ref CQ) "__eq__" = some (some (.ref f)) ∧ PySem.W.isFn K (.ref f) = true ∧ Binds K fd ["self", "other"] []
  twin : ∃ (f : Addr) (fd : FuncData), FnOk P w K mg base CX0 8 f fd ["self"] (spTwin CB CQ) ∧ Meth K CB "twin" f ∧ Binds K fd ["self"] []
  rest : ∃ (f : Addr) (fd : FuncData), FnOk P w K mg base (L2.CX P w) 5 f fd ["bank", "day", "rest"] (spResting K CB CQ (c 2) (c 4)) ∧ PySem.W.keepIn K (.ref f) = true ∧ Binds K fd ["bank", "day", "rest"] [] ∧ mg "resting" = some (.ref f)
  isB : OTy K CB
  isQ : OTy K CQ
end Pk
/-! ### a bank by other names -/
namespace Pk
open PySem L2
structure Ren (B C : BD) (ρ : Str → Str) : Prop where
  ns : C.ns.Perm (B.ns.map ρ)
  f : ∀ n ∈ B.ns, C.f (ρ n) = { B.f n with nm := ρ n }
  os : C.os.Perm (B.os.map ρ)
  g : ∀ n ∈ B.os, C.g (ρ n) = B.g n
  h : ∀ n ∈ B.ns, C.h (ρ n) = B.h n
theorem Ren.back {B C D : BD} {ρ σ : Str → Str} (r : Ren B C ρ) (k : Ren C D σ) (g : GoodB B) (e : ∀ n ∈ B.ns, σ (ρ n) = n) : EqvB D B where
  ns := by
    refine k.ns.trans ((r.ns.map σ).trans ?_)
    rw [List.map_map]
    have : B.ns.map (σ ∘ ρ) = B.ns := by
      rw [List.map_congr_left (f := σ ∘ ρ) (g := id) (fun n hn => e n hn), List.map_id]
    rw [this]
  os := by
    refine k.os.trans ((r.os.map σ).trans ?_)
    rw [List.map_map]
    have : B.os.map (σ ∘ ρ) = B.os := by
      rw [List.map_congr_left (f := σ ∘ ρ) (g := id) (fun n hn => e n (g.os n hn)), List.map_id]
    rw [this]
  f := fun n hn => by
    have hB : n ∈ B.ns := by
      have z := (k.ns.trans (r.ns.map σ)).mem_iff.mp hn
      rw [List.map_map] at z
      obtain ⟨m, hm, rfl⟩ := List.mem_map.mp z
      rw [Function.comp, e m hm]
      exact hm
    have h1 := k.f (ρ n) (r.ns.mem_iff.mpr (List.mem_map_of_mem hB))
    rw [e n hB, r.f n hB] at h1
    rw [h1]
    have := (g.nm n hB).2
    cases hq : B.f n with
    | mk a b c d e f g2 =>
      rw [hq] at this
      show (⟨n, b, c, d, e, f, g2⟩ : QD) = _
      rw [← this]
  g := fun n hn => by
    have hB : n ∈ B.os := by
      have z := (k.os.trans (r.os.map σ)).mem_iff.mp hn
      rw [List.map_map] at z
      obtain ⟨m, hm, rfl⟩ := List.mem_map.mp z
      rw [Function.comp, e m (g.os m hm)]
      exact hm
    have h1 := k.g (ρ n) (r.os.mem_iff.mpr (List.mem_map_of_mem hB))
    rw [e n (g.os n hB), r.g n hB] at h1
    exact h1
  h := fun n hn => by
    have hB : n ∈ B.ns := by
      have z := (k.ns.trans (r.ns.map σ)).mem_iff.mp hn
      rw [List.map_map] at z
      obtain ⟨m, hm, rfl⟩ := List.mem_map.mp z
      rw [Function.comp, e m hm]
      exact hm
    have h1 := k.h (ρ n) (r.ns.mem_iff.mpr (List.mem_map_of_mem hB))
    rw [e n hB, r.h n hB] at h1
    exact h1
/-- the names keep their order -/
structure RenO (B C : BD) (ρ : Str → Str) : Prop where
  r : Ren B C ρ
  o : ((srt B.ns).map ρ).Pairwise leS
  inj : ∀ m ∈ B.ns, ∀ n ∈ B.ns, ρ m = ρ n → m = n
theorem RenO.srtN {B C : BD} {ρ : Str → Str} (x : RenO B C ρ) : srt C.ns = (srt B.ns).map ρ :=
  perm_eq ((srt_perm C.ns).trans (x.r.ns.trans ((srt_perm B.ns).symm.map ρ))) (srt_pair _) x.o
theorem RenO.srtO {B C : BD} {ρ : Str → Str} (x : RenO B C ρ) (g : GoodB B) : srt C.os = (srt B.os).map ρ := by
  have e : srt B.os = (srt B.ns).filter fun n => decide (n ∈ B.os) := by
    refine perm_eq ?_ (srt_pair _) ((srt_pair _).filter _)
    refine (List.perm_ext_iff_of_nodup (srt_nd g.od) ((srt_nd g.nd).filter _)).mpr fun n => ?_
    rw [srt_mem, List.mem_filter, srt_mem, decide_eq_true_iff]
    exact ⟨fun h => ⟨g.os n h, h⟩, fun h => h.2⟩
  refine perm_eq ((srt_perm C.os).trans (x.r.os.trans ((srt_perm B.os).symm.map ρ))) (srt_pair _) ?_
  rw [e]
  exact x.o.sublist (List.filter_sublist.map ρ)
theorem RenO.memO {B C : BD} {ρ : Str → Str} (x : RenO B C ρ) (g : GoodB B) {n : Str} (hn : n ∈ B.ns) : ρ n ∈ C.os ↔ n ∈ B.os := by
  rw [x.r.os.mem_iff, List.mem_map]
  exact ⟨fun ⟨m, hm, e⟩ => by rw [← x.inj m (g.os m hm) n hn e]; exact hm, fun h => ⟨n, h, rfl⟩⟩
theorem filter_map_eq {α β : Type} {f : α → β} {p : β → Bool} {q : α → Bool} : ∀ {l : List α}, (∀ a ∈ l, p (f a) = q a) → (l.map f).filter p = (l.filter q).map f
  | [], _ => rfl
  | a :: l, h => by
    have ih := filter_map_eq (l := l) fun b hb => h b (List.mem_cons_of_mem _ hb)
    rw [List.map_cons, List.filter_cons, List.filter_cons, h a List.mem_cons_self, ih]
    cases q a <;> rfl
theorem RenO.insN {B C : BD} {ρ : Str → Str} (x : RenO B C ρ) (g : GoodB B) : C.ins = B.ins.map ρ := by
  unfold BD.ins
  rw [x.srtN]
  refine filter_map_eq fun n hn => ?_
  have := x.memO g (srt_mem.mp hn)
  by_cases h : n ∈ B.os
  · rw [decide_eq_true h, decide_eq_true (this.mpr h)]
  · rw [decide_eq_false h, decide_eq_false fun z => h (this.mp z)]
theorem inN {B : BD} {n : Str} (h : n ∈ B.ins) : n ∈ B.ns := srt_mem.mp (List.mem_filter.mp h).1
theorem RenO.foundN {B C : BD} {ρ : Str → Str} (x : RenO B C ρ) (g : GoodB B) (A : Ask) : C.found A = (B.found A).map ρ := by
  unfold BD.found
  rw [x.insN g]
  refine filter_map_eq fun n hn => ?_
  have hn := inN hn
  rw [x.r.f n hn, x.r.h n hn]
  rfl
theorem RenO.msN {B C : BD} {ρ : Str → Str} (x : RenO B C ρ) (g : GoodB B) : C.ms = B.ms := by
  unfold BD.ms
  rw [x.insN g, List.map_map]
  congr 1
  exact List.map_congr_left fun n hn => by rw [Function.comp, x.r.f n (inN hn)]
theorem RenO.outsN {B C : BD} {ρ : Str → Str} (x : RenO B C ρ) (g : GoodB B) : ((srt C.os).map fun n => (n, C.g n)) = (srt B.os).map fun n => (ρ n, B.g n) := by
  rw [x.srtO g, List.map_map]
  exact List.map_congr_left fun n hn => by rw [Function.comp, x.r.g n (srt_mem.mp hn)]
theorem RenO.restsN {B C : BD} {ρ : Str → Str} (x : RenO B C ρ) (g : GoodB B) (p : List Int → Bool) : (C.ins.filter fun n => p (C.h n)) = (B.ins.filter fun n => p (B.h n)).map ρ := by
  rw [x.insN g]
  exact filter_map_eq fun n hn => by rw [x.r.h n (inN hn)]
end Pk
/-! ### banks that differ, or don't, behind a deed -/
namespace Pk
open PySem L2
theorem eqTb_iff {ns ms : List Str} {e : Str → Bool} : eqTb ns ms e = true ↔ ns.length = ms.length ∧ ∀ n ∈ ns, n ∈ ms ∧ e n = true := by
  unfold eqTb
  rw [Bool.and_eq_true, beq_iff_eq, List.all_eq_true]
  constructor
  · rintro ⟨h1, h2⟩
    refine ⟨h1, fun n hn => ?_⟩
    have := h2 n hn
    rw [Bool.and_eq_true, decide_eq_true_iff] at this
    exact this
  · rintro ⟨h1, h2⟩
    refine ⟨h1, fun n hn => ?_⟩
    rw [Bool.and_eq_true, decide_eq_true_iff]
    exact h2 n hn
theorem eqBk_iff {B C : BD} : eqBk B C = true ↔ (B.ns.length = C.ns.length ∧ ∀ n ∈ B.ns, n ∈ C.ns ∧ B.f n = C.f n) ∧ (B.os.length = C.os.length ∧ ∀ n ∈ B.os, n ∈ C.os ∧ B.g n = C.g n) ∧ ∀ n ∈ B.ns, B.h n = C.h n := by
  unfold eqBk
  rw [Bool.and_eq_true, Bool.and_eq_true, eqTb_iff, eqTb_iff, eqTb_iff]
  simp only [decide_eq_true_iff]
  exact ⟨fun ⟨a, b, c⟩ => ⟨a, b, fun n hn => (c.2 n hn).2⟩, fun ⟨a, b, c⟩ => ⟨a, b, a.1, fun n hn => ⟨(a.2 n hn).1, c n hn⟩⟩⟩
theorem eqBk_refl (B : BD) : eqBk B B = true := eqBk_iff.mpr ⟨⟨rfl, fun _ h => ⟨h, rfl⟩⟩, ⟨rfl, fun _ h => ⟨h, rfl⟩⟩, fun _ _ => rfl⟩
theorem eqBk_eqv {B C : BD} (e : EqvB B C) : eqBk B C = true := by
  rw [eqBk_congr (EqvB.refl B) e.symm]
  exact eqBk_refl B
theorem eqBk_not {B C : BD} (h : ¬ eqBk B C = true) : eqBk B C = false := by
  cases e : eqBk B C with
  | true => exact absurd e h
  | false => rfl
theorem out_ne {B C : BD} {n z : Str} (e : EqvB B C) (h : n ∉ B.os) : eqBk (B.out n z) C = false := eqBk_not fun k => by
  have := (eqBk_iff.mp k).2.1.1
  rw [show (B.out n z).os = putN B.os n from rfl, putN_new h, List.length_append, e.os.length_eq, List.length_singleton] at this
  omega
theorem drop_self {ns : List Str} {n : Str} (h : n ∉ ns) : (ns.filter fun m => decide (m ≠ n)) = ns := by
  refine List.filter_eq_self.mpr fun m hm => decide_eq_true ?_
  intro y
  exact h (y ▸ hm)
theorem out_back {B : BD} {n z : Str} (h : n ∉ B.os) : EqvB ((B.out n z).back n) B where
  ns := .refl _
  os := by
    show (dropN (putN B.os n) n).Perm B.os
    rw [putN_new h]
    unfold dropN
    rw [List.filter_append, drop_self h]
    simp
  f := fun _ _ => rfl
  g := fun m hm => by
    have ne : m ≠ n := (dropN_mem.mp hm).2
    exact upF_ne ne
  h := fun _ _ => rfl
theorem day_ne {B C : BD} {n : Str} {i : Int} (e : EqvB B C) (hn : n ∈ B.ns) (h : i ∉ B.h n) : eqBk (B.day n (addD (B.h n) i)) C = false := eqBk_not fun k => by
  have := (eqBk_iff.mp k).2.2 n hn
  rw [show (B.day n (addD (B.h n) i)).h n = addD (B.h n) i from upF_at _ _ _, ← e.h n hn] at this
  exact h (this ▸ addD_mem.mpr (.inr rfl))
theorem del_add {ds : List Int} {i : Int} (h : ds.Pairwise (· < ·)) (n : i ∉ ds) : delD (addD ds i) i = ds := by
  have nd : ∀ {l : List Int}, l.Pairwise (· < ·) → l.Nodup := fun h => h.imp fun z => by omega
  refine permZ_eq ((List.perm_ext_iff_of_nodup (nd (delD_pair (addD_pair h))) (nd h)).mpr fun z => ?_) ((delD_pair (addD_pair h)).imp Int.le_of_lt) (h.imp Int.le_of_lt)
  rw [delD_mem, addD_mem]
  exact ⟨fun ⟨a, b⟩ => a.elim id fun e => absurd e b, fun a => ⟨.inl a, fun e => n (e ▸ a)⟩⟩
theorem day_back {B : BD} {n : Str} {i : Int} (g : GoodB B) (hn : n ∈ B.ns) (h : i ∉ B.h n) : (B.day n (addD (B.h n) i)).day n (delD ((B.day n (addD (B.h n) i)).h n) i) = B := by
  rw [show (B.day n (addD (B.h n) i)).h n = addD (B.h n) i from upF_at _ _ _, del_add (g.dy n hn).1 h]
  show ({ B with h := upF (upF B.h n (addD (B.h n) i)) n (B.h n) } : BD) = B
  have : upF (upF B.h n (addD (B.h n) i)) n (B.h n) = B.h := by
    funext m
    by_cases e : m = n
    · rw [e, upF_at]
    · rw [upF_ne e, upF_ne e]
  rw [this]
theorem put_eq {B C : BD} {q : QD} (e : EqvB B C) (hn : q.nm ∈ B.ns) : eqBk (B.put q) C = decide (q = B.f q.nm) := by
  rw [eqBk_congr (EqvB.refl _) e.symm]
  by_cases h : q = B.f q.nm
  · rw [decide_eq_true h]
    refine eqBk_iff.mpr ⟨⟨rfl, fun n hn => ⟨hn, ?_⟩⟩, ⟨rfl, fun _ h => ⟨h, rfl⟩⟩, fun _ _ => rfl⟩
    show upF B.f q.nm q n = B.f n
    by_cases e : n = q.nm
    · rw [e, upF_at]; exact h
    · rw [upF_ne e]
  · rw [decide_eq_false h]
    refine eqBk_not fun k => h ?_
    have := ((eqBk_iff.mp k).1.2 q.nm hn).2
    rw [show (B.put q).f q.nm = q from upF_at _ _ _] at this
    exact this
theorem put_back {B : BD} {q : QD} {n : Str} (g : GoodB B) (hn : n ∈ B.ns) (hq : q.nm = n) : (B.put q).put (B.f n) = B := by
  show ({ B with f := upF (upF B.f q.nm q) (B.f n).nm (B.f n) } : BD) = B
  have : upF (upF B.f q.nm q) (B.f n).nm (B.f n) = B.f := by
    rw [(g.nm n hn).2, hq]
    funext m
    by_cases e : m = n
    · rw [e, upF_at]
    · rw [upF_ne e, upF_ne e]
  rw [this]
theorem dropN_len {ns : List Str} {n : Str} (nd : ns.Nodup) (h : n ∈ ns) : (dropN ns n).length + 1 = ns.length := by
  have p : (n :: dropN ns n).Perm ns := by
    refine (List.perm_ext_iff_of_nodup (List.nodup_cons.mpr ⟨fun z => (dropN_mem.mp z).2 rfl, nd.filter _⟩) nd).mpr fun m => ?_
    rw [List.mem_cons, dropN_mem]
    exact ⟨fun z => z.elim (fun e => e ▸ h) And.left, fun z => if e : m = n then .inl e else .inr ⟨z, e⟩⟩
  have := p.length_eq
  rw [List.length_cons] at this
  exact this
theorem drop_ne {B C : BD} {n : Str} (e : EqvB B C) (g : GoodB B) (hn : n ∈ B.ns) : eqBk (B.drop n) C = false := eqBk_not fun k => by
  have h1 := (eqBk_iff.mp k).1.1
  have h2 := dropN_len g.nd hn
  have h3 := e.ns.length_eq
  rw [show (B.drop n).ns = dropN B.ns n from rfl] at h1
  omega
theorem drop_add {B : BD} {n : Str} (g : GoodB B) (hn : n ∈ B.ns) (ho : n ∉ B.os) (hd : B.h n = []) : EqvB ((B.drop n).add (B.f n)) B where
  ns := by
    show (dropN B.ns n ++ [(B.f n).nm]).Perm B.ns
    rw [(g.nm n hn).2]
    have nd : (dropN B.ns n ++ [n]).Nodup := List.nodup_append.mpr ⟨g.nd.filter _, List.nodup_cons.mpr ⟨List.not_mem_nil, List.nodup_nil⟩, fun a ha b hb e => by
      rw [List.mem_singleton] at hb
      exact (dropN_mem.mp ha).2 (e.trans hb)⟩
    refine (List.perm_ext_iff_of_nodup nd g.nd).mpr fun m => ?_
    rw [List.mem_append, dropN_mem, List.mem_singleton]
    exact ⟨fun z => z.elim And.left (fun e => e ▸ hn), fun z => if e : m = n then .inr e else .inl ⟨z, e⟩⟩
  os := by
    show (dropN B.os n).Perm B.os
    unfold dropN
    rw [drop_self ho]
  f := fun m _ => by
    show upF B.f (B.f n).nm (B.f n) m = B.f m
    rw [(g.nm n hn).2]
    by_cases e : m = n
    · rw [e, upF_at]
    · rw [upF_ne e]
  g := fun _ _ => rfl
  h := fun m _ => by
    show upF B.h (B.f n).nm [] m = B.h m
    rw [(g.nm n hn).2]
    by_cases e : m = n
    · rw [e, upF_at, hd]
    · rw [upF_ne e]
theorem mem_ins {B : BD} {n : Str} (hn : n ∈ B.ns) : n ∈ B.ins ↔ n ∉ B.os := by
  unfold BD.ins
  rw [List.mem_filter, srt_mem, Bool.not_eq_true', decide_eq_false_iff_not]
  exact ⟨And.right, fun h => ⟨hn, h⟩⟩
theorem out_ins {B : BD} {n z : Str} (g : GoodB B) (hn : n ∈ B.ns) (h : n ∉ B.os) : (B.out n z).ins.length + 1 = B.ins.length := by
  have e : (B.out n z).ins = dropN B.ins n := by
    unfold BD.ins dropN
    rw [List.filter_filter]
    refine List.filter_congr fun m hm => ?_
    show (!decide (m ∈ putN B.os n)) = (decide (m ≠ n) && !decide (m ∈ B.os))
    rw [Bool.eq_iff_iff, Bool.and_eq_true, Bool.not_eq_true', Bool.not_eq_true', decide_eq_false_iff_not, decide_eq_true_iff, decide_eq_false_iff_not, putN_mem]
    exact ⟨fun z => ⟨fun e => z (.inr e), fun e => z (.inl e)⟩, fun z => fun e => e.elim z.2 z.1⟩
  rw [e]
  exact dropN_len ((srt_nd g.nd).filter _) ((mem_ins hn).mpr h)
end Pk
namespace Pk
open PySem L2
/-! ### deeds that are due; banks that a law leads -/
section
variable {CB CQ : Addr} {H H' : Hp} {b k r d : Addr} {B : BD}
theorem BankAt.dk (h : BankAt CB CQ H b k r d B) : ∀ x ∈ [k, r, d], ∃ kvs, H x = some (.dK kvs) := fun x hx => by
  obtain ⟨h1, h2, h3⟩ := h.isB
  simp only [List.mem_cons, List.not_mem_nil, or_false] at hx
  rcases hx with rfl | rfl | rfl
  · exact h1
  · exact h2
  · exact h3
end
section
variable {CB CQ cN cP cG cX : Addr} {H : Hp} {b k r d : Addr} {B : BD} {n : Str} {i : Int} {Q : VK}
theorem used_go (hB : BankAt CB CQ H b k r d B) (hn : n ∈ B.ns) (l1 : B.ns.length ≤ 1000) (l2 : ∀ m ∈ B.ns, (B.h m).length ≤ 1000) (i0 : 0 ≤ i) (i9 : i ≤ 9999) (q : ∀ H', Bt [d] H H' → BankAt CB CQ H' b k r d (B.day n (addD (B.h n) i)) → Q .non H') : spUsedB CB CQ cN cP [.ref b, .str n, .int i] H Q E0 :=
  ⟨b, k, r, d, B, .str n, .int i, rfl, hB, l1, l2, .int _, .inl ⟨n, hn, rfl, fun hw => absurd hw (by rw [whole_of i0 i9]; simp), fun j e _ _ H' u hb' => by cases e; exact q H' u hb'⟩⟩
theorem unused_go (hB : BankAt CB CQ H b k r d B) (hn : n ∈ B.ns) (l1 : B.ns.length ≤ 1000) (l2 : ∀ m ∈ B.ns, (B.h m).length ≤ 1000) (i0 : 0 ≤ i) (i9 : i ≤ 9999) (hi : i ∈ B.h n) (q : ∀ H', Bt [d] H H' → BankAt CB CQ H' b k r d (B.day n (delD (B.h n) i)) → Q .non H') : spUnusedB CB CQ cN cP cG [.ref b, .str n, .int i] H Q E0 :=
  ⟨b, k, r, d, B, .str n, .int i, rfl, hB, l1, l2, .int _, .inl ⟨n, hn, rfl, fun hw => absurd hw (by rw [whole_of i0 i9]; simp), fun j e _ _ => by cases e; exact ⟨fun h => absurd hi h, fun _ H' u hb' => q H' u hb'⟩⟩⟩
theorem out_go {z : Str} (hB : BankAt CB CQ H b k r d B) (hn : n ∈ B.ns) (l1 : B.os.length ≤ 1000) (tz : textT z = true) (q : ∀ H', Bt [r] H H' → BankAt CB CQ H' b k r d (B.out n z) → Q .non H') : spOutB CB CQ cN cX [.ref b, .str n, .str z] H Q E0 :=
  ⟨b, k, r, d, B, .str n, .str z, rfl, hB, l1, text_thg tz, .inl ⟨n, hn, rfl, fun t e ht H' u hb' => by cases e; exact q H' u hb', fun h => by rw [show textV (.str z) = textT z from rfl, tz] at h; cases h⟩⟩
theorem back_go (hB : BankAt CB CQ H b k r d B) (hn : n ∈ B.ns) (ho : n ∈ B.os) (q : ∀ H', Bt [r] H H' → BankAt CB CQ H' b k r d (B.back n) → Q .non H') : spBackB CB CQ cN cG [.ref b, .str n] H Q E0 :=
  ⟨b, k, r, d, B, .str n, rfl, hB, .inl ⟨n, hn, rfl, fun _ H' u hb' => q H' u hb', fun h => absurd ho h⟩⟩
theorem put_go {K : PySem.W.Frag} {cK cN x : Addr} {q : QD} (hB : BankAt CB CQ H b k r d B) (l1 : B.ns.length ≤ 1000) (qi : QI CQ H x q) (nm : nameT q.nm = true) (hn : q.nm ∈ B.ns) (q1 : ∀ H', Bt [k] H H' → BankAt CB CQ H' b k r d (B.put q) → Q .non H') : spPutB K CB CQ cK cN [.ref b, .ref x] H Q E0 :=
  ⟨b, k, r, d, B, .ref x, rfl, hB, l1, .inl ⟨x, q, rfl, qi, name_thg nm, fun h => absurd hn h, fun _ H' u hb => q1 H' u hb⟩⟩
theorem drop_go (hB : BankAt CB CQ H b k r d B) (g : GoodB B) (hn : n ∈ B.ns) (q : ∀ H', Bt [k, r, d] H H' → BankAt CB CQ H' b k r d (B.drop n) → Q .non H') : spDroppedB CB CQ cN [.ref b, .str n] H Q E0 :=
  ⟨b, k, r, d, B, .str n, rfl, hB, g.os, .inl ⟨n, hn, rfl, fun H' u hb => q H' u hb⟩⟩
theorem add_go {K : PySem.W.Frag} {cK cT cM x : Addr} {q : QD} (hB : BankAt CB CQ H b k r d B) (qi : QI CQ H x q) (hn : q.nm ∉ B.ns) (l : B.ns.length < 60) (q1 : ∀ H', Bt [k, d] H H' → BankAt CB CQ H' b k r d (B.add q) → Q .non H') : spAddedB K CB CQ cK cT cM [.ref b, .ref x] H Q E0 :=
  ⟨b, k, r, d, B, .ref x, rfl, hB, .inl ⟨x, q, rfl, qi, fun h => absurd h hn, fun _ h => absurd h (by omega), fun _ _ H' u hb => q1 H' u hb⟩⟩
theorem last_go (hB : BankAt CB CQ H b k r d B) (hn : n ∈ B.ns) (l2 : ∀ m ∈ B.ns, (B.h m).length ≤ 1000) (i0 : 0 ≤ i) (i9 : i ≤ 9999) (q : ∀ H', Same H H' → Q (optV (lastD (B.h n) i)) H') : spLastB CB CQ cN cP [.ref b, .str n, .int i] H Q E0 :=
  ⟨b, k, r, d, B, .str n, .int i, rfl, hB, l2, .int _, .inl ⟨n, hn, rfl, fun hw => absurd hw (by rw [whole_of i0 i9]; simp), fun j e _ _ H' s => by cases e; exact q H' s⟩⟩
theorem rest_go {K : PySem.W.Frag} {cK : Addr} {j : Int} (hB : BankAt CB CQ H b k r d B) (g : GoodB B) (i0 : 0 ≤ i) (i9 : i ≤ 9999) (j0 : 0 ≤ j) (j9 : j ≤ 9999) (q : ∀ (p : Addr) (H' : Hp), Same H H' → H p = none → H' p = some (.lst ((B.rests i j).map V.str)) → Q (.ref p) H') : spResting K CB CQ cK cP [.ref b, .int i, .int j] H Q E0 :=
  ⟨.ref b, .int i, .int j, rfl, .inl ⟨b, k, r, d, B, rfl, hB, g, .int _, .int _, fun hw => absurd hw (by rw [whole_of i0 i9]; simp), fun _ hw => absurd hw (by rw [whole_of j0 j9]; simp), fun i' j' e1 e2 _ _ => by cases e1; cases e2; exact q⟩⟩
end
section
variable {CB CQ : Addr} {H G : Hp} {b k r d : Addr} {B : BD}
theorem BankAt.off (h : BankAt CB CQ H b k r d B) (u : Bt [k, r, d] H G) {q : Addr} {w : HO} (nw : ∀ kvs, w ≠ .dK kvs) (e : H q = some w) : G q = some w := u q w (fun z => by
  obtain ⟨kv, ek⟩ := h.dk q z
  rw [e] at ek
  cases ek
  exact nw _ rfl) e
theorem BankAt.other {b2 k2 r2 d2 : Addr} {C : BD} (h : BankAt CB CQ H b k r d B) (h2 : BankAt CB CQ H b2 k2 r2 d2 C) (u : Bt [k, r, d] H G) (n1 : k2 ∉ [k, r, d]) (n2 : r2 ∉ [k, r, d]) (n3 : d2 ∉ [k, r, d]) : BankAt CB CQ G b2 k2 r2 d2 C :=
  h2.by (fun a o _ _ _ n e => h.off u n e) (fun _ e => u _ _ n1 e) (fun _ e => u _ _ n2 e) (fun _ e => u _ _ n3 e)
theorem QI.off2 {x : Addr} {q : QD} (h : BankAt CB CQ H b k r d B) (qi : QI CQ H x q) (u : Bt [k, r, d] H G) : QI CQ G x q := qi.by fun a o n _ e => h.off u n e
theorem DrawAt.ap {e : Addr} {t : Int} (D : DrawAt H e t) (h : BankAt CB CQ H b k r d B) : e ∉ [k, r, d] := fun z => by
  simp only [List.mem_cons, List.not_mem_nil, or_false] at z
  rcases z with z | z | z
  · exact D.tb h.kept (fun m v ⟨x, e, _⟩ i => by rw [e]; exact fun z => nomatch z) z.symm
  · exact D.tb h.outs (fun m v e i => by rw [show v = .str (B.g m) from e]; exact fun z => nomatch z) z.symm
  · exact D.tb h.days (fun m v ⟨x, e, _⟩ i => by rw [e]; exact fun z => nomatch z) z.symm
end
theorem in_strs {z : Str} : ∀ zs : List Str, inV (.str z) (zs.map V.str) = decide (z ∈ zs)
  | [] => rfl
  | w :: zs => by
    show ((w == z) || inV (.str z) (zs.map V.str)) = _
    rw [in_strs zs, Bool.eq_iff_iff, Bool.or_eq_true, beq_iff_eq, decide_eq_true_iff, decide_eq_true_iff, List.mem_cons]
    exact ⟨fun h => h.imp Eq.symm id, fun h => h.imp Eq.symm id⟩
theorem flat_strs (zs : List Str) : (zs.map V.str).all flatV = true := List.all_eq_true.mpr fun x hx => by
  obtain ⟨z, _, rfl⟩ := List.mem_map.mp hx
  rfl
structure Led (ls ks : List Str) (m : Nat) (B : BD) : Prop where
  good : GoodB B
  ws : NdB B
  ns : ∀ n, n ∈ B.ns ↔ n ∈ ls
  ki : ∀ n ∈ B.ns, (B.f n).ki = "" ∨ (B.f n).ki ∈ ks
  hl : ∀ n ∈ B.ns, (B.h n).length ≤ m
section
variable {ls ks : List Str} {m : Nat} {B : BD} {n : Str}
theorem Led.mono {p : Nat} (h : Led ls ks m B) (l : m ≤ p) : Led ls ks p B := ⟨h.good, h.ws, h.ns, h.ki, fun n hn => Nat.le_trans (h.hl n hn) l⟩
theorem Led.out {z : Str} (h : Led ls ks m B) (hn : n ∈ B.ns) (t : textT z = true) : Led ls ks m (B.out n z) := ⟨h.good.out hn t, h.ws, h.ns, h.ki, h.hl⟩
theorem Led.back (h : Led ls ks m B) : Led ls ks m (B.back n) := ⟨h.good.back, h.ws, h.ns, h.ki, h.hl⟩
theorem Led.day {i : Int} (h : Led ls ks m B) (hn : n ∈ B.ns) (m4 : m ≤ 400) (i0 : 0 ≤ i) (i9 : i ≤ 9999) : Led ls ks (m + 1) (B.day n (addD (B.h n) i)) := by
  have dy := h.good.dy n hn
  have hl := h.hl n hn
  have al := addD_len (ds := B.h n) (i := i)
  refine ⟨h.good.day ⟨addD_pair dy.1, fun j hj => ?_, by omega⟩, h.ws, h.ns, h.ki, fun x hx => ?_⟩
  · rcases addD_mem.mp hj with h | h
    · exact dy.2.1 j h
    · rw [h]; exact ⟨i0, i9⟩
  · show (upF B.h n (addD (B.h n) i) x).length ≤ _
    by_cases e : x = n
    · rw [e, upF_at]; omega
    · rw [upF_ne e]; have := h.hl x hx; omega
theorem Led.eqv {C : BD} (h : Led ls ks m B) (e : EqvB B C) : Led ls ks m C := ⟨e.good h.good, fun n hn => by
  rw [← e.f n ((e.mem n).mpr hn)]; exact h.ws n ((e.mem n).mpr hn), fun n => (e.mem n).symm.trans (h.ns n), fun n hn => by
  rw [← e.f n ((e.mem n).mpr hn)]; exact h.ki n ((e.mem n).mpr hn), fun n hn => by
  rw [← e.h n ((e.mem n).mpr hn)]; exact h.hl n ((e.mem n).mpr hn)⟩
end
end Pk
namespace Pk
open PySem L2
/-! ### _law_led -/
def spLed (CB CQ : Addr) : Sp := fun vs H Q _ => ∃ (e kd ll : Addr) (t turns : Int) (ks ls : List Str), vs = [.ref e, .ref kd, .ref ll, .int turns] ∧ DrawAt H e t ∧ 0 ≤ t ∧ t ≤ 80000 ∧ 0 ≤ turns ∧ turns ≤ 20 ∧ H kd = some (.lst (ks.map V.str)) ∧ 1 ≤ ks.length ∧ ks.length ≤ 8 ∧ (∀ z ∈ ks, nameT z = true) ∧ H ll = some (.lst (ls.map V.str)) ∧ 1 ≤ ls.length ∧ ls.length ≤ 8 ∧ ls.Nodup ∧ (∀ z ∈ ls, nameT z = true) ∧
  ∀ (b k r d : Addr) (B : BD) (H' : Hp) (t' : Int), Bt [e] H H' → H b = none → H k = none → H r = none → H d = none → BankAt CB CQ H' b k r d B → Led ls ks 20 B → DrawAt H' e t' → t ≤ t' → t' ≤ t + 200 → Q (.ref b) H'
theorem BankAt.off4 {CB CQ : Addr} {H G : Hp} {b k r d e : Addr} {B : BD} {t : Int} (h : BankAt CB CQ H b k r d B) (u : Bt [e, k, r, d] H G) (D : DrawAt H e t) {q : Addr} {w : HO} (nw : ∀ kvs, w ≠ .dK kvs) (x : H q = some w) : G q = some w := u q w (fun z => by
  rcases List.mem_cons.mp z with z | z
  · exact D.ne x nw z
  · obtain ⟨kv, ek⟩ := h.dk q z
    rw [x] at ek
    cases ek
    exact nw _ rfl) x
theorem bank0 {qs : List QD} {ls ks : List Str} (v : ∀ q ∈ qs, QG q ∧ (q.ki = "" ∨ q.ki ∈ ks)) (e : qs.map QD.nm = ls) (nd : ls.Nodup) (l : ls.length ≤ 8) : Led ls ks 0 (bOf qs) := by
  have lq : qs.length = ls.length := by rw [← e, List.length_map]
  have ndq : (qs.map QD.nm).Nodup := by rw [e]; exact nd
  have at_ : ∀ n ∈ (bOf qs).ns, ∃ q ∈ qs, (bOf qs).f n = q ∧ (bOf qs).h n = [] := fun n hn => by
    rw [bOf_ns] at hn
    obtain ⟨q, hq, rfl⟩ := List.mem_map.mp hn
    obtain ⟨a, b⟩ := fold_at qs B0 q ndq hq
    exact ⟨q, hq, a, b⟩
  refine ⟨bOf_good (fun q hq => (v q hq).1) ndq (by omega), fun n hn => ?_, fun n => by rw [bOf_ns, e], fun n hn => ?_, fun n hn => ?_⟩
  · obtain ⟨q, hq, e, _⟩ := at_ n hn
    rw [e]; exact (v q hq).1.nd
  · obtain ⟨q, hq, e, _⟩ := at_ n hn
    rw [e]; exact (v q hq).2
  · obtain ⟨q, hq, _, e⟩ := at_ n hn
    rw [e]; exact Nat.le_refl _
/-- label in [one for one, reason in bank.outs()] -/
def tIsOut (CB CQ : Addr) : TT := fun σ H Q => ∃ (b k r d : Addr) (B : BD) (n : Str) (v0 v1 v2 v3 v6 v7 v8 : Option V), σ = [v0, v1, v2, v3, some (.str n), some (.ref b), v6, v7, v8, none, none] ∧ BankAt CB CQ H b k r d B ∧ B.os.length ≤ 60 ∧ ∀ H', Same H H' → Q (decide (n ∈ B.os)) H'
section
variable {P : Program} {w : World} {K : PySem.W.Frag} {mg : Str → Option Value} {base : Heap} {CB CQ cN cK cT cM : Addr} {c : Nat → Addr}
abbrev NLed : List Str := ["_law_state", "_law_kinds", "_law_labels", "_law_turns", "_law_label", "_law_bank", "_law_turn", "_law_way", "_law_when", "_law_one", "_law_reason"]
theorem scLed : FnScope NLed ["_law_state", "_law_kinds", "_law_labels", "_law_turns"] (defScope sLed) := ⟨rfl, rfl, rfl, by decide +kernel, rfl, by decide +kernel, by decide +kernel⟩
theorem ok_led {f fT fI fR fM : Addr} {fd fdT fdI fdR fdM : FuncData} (F : Fun K "_law_led" "_law_led" sLed f fd) (W : BkW P w K mg base CB CQ cN) (DW : DeedW P w K mg base CB CQ c) (mra : mg "range" = none) (ml : mg "len" = none)
    (GT : FnOk P w K mg base CX0 2 fT fdT ["_law_state", "_law_many"] spTake) (kT : PySem.W.keepIn K (.ref fT) = true) (bT : Binds K fdT ["_law_state", "_law_many"] []) (gT : mg "_law_take" = some (.ref fT))
    (FI : FunB K fI fdI) (GI : FnOk P w K mg base (L2.CX P w) 6 fI fdI ["self", "questions"] (spInitB K CB CQ cK cT cM)) (M : Mk K CB fI) (gB : mg "Bank" = some (.ref CB))
    (GR : FnOk P w K mg base CX0 3 fR fdR ["_law_state", "_law_label", "_law_kinds"] spRow) (kR : PySem.W.keepIn K (.ref fR) = true) (bR : Binds K fdR ["_law_state", "_law_label", "_law_kinds"] []) (gR : mg "_law_row" = some (.ref fR))
    (GM : FnOk P w K mg base CX0 7 fM fdM ["_law_row_here"] (spMade CQ)) (kM : PySem.W.keepIn K (.ref fM) = true) (bM : Binds K fdM ["_law_row_here"] []) (gM : mg "_law_made" = some (.ref fM)) :
    FnOk P w K mg base CX0 8 f fd ["_law_state", "_law_kinds", "_law_labels", "_law_turns"] (spLed CB CQ) := by
  obtain ⟨fO, fdO, FO, GO, MO⟩ := DW.out
  obtain ⟨fB, fdB, FB, GB, MB, bB⟩ := DW.back
  obtain ⟨fS, fdS, FS, GS, MS, bS⟩ := DW.used
  obtain ⟨fOu, fdOu, GOu, MOu, bOu⟩ := W.outs
  obtain ⟨it3, kO3⟩ := kOut3 FO
  obtain ⟨d1, hd1, bb1⟩ := bB1 FI
  refine F.ok scLed (fun vs H Q E h => ?_) (fun cdv A outer s H vs Q E hr h => ?_)
  · obtain ⟨e, kd, ll, t, turns, ks, ls, rfl, _⟩ := h
    rfl
  · obtain ⟨e, kd, ll, t, turns, ks, ls, rfl, D, t0, t8, w0, w20, hkd, k1, k8, nks, hll, l1, l8, ndl, nls, fin⟩ := h
    have hu := hu_of hr
    have r1 : Room 1 _ := hr.mono (by decide)
    have r2 : Room 2 _ := hr.mono (by decide)
    have r3 : Room 3 _ := hr.mono (by decide)
    have r5 : Room 5 _ := hr.mono (by decide)
    have r7 : Room 7 _ := hr.mono (by decide)
    refine ⟨_, pss_cons (ps_set (i := 5) scLed.nd rfl (.inl rfl) (pe_make (E := E0) M GI r7 (by rfl) gB bb1 hd1 pass_no (pa_cons (pe_lc (own := [("_law_label", 4)]) (g := gName 4) (te := tCall (spMade CQ) [] E0 (tCons (tCall spRow [] E0 (tCons (tVar 0) (tCons (tVar 4) (tCons (tVar 1) tNil)))) tNil)) rfl scLed.nd (pi_list (pv 2)) (blkOk_by (N := NLed) (sc := defScope sLed) (by decide +kernel))
          (fun _ _ _ _ _ => pg_name (i := 4) scLed.nd rfl (Or.inl rfl)) (fun _ _ _ _ _ => pts_nil) (fun _ _ _ _ _ => pe_call (E := E0) GM r7 (by rfl) gM kM bM .nil pass0 (pa_cons (pe_call (E := E0) GR r3 (by rfl) gR kR bR .nil pass0 (pa_cons (pv 0) (pa_cons (pv 4) (pa_cons (pv 1) pa_nil)))) pa_nil))) pa_nil)))
      (pss_cons (ps_for PassesOwn.never rfl (pi_range1 (by rfl) mra (pa_cons (pv 3) pa_nil)) (pg_name (i := 6) scLed.nd rfl (.inl rfl))
        (pss_cons (ps_par3 (i := 7) (j := 4) (l := 8) (by rfl) scLed.nd rfl rfl rfl (by decide) (by decide) (by decide) rfl rfl rfl (pa_cons (pe_call (E := E0) GT r2 (by rfl) gT kT bT .nil pass0 (pa_cons (pv 0) (pa_cons pe_int pa_nil))) (pa_cons (pe_ix ix_list (pv 2) (pe_call (E := E0) GT r2 (by rfl) gT kT bT .nil pass0 (pa_cons (pv 0) (pa_cons (pe_callB call_lenQ (by rfl) ml PySem.boot_len (pa_cons (pv 2) pa_nil)) pa_nil))) (fun _ _ => rfl)) (pa_cons (pe_call (E := E0) GT r2 (by rfl) gT kT bT .nil pass0 (pa_cons (pv 0) (pa_cons pe_int pa_nil))) pa_nil))) (by rfl))
        (pss_one (ps_if (pt_cmpR op_lt (pv 7) pe_int (nomark _)) (pss_one (ps_expr (pe_meth (E := E0) (pv 5) DW.C.cls MS GS r5 bS .nil pass_no (pa_cons (pv 4) (pa_cons (pv 8) pa_nil))))) (pss_one (ps_if (pt_cmpR op_eq (pv 7) pe_int (nomark _)) (pss_one (ps_expr (pe_methNP (E := E0) (pv 5) DW.C.cls MO GO r5 kO3 pass_no (pa_cons (pv 4) pa_nil) (by exact (pk_cons (pe_ix ix_list (pe_lst (pa_cons pe_str (pa_cons pe_str pa_nil))) (pe_op op_mod (pv 8) pe_int) (fun _ _ => rfl)) pk_nil))))) (pss_one (ps_if (pt_imp (tIsOut CB CQ) (pt_cmpR op_in_seq (pv 4) (pe_lc (own := [("_law_one", 9), ("_law_reason", 10)]) (g := gTup K 2 (gCons (gName 9) (gCons (gName 10) gNil))) (te := tVar 9) rfl scLed.nd (pi_list (pe_meth0 (pv 5) W.C.cls MOu GOu r1 bOu .nil pass0)) (blkOk_by (N := NLed) (sc := defScope sLed) (by decide +kernel))
          (fun _ _ _ _ _ => pg_tup rfl (pgs_cons (pg_name (i := 9) scLed.nd rfl (Or.inl rfl)) (pgs_cons (pg_name (i := 10) scLed.nd rfl (Or.inl rfl)) pgs_nil))) (fun _ _ _ _ _ => pts_nil) (fun _ _ _ _ _ => pv 9)) (by rfl)) (by
          rintro σ H Q ⟨b, k, r, d, B, n, v0, v1, v2, v3, v6, v7, v8, rfl, hB, lo, q⟩
          obtain ⟨dx, hb⟩ := id hB.at_
          refine ⟨_, rfl, _, rfl, b, dx, _, rfl, hb, lb_meth (by decide) _ _ _, b, k, r, d, B, rfl, hB, by omega, fun p H1 s1 n1 ⟨as, hp, la, ha⟩ => ?_⟩
          have las : as.length = B.os.length := by rw [la, List.length_map, srt_len]
          refine ⟨p, rfl, ⟨_, SqL.of hp⟩, fun D nD => ?_⟩
          have aD : ∀ {a : Addr} {o : HO}, H1 a = some o → a ≠ D := fun {a o} e => ne_of_none e nD
          refine lc_it (walk_list (K := K) (a := p) (xs := as.map V.ref)) (fun i G => (∀ a u, a ≠ D → H1 a = some u → G a = some u) ∧ G D = some (.lst (((srt B.os).take i).map V.str))) ⟨fun a u n e => by rw [upd_ne n]; exact e, upd_same⟩ (fun i G _ h => SqL.of (h.1 _ _ (aD hp) hp)) ?_ ?_
          · rintro i x G G' hi ⟨kpG, hd⟩ ⟨rfl, hx⟩
            obtain ⟨a, ea, rfl⟩ := getD_map hx
            have il := (List.getElem?_eq_some_iff.mp ea).1
            have hm : (srt B.os)[i]? = some ((srt B.os)[i]'(by rw [srt_len]; omega)) := List.getElem?_eq_getElem _
            have hta := ha i a _ ea (by rw [List.getElem?_map, hm]; rfl)
            have htG := kpG _ _ (aD hta) hta
            refine ⟨a, _, rfl, SqT.of htG, rfl, _, _, rfl, _, _, rfl, rfl, rfl, ?_⟩
            refine ⟨_, rfl, _, hd, by rw [List.length_map, List.length_take, srt_len, sizeLine_eq]; omega, fun c o n e => by rw [upd_ne n]; exact kpG c o n e, ?_⟩
            rw [upd_same, List.take_add_one, hm, List.map_append]
            rfl
          rintro G ⟨kpG, hd⟩
          rw [List.length_map, las] at hd
          rw [show (srt B.os).take B.os.length = srt B.os from List.take_of_length_le (by rw [srt_len]; exact Nat.le_refl _)] at hd
          have sG : Same H1 G := fun a u e => kpG a u (aD e) e
          refine ⟨D, _, rfl, .inl (SqL.of hd), rfl, flat_strs _, _, rfl, ?_⟩
          rw [in_strs, show decide (n ∈ srt B.os) = decide (n ∈ B.os) by rw [Bool.eq_iff_iff, decide_eq_true_iff, decide_eq_true_iff, srt_mem]]
          exact q _ (s1.trans sG))) (pss_one (ps_expr (pe_meth (E := E0) (pv 5) DW.C.cls MB GB r5 bB .nil pass_no (pa_cons (pv 4) pa_nil)))) pss_nil))))))))
      (pss_one (ps_ret (pv 5)))), ?_⟩
    have De0 := D
    refine ⟨_, rfl, ll, rfl, ⟨_, SqL.of hll⟩, fun Dq nD => ?_⟩
    have Dqe : Dq ≠ e := D.new nD
    have aD : ∀ {a : Addr} {o : HO}, H a = some o → a ≠ Dq := fun {a o} e => ne_of_none e nD
    refine lc_it (walk_list (K := K) (a := ll) (xs := ls.map V.str)) (fun i G2 => (∀ a u, a ≠ e → a ≠ Dq → H a = some u → G2 a = some u) ∧ (∃ t', DrawAt G2 e t' ∧ t ≤ t' ∧ t' ≤ t + 9 * i) ∧ ∃ (xs : List Addr) (qs : List QD), G2 Dq = some (.lst (xs.map V.ref)) ∧ Qns CQ G2 xs qs ∧ qs.map QD.nm = ls.take i ∧ ∀ q ∈ qs, QG q ∧ (q.ki = "" ∨ q.ki ∈ ks)) ⟨fun a u _ n e => by rw [upd_ne n]; exact e, ⟨t, by obtain ⟨l, c, u, hd⟩ := D; exact ⟨l, c, u, by rw [upd_ne (Ne.symm Dqe)]; exact hd⟩, Int.le_refl _, by omega⟩, [], [], upd_same, ⟨rfl, fun i x q e => by cases e⟩, rfl, fun _ h => nomatch h⟩ (fun i G2 _ h => SqL.of (h.1 _ _ (D.ne hll fun _ z => by cases z) (aD hll) hll)) ?_ ?_
    · rintro i x G2 G' hi2 ⟨kp2, ⟨t', Dt, ta, tb⟩, xs, qs, hd, hq, hnm, hqv⟩ ⟨rfl, hx⟩
      obtain ⟨n, hn, rfl⟩ := getD_map hx
      rw [List.length_map] at hi2
      have hkG := kp2 _ _ (D.ne hkd fun _ z => by cases z) (aD hkd) hkd
      have nn := nls n (List.mem_of_getElem? hn)
      have li : qs.length = i := by have z := congrArg List.length hnm; rw [List.length_map, List.length_take] at z; omega
      refine ⟨rfl, _, rfl, _, rfl, _, rfl, e, kd, t', n, ks, rfl, Dt, by omega, by omega, nn, hkG, by omega, by omega, nks, fun p q H8 t8 u8 np rp gq eq ki D8 c8 b8 => ⟨p, q, rfl, rp, ⟨gq.v, gq.nd⟩, fun x' H9 s9 qi => ?_⟩⟩
      have hd9 := s9 _ _ (u8.at Dqe hd)
      have hq9 : Qns CQ H9 xs qs := ⟨hq.1, fun j y z e1 e2 => ((hq.2 j y z e1 e2).draw Dt u8).same s9⟩
      have D9 := D8.same s9
      refine ⟨_, hd9, by rw [List.length_map, hq.1, li, sizeLine_eq]; omega, fun c o n1 n2 e => by rw [upd_ne n2]; exact s9 _ _ (u8.at n1 (kp2 c o n1 n2 e)), ⟨t8, ?_, by omega, by push_cast; omega⟩, xs ++ [x'], qs ++ [q], by rw [upd_same, List.map_append]; rfl, ⟨by rw [List.length_append, List.length_append, hq.1]; rfl, fun j y z e1 e2 => ?_⟩, ?_, fun z hz => ?_⟩
      · obtain ⟨l, c, o, e⟩ := D9
        exact ⟨l, c, o, by rw [upd_ne (Ne.symm Dqe)]; exact e⟩
      · by_cases hj : j < i
        · rw [List.getElem?_append_left (by rw [hq.1]; omega)] at e1
          rw [List.getElem?_append_left (by omega)] at e2
          exact (hq9.2 j y z e1 e2).off hd9 (fun _ _ _ z => by cases z) (fun _ z => by cases z)
        · rw [List.getElem?_append_right (by rw [hq.1]; omega), hq.1, li] at e1
          rw [List.getElem?_append_right (by omega), li] at e2
          cases hji : j - i with
          | zero =>
            rw [hji] at e1 e2
            cases e1
            cases e2
            exact qi.off hd9 (fun _ _ _ z => by cases z) (fun _ z => by cases z)
          | succ j' =>
            rw [hji] at e1
            cases e1
      · rw [List.map_append, hnm, List.take_add_one, hn]
        show _ ++ [q.nm] = _
        rw [eq]
        rfl
      · rcases List.mem_append.mp hz with h | h
        · exact hqv z h
        · rw [List.mem_singleton.mp h]
          exact ⟨gq, ki⟩
    rintro G2 ⟨kp2, ⟨t8', D8, g3, g4⟩, xs, qs, hDq, hqs, hnm, hqv⟩
    rw [List.length_map] at g4 hnm
    rw [List.take_of_length_le (Nat.le_refl _)] at hnm
    have lq : qs.length = ls.length := by have z := congrArg List.length hnm; rw [List.length_map] at z; exact z
    have ndq : (qs.map QD.nm).Nodup := by rw [hnm]; exact ndl
    have lx : (xs.map V.ref).length = (qs.map some).length := by rw [List.length_map, List.length_map]; exact hqs.1
    have b2 : Bt [e] H G2 := Bt.one fun q u ne eq => kp2 q u ne (aD eq) eq
    intro b dx nx ndx ne
    refine init_goodX nx ndx ne (.inr ⟨Dq, rfl, .inl hDq⟩) lx hqs.th ndq (by omega) fun H3 ⟨s3, k, r, d, nk, nr, nd, hB3⟩ => ⟨rfl, ?_⟩
    have led0 := bank0 hqv hnm ndl l8
    generalize bOf qs = B0' at hB3 led0
    have nGH : ∀ {a : Addr}, G2 a = none → H a = none := fun {a} h => by
      have na : a ≠ e := D8.new h
      cases hh : H a with
      | none => rfl
      | some u => rw [b2.at na hh] at h; cases h
    have D3 := D8.same s3
    have hll3 := s3 _ _ (b2.at (D.ne hll fun _ z => by cases z) hll)
    have b3 : Bt [e] H H3 := b2.trans (Bt.same s3)
    obtain ⟨dxb, hb3⟩ := id hB3.at_
    refine ⟨_, rfl, turns, rfl, by omega, by omega, ?_⟩
    have ap0 := D3.ap hB3
    obtain ⟨INV, hINV⟩ : ∃ INV : Nat → List (Option V) → Hp → Prop, INV = fun (i : Nat) σ G => (∃ v4 v6 v7 v8 : Option V, σ = [some (.ref e), some (.ref kd), some (.ref ll), some (.int turns), v4, some (.ref b), v6, v7, v8, none, none]) ∧ Bt [e, k, r, d] H3 G ∧ (∃ t', DrawAt G e t' ∧ t8' ≤ t' ∧ t' ≤ t8' + 3 * i) ∧ ∃ B, BankAt CB CQ G b k r d B ∧ Led ls ks i B := ⟨_, rfl⟩
    refine for_it (walk_range (lo := 0) (n := turns.toNat)) INV (by rw [hINV]; exact ⟨⟨_, _, _, _, rfl⟩, Bt.refl, ⟨t8', D3, Int.le_refl _, by omega⟩, _, hB3, led0⟩) (fun _ _ _ _ _ => trivial) ?_ ?_
    · rintro i x σ G_ G hi hI ⟨rfl, rfl⟩
      rw [hINV] at hI
      obtain ⟨⟨v4, v6, v7, v8, rfl⟩, uG, ⟨t', Dt, ta, tb⟩, B, hB, led⟩ := hI
      have hi2 : i < turns.toNat := hi
      have hllG := (hB3.off4 uG D3 (fun _ z => by cases z) hll3 : G ll = _)
      refine ⟨_, rfl, e, t', 4, rfl, Dt, by omega, by omega, by decide, by decide, fun way t2 H4 y0 y4 u4 D4 c4 b4 => ?_⟩
      have hll4 := u4.at (Dt.ne hllG fun _ z => by cases z) hllG
      refine ⟨_, rfl, _, rfl, _, rfl, ll, _, rfl, .inl (SqL.of hll4), e, t2, _, rfl, D4, by omega, by omega, by rw [List.length_map]; omega, by rw [List.length_map]; omega, fun v t5 H5 v0 v1 u5 D5 c5 b5 => ?_⟩
      rw [List.length_map] at v1
      obtain ⟨n, hnl, en⟩ := str_at (zs := ls) v0 v1
      have hll5 := u5.at (D4.ne hll4 fun _ z => by cases z) hll4
      refine ⟨ll, _, v, .str n, rfl, rfl, SqL.of hll5, en, ?_⟩
      refine ⟨_, rfl, e, t5, 12, rfl, D5, by omega, by omega, by decide, by decide, fun when_ t6 H6 i0 i12 u6 D6 c6 b6 => ?_⟩
      have hB6 := ((hB.draw Dt u4).draw D4 u5).draw D5 u6
      have u36 : Bt [e] G H6 := u4.trans (u5.trans u6)
      have u06 : Bt [e, k, r, d] H3 H6 := uG.trans (u36.mono fun x hx => by rw [List.mem_singleton.mp hx]; exact List.mem_cons_self)
      have hnB : n ∈ B.ns := (led.ns n).mpr hnl
      have gd := led.good
      have l60 := gd.le
      have lo := os_len gd
      have lh : ∀ m ∈ B.ns, (B.h m).length ≤ 1000 := fun m hm => by have := led.hl m hm; omega
      obtain ⟨dx6, hb6⟩ := id hB6.at_
      have ap6 := D6.ap hB6
      have go : ∀ {L : List Addr} {G' : Hp} {C : BD}, (∀ x ∈ L, x ∈ [k, r, d]) → Bt L H6 G' → BankAt CB CQ G' b k r d C → Led ls ks (i + 1) C → Bt [e, k, r, d] H3 G' ∧ (∃ t', DrawAt G' e t' ∧ t8' ≤ t' ∧ t' ≤ t8' + 3 * ((i + 1 : Nat) : Int)) ∧ ∃ B, BankAt CB CQ G' b k r d B ∧ Led ls ks (i + 1) B := fun {L G' C} hL u hC lC =>
        ⟨u06.trans (u.mono fun x hx => List.mem_cons_of_mem _ (hL x hx)), ⟨t6, D6.bt u fun z => ap6 (hL _ z), by omega, by push_cast; omega⟩, C, hC, lC⟩
      refine ⟨_, _, _, rfl, ?_⟩
      refine ⟨_, rfl, _, _, rfl, rfl, _, rfl, ite2 (fun hw => ?_) fun hw => ?_⟩
      · refine ⟨_, rfl, b, dx6, _, rfl, hb6, lb_meth (by decide) _ _ _, _, rfl, _, rfl, ?_⟩
        have main : ∀ Q' : VK, (∀ H', Bt [d] H6 H' → BankAt CB CQ H' b k r d (B.day n (addD (B.h n) when_)) → Q' .non H') → spUsedB CB CQ (c 3) (c 4) [.ref b, .str n, .int when_] H6 Q' E0 := fun Q' qq => used_go hB6 hnB (by omega) lh i0 (by omega) qq
        exact main (fun _ G' => INV (i + 1) _ G') fun H7 u7 hB7 => by rw [hINV]; exact ⟨⟨_, _, _, _, rfl⟩, go (by simp) u7 hB7 (led.day hnB (by omega) i0 (by omega))⟩
      · refine ⟨_, rfl, rfl, _, rfl, ite2 (fun hw2 => ?_) fun hw2 => ?_⟩
        · refine ⟨_, rfl, b, dx6, _, rfl, hb6, lb_meth (by decide) _ _ _, _, rfl, by show 2 ≤ sizeLine; decide, fun p7 n7 => ?_⟩
          have s7 := same_upd (o := .lst [V.str "told twice", V.str "~"]) n7
          obtain ⟨z, tz, ez⟩ : ∃ z, textT z = true ∧ atI [V.str "told twice", V.str "~"] (when_ % 2) = some (.str z) := by
            have : when_ % 2 = 0 ∨ when_ % 2 = 1 := by omega
            rcases this with h | h
            · rw [h]; exact ⟨_, by decide +kernel, rfl⟩
            · rw [h]; exact ⟨_, by decide +kernel, rfl⟩
          refine ⟨_, rfl, _, _, rfl, rfl, (by show (0 : Int) < 2; decide), p7, _, _, .str z, rfl, rfl, SqL.of upd_same, ez, ?_⟩
          have main : ∀ Q' : VK, (∀ H', Bt [r] (upd H6 p7 (.lst [V.str "told twice", V.str "~"])) H' → BankAt CB CQ H' b k r d (B.out n z) → Q' .non H') → spOutB CB CQ (c 3) (c 0) [.ref b, .str n, .str z] (upd H6 p7 (.lst [V.str "told twice", V.str "~"])) Q' E0 := fun Q' qq => out_go (hB6.same s7) hnB (by omega) tz qq
          refine ⟨rfl, rfl, ?_⟩
          exact main (fun _ G' => INV (i + 1) _ G') fun H8 u8 hB8 => by rw [hINV]; exact ⟨⟨_, _, _, _, rfl⟩, go (L := [r]) (by simp) ((Bt.same s7).trans u8) hB8 ((led.out hnB tz).mono (by omega))⟩
        · refine ⟨b, k, r, d, B, n, _, _, _, _, _, _, _, rfl, hB6, by omega, fun H7 s7 => ?_⟩
          by_cases ho : n ∈ B.os
          · refine iteT' (decide_eq_true ho) ⟨_, rfl, b, dx6, _, rfl, s7 _ _ hb6, lb_meth (by decide) _ _ _, _, rfl, ?_⟩
            have main : ∀ Q' : VK, (∀ H', Bt [r] H7 H' → BankAt CB CQ H' b k r d (B.back n) → Q' .non H') → spBackB CB CQ (c 3) (c 1) [.ref b, .str n] H7 Q' E0 := fun Q' qq => back_go (hB6.same s7) hnB ho qq
            exact main (fun _ G' => INV (i + 1) _ G') fun H8 u8 hB8 => by rw [hINV]; exact ⟨⟨_, _, _, _, rfl⟩, go (L := [r]) (by simp) ((Bt.same s7).trans u8) hB8 (led.back.mono (by omega))⟩
          · refine iteF' (by simp [ho]) ?_
            show INV (i + 1) _ H7
            rw [hINV]
            exact ⟨⟨_, _, _, _, rfl⟩, go (L := []) (by simp) (Bt.same s7) (hB6.same s7) (led.mono (by omega))⟩
    rintro σ G hI
    rw [hINV] at hI
    obtain ⟨⟨v4, v6, v7, v8, rfl⟩, uG, ⟨t', Dt, ta, tb⟩, B, hB, led⟩ := hI
    refine ⟨_, rfl, ?_⟩
    have h1 := nGH nx
    have h2 := nGH nk
    have h3 := nGH nr
    have h4 := nGH nd
    refine fin b k r d B G t' (fun q o nq eq => uG q o (fun z => ?_) (b3 q o nq eq)) h1 h2 h3 h4 hB (led.mono (by omega)) Dt (by omega) (by omega)
    simp only [List.mem_cons, List.not_mem_nil, or_false] at z
    rcases z with z | z | z | z
    · exact nq (List.mem_singleton.mpr z)
    · rw [z, h2] at eq; cases eq
    · rw [z, h3] at eq; cases eq
    · rw [z, h4] at eq; cases eq
end
end Pk
/-! ### a list in parts -/
namespace Pk
open PySem L2
theorem parts_perm {α β : Type} [DecidableEq β] [DecidableEq α] (g : α → β) : ∀ (fs : List β), fs.Nodup → ∀ l : List α, l.Nodup → (∀ a ∈ l, g a ∈ fs) → (fs.flatMap fun f => l.filter fun a => decide (g a = f)).Perm l := by
  intro fs nd l ndl h
  refine (List.perm_ext_iff_of_nodup ?_ ndl).mpr fun a => ?_
  · rw [List.nodup_iff_pairwise_ne, List.pairwise_flatMap]
    refine ⟨fun f _ => List.nodup_iff_pairwise_ne.mp (ndl.filter _), nd.imp fun {f1 f2} ne => ?_⟩
    intro x hx y hy e
    subst e
    have h1 := of_decide_eq_true (List.mem_filter.mp hx).2
    have h2 := of_decide_eq_true (List.mem_filter.mp hy).2
    exact ne (h1.symm.trans h2)
  · rw [List.mem_flatMap]
    constructor
    · rintro ⟨f, _, hx⟩
      exact (List.mem_filter.mp hx).1
    · intro ha
      exact ⟨g a, h a ha, List.mem_filter.mpr ⟨ha, decide_eq_true rfl⟩⟩
def askM (f : Str) : Ask := ⟨f, 1, 9, "", none, 0⟩
def askL (i : Int) : Ask := ⟨"", i, i, "", none, 0⟩
def askK (f : Str) : Ask := ⟨"", 1, 9, f, none, 0⟩
def askD (w s : Int) : Ask := ⟨"", 1, 9, "", some w, s⟩
theorem ins_nd {B : BD} (g : GoodB B) : B.ins.Nodup := (srt_nd g.nd).filter _
theorem ins_pairB (B : BD) : B.ins.Pairwise leS := (srt_pair _).filter _
section
variable {B : BD} (g : GoodB B)
include g
theorem tl_in {n : Str} (hn : n ∈ B.ins) : 1 ≤ (B.f n).tl ∧ (B.f n).tl ≤ 9 := ⟨(g.nm n (inN hn)).1.t1, (g.nm n (inN hn)).1.t9⟩
theorem found_m {f : Str} (hf : f ≠ "") : B.found (askM f) = B.ins.filter fun n => decide ((B.f n).mt = f) := by
  unfold BD.found
  refine List.filter_congr fun n hn => ?_
  obtain ⟨h1, h9⟩ := tl_in g hn
  show (((decide ((1 : Int) ≤ (B.f n).tl) && decide ((B.f n).tl ≤ 9)) && ((decide (f = "") || decide (f = (B.f n).mt)) && (decide (("" : Str) = "") || decide (("" : Str) = (B.f n).ki)))) && (!false)) = _
  simp [h1, h9, hf, eq_comm]
theorem found_l {i : Int} : B.found (askL i) = B.ins.filter fun n => decide ((B.f n).tl = i) := by
  unfold BD.found
  refine List.filter_congr fun n hn => ?_
  show (((decide (i ≤ (B.f n).tl) && decide ((B.f n).tl ≤ i)) && ((decide (("" : Str) = "") || decide (("" : Str) = (B.f n).mt)) && (decide (("" : Str) = "") || decide (("" : Str) = (B.f n).ki)))) && (!false)) = _
  rw [Bool.eq_iff_iff]
  simp
  omega
theorem found_k {f : Str} (hf : f ≠ "") : B.found (askK f) = B.ins.filter fun n => decide ((B.f n).ki = f) := by
  unfold BD.found
  refine List.filter_congr fun n hn => ?_
  obtain ⟨h1, h9⟩ := tl_in g hn
  show (((decide ((1 : Int) ≤ (B.f n).tl) && decide ((B.f n).tl ≤ 9)) && ((decide (("" : Str) = "") || decide (("" : Str) = (B.f n).mt)) && (decide (f = "") || decide (f = (B.f n).ki)))) && (!false)) = _
  simp [h1, h9, hf, eq_comm]
theorem found_d (w s : Int) : B.found (askD w s) = B.ins.filter fun n => !decide (n ∈ B.rests w s) := by
  unfold BD.found BD.rests
  refine List.filter_congr fun n hn => ?_
  obtain ⟨h1, h9⟩ := tl_in g hn
  show (((decide ((1 : Int) ≤ (B.f n).tl) && decide ((B.f n).tl ≤ 9)) && ((decide (("" : Str) = "") || decide (("" : Str) = (B.f n).mt)) && (decide (("" : Str) = "") || decide (("" : Str) = (B.f n).ki)))) && (!(wasU (B.h n) (w - s + 1) w))) = _
  have : decide (n ∈ List.filter (fun n => wasU (B.h n) (w - s + 1) w) B.ins) = wasU (B.h n) (w - s + 1) w := by
    rw [Bool.eq_iff_iff, decide_eq_true_iff, List.mem_filter]
    exact ⟨And.right, fun h => ⟨hn, h⟩⟩
  rw [this]
  simp [h1, h9]
/-- by matter -/
theorem part_m : ((firsts B.ms).flatMap fun f => B.found (askM f)).Perm B.ins := by
  have e : ((firsts B.ms).flatMap fun f => B.found (askM f)) = (firsts B.ms).flatMap fun f => B.ins.filter fun n => decide ((B.f n).mt = f) := by
    rw [List.flatMap_def, List.flatMap_def]
    congr 1
    refine List.map_congr_left fun f hf => found_m g ?_
    have := ms_name g f (firsts_mem.mp hf)
    intro e
    rw [e] at this
    exact absurd this (by decide +kernel)
  rw [e]
  refine parts_perm _ _ (firsts_nd _) _ (ins_nd g) fun n hn => firsts_mem.mpr ?_
  unfold BD.ms
  exact srt_mem.mpr (List.mem_map_of_mem hn)
theorem count_m {f : Str} (hf : f ≠ "") : (B.found (askM f)).length = B.ms.count f := by
  rw [found_m g hf]
  unfold BD.ms
  rw [(srt_perm _).count_eq, List.count_eq_countP, List.countP_map, List.countP_eq_length_filter]
  congr 1
theorem ne_field {f : Str} (hf : f ∈ firsts B.ms) : f ≠ "" := fun e => by
  have := ms_name g f (firsts_mem.mp hf)
  rw [e] at this
  exact absurd this (by decide +kernel)
theorem sum_m : ((firsts B.ms).map fun f => ((B.ms.count f : Nat) : Int)).sum = ((B.ins.length : Nat) : Int) := by
  have h := (part_m g).length_eq
  rw [List.length_flatMap] at h
  rw [← h]
  have : ∀ l : List Str, (∀ f ∈ l, f ∈ firsts B.ms) → (l.map fun f => ((B.ms.count f : Nat) : Int)).sum = (((l.map fun f => (B.found (askM f)).length).sum : Nat) : Int) := by
    intro l
    induction l with
    | nil => intro _; rfl
    | cons f l ih =>
      intro hl
      rw [List.map_cons, List.map_cons, List.sum_cons, List.sum_cons, ih fun x hx => hl x (List.mem_cons_of_mem _ hx), count_m g (ne_field g (hl f List.mem_cons_self))]
      push_cast
      rfl
  exact this _ fun _ h => h
theorem part_l : (((List.range 9).map fun i => (1 : Int) + ((i : Nat) : Int)).flatMap fun i => B.found (askL i)).Perm B.ins := by
  have e : (((List.range 9).map fun i => (1 : Int) + ((i : Nat) : Int)).flatMap fun i => B.found (askL i)) = (((List.range 9).map fun i => (1 : Int) + ((i : Nat) : Int)).flatMap fun i => B.ins.filter fun n => decide ((B.f n).tl = i)) := by
    rw [List.flatMap_def, List.flatMap_def]
    congr 1
    exact List.map_congr_left fun f hf => found_l g
  rw [e]
  refine parts_perm _ _ (by decide) _ (ins_nd g) fun n hn => ?_
  obtain ⟨h1, h9⟩ := tl_in g hn
  exact List.mem_map.mpr ⟨((B.f n).tl - 1).toNat, List.mem_range.mpr (by omega), by omega⟩
theorem part_k {ks : List Str} (nd : ks.Nodup) (nm : ∀ z ∈ ks, nameT z = true) (h : ∀ n ∈ B.ns, (B.f n).ki = "" ∨ (B.f n).ki ∈ ks) : ((B.ins.filter fun n => decide ((B.f n).ki = "")) ++ ks.flatMap fun f => B.found (askK f)).Perm B.ins := by
  have ne : ∀ f ∈ ks, f ≠ "" := fun f hf e => by
    have := nm f hf
    rw [e] at this
    exact absurd this (by decide +kernel)
  have e : (ks.flatMap fun f => B.found (askK f)) = ks.flatMap fun f => B.ins.filter fun n => decide ((B.f n).ki = f) := by
    rw [List.flatMap_def, List.flatMap_def]
    congr 1
    exact List.map_congr_left fun f hf => found_k g (ne f hf)
  rw [e]
  have := parts_perm (fun n => (B.f n).ki) ("" :: ks) (List.nodup_cons.mpr ⟨fun z => ne _ z rfl, nd⟩) B.ins (ins_nd g) fun n hn => by
    rcases h n (inN hn) with e | e
    · rw [e]; exact List.mem_cons_self
    · exact List.mem_cons_of_mem _ e
  rwa [List.flatMap_cons] at this
end
theorem last_all {ds : List Int} (h : ∀ i ∈ ds, 0 ≤ i ∧ i ≤ 9999) : lastD ds 9999 = ds.getLast? := by
  unfold lastD
  rw [List.filter_eq_self.mpr fun i hi => decide_eq_true (h i hi).2]
end Pk
namespace Pk
open PySem L2
/-! ### _law_parts_right -/
theorem lock_same {H G : Hp} {p : Addr} {o : Obj} {u : HO} (e : H p = some u) (s : Same (upd H p (.frz o u)) G) : Same H (upd G p u) := fun a x h => by
  by_cases z : a = p
  · subst z
    rw [upd_same]
    rw [e] at h
    exact h
  · rw [upd_ne z]
    exact s a x (by rw [upd_ne z]; exact h)
theorem BankAt.lock {CB CQ : Addr} {H : Hp} {b k r d p : Addr} {B : BD} {o : HO} {kv : List (Key × V)} (h : BankAt CB CQ H b k r d B) (e : H p = some (.dK kv)) (n : p ∉ [k, r, d]) : BankAt CB CQ (upd H p o) b k r d B := by
  have nd : ∀ x ∈ [k, r, d], x ≠ p := fun x hx z => n (z ▸ hx)
  exact h.by (fun a u _ _ _ m hu => by rw [upd_ne (fun z => by rw [z, e] at hu; cases hu; exact m _ rfl)]; exact hu) (fun _ hu => by rw [upd_ne (nd k (by simp))]; exact hu) (fun _ hu => by rw [upd_ne (nd r (by simp))]; exact hu) (fun _ hu => by rw [upd_ne (nd d (by simp))]; exact hu)
theorem ti_keys (ms : List Str) : (tiKv (counted ms)).map (·.1) = (firsts ms).map Sum.inr := by
  unfold tiKv counted
  rw [List.map_map, List.map_map]
  rfl
theorem tiC_val {ms : List Str} {f : Str} (hf : f ∈ firsts ms) : valV (tiKv (counted ms)) (.inr f) = some (.int ((ms.count f : Nat) : Int)) :=
  valV_mem (kvs := tiKv (counted ms)) (p := (.inr f, .int ((ms.count f : Nat) : Int))) (by rw [ti_keys]; exact inr_nd (firsts_nd ms)) (List.mem_map.mpr ⟨(f, ((ms.count f : Nat) : Int)), List.mem_map.mpr ⟨f, hf, rfl⟩, rfl⟩)
theorem firsts_len (ms : List Str) : (firsts ms).length ≤ ms.length := (firsts_nd ms).length_le_of_subset fun _ h => firsts_mem.mp h
/-- [by_field[field] for field in by_field] -/
def tCounts : TE := fun σ H Q => ∃ (b kd ph pf : Addr) (w_ sp : Int) (ms : List Str) (v6 v7 v8 v9 v10 v11 v12 v13 : Option V), σ = [some (.ref b), some (.ref kd), some (.int w_), some (.int sp), some (.ref ph), some (.ref pf), v6, v7, v8, v9, v10, v11, v12, v13] ∧ H pf = some (.dK (tiKv (counted ms))) ∧ ms.length ≤ 60 ∧ ∀ D H', Same H H' → H' D = some (.lst ((firsts ms).map fun f => V.int ((ms.count f : Nat) : Int))) → Q (.ref D) H'
/-- [len(bank.found(field)) for field in by_field] -/
def tLens (CB CQ : Addr) : TE := fun σ H Q => ∃ (b k r d kd ph pf : Addr) (B : BD) (w_ sp : Int) (v6 v7 v8 v9 v10 v11 v12 v13 : Option V), σ = [some (.ref b), some (.ref kd), some (.int w_), some (.int sp), some (.ref ph), some (.ref pf), v6, v7, v8, v9, v10, v11, v12, v13] ∧ BankAt CB CQ H b k r d B ∧ GoodB B ∧ pf ∉ [k, r, d] ∧ H pf = some (.dK (tiKv (counted B.ms))) ∧ ∀ D H', Same H H' → H' D = some (.lst ((firsts B.ms).map fun f => V.int ((B.ms.count f : Nat) : Int))) → Q (.ref D) H'
/-- for field in by_field: told = told + bank.found(matter=field) -/
def tLoopM (CB CQ : Addr) : TS := fun Dn σ H => ∃ (b k r d kd ph pf p6 : Addr) (B : BD) (w_ sp : Int) (v7 v8 v9 v10 v11 v12 v13 : Option V), σ = [some (.ref b), some (.ref kd), some (.int w_), some (.int sp), some (.ref ph), some (.ref pf), some (.ref p6), v7, v8, v9, v10, v11, v12, v13] ∧ BankAt CB CQ H b k r d B ∧ GoodB B ∧ pf ∉ [k, r, d] ∧ H pf = some (.dK (tiKv (counted B.ms))) ∧ H p6 = some (.lst []) ∧ ∀ D v7 H', Same H H' → H' D = some (.lst (((firsts B.ms).flatMap fun f => B.found (askM f)).map V.str)) → Dn.nx [some (.ref b), some (.ref kd), some (.int w_), some (.int sp), some (.ref ph), some (.ref pf), some (.ref D), v7, v8, v9, v10, v11, v12, v13] H'
def spPartsR (CB CQ : Addr) : Sp := fun vs H Q _ => ∃ (b k r d kd : Addr) (B : BD) (ls ks : List Str) (w_ sp : Int), vs = [.ref b, .ref kd, .int w_, .int sp] ∧ BankAt CB CQ H b k r d B ∧ Led ls ks 60 B ∧ B.ns.length ≤ 40 ∧ H kd = some (.lst (ks.map V.str)) ∧ ks.length ≤ 8 ∧ ks.Nodup ∧ (∀ z ∈ ks, nameT z = true) ∧ 0 ≤ w_ ∧ w_ ≤ 9999 ∧ 0 ≤ sp ∧ sp ≤ 9999 ∧ ∀ H', Same H H' → Q (.bl true) H'
theorem flat_len {α : Type} (F : α → List Str) (m : Nat) (h : ∀ f, (F f).length ≤ m) : ∀ l : List α, (l.flatMap F).length ≤ m * l.length := fun l => by
  induction l with
  | nil => exact Nat.zero_le _
  | cons a l ih =>
    rw [List.flatMap_cons, List.length_append, List.length_cons, Nat.mul_add]
    have := h a
    omega
theorem found_len (B : BD) (A : Ask) : (B.found A).length ≤ B.ns.length := Nat.le_trans (List.length_filter_le _ _) (ins_len B)
section
variable {P : Program} {w : World} {K : PySem.W.Frag} {mg : Str → Option Value} {base : Heap} {CB CQ cN : Addr} {c : Nat → Addr}
abbrev NPartsR : List Str := ["_law_bank", "_law_kinds", "_law_when", "_law_span", "_law_here", "_law_by_field", "_law_told", "_law_field", "_law_mark", "_law_one", "_law_some", "_law_clan", "_law_still", "_law_days"]
theorem scPartsR : FnScope NPartsR ["_law_bank", "_law_kinds", "_law_when", "_law_span"] (defScope sPartsRight) := ⟨rfl, rfl, rfl, by decide +kernel, rfl, by decide +kernel, by decide +kernel⟩
theorem ok_partsR {f : Addr} {fd : FuncData} (F : Fun K "_law_parts_right" "_law_parts_right" sPartsRight f fd) (W : BkW P w K mg base CB CQ cN) (FW : FoundW P w K mg base CB CQ) (LW : LastW P w K mg base CB CQ c) (ml : mg "len" = none) (mso : mg "sorted" = none) (msu : mg "sum" = none) (mra : mg "range" = none) :
    FnOk P w K mg base CX0 6 f fd ["_law_bank", "_law_kinds", "_law_when", "_law_span"] (spPartsR CB CQ) := by
  obtain ⟨fN, fdN, GN, MN, bN⟩ := W.names
  obtain ⟨fNi, fdNi, GNi, MNi, bNi⟩ := W.namesIn
  obtain ⟨fL, fdL, GL, aL, hL, bL⟩ := W.len
  obtain ⟨fQ, fdQ, GQ, MQ, bQ⟩ := W.question
  obtain ⟨fDo, fdDo, GDo, MDo, bDo⟩ := W.daysOf
  obtain ⟨fMa, fdMa, GMa, MMa, bMa⟩ := W.matters
  obtain ⟨fF, fdF, FF, GF, MF⟩ := FW.found
  obtain ⟨fLa, fdLa, FLa, GLa, MLa⟩ := LW.last
  obtain ⟨fRe, fdRe, GRe, kRe, bRe, gRe⟩ := LW.rest
  obtain ⟨dL2, hdL2, bL2'⟩ := bL2 FLa
  obtain ⟨dF2, hdF2, bF2⟩ := bFd2 FF
  obtain ⟨im, km⟩ := kFdm FF
  obtain ⟨il, kl⟩ := kFdl FF
  obtain ⟨ik, kk⟩ := kFdk FF
  obtain ⟨idd, kdd⟩ := kFdd FF
  refine F.ok scPartsR (fun vs H Q E h => ?_) (fun cdv A outer s H vs Q E hr h => ?_)
  · obtain ⟨b, k, r, d, kd, B, ls, ks, w_, sp, rfl, _⟩ := h
    rfl
  · obtain ⟨b, k, r, d, kd, B, ls, ks, w_, sp, rfl, hB, led, l40, hkd, k8, ndk, nks, w0, w9, q0, q9, fin⟩ := h
    have hu := hu_of hr
    have hu1 : _ < cLine := room1 hr
    have hu64 : _ + 64 < cLine := Nat.lt_of_le_of_lt (Nat.add_le_add_left (by decide) _) (room_show hr)
    have r1 : Room 1 _ := hr.mono (by decide)
    have r2 : Room 2 _ := hr.mono (by decide)
    have r3 : Room 3 _ := hr.mono (by decide)
    have r4 : Room 4 _ := hr.mono (by decide)
    have r5 : Room 5 _ := hr.mono (by decide)
    refine ⟨_, pss_cons (ps_asg (pe_tup (pa_cons (pe_meth0 (E := E0) (pv 0) W.C.cls MNi GNi r2 bNi .nil pass0) (pa_cons (pe_meth0 (E := E0) (pv 0) W.C.cls MMa GMa r3 bMa .nil pass0) pa_nil))) (pg_tup rfl (pgs_cons (pg_name (i := 4) scPartsR.nd rfl (.inl rfl)) (pgs_cons (pg_name (i := 5) scPartsR.nd rfl (.inr rfl)) pgs_nil))))
      (pss_cons (ps_set (i := 6) scPartsR.nd rfl (.inl rfl) (pe_lst pa_nil))
      (pss_cons (ps_imp (tLoopM CB CQ) (ps_lock (ps_for PassesOwn.never rfl (pi_keys (pv 5)) (pg_name (i := 7) scPartsR.nd rfl (.inl rfl))
        (pss_one (ps_set (i := 6) scPartsR.nd rfl (.inl rfl) (pe_op op_cat (pv 6) (pe_methN0 (E := E0) (pv 0) W.C.cls MF GF r3 km pass0 (by exact (pk_cons (pv 7) pk_nil)))))))) (by
          rintro Dn σ H ⟨b, k, r, d, kd, ph, pf, p6, B, w_, sp, v7, v8, v9, v10, v11, v12, v13, rfl, hB, g, apf, hpf, h6, q⟩
          obtain ⟨ms, hms⟩ : ∃ ms, ms = B.ms := ⟨_, rfl⟩
          rw [← hms] at hpf q
          have l60 : ms.length ≤ 60 := by rw [hms, ms_len]; have := ins_len B; have := g.le; omega
          refine ⟨pf, _, hpf, trivial, fun od => ?_⟩
          have ea : upd H pf (.frz od (.dK (tiKv (counted ms)))) pf = some (.frz od (.dK (tiKv (counted ms)))) := upd_same
          have hBL := hB.lock (o := .frz od (.dK (tiKv (counted ms)))) hpf apf
          have h6L : upd H pf (.frz od (.dK (tiKv (counted ms)))) p6 = some (.lst []) := by rw [upd_ne (fun z => by rw [z, hpf] at h6; cases h6)]; exact h6
          generalize hH1 : upd H pf (.frz od (.dK (tiKv (counted ms)))) = H1 at *
          have hfl : (tiKv (counted ms)).length = (firsts ms).length := by have := congrArg List.length (ti_keys ms); rw [List.length_map, List.length_map] at this; exact this
          refine ⟨_, rfl, pf, od, rfl, .inl ⟨_, ea, ?_⟩⟩
          refine for_it (walk_keys (d := pf) (o := od) (kvs := tiKv (counted ms))) (fun i σ G => (∃ (D : Addr) (v7 : Option V), σ = [some (.ref b), some (.ref kd), some (.int w_), some (.int sp), some (.ref ph), some (.ref pf), some (.ref D), v7, v8, v9, v10, v11, v12, v13] ∧ G D = some (.lst ((((firsts ms).take i).flatMap fun f => B.found (askM f)).map V.str))) ∧ Same H1 G) ⟨⟨p6, v7, rfl, h6L⟩, Same.refl _⟩ (fun i σ G _ h => h.2 _ _ ea) ?_ ?_
          · rintro i x σ G_ G hi ⟨⟨D, v7, rfl, hD⟩, sG⟩ ⟨rfl, ke, v, hx, rfl⟩
            have hk : ((tiKv (counted ms)).map (·.1))[i]? = some ke := by rw [List.getElem?_map, hx]; rfl
            rw [ti_keys] at hk
            obtain ⟨n, hn, rfl⟩ := getD_map hk
            have fl := firsts_len ms
            have hBG := hBL.same sG
            obtain ⟨dx, hb⟩ := id hBG.at_
            have b1 := flat_len (fun f => B.found (askM f)) 60 (fun f => Nat.le_trans (found_len B _) g.le) ((firsts ms).take i)
            rw [List.length_take] at b1
            have b2 := Nat.le_trans (found_len B (askM n)) g.le
            refine ⟨_, rfl, _, rfl, b, dx, _, rfl, hb, lb_meth (by decide) _ _ _, _, rfl, rfl, b, k, r, d, B, askM n, rfl, hBG, g, fun p5 H5 s5 n5 h5 => ?_⟩
            refine ⟨D, p5, _, _, rfl, rfl, s5 _ _ hD, h5, by rw [List.length_map, List.length_map, sizeLine_eq]; omega, fun p7 n7 => ?_⟩
            refine ⟨⟨p7, _, rfl, ?_⟩, sG.trans (s5.trans (same_upd n7))⟩
            rw [upd_same, List.take_add_one, hn, List.flatMap_append, List.map_append]
            show _ = some (HO.lst (_ ++ ([n].flatMap fun f => B.found (askM f)).map V.str))
            rw [List.flatMap_singleton]
          rintro σ G ⟨⟨D, v7, rfl, hD⟩, sG⟩
          rw [hfl, List.take_of_length_le (Nat.le_refl _)] at hD
          have ef := sG _ _ ea
          refine ⟨ef, q D v7 _ (lock_same hpf (by rw [hH1]; exact sG)) ?_⟩
          rw [upd_ne (fun z => by rw [z, ef] at hD; cases hD)]
          exact hD))
      (pss_cons (ps_if (PW.pt (pw_or (pt_cmpR (op_neS hu64) (pe_callB cr_sortedS (by rfl) mso (by decide +kernel) (pa_cons (pv 6) pa_nil)) (pv 4) (nomark _)) (pw_or1 (pt_cmpR op_ne (pe_callB (cr_sum rfl) (by rfl) msu (by decide +kernel) (pa_cons (pe_imp tCounts (pe_lock (pe_lc (own := [("_law_field", 7)]) (g := gName 7) (te := tDGet (tVar 5) (tVar 7)) rfl scPartsR.nd (pi_keys (pv 5)) (blkOk_by (N := NPartsR) (sc := defScope sPartsRight) (by decide +kernel)) (fun _ _ _ _ _ => pg_name (i := 7) scPartsR.nd rfl (Or.inl rfl)) (fun _ _ _ _ _ => by exact pts_nil) (fun _ _ _ _ _ => by exact pe_dget hu (pv 5) (pv 7) (fun _ _ => rfl)))) (by
          rintro σ H Q ⟨b, kd, ph, pf, w_, sp, ms, v6, v7, v8, v9, v10, v11, v12, v13, rfl, hpf, l60, q⟩
          refine ⟨pf, _, hpf, trivial, fun od => ?_⟩
          have ea : upd H pf (.frz od (.dK (tiKv (counted ms)))) pf = some (.frz od (.dK (tiKv (counted ms)))) := upd_same
          generalize hH1 : upd H pf (.frz od (.dK (tiKv (counted ms)))) = H1 at *
          refine ⟨_, rfl, pf, od, rfl, .inl ⟨_, ea, fun D nD => ?_⟩⟩
          have aD : ∀ {a : Addr} {o : HO}, H1 a = some o → a ≠ D := fun {a o} e => ne_of_none e nD
          refine lc_it (walk_keys (d := pf) (o := od) (kvs := tiKv (counted ms))) (fun i G => (∀ a u, a ≠ D → H1 a = some u → G a = some u) ∧ G D = some (.lst (((firsts ms).take i).map fun f => V.int ((ms.count f : Nat) : Int)))) ⟨fun a u n e => by rw [upd_ne n]; exact e, upd_same⟩ (fun i G _ h => h.1 _ _ (aD ea) ea) ?_ ?_
          · rintro i x G G' hi ⟨kp, hd⟩ ⟨rfl, ke, v, hx, rfl⟩
            have hk : ((tiKv (counted ms)).map (·.1))[i]? = some ke := by rw [List.getElem?_map, hx]; rfl
            rw [ti_keys] at hk
            obtain ⟨n, hn, rfl⟩ := getD_map hk
            have hnf := List.mem_of_getElem? hn
            have il := (List.getElem?_eq_some_iff.mp hn).1
            have fl := firsts_len ms
            have sG : Same H1 G' := fun a u e => kp a u (aD e) e
            refine ⟨rfl, _, rfl, _, rfl, pf, _, rfl, .inl ⟨_, .inr n, .inr ⟨od, sG _ _ ea⟩, rfl, (tiC_val hnf).symm⟩, ?_⟩
            refine ⟨_, hd, by rw [List.length_map, List.length_take, sizeLine_eq]; omega, fun c o n e => by rw [upd_ne n]; exact kp c o n e, ?_⟩
            rw [upd_same, List.take_add_one, hn, List.map_append]
            rfl
          rintro G ⟨kp, hd⟩
          have hfl : (tiKv (counted ms)).length = (firsts ms).length := by have := congrArg List.length (ti_keys ms); rw [List.length_map, List.length_map] at this; exact this
          rw [hfl, List.take_of_length_le (Nat.le_refl _)] at hd
          have kD : pf ≠ D := aD ea
          have sF : Same H (upd G pf (.dK (tiKv (counted ms)))) := lock_same (o := od) hpf (by rw [hH1]; exact fun a u e => kp a u (aD e) e)
          refine ⟨kp _ _ kD ea, ?_⟩
          exact q D _ sF (by rw [upd_ne (Ne.symm kD)]; exact hd))) pa_nil)) (pe_callB (call_lenO GL r2 aL hL bL) (by rfl) ml PySem.boot_len (pa_cons (pv 0) pa_nil)) (nomark _))))) (pss_one (ps_ret pe_bl)) pss_nil)
      (pss_cons (ps_if (pt_cmpR (op_neS hu64) (pe_imp (tLens CB CQ) (pe_lock (pe_lc (own := [("_law_field", 7)]) (g := gName 7) (te := tCB (rLenQ K) (tCons (tMeth CB "found" (spFoundB CB CQ) [.int 1, .int 9, .str "", .non, .int 0] E0 (tVar 0) (tCons (tVar 7) tNil)) tNil)) rfl scPartsR.nd (pi_keys (pv 5)) (blkOk_by (N := NPartsR) (sc := defScope sPartsRight) (by decide +kernel)) (fun _ _ _ _ _ => pg_name (i := 7) scPartsR.nd rfl (Or.inl rfl)) (fun _ _ _ _ _ => by exact pts_nil) (fun _ _ _ _ _ => by exact (pe_callB call_lenQ (by rfl) ml PySem.boot_len (pa_cons (pe_meth (E := E0) (pv 0) W.C.cls MF GF r3 bF2 hdF2 pass0 (pa_cons (pv 7) pa_nil)) pa_nil))))) (by
          rintro σ H Q ⟨b, k, r, d, kd, ph, pf, B, w_, sp, v6, v7, v8, v9, v10, v11, v12, v13, rfl, hB, g, apf, hpf, q⟩
          obtain ⟨ms, hms⟩ : ∃ ms, ms = B.ms := ⟨_, rfl⟩
          rw [← hms] at hpf q
          have l60 : ms.length ≤ 60 := by rw [hms, ms_len]; have := ins_len B; have := g.le; omega
          refine ⟨pf, _, hpf, trivial, fun od => ?_⟩
          have ea : upd H pf (.frz od (.dK (tiKv (counted ms)))) pf = some (.frz od (.dK (tiKv (counted ms)))) := upd_same
          have hBL := hB.lock (o := .frz od (.dK (tiKv (counted ms)))) hpf apf
          generalize hH1 : upd H pf (.frz od (.dK (tiKv (counted ms)))) = H1 at *
          refine ⟨_, rfl, pf, od, rfl, .inl ⟨_, ea, fun D nD => ?_⟩⟩
          have aD : ∀ {a : Addr} {o : HO}, H1 a = some o → a ≠ D := fun {a o} e => ne_of_none e nD
          refine lc_it (walk_keys (d := pf) (o := od) (kvs := tiKv (counted ms))) (fun i G => (∀ a u, a ≠ D → H1 a = some u → G a = some u) ∧ G D = some (.lst (((firsts ms).take i).map fun f => V.int ((ms.count f : Nat) : Int)))) ⟨fun a u n e => by rw [upd_ne n]; exact e, upd_same⟩ (fun i G _ h => h.1 _ _ (aD ea) ea) ?_ ?_
          · rintro i x G G' hi ⟨kp, hd⟩ ⟨rfl, ke, v, hx, rfl⟩
            have hk : ((tiKv (counted ms)).map (·.1))[i]? = some ke := by rw [List.getElem?_map, hx]; rfl
            rw [ti_keys] at hk
            obtain ⟨n, hn, rfl⟩ := getD_map hk
            have hnf := List.mem_of_getElem? hn
            have il := (List.getElem?_eq_some_iff.mp hn).1
            have fl := firsts_len ms
            have sG : Same H1 G' := fun a u e => kp a u (aD e) e
            have hBG := hBL.same sG
            obtain ⟨dx, hb⟩ := id hBG.at_
            refine ⟨rfl, _, rfl, b, dx, _, rfl, hb, lb_meth (by decide) _ _ _, _, rfl, b, k, r, d, B, askM n, rfl, hBG, g, fun p5 H5 s5 n5 h5 => ⟨p5, _, rfl, .inl (SqL.of h5), ?_⟩⟩
            rw [List.length_map, count_m g (ne_field g (hms ▸ hnf)), ← hms]
            refine ⟨_, s5 _ _ hd, by rw [List.length_map, List.length_take, sizeLine_eq]; omega, fun c o n e => by rw [upd_ne n]; exact s5 _ _ (kp c o n e), ?_⟩
            rw [upd_same, List.take_add_one, hn, List.map_append]
            rfl
          rintro G ⟨kp, hd⟩
          have hfl : (tiKv (counted ms)).length = (firsts ms).length := by have := congrArg List.length (ti_keys ms); rw [List.length_map, List.length_map] at this; exact this
          rw [hfl, List.take_of_length_le (Nat.le_refl _)] at hd
          have kD : pf ≠ D := aD ea
          have sF : Same H (upd G pf (.dK (tiKv (counted ms)))) := lock_same (o := od) hpf (by rw [hH1]; exact fun a u e => kp a u (aD e) e)
          refine ⟨kp _ _ kD ea, ?_⟩
          exact q D _ sF (by rw [upd_ne (Ne.symm kD)]; exact hd))) (pe_imp tCounts (pe_lock (pe_lc (own := [("_law_field", 7)]) (g := gName 7) (te := tDGet (tVar 5) (tVar 7)) rfl scPartsR.nd (pi_keys (pv 5)) (blkOk_by (N := NPartsR) (sc := defScope sPartsRight) (by decide +kernel)) (fun _ _ _ _ _ => pg_name (i := 7) scPartsR.nd rfl (Or.inl rfl)) (fun _ _ _ _ _ => by exact pts_nil) (fun _ _ _ _ _ => by exact pe_dget hu (pv 5) (pv 7) (fun _ _ => rfl)))) (by
          rintro σ H Q ⟨b, kd, ph, pf, w_, sp, ms, v6, v7, v8, v9, v10, v11, v12, v13, rfl, hpf, l60, q⟩
          refine ⟨pf, _, hpf, trivial, fun od => ?_⟩
          have ea : upd H pf (.frz od (.dK (tiKv (counted ms)))) pf = some (.frz od (.dK (tiKv (counted ms)))) := upd_same
          generalize hH1 : upd H pf (.frz od (.dK (tiKv (counted ms)))) = H1 at *
          refine ⟨_, rfl, pf, od, rfl, .inl ⟨_, ea, fun D nD => ?_⟩⟩
          have aD : ∀ {a : Addr} {o : HO}, H1 a = some o → a ≠ D := fun {a o} e => ne_of_none e nD
          refine lc_it (walk_keys (d := pf) (o := od) (kvs := tiKv (counted ms))) (fun i G => (∀ a u, a ≠ D → H1 a = some u → G a = some u) ∧ G D = some (.lst (((firsts ms).take i).map fun f => V.int ((ms.count f : Nat) : Int)))) ⟨fun a u n e => by rw [upd_ne n]; exact e, upd_same⟩ (fun i G _ h => h.1 _ _ (aD ea) ea) ?_ ?_
          · rintro i x G G' hi ⟨kp, hd⟩ ⟨rfl, ke, v, hx, rfl⟩
            have hk : ((tiKv (counted ms)).map (·.1))[i]? = some ke := by rw [List.getElem?_map, hx]; rfl
            rw [ti_keys] at hk
            obtain ⟨n, hn, rfl⟩ := getD_map hk
            have hnf := List.mem_of_getElem? hn
            have il := (List.getElem?_eq_some_iff.mp hn).1
            have fl := firsts_len ms
            have sG : Same H1 G' := fun a u e => kp a u (aD e) e
            refine ⟨rfl, _, rfl, _, rfl, pf, _, rfl, .inl ⟨_, .inr n, .inr ⟨od, sG _ _ ea⟩, rfl, (tiC_val hnf).symm⟩, ?_⟩
            refine ⟨_, hd, by rw [List.length_map, List.length_take, sizeLine_eq]; omega, fun c o n e => by rw [upd_ne n]; exact kp c o n e, ?_⟩
            rw [upd_same, List.take_add_one, hn, List.map_append]
            rfl
          rintro G ⟨kp, hd⟩
          have hfl : (tiKv (counted ms)).length = (firsts ms).length := by have := congrArg List.length (ti_keys ms); rw [List.length_map, List.length_map] at this; exact this
          rw [hfl, List.take_of_length_le (Nat.le_refl _)] at hd
          have kD : pf ≠ D := aD ea
          have sF : Same H (upd G pf (.dK (tiKv (counted ms)))) := lock_same (o := od) hpf (by rw [hH1]; exact fun a u e => kp a u (aD e) e)
          refine ⟨kp _ _ kD ea, ?_⟩
          exact q D _ sF (by rw [upd_ne (Ne.symm kD)]; exact hd))) (nomark _)) (pss_one (ps_ret pe_bl)) pss_nil)
      (pss_cons (ps_set (i := 6) scPartsR.nd rfl (.inl rfl) (pe_lst pa_nil))
      (pss_cons (ps_for PassesOwn.never rfl (pi_range2 (by rfl) mra (pa_cons pe_int (pa_cons pe_int pa_nil))) (pg_name (i := 8) scPartsR.nd rfl (.inl rfl))
        (pss_one (ps_set (i := 6) scPartsR.nd rfl (.inl rfl) (pe_op op_cat (pv 6) (pe_methN0 (E := E0) (pv 0) W.C.cls MF GF r3 kl pass0 (by exact (pk_cons (pv 8) (pk_cons (pv 8) pk_nil))))))))
      (pss_cons (ps_setLc (i := 10) (own := [("_law_one", 9)]) (g := gName 9) (te := tVar 9) (tt := tTest (tOp rEq (tFld K (tMeth CB "question" (spQuestionB CB CQ cN) [] E0 (tVar 0) (tCons (tVar 9) tNil)) "kin") (tC (.str "")))) rfl scPartsR.nd rfl rfl (sw_true rfl rfl rfl (by decide +kernel)) (pi_list (pv 4)) (blkOk_by (N := NPartsR) (sc := defScope sPartsRight) (by decide +kernel)) (fun _ _ _ _ _ => pg_name (i := 9) scPartsR.nd rfl (Or.inl rfl)) (fun _ _ _ _ _ => by exact pts_one (pt_cmpR op_eq (pe_fld (pe_meth (E := E0) (pv 0) W.C.cls MQ GQ r4 bQ .nil pass_no (pa_cons (pv 9) pa_nil)) rfl) pe_str (nomark _))) (fun _ _ _ _ _ => pv 9))
      (pss_cons (ps_for PassesOwn.never rfl (pi_list (pv 1)) (pg_name (i := 11) scPartsR.nd rfl (.inl rfl))
        (pss_one (ps_set (i := 10) scPartsR.nd rfl (.inl rfl) (pe_op op_cat (pv 10) (pe_methN0 (E := E0) (pv 0) W.C.cls MF GF r3 kk pass0 (by exact (pk_cons (pv 11) pk_nil)))))))
      (pss_cons (ps_set (i := 12) scPartsR.nd rfl (.inr rfl) (pe_call (E := E0) GRe r5 (by rfl) gRe kRe bRe .nil pass_no (pa_cons (pv 0) (pa_cons (pv 2) (pa_cons (pv 3) pa_nil)))))
      (pss_cons (ps_if (PW.pt (pw_or (pt_cmpR (op_neS hu64) (pe_callB cr_sortedS (by rfl) mso (by decide +kernel) (pa_cons (pv 6) pa_nil)) (pv 4) (nomark _)) (pw_or1 (pt_cmpR (op_neS hu64) (pe_callB cr_sortedS (by rfl) mso (by decide +kernel) (pa_cons (pv 10) pa_nil)) (pv 4) (nomark _))))) (pss_one (ps_ret pe_bl)) pss_nil)
      (pss_cons (ps_if (pt_cmpR (op_neS hu64) (pe_lc (own := [("_law_one", 9)]) (g := gName 9) (te := tVar 9) (tt := tTest (tOp (rIn K true) (tVar 9) (tVar 12))) rfl scPartsR.nd (pi_list (pv 4)) (blkOk_by (N := NPartsR) (sc := defScope sPartsRight) (by decide +kernel)) (fun _ _ _ _ _ => pg_name (i := 9) scPartsR.nd rfl (Or.inl rfl)) (fun _ _ _ _ _ => by exact pts_one (pt_cmpR op_notIn_seq (pv 9) (pv 12) (by rfl))) (fun _ _ _ _ _ => by exact (pv 9))) (pe_methN0 (E := E0) (pv 0) W.C.cls MF GF r3 kdd pass0 (by exact (pk_cons (pv 2) (pk_cons (pv 3) pk_nil)))) (nomark _)) (pss_one (ps_ret pe_bl)) pss_nil)
      (pss_cons (ps_for PassesOwn.never rfl (pi_list (pe_meth0 (E := E0) (pv 0) W.C.cls MN GN r1 bN .nil pass0)) (pg_name (i := 9) scPartsR.nd rfl (.inl rfl))
        (pss_cons (ps_set (i := 13) scPartsR.nd rfl (.inl rfl) (pe_meth (E := E0) (pv 0) W.C.cls MDo GDo r4 bDo .nil pass_no (pa_cons (pv 9) pa_nil)))
        (pss_one (ps_if (PW.pt (pw_or (pt_cmpR op_ne (pe_meth (E := E0) (pv 0) W.C.cls MLa GLa r5 bL2' hdL2 pass_no (pa_cons (pv 9) pa_nil)) (pe_ifExp (pt_cmpR (op_neE hu1) (pv 13) (pe_lst pa_nil) (nomark _)) (pe_ix ix_list (pv 13) (pe_un un_neg pe_int) (fun _ _ => rfl)) pe_non) (nomark _)) (pw_or1 (pt_cmpR (op_neS hu64) (pv 13) (pe_callB cr_sortedI (by rfl) mso (by decide +kernel) (pa_cons (pv 13) pa_nil)) (nomark _))))) (pss_one (ps_ret pe_bl)) pss_nil))))
      (pss_one (ps_ret pe_bl)))))))))))))), ?_⟩
    have g := led.good
    have l60 := g.le
    have li := ins_len B
    have lms : B.ms.length ≤ 60 := by rw [ms_len]; omega
    obtain ⟨dx, hb⟩ := id hB.at_
    have nin : ∀ {x : Addr} {G : Hp}, Same H G → G x = none → x ∉ [k, r, d] := fun {x G} s nx z => by
      obtain ⟨kv, ek⟩ := hB.dk x z
      rw [s _ _ ek] at nx
      cases nx
    have flS : ∀ {l : List Str}, ∀ v ∈ l.map V.str, flatB v = true := fun {l} v hv => by
      obtain ⟨z, _, rfl⟩ := List.mem_map.mp hv
      rfl
    have srtP : ∀ {l : List Str}, l.Perm B.ins → srt l = B.ins := fun {l} p => (srt_congr p).trans (srt_self (ins_pairB B))
    refine ⟨_, rfl, b, dx, _, rfl, hb, lb_meth (by decide) _ _ _, b, k, r, d, B, rfl, hB, by omega, fun ph H1 s1 n1 h1 => ⟨_, rfl, b, dx, _, rfl, s1 _ _ hb, lb_meth (by decide) _ _ _, b, k, r, d, B, rfl, hB.same s1, g, fun pf H2 s2 n2 h2 => ⟨by show 2 ≤ sizeLine; decide, fun pt nt => ⟨pt, _, rfl, SqT.of upd_same, rfl, _, _, rfl, _, _, rfl, rfl, ?_⟩⟩⟩⟩
    have apf := nin s1 n2
    have s3 := (s1.trans s2).trans (same_upd (o := .tup [V.ref ph, V.ref pf]) nt)
    have h13 := same_upd (o := .tup [V.ref ph, V.ref pf]) nt _ _ (s2 _ _ h1)
    have h23 := same_upd (o := .tup [V.ref ph, V.ref pf]) nt _ _ h2
    generalize upd H2 pt (.tup [V.ref ph, V.ref pf]) = H3 at s3 h13 h23 ⊢
    refine ⟨by show 0 ≤ sizeLine; exact Nat.zero_le _, fun p6 n6 => ?_⟩
    have s4 := s3.trans (same_upd (o := .lst []) n6)
    have h14 := same_upd (o := .lst []) n6 _ _ h13
    have h24 := same_upd (o := .lst []) n6 _ _ h23
    have h6 : upd H3 p6 (.lst []) p6 = some (.lst []) := upd_same
    generalize upd H3 p6 (.lst []) = H4 at s4 h14 h24 h6 ⊢
    refine ⟨b, k, r, d, kd, ph, pf, p6, B, w_, sp, _, _, _, _, _, _, _, rfl, hB.same s4, g, apf, h24, h6, fun D v7 H5 s5 hD => ?_⟩
    have pm := part_m g
    have lD : ((firsts B.ms).flatMap fun f => B.found (askM f)).length < 64 := by rw [pm.length_eq]; omega
    have s05 := s4.trans s5
    refine ⟨_, rfl, D, _, rfl, SqL.of hD, lD, fun ys py pys so npy => ?_⟩
    rw [srt_of pys so, srtP pm]
    have s6 := same_upd (o := .lst (B.ins.map V.str)) npy
    have h16 := s6 _ _ (s5 _ _ h14)
    have h26 := s6 _ _ (s5 _ _ h24)
    have s06 := s05.trans s6
    refine ⟨_, rfl, py, ph, _, rfl, rfl, SqL.of upd_same, SqL.of h16, flS, _, rfl, iteF' (by simp) ?_⟩
    generalize upd H5 py (.lst (B.ins.map V.str)) = H6 at s6 h16 h26 s06 ⊢
    refine ⟨b, kd, ph, pf, w_, sp, B.ms, _, _, _, _, _, _, _, _, rfl, h26, lms, fun D7 H7 s7 h7 => ⟨D7, (firsts B.ms).map fun f => ((B.ms.count f : Nat) : Int), rfl, by rw [List.map_map]; exact SqL.of h7, ?_⟩⟩
    rw [sum_m g]
    have s07 := s06.trans s7
    have hB7 := hB.same s07
    refine ⟨_, rfl, b, dx, _, rfl, s07 _ _ hb, b, k, r, d, B, rfl, hB7, by omega, fun H8 s8 => ⟨_, rfl, by omega, by omega, ?_⟩⟩
    refine ⟨rfl, _, rfl, iteF' (by simp) ?_⟩
    have s08 := s07.trans s8
    have h28 := s8 _ _ (s7 _ _ h26)
    refine ⟨b, k, r, d, kd, ph, pf, B, w_, sp, _, _, _, _, _, _, _, _, rfl, hB7.same s8, g, apf, h28, fun D9 H9 s9 h9 => ?_⟩
    refine ⟨b, kd, ph, pf, w_, sp, B.ms, _, _, _, _, _, _, _, _, rfl, s9 _ _ h28, lms, fun DA HA sA hA => ?_⟩
    refine ⟨D9, DA, _, rfl, rfl, SqL.of (sA _ _ h9), SqL.of hA, fun v hv => by
      obtain ⟨f, _, rfl⟩ := List.mem_map.mp hv
      rfl, _, rfl, iteF' (by simp) ?_⟩
    have s0A := (s08.trans s9).trans sA
    have h1A := sA _ _ (s9 _ _ (s8 _ _ (s7 _ _ h16)))
    refine ⟨by show 0 ≤ sizeLine; exact Nat.zero_le _, fun pq nq => ?_⟩
    have s0B := s0A.trans (same_upd (o := .lst []) nq)
    have h1B := same_upd (o := .lst []) nq _ _ h1A
    have hq : upd HA pq (.lst []) pq = some (.lst []) := upd_same
    generalize upd HA pq (.lst []) = HB at s0B h1B hq ⊢
    have hBB := hB.same s0B
    refine ⟨1, 10, rfl, ⟨by decide, by decide, by decide, by decide⟩, ?_⟩
    refine for_it (walk_range (lo := 1) (n := 9)) (fun i σ G => (∃ (D : Addr) (v8 : Option V), σ = [some (.ref b), some (.ref kd), some (.int w_), some (.int sp), some (.ref ph), some (.ref pf), some (.ref D), v7, v8, none, none, none, none, none] ∧ G D = some (.lst ((((List.range i).map fun i => (1 : Int) + ((i : Nat) : Int)).flatMap fun i => B.found (askL i)).map V.str))) ∧ Same HB G) ⟨⟨pq, _, rfl, hq⟩, Same.refl _⟩ (fun _ _ _ _ _ => trivial) ?_ ?_
    · rintro i x σ G_ G hi ⟨⟨D, v8, rfl, hDG⟩, sG⟩ ⟨rfl, rfl⟩
      have hi9 : i < 9 := hi
      have hBG := hBB.same sG
      have b1 := flat_len (fun i => B.found (askL i)) 60 (fun f => Nat.le_trans (found_len B _) g.le) ((List.range i).map fun i => (1 : Int) + ((i : Nat) : Int))
      rw [List.length_map, List.length_range] at b1
      have b2 := Nat.le_trans (found_len B (askL (1 + (i : Int)))) g.le
      refine ⟨_, rfl, _, rfl, b, dx, _, rfl, sG _ _ (s0B _ _ hb), lb_meth (by decide) _ _ _, _, rfl, _, rfl, rfl, b, k, r, d, B, askL (1 + (i : Int)), rfl, hBG, g, fun p5 H5' s5' n5 h5' => ?_⟩
      refine ⟨D, p5, _, _, rfl, rfl, s5' _ _ hDG, h5', by rw [List.length_map, List.length_map, sizeLine_eq]; omega, fun p7 n7 => ?_⟩
      refine ⟨⟨p7, _, rfl, ?_⟩, sG.trans (s5'.trans (same_upd n7))⟩
      rw [upd_same, List.range_succ, List.map_append, List.flatMap_append, List.map_append]
      show _ = some (HO.lst (_ ++ ([(1 : Int) + ((i : Nat) : Int)].flatMap fun i => B.found (askL i)).map V.str))
      rw [List.flatMap_singleton]
    rintro σ G ⟨⟨D2, v8, rfl, hD2⟩, sG⟩
    have pl := part_l g
    have lD2 : (((List.range 9).map fun i => (1 : Int) + ((i : Nat) : Int)).flatMap fun i => B.found (askL i)).length < 64 := by rw [pl.length_eq]; omega
    have s0G := s0B.trans sG
    have hBG := hB.same s0G
    have h1G := sG _ _ h1B
    -- some
    refine ⟨_, rfl, ph, rfl, ⟨_, SqL.of h1G⟩, fun Dk nDk => ?_⟩
    have aK : ∀ {a : Addr} {o : HO}, G a = some o → a ≠ Dk := fun {a o} e => ne_of_none e nDk
    refine lc_it (walk_list (K := K) (a := ph) (xs := B.ins.map V.str)) (fun i G2 => (∀ a u, a ≠ Dk → G a = some u → G2 a = some u) ∧ G2 Dk = some (.lst (((B.ins.take i).filter fun n => decide ((B.f n).ki = "")).map V.str))) ⟨fun a u n e => by rw [upd_ne n]; exact e, upd_same⟩ (fun i G2 _ h => SqL.of (h.1 _ _ (aK h1G) h1G)) ?_ ?_
    · rintro i x G2 G' hi ⟨kp, hd⟩ ⟨rfl, hx⟩
      obtain ⟨n, hn, rfl⟩ := getD_map hx
      have hnB : n ∈ B.ns := inN (List.mem_of_getElem? hn)
      have sG2 : Same G G' := fun a u e => kp a u (aK e) e
      have hBg := hBG.same sG2
      refine ⟨rfl, _, rfl, b, dx, _, rfl, sG2 _ _ (s0G _ _ hb), lb_meth (by decide) _ _ _, _, rfl, b, k, r, d, B, .str n, rfl, hBg, .inl ⟨n, hnB, rfl, fun y qy => ?_⟩⟩
      obtain ⟨dq, aq, hq, _, _⟩ := id qy
      refine ⟨y, CQ, dq, _, _, rfl, hq, W.CC.cls, W.CC.no _ (by decide), look_kin _ _ _ _ _ _ _, rfl, _, rfl, ?_⟩
      rw [filter_snoc hn]
      by_cases he : (B.f n).ki = ""
      · refine iteT' (by simp [he]) ?_
        refine ⟨_, rfl, _, hd, ?_, fun a o n e => by rw [upd_ne n]; exact kp a o n e, by rw [upd_same, if_pos (by simp [he]), List.map_append]; rfl⟩
        have l1 := List.length_filter_le (fun n => decide ((B.f n).ki = "")) (B.ins.take i)
        have l2 : (B.ins.take i).length ≤ B.ins.length := by rw [List.length_take]; omega
        rw [List.length_map, sizeLine_eq]
        omega
      · refine iteF' (by simp [he]) ⟨kp, by rw [if_neg (by simp [he])]; exact hd⟩
    rintro G2 ⟨kp2, hd2⟩
    rw [List.length_map, List.take_of_length_le (Nat.le_refl _)] at hd2
    have sG2 : Same G G2 := fun a u e => kp2 a u (aK e) e
    have s02 := s0G.trans sG2
    have hB2 := hB.same s02
    refine ⟨_, rfl, kd, rfl, ⟨_, SqL.of (s02 _ _ hkd)⟩, ?_⟩
    obtain ⟨base, hbase⟩ : ∃ base, base = B.ins.filter fun n => decide ((B.f n).ki = "") := ⟨_, rfl⟩
    rw [← hbase] at hd2
    have lbase : base.length ≤ 60 := by rw [hbase]; have := List.length_filter_le (fun n => decide ((B.f n).ki = "")) B.ins; omega
    refine for_it (walk_list (K := K) (a := kd) (xs := ks.map V.str)) (fun i σ G' => (∃ (D : Addr) (v11 : Option V), σ = [some (.ref b), some (.ref kd), some (.int w_), some (.int sp), some (.ref ph), some (.ref pf), some (.ref D2), v7, v8, none, some (.ref D), v11, none, none] ∧ G' D = some (.lst ((base ++ (ks.take i).flatMap fun f => B.found (askK f)).map V.str))) ∧ Same G2 G') ⟨⟨Dk, _, rfl, by rw [List.take_zero, List.flatMap_nil, List.append_nil]; exact hd2⟩, Same.refl _⟩ (fun i σ G' _ h => SqL.of (h.2 _ _ (s02 _ _ hkd))) ?_ ?_
    · rintro i x σ G_ G' hi ⟨⟨D, v11, rfl, hDG⟩, sG'⟩ ⟨rfl, hx⟩
      obtain ⟨n, hn, rfl⟩ := getD_map hx
      rw [List.length_map] at hi
      have hBg := hB2.same sG'
      have b1 := flat_len (fun f => B.found (askK f)) 60 (fun f => Nat.le_trans (found_len B _) g.le) (ks.take i)
      rw [List.length_take] at b1
      have b2 := Nat.le_trans (found_len B (askK n)) g.le
      refine ⟨_, rfl, _, rfl, b, dx, _, rfl, sG' _ _ (s02 _ _ hb), lb_meth (by decide) _ _ _, _, rfl, rfl, b, k, r, d, B, askK n, rfl, hBg, g, fun p5 H5' s5' n5 h5' => ?_⟩
      refine ⟨D, p5, _, _, rfl, rfl, s5' _ _ hDG, h5', by rw [List.length_map, List.length_map, List.length_append, sizeLine_eq]; omega, fun p7 n7 => ?_⟩
      refine ⟨⟨p7, _, rfl, ?_⟩, sG'.trans (s5'.trans (same_upd n7))⟩
      rw [upd_same, List.take_add_one, hn, List.flatMap_append, ← List.append_assoc, ← List.map_append]
      show some (HO.lst _) = some (HO.lst ((_ ++ ([n].flatMap fun f => B.found (askK f))).map V.str))
      rw [List.flatMap_singleton]
    rintro σ G3 ⟨⟨D3, v11, rfl, hD3⟩, sG3⟩
    rw [List.length_map, List.take_of_length_le (Nat.le_refl _)] at hD3
    have pk := part_k g ndk nks led.ki
    rw [← hbase] at pk
    have lD3 : (base ++ ks.flatMap fun f => B.found (askK f)).length < 64 := by rw [pk.length_eq]; omega
    have s03 := s02.trans sG3
    refine ⟨_, rfl, _, rfl, _, rfl, .ref b, .int w_, .int sp, rfl, .inl ⟨b, k, r, d, B, rfl, hB.same s03, g, .int _, .int _, fun hw => absurd hw (by rw [whole_of w0 w9]; simp), fun _ hw => absurd hw (by rw [whole_of q0 q9]; simp), fun i' j' e1 e2 _ _ p12 HC sC nC hC => ?_⟩⟩
    cases e1
    cases e2
    have s0C := s03.trans sC
    have h1C := sC _ _ (sG3 _ _ (sG2 _ _ h1G))
    have h2C := sC _ _ (sG3 _ _ (sG2 _ _ hD2))
    refine ⟨_, rfl, D2, _, rfl, SqL.of h2C, lD2, fun ys py pys so npy => ?_⟩
    rw [srt_of pys so, srtP pl]
    have sE := same_upd (o := .lst (B.ins.map V.str)) npy
    have h1E := sE _ _ h1C
    have h3E := sE _ _ (sC _ _ hD3)
    have h12E := sE _ _ hC
    have s0E := s0C.trans sE
    refine ⟨_, rfl, py, ph, _, rfl, rfl, SqL.of upd_same, SqL.of h1E, flS, _, rfl, iteF' (by simp) ?_⟩
    generalize upd HC py (.lst (B.ins.map V.str)) = HE at sE h1E h3E h12E s0E ⊢
    refine ⟨_, rfl, D3, _, rfl, SqL.of h3E, lD3, fun ys py pys so npy => ?_⟩
    rw [srt_of pys so, srtP pk]
    have sF := same_upd (o := .lst (B.ins.map V.str)) npy
    have h1F := sF _ _ h1E
    have h12F := sF _ _ h12E
    have s0F := s0E.trans sF
    refine ⟨_, rfl, py, ph, _, rfl, rfl, SqL.of upd_same, SqL.of h1F, flS, _, rfl, iteF' (by simp) ?_⟩
    generalize upd HE py (.lst (B.ins.map V.str)) = HF at sF h1F h12F s0F ⊢
    have hBF := hB.same s0F
    refine ⟨_, rfl, ph, rfl, ⟨_, SqL.of h1F⟩, fun Dl nDl => ?_⟩
    have aL' : ∀ {a : Addr} {o : HO}, HF a = some o → a ≠ Dl := fun {a o} e => ne_of_none e nDl
    refine lc_it (walk_list (K := K) (a := ph) (xs := B.ins.map V.str)) (fun i G2 => (∀ a u, a ≠ Dl → HF a = some u → G2 a = some u) ∧ G2 Dl = some (.lst (((B.ins.take i).filter fun n => !decide (n ∈ B.rests w_ sp)).map V.str))) ⟨fun a u n e => by rw [upd_ne n]; exact e, upd_same⟩ (fun i G2 _ h => SqL.of (h.1 _ _ (aL' h1F) h1F)) ?_ ?_
    · rintro i x G2 G' hi ⟨kp, hd⟩ ⟨rfl, hx⟩
      obtain ⟨n, hn, rfl⟩ := getD_map hx
      refine ⟨rfl, _, rfl, _, rfl, p12, _, rfl, .inl (SqL.of (kp _ _ (aL' h12F) h12F)), rfl, flat_strs _, _, rfl, ?_⟩
      rw [in_strs, filter_snoc hn]
      by_cases he : n ∈ B.rests w_ sp
      · refine iteF' (by simp [he]) ⟨kp, by rw [if_neg (by simp [he])]; exact hd⟩
      · refine iteT' (by simp [he]) ?_
        refine ⟨_, rfl, _, hd, ?_, fun a o n e => by rw [upd_ne n]; exact kp a o n e, by rw [upd_same, if_pos (by simp [he]), List.map_append]; rfl⟩
        have l1 := List.length_filter_le (fun n => !decide (n ∈ B.rests w_ sp)) (B.ins.take i)
        have l2 : (B.ins.take i).length ≤ B.ins.length := by rw [List.length_take]; omega
        rw [List.length_map, sizeLine_eq]
        omega
    rintro G5 ⟨kp5, hd5⟩
    rw [List.length_map, List.take_of_length_le (Nat.le_refl _)] at hd5
    have sG5 : Same HF G5 := fun a u e => kp5 a u (aL' e) e
    have s05' := s0F.trans sG5
    refine ⟨_, rfl, b, dx, _, rfl, s05' _ _ hb, lb_meth (by decide) _ _ _, _, rfl, _, rfl, rfl, b, k, r, d, B, askD w_ sp, rfl, hB.same s05', g, fun p5 H5' s5' n5 h5' => ?_⟩
    rw [found_d g] at h5'
    refine ⟨Dl, p5, _, rfl, rfl, SqL.of (s5' _ _ hd5), SqL.of h5', flS, _, rfl, iteF' (by simp) ?_⟩
    have s06' := s05'.trans s5'
    refine ⟨_, rfl, b, dx, _, rfl, s06' _ _ hb, lb_meth (by decide) _ _ _, b, k, r, d, B, rfl, hB.same s06', by omega, fun pn Hn sn nn hpn => ⟨pn, rfl, ⟨_, SqL.of hpn⟩, ?_⟩⟩
    have s0n := s06'.trans sn
    have hl : ∀ m ∈ B.ns, (B.h m).length ≤ 1000 := fun m hm => by have := led.hl m hm; omega
    refine for_it (walk_list (K := K) (a := pn) (xs := (srt B.ns).map V.str)) (fun i σ G' => (∃ (v9 v13 : Option V), σ = [some (.ref b), some (.ref kd), some (.int w_), some (.int sp), some (.ref ph), some (.ref pf), some (.ref D2), v7, v8, v9, some (.ref D3), v11, some (.ref p12), v13]) ∧ Same Hn G') ⟨⟨_, _, rfl⟩, Same.refl _⟩ (fun i σ G' _ h => SqL.of (h.2 _ _ hpn)) ?_ ?_
    · rintro i x σ G_ G' hi ⟨⟨v9, v13, rfl⟩, sG'⟩ ⟨rfl, hx⟩
      obtain ⟨n, hn, rfl⟩ := getD_map hx
      have hnB : n ∈ B.ns := srt_mem.mp (List.mem_of_getElem? hn)
      have s0' := s0n.trans sG'
      have dy := g.dy n hnB
      refine ⟨_, rfl, b, dx, _, rfl, s0' _ _ hb, lb_meth (by decide) _ _ _, _, rfl, b, k, r, d, B, .str n, rfl, hB.same s0', .inl ⟨n, hnB, rfl, fun pd H6' s6' n6 h6' => ?_⟩⟩
      have s07' := s0'.trans s6'
      refine ⟨_, rfl, b, dx, _, rfl, s07' _ _ hb, lb_meth (by decide) _ _ _, _, rfl, b, k, r, d, B, .str n, .int 9999, rfl, hB.same s07', hl, .int _, .inl ⟨n, hnB, rfl, fun hw => absurd hw (by decide +kernel), fun j e _ _ H7' s7' => ?_⟩⟩
      cases e
      rw [last_all dy.2.1]
      have h7' := s7' _ _ h6'
      refine ⟨_, rfl, by show 0 ≤ sizeLine; exact Nat.zero_le _, fun pe npe => ?_⟩
      have s8' := same_upd (o := .lst []) npe
      have h8' := s8' _ _ h7'
      have hpe : upd H7' pe (.lst []) pe = some (.lst []) := upd_same
      have sAll := (sG'.trans s6').trans (s7'.trans s8')
      generalize upd H7' pe (.lst []) = H8' at s8' h8' hpe sAll ⊢
      have srt2 : tTest (tOp (rNeS K) (tVar 13) (tCB (rSortedI K) (tCons (tVar 13) tNil))) [] H8' (fun _ _ => True) → True := fun _ => trivial
      have fin2 : ∀ (Q2 : Bool → Hp → Prop), (∀ H9, Same H8' H9 → Q2 false H9) → tTest (tOp (rNeS K) (tVar 13) (tCB (rSortedI K) (tCons (tVar 13) tNil))) [some (.ref b), some (.ref kd), some (.int w_), some (.int sp), some (.ref ph), some (.ref pf), some (.ref D2), v7, v8, some (.str n), some (.ref D3), v11, some (.ref p12), some (.ref pd)] H8' Q2 := fun Q2 hQ2 => by
        refine ⟨_, rfl, _, rfl, pd, B.h n, rfl, SqL.of h8', fun ns' p pm so np => ?_⟩
        rw [permZ_eq pm so (dy.1.imp Int.le_of_lt)]
        have s9' := same_upd (o := .lst ((B.h n).map V.int)) np
        exact ⟨pd, p, _, rfl, rfl, SqL.of (s9' _ _ h8'), SqL.of upd_same, fun v hv => by
          obtain ⟨z, _, rfl⟩ := List.mem_map.mp hv
          rfl, _, rfl, hQ2 _ s9'⟩
      rcases List.eq_nil_or_concat (B.h n) with hz | ⟨init, xl, hz⟩
      · refine ⟨pd, pe, _, rfl, rfl, SqL.of h8', SqL.of hpe, _, rfl, iteF' (by simp [hz]) ?_⟩
        rw [hz]
        refine ⟨rfl, _, rfl, iteF' (by simp [optV]) ?_⟩
        exact fin2 _ fun H9 s9 => iteF' (by simp) ⟨⟨_, _, rfl⟩, sAll.trans s9⟩
      · refine ⟨pd, pe, _, rfl, rfl, SqL.of h8', SqL.of hpe, _, rfl, iteT' (by simp [hz]) ?_⟩
        refine ⟨_, rfl, 1, rfl, pd, _, -1, .int xl, rfl, rfl, SqL.of h8', by rw [hz, List.concat_eq_append, List.map_append]; exact atI_last _ _, ?_⟩
        rw [hz, List.concat_eq_append, List.getLast?_concat]
        refine ⟨rfl, _, rfl, iteF' (by simp [optV]) ?_⟩
        exact fin2 _ fun H9 s9 => iteF' (by simp) ⟨⟨_, _, rfl⟩, sAll.trans s9⟩
    rintro σ G6 ⟨⟨v9, v13, rfl⟩, sG6⟩
    exact fin _ (s0n.trans sG6)
end
end Pk
namespace Pk
open PySem L2
/-! ### _law_back_right -/
theorem eqO_go {K : PySem.W.Frag} {CB CQ : Addr} {H : Hp} {b k r d b2 k2 r2 d2 : Addr} {B C : BD} {Q : VK} (OB : OTy K CB) (hB : BankAt CB CQ H b k r d B) (g : GoodB B) (h2 : BankAt CB CQ H b2 k2 r2 d2 C) (g2 : GoodB C) (n1 : k ≠ k2) (n2 : r ≠ r2) (n3 : d ≠ d2) (q : Q (.bl (eqBk B C)) H) : rEqO K CB (spEqB2 K CB CQ) (.ref b) (.ref b2) H Q := by
  obtain ⟨dx, hb⟩ := id hB.at_
  obtain ⟨dx2, hb2⟩ := id h2.at_
  have nf : PySem.W.notFirst K CB (.ref CB) = true := by simp [PySem.W.notFirst]
  exact ⟨b, dx, _, .ref CB, rfl, hb, OB.ty hb2, nf, b, k, r, d, B, .ref b2, rfl, hB, g, .inl ⟨b2, k2, r2, d2, C, rfl, h2, g2, n1, n2, n3, ⟨_, rfl⟩, q⟩⟩
theorem neO_go {K : PySem.W.Frag} {CB CQ : Addr} {H : Hp} {b k r d b2 k2 r2 d2 : Addr} {B C : BD} {Q : VK} (OB : OTy K CB) (hB : BankAt CB CQ H b k r d B) (g : GoodB B) (h2 : BankAt CB CQ H b2 k2 r2 d2 C) (g2 : GoodB C) (n1 : k ≠ k2) (n2 : r ≠ r2) (n3 : d ≠ d2) (q : Q (.bl (!eqBk B C)) H) : rNeO K CB (spEqB2 K CB CQ) (.ref b) (.ref b2) H Q := by
  obtain ⟨dx, hb⟩ := id hB.at_
  obtain ⟨dx2, hb2⟩ := id h2.at_
  have nf : PySem.W.notFirst K CB (.ref CB) = true := by simp [PySem.W.notFirst]
  exact ⟨b, dx, _, .ref CB, rfl, hb, OB.ty hb2, nf, b, k, r, d, B, .ref b2, rfl, hB, g, .inl ⟨b2, k2, r2, d2, C, rfl, h2, g2, n1, n2, n3, _, rfl, q⟩⟩
theorem eqQ_go {K : PySem.W.Frag} {CQ : Addr} {H : Hp} {x y : Addr} {q1 q2 : QD} {Q : VK} (OQ : OTy K CQ) (h1 : QI CQ H x q1) (h2 : QI CQ H y q2) (q : Q (.bl (decide (q1 = q2))) H) : rEqO K CQ (spQEq K CQ) (.ref x) (.ref y) H Q := by
  obtain ⟨dx, a, e1, _⟩ := id h1
  obtain ⟨dx2, a2, e2, _⟩ := id h2
  have nf : PySem.W.notFirst K CQ (.ref CQ) = true := by simp [PySem.W.notFirst]
  exact ⟨x, dx, _, .ref CQ, rfl, e1, OQ.ty e2, nf, x, .ref y, q1, rfl, h1, .inl ⟨y, q2, rfl, h2, ⟨_, rfl⟩, q⟩⟩
theorem len_go {CB CQ : Addr} {H : Hp} {b k r d : Addr} {B : BD} {Q : VK} (hB : BankAt CB CQ H b k r d B) (g : GoodB B) (q : ∀ H', Same H H' → Q (.int B.ins.length) H') : rLenO CB (spLenB CB CQ) [.ref b] H Q := by
  obtain ⟨dx, hb⟩ := id hB.at_
  have l60 := g.le
  have li := ins_len B
  exact ⟨b, dx, _, rfl, hb, b, k, r, d, B, rfl, hB, by omega, fun H' s => ⟨_, rfl, by omega, by omega, q H' s⟩⟩
abbrev S8 (b p b2 pd : Addr) (n : Str) (i : Int) (io : Bool) (v7 : Option V) : List (Option V) := [some (.ref b), some (.str n), some (.int i), some (.ref p), some (.ref b2), some (.ref pd), some (.bl io), v7]
structure TwoB (CB CQ : Addr) (H : Hp) (b k r d b2 k2 r2 d2 : Addr) (B C : BD) (ls ks : List Str) : Prop where
  one : BankAt CB CQ H b k r d B
  two : BankAt CB CQ H b2 k2 r2 d2 C
  eqv : EqvB B C
  led : Led ls ks 60 B
  n1 : k2 ∉ [k, r, d]
  n2 : r2 ∉ [k, r, d]
  n3 : d2 ∉ [k, r, d]
  l40 : B.ns.length ≤ 40
section
variable {CB CQ : Addr} {H H' : Hp} {b k r d b2 k2 r2 d2 : Addr} {B C : BD} {ls ks : List Str}
theorem TwoB.step {B' : BD} {L : List Addr} (h : TwoB CB CQ H b k r d b2 k2 r2 d2 B C ls ks) (hL : ∀ x ∈ L, x ∈ [k, r, d]) (u : Bt L H H') (hb : BankAt CB CQ H' b k r d B') (e : EqvB B' B) : TwoB CB CQ H' b k r d b2 k2 r2 d2 B' C ls ks :=
  ⟨hb, h.one.other h.two (u.mono hL) h.n1 h.n2 h.n3, e.trans h.eqv, h.led.eqv e.symm, h.n1, h.n2, h.n3, by rw [e.ns.length_eq]; exact h.l40⟩
theorem TwoB.same (h : TwoB CB CQ H b k r d b2 k2 r2 d2 B C ls ks) (s : Same H H') : TwoB CB CQ H' b k r d b2 k2 r2 d2 B C ls ks := h.step (L := []) (fun _ z => nomatch z) (Bt.same s) (h.one.same s) (EqvB.refl _)
/-- the banks, one of them another for a while -/
theorem TwoB.eq {K : PySem.W.Frag} {B' : BD} {L : List Addr} {Q : VK} (h : TwoB CB CQ H b k r d b2 k2 r2 d2 B C ls ks) (OB : OTy K CB) (hL : ∀ x ∈ L, x ∈ [k, r, d]) (u : Bt L H H') (hb : BankAt CB CQ H' b k r d B') (g : GoodB B') (q : Q (.bl (eqBk B' C)) H') : rEqO K CB (spEqB2 K CB CQ) (.ref b) (.ref b2) H' Q :=
  eqO_go OB hb g (h.one.other h.two (u.mono hL) h.n1 h.n2 h.n3) (h.eqv.good h.led.good) (fun z => h.n1 (by rw [← z]; exact List.mem_cons_self)) (fun z => h.n2 (by rw [← z]; exact List.mem_cons_of_mem _ List.mem_cons_self)) (fun z => h.n3 (by rw [← z]; exact List.mem_cons_of_mem _ (List.mem_cons_of_mem _ List.mem_cons_self))) q
end
def tStep (CB CQ : Addr) : TS := fun Dn σ H => ∃ (b k r d b2 k2 r2 d2 p pd : Addr) (B C : BD) (ls ks : List Str) (n : Str) (i : Int) (v7 : Option V), σ = S8 b p b2 pd n i (decide (n ∉ B.os)) v7 ∧ TwoB CB CQ H b k r d b2 k2 r2 d2 B C ls ks ∧ n ∈ B.ns ∧ 0 ≤ i ∧ i ≤ 9999 ∧ H pd = some (.lst ((B.h n).map .int)) ∧
  ∀ H', Bt [k, r, d] H H' → ∀ B', BankAt CB CQ H' b k r d B' → EqvB B' B → Dn.nx (S8 b p b2 pd n i (decide (n ∉ B.os)) v7) H'
def tStep3 (CB CQ : Addr) : TS := fun Dn σ H => ∃ (b k r d b2 k2 r2 d2 p pd x : Addr) (B C : BD) (ls ks : List Str) (n : Str) (i : Int), σ = S8 b p b2 pd n i (decide (n ∉ B.os)) (some (.ref x)) ∧ TwoB CB CQ H b k r d b2 k2 r2 d2 B C ls ks ∧ n ∈ B.ns ∧ QI CQ H x (B.f n) ∧ H pd = some (.lst ((B.h n).map .int)) ∧
  ∀ H', Bt [k, r, d] H H' → ∀ B', BankAt CB CQ H' b k r d B' → EqvB B' B → Dn.nx (S8 b p b2 pd n i (decide (n ∉ B.os)) (some (.ref x))) H'
def RowT (H : Hp) (p : Addr) (q : QD) : Prop := ∃ a, H p = some (.tup [.str q.mt, .ref a, .int q.ri, .int q.tl, .int q.ma, .str q.ki]) ∧ H a = some (.tup (q.ws.map V.str))
def spBackR (CB CQ : Addr) : Sp := fun vs H Q _ => ∃ (b k r d p : Addr) (B : BD) (ls ks : List Str) (n : Str) (i : Int) (q : QD), vs = [.ref b, .str n, .int i, .ref p] ∧ BankAt CB CQ H b k r d B ∧ Led ls ks 60 B ∧ B.ns.length ≤ 40 ∧ n ∈ B.ns ∧ 0 ≤ i ∧ i ≤ 9999 ∧ RowT H p q ∧ QG q ∧ q.nm = n ∧
  ∀ H', Bt [k, r, d] H H' → ∀ B', BankAt CB CQ H' b k r d B' → EqvB B' B → Q (.bl true) H'
section
variable {P : Program} {w : World} {K : PySem.W.Frag} {mg : Str → Option Value} {base : Heap} {CB CQ cN : Addr} {c : Nat → Addr}
abbrev NBackR : List Str := ["_law_bank", "_law_label", "_law_when", "_law_row_here", "_law_kept", "_law_days", "_law_is_in", "_law_one"]
theorem scBackR : FnScope NBackR ["_law_bank", "_law_label", "_law_when", "_law_row_here"] (defScope sBackRight) := ⟨rfl, rfl, rfl, by decide +kernel, rfl, by decide +kernel, by decide +kernel⟩
theorem ok_backR {f fM : Addr} {fd fdM : FuncData} (F : Fun K "_law_back_right" "_law_back_right" sBackRight f fd) (W : BkW P w K mg base CB CQ cN) (DW : DeedW P w K mg base CB CQ c) (LW : LastW P w K mg base CB CQ c) (ml : mg "len" = none)
    (neE : PySem.W.findIn K (.ref CB) "__ne__" = some (some (.builtin "object.__ne__")))
    (GM : FnOk P w K mg base CX0 7 fM fdM ["_law_row_here"] (spMade CQ)) (kM : PySem.W.keepIn K (.ref fM) = true) (bM : Binds K fdM ["_law_row_here"] []) (gM : mg "_law_made" = some (.ref fM)) :
    FnOk P w K mg base CX0 9 f fd ["_law_bank", "_law_label", "_law_when", "_law_row_here"] (spBackR CB CQ) := by
  obtain ⟨fA, fdA, FA, GA, MA, bA⟩ := DW.added
  obtain ⟨fU, fdU, FU, GU, MU, bU⟩ := DW.put
  obtain ⟨fO, fdO, FO, GO, MO⟩ := DW.out
  obtain ⟨fB, fdB, FB, GB, MB, bB⟩ := DW.back
  obtain ⟨fX, fdX, FX, GX, MX, bX⟩ := DW.dropped
  obtain ⟨fS, fdS, FS, GS, MS, bS⟩ := DW.used
  obtain ⟨fNn, fdNn, FNn, GNn, MNn, bNn⟩ := DW.unused
  obtain ⟨fN, fdN, GN, MN, bN⟩ := W.names
  obtain ⟨fNi, fdNi, GNi, MNi, bNi⟩ := W.namesIn
  obtain ⟨fL, fdL, GL, aL, hL, bL⟩ := W.len
  obtain ⟨fQ, fdQ, GQ, MQ, bQ⟩ := W.question
  obtain ⟨fDo, fdDo, GDo, MDo, bDo⟩ := W.daysOf
  obtain ⟨fTw, fdTw, GTw, MTw, bTw⟩ := LW.twin
  obtain ⟨fLa, fdLa, FLa, GLa, MLa⟩ := LW.last
  obtain ⟨fE, fdE, GE, aE, hE, bE⟩ := LW.eq
  obtain ⟨fQE, fdQE, GQE, aQE, hQE, bQE⟩ := LW.qeq
  obtain ⟨dO1, hdO1, bO1⟩ := bOut1 FO
  obtain ⟨dL3, hdL3, bL3'⟩ := bL3 FLa
  have OB := LW.isB
  have OQ := LW.isQ
  refine F.ok scBackR (fun vs H Q E h => ?_) (fun cdv A outer s H vs Q E hr h => ?_)
  · obtain ⟨b, k, r, d, p, B, ls, ks, n, i, q, rfl, _⟩ := h
    rfl
  · obtain ⟨b, k, r, d, p, B, ls, ks, n, i, q, rfl, hB, led, l40, hn, i0, i9, hp, qg, qn, fin⟩ := h
    have hu := hu_of hr
    have hu1 : _ < cLine := room1 hr
    have r1 : Room 1 _ := hr.mono (by decide)
    have r2 : Room 2 _ := hr.mono (by decide)
    have r4 : Room 4 _ := hr.mono (by decide)
    have r5 : Room 5 _ := hr.mono (by decide)
    have r7 : Room 7 _ := hr.mono (by decide)
    have r8 : Room 8 _ := hr.mono (by decide)
    refine ⟨_, pss_cons (ps_par (i := 4) (j := 5) (by rfl) scBackR.nd rfl rfl (by decide) rfl rfl (pa_cons (pe_meth0 (E := E0) (pv 0) W.C.cls MTw GTw r8 bTw .nil pass0) (pa_cons (pe_meth (E := E0) (pv 0) W.C.cls MDo GDo r4 bDo .nil pass_no (pa_cons (pv 1) pa_nil)) pa_nil)) (by rfl))
      (pss_cons (ps_set (i := 6) scBackR.nd rfl (.inl rfl) (pe_cmpR op_in_seq (pv 1) (pe_meth0 (E := E0) (pv 0) W.C.cls MNi GNi r2 bNi .nil pass0) (by rfl)))
      (pss_cons (ps_imp (tStep CB CQ) (ps_if (pt_val (pv 6)) (pss_cons (ps_expr (pe_meth (E := E0) (pv 0) DW.C.cls MO GO r5 bO1 hdO1 pass_no (pa_cons (pv 1) pa_nil)))
      (pss_cons (ps_if (PW.pt (pw_or (pt_cmpR (op_eqO GE r4 aE hE bE) (pv 0) (pv 4) (nomark _)) (pw_or1 (pt_cmpR op_ne (pe_callB (call_lenO GL r2 aL hL bL) (by rfl) ml PySem.boot_len (pa_cons (pv 0) pa_nil)) (pe_op op_sub (pe_callB (call_lenO GL r2 aL hL bL) (by rfl) ml PySem.boot_len (pa_cons (pv 4) pa_nil)) pe_int) (nomark _))))) (pss_one (ps_ret pe_bl)) pss_nil)
      (pss_one (ps_expr (pe_meth (E := E0) (pv 0) DW.C.cls MB GB r5 bB .nil pass_no (pa_cons (pv 1) pa_nil)))))) pss_nil) (by
          rintro Dn σ H ⟨b, k, r, d, b2, k2, r2, d2, p, pd, B, C, ls, ks, n, i, v7, rfl, T, hn, i0, i9, hpd, q⟩
          have g := T.led.good
          have l60 := g.le
          have lo := os_len g
          by_cases ho : n ∈ B.os
          · exact ⟨_, rfl, _, rfl, iteF' (by simp [ho]) (q H Bt.refl B T.one (EqvB.refl _))⟩
          · refine ⟨_, rfl, _, rfl, iteT' (by simp [ho]) ?_⟩
            obtain ⟨dx, hb⟩ := id T.one.at_
            have tz : textT "wrong" = true := by decide +kernel
            refine ⟨_, rfl, b, dx, _, rfl, hb, lb_meth (by decide) _ _ _, _, rfl, b, k, r, d, B, .str n, .str "wrong", rfl, T.one, by omega, text_thg tz, .inl ⟨n, hn, rfl, fun t e ht H1 u1 hB1 => ?_, fun h => absurd h (by rw [show textV (.str "wrong") = textT "wrong" from rfl, tz]; simp)⟩⟩
            cases e
            have g1 := g.out hn tz
            have T2 := T.one.other T.two (u1.mono (by simp)) T.n1 T.n2 T.n3
            have gC := T.eqv.good g
            refine ⟨_, rfl, _, rfl, T.eq OB (L := [r]) (by simp) u1 hB1 g1 ?_⟩
            rw [out_ne (z := "wrong") T.eqv ho]
            refine ⟨_, rfl, iteF' (by simp) ?_⟩
            obtain ⟨dx1, hb1⟩ := id hB1.at_
            have li1 := ins_len (B.out n "wrong")
            have li2 := ins_len C
            have lC := gC.le
            have l1 : (B.out n "wrong").ns.length ≤ 60 := l60
            refine ⟨_, rfl, b, dx1, _, rfl, hb1, b, k, r, d, _, rfl, hB1, by omega, fun H2 s2 => ⟨_, rfl, by omega, by omega, ?_⟩⟩
            have T2' := T2.same s2
            obtain ⟨dx2, hb2⟩ := id T2'.at_
            refine ⟨_, rfl, b2, dx2, _, rfl, hb2, b2, k2, r2, d2, _, rfl, T2', by omega, fun H3 s3 => ⟨_, rfl, by omega, by omega, ?_⟩⟩
            have e1 := out_ins (z := "wrong") g hn ho
            have e2 : C.ins.length = B.ins.length := by rw [T.eqv.ins]
            refine ⟨_, _, rfl, rfl, rfl, _, rfl, iteF' ?_ ?_⟩
            · simp
              omega
            have hB3 := (hB1.same s2).same s3
            obtain ⟨dx3, hb3⟩ := id hB3.at_
            refine ⟨_, rfl, b, dx3, _, rfl, hb3, lb_meth (by decide) _ _ _, _, rfl, b, k, r, d, _, .str n, rfl, hB3, .inl ⟨n, hn, rfl, fun _ H4 u4 hB4 => ?_, fun h => absurd (putN_mem.mpr (.inr rfl)) h⟩⟩
            refine q H4 ?_ _ hB4 (out_back ho)
            exact (u1.mono (by simp)).trans (((Bt.same s2).trans (Bt.same s3)).trans (u4.mono (by simp)))))
      (pss_cons (ps_imp (tStep CB CQ) (ps_if (pt_cmpR op_notIn_seq (pv 2) (pv 5) (by rfl)) (pss_cons (ps_expr (pe_meth (E := E0) (pv 0) DW.C.cls MS GS r5 bS .nil pass_no (pa_cons (pv 1) (pa_cons (pv 2) pa_nil))))
      (pss_cons (ps_if (PW.pt (pw_or (pt_cmpR (op_eqO GE r4 aE hE bE) (pv 0) (pv 4) (nomark _)) (pw_or1 (pt_cmpR op_ne (pe_meth (E := E0) (pv 0) W.C.cls MLa GLa r5 bL3' hdL3 pass_no (pa_cons (pv 1) (pa_cons (pv 2) pa_nil))) (pv 2) (nomark _))))) (pss_one (ps_ret pe_bl)) pss_nil)
      (pss_one (ps_expr (pe_meth (E := E0) (pv 0) DW.C.cls MNn GNn r5 bNn .nil pass_no (pa_cons (pv 1) (pa_cons (pv 2) pa_nil))))))) pss_nil) (by
          rintro Dn σ H ⟨b, k, r, d, b2, k2, r2, d2, p, pd, B, C, ls, ks, n, i, v7, rfl, T, hn, i0, i9, hpd, q⟩
          have g := T.led.good
          have l60 := g.le
          by_cases hi : i ∈ B.h n
          · refine ⟨_, rfl, _, rfl, pd, _, rfl, .inl (SqL.of hpd), rfl, flat_ints _, _, rfl, ?_⟩
            rw [in_ints]
            exact iteF' (by simp [hi]) (q H Bt.refl B T.one (EqvB.refl _))
          · refine ⟨_, rfl, _, rfl, pd, _, rfl, .inl (SqL.of hpd), rfl, flat_ints _, _, rfl, ?_⟩
            rw [in_ints]
            refine iteT' (by simp [hi]) ?_
            obtain ⟨dx, hb⟩ := id T.one.at_
            have hl : ∀ m ∈ B.ns, (B.h m).length ≤ 60 := T.led.hl
            refine ⟨_, rfl, b, dx, _, rfl, hb, lb_meth (by decide) _ _ _, _, rfl, _, rfl, b, k, r, d, B, .str n, .int i, rfl, T.one, by omega, fun m hm => by have := hl m hm; omega, .int _, .inl ⟨n, hn, rfl, fun hw => absurd hw (by rw [whole_of i0 i9]; simp), fun j e _ _ H1 u1 hB1 => ?_⟩⟩
            cases e
            have L1 := T.led.day hn (by omega) i0 i9
            have g1 := L1.good
            have hl1 : ∀ m ∈ B.ns, ((B.day n (addD (B.h n) i)).h m).length ≤ 1000 := fun m hm => by have := L1.hl m hm; omega
            have T2 := T.one.other T.two (u1.mono (by simp)) T.n1 T.n2 T.n3
            have hself : (B.day n (addD (B.h n) i)).h n = addD (B.h n) i := upF_at _ _ _
            refine ⟨_, rfl, _, rfl, T.eq OB (L := [d]) (by simp) u1 hB1 g1 ?_⟩
            rw [day_ne T.eqv hn hi]
            refine ⟨_, rfl, iteF' (by simp) ?_⟩
            obtain ⟨dx1, hb1⟩ := id hB1.at_
            refine ⟨_, rfl, b, dx1, _, rfl, hb1, lb_meth (by decide) _ _ _, _, rfl, _, rfl, b, k, r, d, _, .str n, .int i, rfl, hB1, hl1, .int _, .inl ⟨n, hn, rfl, fun hw => absurd hw (by rw [whole_of i0 i9]; simp), fun j e _ _ H2 s2 => ?_⟩⟩
            cases e
            have el : lastD ((B.day n (addD (B.h n) i)).h n) i = some i := by
              rw [hself]
              refine IsMax.uniq (lastD_max (addD_pair (g.dy n hn).1)) ?_ (.refl _)
              exact ⟨addD_mem.mpr (.inr rfl), Int.le_refl _, fun z _ hz => hz⟩
            rw [el]
            refine ⟨_, rfl, rfl, _, rfl, iteF' (by simp [optV]) ?_⟩
            have hB2 := hB1.same s2
            obtain ⟨dx2, hb2⟩ := id hB2.at_
            refine ⟨_, rfl, b, dx2, _, rfl, hb2, lb_meth (by decide) _ _ _, _, rfl, _, rfl, b, k, r, d, _, .str n, .int i, rfl, hB2, by show B.ns.length ≤ _; omega, hl1, .int _, .inl ⟨n, hn, rfl, fun hw => absurd hw (by rw [whole_of i0 i9]; simp), fun j e _ _ => ?_⟩⟩
            cases e
            refine ⟨fun h => absurd (by rw [hself]; exact addD_mem.mpr (.inr rfl)) h, fun _ H3 u3 hB3 => ?_⟩
            rw [day_back g hn hi] at hB3
            refine q H3 ?_ B hB3 (EqvB.refl _)
            exact (u1.mono (by simp)).trans ((Bt.same s2).trans (u3.mono (by simp)))))
      (pss_cons (ps_set (i := 7) scBackR.nd rfl (.inl rfl) (pe_meth (E := E0) (pv 0) W.C.cls MQ GQ r4 bQ .nil pass_no (pa_cons (pv 1) pa_nil)))
      (pss_cons (ps_expr (pe_meth (E := E0) (pv 0) DW.C.cls MU GU r5 bU .nil pass_no (pa_cons (pe_call (E := E0) GM r7 (by rfl) gM kM bM .nil pass0 (pa_cons (pe_op op_catE (pe_tup (pa_cons (pv 1) pa_nil)) (pv 3)) pa_nil)) pa_nil)))
      (pss_cons (ps_if (pt_cmpR op_ne (pe_cmpR (op_eqO GE r4 aE hE bE) (pv 0) (pv 4) (nomark _)) (pe_cmpR (op_eqO GQE r2 aQE hQE bQE) (pe_meth (E := E0) (pv 0) W.C.cls MQ GQ r4 bQ .nil pass_no (pa_cons (pv 1) pa_nil)) (pv 7) (nomark _)) (nomark _)) (pss_one (ps_ret pe_bl)) pss_nil)
      (pss_cons (ps_expr (pe_meth (E := E0) (pv 0) DW.C.cls MU GU r5 bU .nil pass_no (pa_cons (pv 7) pa_nil)))
      (pss_cons (ps_if (pt_cmpR (op_neO GE r5 aE neE OB.hm hE bE) (pv 0) (pv 4) (nomark _)) (pss_one (ps_ret pe_bl)) pss_nil)
      (pss_cons (ps_imp (tStep3 CB CQ) (ps_if (PW.pt (pw_and (pt_val (pv 6)) (pw_and1 (pt_cmpR (op_eqE hu1) (pv 5) (pe_lst pa_nil) (nomark _))))) (pss_cons (ps_expr (pe_meth (E := E0) (pv 0) DW.C.cls MX GX r5 bX .nil pass_no (pa_cons (pv 1) pa_nil)))
      (pss_cons (ps_if (PW.pt (pw_or (pt_cmpR (op_eqO GE r4 aE hE bE) (pv 0) (pv 4) (nomark _)) (pw_or1 (pt_cmpR op_in_seq (pv 1) (pe_meth0 (E := E0) (pv 0) W.C.cls MN GN r1 bN .nil pass0) (by rfl))))) (pss_one (ps_ret pe_bl)) pss_nil)
      (pss_one (ps_expr (pe_meth (E := E0) (pv 0) DW.C.cls MA GA r5 bA .nil pass_no (pa_cons (pv 7) pa_nil)))))) pss_nil) (by
          rintro Dn σ H ⟨b, k, r, d, b2, k2, r2, d2, p, pd, x, B, C, ls, ks, n, i, rfl, T, hn, qi, hpd, q⟩
          have g := T.led.good
          have l60 := g.le
          have dn : ∀ H', Same H H' → Dn.nx (S8 b p b2 pd n i (decide (n ∉ B.os)) (some (.ref x))) H' := fun H' s => q H' (Bt.same s) B (T.one.same s) (EqvB.refl _)
          by_cases ho : n ∈ B.os
          · exact ⟨_, rfl, _, rfl, iteF' (by simp [ho]) (iteF' (by simp [ho]) (dn H (Same.refl H)))⟩
          · refine ⟨_, rfl, _, rfl, iteT' (by simp [ho]) ?_⟩
            refine ⟨_, rfl, by show 0 ≤ sizeLine; exact Nat.zero_le _, fun pe npe => ?_⟩
            have s1 := same_upd (o := .lst []) npe
            have hpe : upd H pe (.lst []) pe = some (.lst []) := upd_same
            have hpd1 := s1 _ _ hpd
            have T1 := T.same s1
            generalize upd H pe (.lst []) = H1 at s1 hpe hpd1 T1 ⊢
            refine ⟨pd, pe, _, rfl, rfl, SqL.of hpd1, SqL.of hpe, _, rfl, ?_⟩
            by_cases hd : B.h n = []
            case neg => exact iteF' (by simp [hd]) (dn H1 s1)
            refine iteT' (by simp [hd]) ?_
            obtain ⟨dx, hb⟩ := id T1.one.at_
            refine ⟨_, rfl, b, dx, _, rfl, hb, lb_meth (by decide) _ _ _, _, rfl, b, k, r, d, B, .str n, rfl, T1.one, g.os, .inl ⟨n, hn, rfl, fun H2 u2 hB2 => ?_⟩⟩
            refine ⟨_, rfl, _, rfl, T1.eq OB (L := [k, r, d]) (fun _ z => z) u2 hB2 g.drop ?_⟩
            rw [drop_ne T.eqv g hn]
            refine ⟨_, rfl, iteF' (by simp) ?_⟩
            obtain ⟨dx2, hb2⟩ := id hB2.at_
            have nd := dropN_len g.nd hn
            have ld : (B.drop n).ns.length ≤ 59 := by show (dropN B.ns n).length ≤ 59; omega
            refine ⟨_, rfl, _, rfl, b, dx2, _, rfl, hb2, lb_meth (by decide) _ _ _, b, k, r, d, _, rfl, hB2, by omega, fun p3 H3 s3 n3 h3 => ⟨p3, _, rfl, .inl (SqL.of h3), rfl, flat_strs _, _, rfl, ?_⟩⟩
            rw [in_strs]
            have hnn : n ∉ (B.drop n).ns := fun z => (dropN_mem.mp z).2 rfl
            have hns : n ∉ srt (B.drop n).ns := fun z => hnn (srt_mem.mp z)
            refine iteF' (by simp [hns]) ?_
            have hB3 := hB2.same s3
            obtain ⟨dx3, hb3⟩ := id hB3.at_
            have qi3 := (QI.off2 T1.one (qi.same s1) u2).same s3
            have qn := (g.nm n hn).2
            refine ⟨_, rfl, b, dx3, _, rfl, hb3, lb_meth (by decide) _ _ _, _, rfl, b, k, r, d, _, .ref x, rfl, hB3, .inl ⟨x, B.f n, rfl, qi3, fun h => absurd h (by rw [qn]; exact hnn), fun _ h => absurd h (by omega), fun _ _ H4 u4 hB4 => ?_⟩⟩
            refine q H4 ?_ _ hB4 (drop_add g hn ho hd)
            exact ((Bt.same s1).trans u2).trans ((Bt.same s3).trans (u4.mono (by simp)))))
      (pss_one (ps_ret (pe_and (pe_cmpR (op_eqO GE r4 aE hE bE) (pv 0) (pv 4) (nomark _)) (pe_and (pe_cmpR (op_eqO GE r4 aE hE bE) (pv 4) (pv 0) (nomark _)) (pe_one (pe_cmpR (op_eqO GE r4 aE hE bE) (pe_meth0 (E := E0) (pv 0) W.C.cls MTw GTw r8 bTw .nil pass0) (pv 4) (nomark _)))))))))))))))), ?_⟩
    have g := led.good
    have l60 := g.le
    obtain ⟨dx, hb⟩ := id hB.at_
    refine ⟨_, rfl, b, dx, _, rfl, hb, lb_meth (by decide) _ _ _, b, k, r, d, B, rfl, hB, g, fun b2 k2 r2 d2 H1 s1 nb2 nk2 nr2 nd2 hT => ?_⟩
    have hB1 := hB.same s1
    refine ⟨_, rfl, b, dx, _, rfl, s1 _ _ hb, lb_meth (by decide) _ _ _, _, rfl, b, k, r, d, B, .str n, rfl, hB1, .inl ⟨n, hn, rfl, fun pd H2 s2 npd hpd => ⟨_, _, rfl, ?_⟩⟩⟩
    have nin : ∀ {x : Addr}, H x = none → x ∉ [k, r, d] := fun {x} nx z => by
      obtain ⟨kv, ek⟩ := hB.dk x z
      rw [nx] at ek
      cases ek
    have hB2 := hB1.same s2
    have T : TwoB CB CQ H2 b k r d b2 k2 r2 d2 B B.twin ls ks := ⟨hB2, hT.same s2, (twin_eqv B).symm, led, nin nk2, nin nr2, nin nd2, l40⟩
    refine ⟨_, rfl, _, rfl, b, dx, _, rfl, s2 _ _ (s1 _ _ hb), lb_meth (by decide) _ _ _, b, k, r, d, B, rfl, hB2, by omega, fun p3 H3 s3 n3 h3 => ⟨p3, _, rfl, .inl (SqL.of h3), rfl, flat_strs _, ?_⟩⟩
    rw [in_strs, show (if false = true then !decide (n ∈ B.ins) else decide (n ∈ B.ins)) = decide (n ∉ B.os) by
      rw [if_neg (by simp), Bool.eq_iff_iff, decide_eq_true_iff, decide_eq_true_iff]; exact mem_ins hn]
    have T3 := T.same s3
    have s03 : Same H H3 := (s1.trans s2).trans s3
    have hp3 := s03
    have hio : ∀ {B' : BD}, EqvB B' B → decide (n ∉ B'.os) = decide (n ∉ B.os) := fun {B'} e => by
      rw [Bool.eq_iff_iff, decide_eq_true_iff, decide_eq_true_iff, e.memO]
    refine ⟨b, k, r, d, b2, k2, r2, d2, p, pd, B, B.twin, ls, ks, n, i, _, rfl, T3, hn, i0, i9, s3 _ _ hpd, fun H4 u4 B4 hB4 e4 => ?_⟩
    have T4 := T3.step (fun _ z => z) u4 hB4 e4
    have hn4 : n ∈ B4.ns := (e4.mem n).mpr hn
    have hpd4 : H4 pd = some (.lst ((B4.h n).map V.int)) := by rw [e4.h n hn4]; exact T3.one.off u4 (fun _ z => by cases z) (s3 _ _ hpd)
    refine ⟨b, k, r, d, b2, k2, r2, d2, p, pd, B4, B.twin, ls, ks, n, i, none, by rw [hio e4], T4, hn4, i0, i9, hpd4, fun H5 u5 B5 hB5 e5 => ?_⟩
    have T5 := T4.step (fun _ z => z) u5 hB5 e5
    have e50 := e5.trans e4
    have hn5 : n ∈ B5.ns := (e50.mem n).mpr hn
    have g5 := T5.led.good
    have hpd5 : H5 pd = some (.lst ((B5.h n).map V.int)) := by rw [e5.h n hn5]; exact T4.one.off u5 (fun _ z => by cases z) hpd4
    obtain ⟨dx5, hb5⟩ := id hB5.at_
    refine ⟨_, rfl, b, dx5, _, rfl, hb5, lb_meth (by decide) _ _ _, _, rfl, b, k, r, d, B5, .str n, rfl, hB5, .inl ⟨n, hn5, rfl, fun x qx => ?_⟩⟩
    obtain ⟨a, hpt, hat⟩ := hp
    have k5 : ∀ {q : Addr} {w : HO}, (∀ kvs, w ≠ .dK kvs) → H q = some w → H5 q = some w := fun {q w} nw e => T4.one.off u5 nw (T3.one.off u4 nw (s03 _ _ e))
    refine ⟨_, rfl, b, dx5, _, rfl, hb5, lb_meth (by decide) _ _ _, _, rfl, by show 1 ≤ sizeLine; decide, fun pt npt => ⟨_, rfl, pt, p, _, _, rfl, rfl, upd_same, same_upd npt _ _ (k5 (fun _ z => by cases z) hpt), by show 1 + 6 ≤ 1000; decide, fun p6 H6 s6 h6 => ?_⟩⟩
    have s56 := (same_upd (o := .tup [V.str n]) npt).trans s6
    refine ⟨p6, q, rfl, ⟨a, by rw [h6, ← qn]; rfl, s56 _ _ (k5 (fun _ z => by cases z) hat)⟩, qg, fun y H7 s7 qy => ?_⟩
    have s57 := s56.trans s7
    have T7 := T5.same s57
    have l5 := g5.le
    have hnq : q.nm ∈ B5.ns := by rw [qn]; exact hn5
    refine ⟨b, k, r, d, B5, .ref y, rfl, T7.one, by omega, .inl ⟨y, q, rfl, qy, name_thg qg.v.nm, fun h => absurd hnq h, fun _ H8 u8 hB8 => ?_⟩⟩
    have g8 : GoodB (B5.put q) := g5.put qg.v
    have u8' : Bt [k, r, d] H7 H8 := u8.mono (by simp)
    have qx8 := QI.off2 T7.one (qx.same s57) u8'
    refine ⟨_, rfl, _, rfl, T7.eq OB (L := [k]) (by simp) u8 hB8 g8 ?_⟩
    rw [put_eq T5.eqv hnq]
    obtain ⟨dx8, hb8⟩ := id hB8.at_
    have fq : (B5.put q).f n = q := by rw [← qn]; exact upF_at _ _ _
    refine ⟨_, rfl, b, dx8, _, rfl, hb8, lb_meth (by decide) _ _ _, _, rfl, b, k, r, d, _, .str n, rfl, hB8, .inl ⟨n, hn5, rfl, fun y2 qy2 => ?_⟩⟩
    rw [fq] at qy2
    refine ⟨_, rfl, eqQ_go OQ qy2 qx8 ?_⟩
    rw [qn]
    refine ⟨rfl, _, rfl, iteF' (by simp) ?_⟩
    have nm5 := (g5.nm n hn5).2
    refine ⟨_, rfl, b, dx8, _, rfl, hb8, lb_meth (by decide) _ _ _, _, rfl, b, k, r, d, _, .ref x, rfl, hB8, by show B5.ns.length ≤ _; omega, .inl ⟨x, B5.f n, rfl, qx8, name_thg (g5.nm n hn5).1.nm, fun h => absurd (by rw [nm5]; exact hn5) h, fun _ H9 u9 hB9 => ?_⟩⟩
    rw [put_back g5 hn5 qn] at hB9
    have u9' : Bt [k, r, d] H8 H9 := u9.mono (by simp)
    have u79 := u8'.trans u9'
    have T9 := T7.step (fun _ z => z) u79 hB9 (EqvB.refl _)
    have qx9 := QI.off2 hB8 qx8 u9'
    have ne9 : ∀ {H' : Hp} {Q' : VK}, TwoB CB CQ H' b k r d b2 k2 r2 d2 B5 B.twin ls ks → Q' (.bl false) H' → rNeO K CB (spEqB2 K CB CQ) (.ref b) (.ref b2) H' Q' := fun {H' Q'} t q' => neO_go OB t.one t.led.good t.two (t.eqv.good t.led.good) (fun z => t.n1 (by rw [← z]; exact List.mem_cons_self)) (fun z => t.n2 (by rw [← z]; exact List.mem_cons_of_mem _ List.mem_cons_self)) (fun z => t.n3 (by rw [← z]; exact List.mem_cons_of_mem _ (List.mem_cons_of_mem _ List.mem_cons_self))) (by rw [eqBk_eqv t.eqv]; exact q')
    refine ⟨_, rfl, _, rfl, ne9 T9 ⟨_, rfl, iteF' (by simp) ?_⟩⟩
    have hpd9 : H9 pd = some (.lst ((B5.h n).map V.int)) := T7.one.off u79 (fun _ z => by cases z) (s57 _ _ hpd5)
    refine ⟨b, k, r, d, b2, k2, r2, d2, p, pd, x, B5, B.twin, ls, ks, n, i, by rw [hio e4, hio e50]; rfl, T9, hn5, qx9, hpd9, fun HA uA BA hBA eA => ?_⟩
    have TA := T9.step (fun _ z => z) uA hBA eA
    have eA0 := eA.trans e50
    have gA := TA.led.good
    have uAll : Bt [k, r, d] H HA := (((Bt.same s03).trans u4).trans (u5.trans (Bt.same s57))).trans (u79.trans uA)
    have gT := TA.eqv.good gA
    have eTA := eqBk_eqv TA.eqv
    refine ⟨_, rfl, _, rfl, TA.eq OB (L := []) (fun _ z => nomatch z) Bt.refl hBA gA ?_⟩
    rw [eTA]
    have m1 : k2 ≠ k := fun z => TA.n1 (by rw [z]; exact List.mem_cons_self)
    have m2 : r2 ≠ r := fun z => TA.n2 (by rw [z]; exact List.mem_cons_of_mem _ List.mem_cons_self)
    have m3 : d2 ≠ d := fun z => TA.n3 (by rw [z]; exact List.mem_cons_of_mem _ (List.mem_cons_of_mem _ List.mem_cons_self))
    refine ⟨_, rfl, iteT' (by simp) ⟨_, rfl, _, rfl, eqO_go OB TA.two gT TA.one gA m1 m2 m3 ?_⟩⟩
    rw [eqBk_eqv TA.eqv.symm]
    obtain ⟨dxA, hbA⟩ := id hBA.at_
    refine ⟨_, rfl, iteT' (by simp) ⟨_, rfl, b, dxA, _, rfl, hbA, lb_meth (by decide) _ _ _, b, k, r, d, BA, rfl, hBA, gA, fun b5 k5 r5 d5 HB sB nb5 nk5 nr5 nd5 hT5 => ?_⟩⟩
    have hTB := TA.two.same sB
    have neq : ∀ {x y : Addr} {kv : List (Key × V)}, HA x = some (.dK kv) → HA y = none → y ≠ x := fun {x y kv} e n z => by rw [z, e] at n; cases n
    obtain ⟨⟨v1, w1⟩, ⟨v2, w2⟩, ⟨v3, w3⟩⟩ := TA.two.isB
    refine ⟨_, rfl, eqO_go OB hT5 (((twin_eqv BA).symm).good gA) hTB gT (neq w1 nk5) (neq w2 nr5) (neq w3 nd5) ?_⟩
    rw [eqBk_eqv ((twin_eqv BA).trans TA.eqv)]
    exact fin HB (uAll.trans (Bt.same sB)) BA (hBA.same sB) eA0
end
end Pk
/-! ### a bank led again: days noted in any order, one more noted and perhaps taken away -/
namespace Pk
open PySem L2
theorem pair_ext {xs ys : List Int} (hx : xs.Pairwise (· < ·)) (hy : ys.Pairwise (· < ·)) (h : ∀ z, z ∈ xs ↔ z ∈ ys) : xs = ys := by
  have nx : xs.Nodup := hx.imp fun z => by omega
  have ny : ys.Nodup := hy.imp fun z => by omega
  exact permZ_eq ((List.perm_ext_iff_of_nodup nx ny).mpr h) (hx.imp Int.le_of_lt) (hy.imp Int.le_of_lt)
theorem fold_addD : ∀ (ws acc : List Int), acc.Pairwise (· < ·) → (ws.foldl addD acc).Pairwise (· < ·) ∧ ∀ z, z ∈ ws.foldl addD acc ↔ z ∈ acc ∨ z ∈ ws
  | [], acc, h => ⟨h, fun z => ⟨.inl, fun h => h.elim id fun x => nomatch x⟩⟩
  | w :: ws, acc, h => by
    obtain ⟨p, m⟩ := fold_addD ws (addD acc w) (addD_pair h)
    refine ⟨p, fun z => (m z).trans ?_⟩
    rw [addD_mem, List.mem_cons]
    exact ⟨fun h => h.elim (fun h => h.elim .inl fun h => .inr (.inl h)) fun h => .inr (.inr h), fun h => h.elim (fun h => .inl (.inl h)) fun h => h.elim (fun h => .inl (.inr h)) .inr⟩
theorem fold_len : ∀ (ws acc : List Int), (ws.foldl addD acc).length ≤ acc.length + ws.length
  | [], acc => Nat.le_refl _
  | w :: ws, acc => by
    have := fold_len ws (addD acc w)
    have := addD_len (ds := acc) (i := w)
    rw [List.foldl_cons, List.length_cons]
    omega
/-- all days noted, in another order, and one more -/
def ledD (ws : List Int) (i : Int) : List Int := if i ∈ ws then addD (ws.foldl addD []) i else delD (addD (ws.foldl addD []) i) i
theorem ledD_eq {ws ds : List Int} {i : Int} (m : ∀ z, z ∈ ws ↔ z ∈ ds) (h : ds.Pairwise (· < ·)) : ledD ws i = ds := by
  obtain ⟨p, q⟩ := fold_addD ws [] List.Pairwise.nil
  have q' : ∀ z, z ∈ ws.foldl addD [] ↔ z ∈ ds := fun z => (q z).trans ⟨fun h => h.elim (fun x => nomatch x) (m z).mp, fun h => .inr ((m z).mpr h)⟩
  unfold ledD
  by_cases hi : i ∈ ws
  · rw [if_pos hi]
    refine pair_ext (addD_pair p) h fun z => ?_
    rw [addD_mem, q']
    exact ⟨fun x => x.elim id fun e => by rw [e]; exact (m i).mp hi, .inl⟩
  · rw [if_neg hi]
    refine pair_ext (delD_pair (addD_pair p)) h fun z => ?_
    rw [delD_mem, addD_mem, q']
    constructor
    · rintro ⟨x | x, n⟩
      · exact x
      · exact absurd x n
    · exact fun x => ⟨.inl x, fun e => hi (by rw [← e]; exact (m z).mpr x)⟩
/-- one question led again: its days, and whether it is out -/
def ledN (C B : BD) (n : Str) : BD := { B with h := upF B.h n (C.h n), os := if n ∈ C.os then B.os ++ [n] else B.os, g := upF B.g n (if n ∈ C.os then C.g n else "wrong") }
theorem led_fold (C : BD) : ∀ (l : List Str) (B : BD), l.Nodup → (l.foldl (ledN C) B).ns = B.ns ∧ (l.foldl (ledN C) B).f = B.f ∧ (l.foldl (ledN C) B).os = B.os ++ l.filter (fun n => decide (n ∈ C.os)) ∧
    (∀ m ∈ l, (l.foldl (ledN C) B).h m = C.h m) ∧ (∀ m, m ∉ l → (l.foldl (ledN C) B).h m = B.h m) ∧ (∀ m ∈ l, m ∈ C.os → (l.foldl (ledN C) B).g m = C.g m) ∧ ∀ m, m ∉ l → (l.foldl (ledN C) B).g m = B.g m
  | [], B, _ => ⟨rfl, rfl, (List.append_nil _).symm, (fun _ h => nomatch h), (fun _ _ => rfl), (fun _ h => nomatch h), fun _ _ => rfl⟩
  | n :: r, B, nd => by
    obtain ⟨nn, nr⟩ := List.nodup_cons.mp nd
    obtain ⟨e1, e2, e3, e4, e5, e6, e7⟩ := led_fold C r (ledN C B n) nr
    rw [List.foldl_cons]
    refine ⟨e1, e2, ?_, fun m hm => ?_, fun m hm => ?_, fun m hm ho => ?_, fun m hm => ?_⟩
    · rw [e3, List.filter_cons]
      show (if n ∈ C.os then B.os ++ [n] else B.os) ++ _ = _
      by_cases h : n ∈ C.os
      · rw [if_pos h, if_pos (by simpa using h), List.append_assoc]
        rfl
      · rw [if_neg h, if_neg (by simpa using h)]
    · rcases List.mem_cons.mp hm with rfl | h
      · rw [e5 _ nn]
        exact upF_at _ _ _
      · exact e4 m h
    · rw [List.mem_cons, not_or] at hm
      rw [e5 m hm.2]
      exact upF_ne hm.1
    · rcases List.mem_cons.mp hm with rfl | h
      · rw [e7 _ nn]
        show upF B.g m (if m ∈ C.os then C.g m else "wrong") m = _
        rw [upF_at, if_pos ho]
      · exact e6 m h ho
    · rw [List.mem_cons, not_or] at hm
      rw [e7 m hm.2]
      exact upF_ne hm.1
theorem led_eqv {C B : BD} {l : List Str} (g : GoodB C) (hl : l.Perm C.ns) (hn : B.ns.Perm C.ns) (hf : ∀ n ∈ C.ns, B.f n = C.f n) (ho : B.os = []) : EqvB (l.foldl (ledN C) B) C := by
  have nl : l.Nodup := hl.nodup_iff.mpr g.nd
  obtain ⟨e1, e2, e3, e4, _, e6, _⟩ := led_fold C l B nl
  rw [ho, List.nil_append] at e3
  refine ⟨by rw [e1]; exact hn, ?_, fun n hm => ?_, fun n hm => ?_, fun n hm => ?_⟩
  · rw [e3]
    refine (List.perm_ext_iff_of_nodup (nl.filter _) g.od).mpr fun z => ?_
    rw [List.mem_filter]
    exact ⟨fun h => of_decide_eq_true h.2, fun h => ⟨hl.mem_iff.mpr (g.os z h), decide_eq_true h⟩⟩
  · rw [e1] at hm
    rw [e2]
    exact hf n (hn.mem_iff.mp hm)
  · rw [e3] at hm
    obtain ⟨h1, h2⟩ := List.mem_filter.mp hm
    exact e6 n h1 (of_decide_eq_true h2)
  · rw [e1] at hm
    exact e4 n (hl.mem_iff.mpr (hn.mem_iff.mp hm))
end Pk
namespace Pk
open PySem L2
/-! ### _law_called -/
theorem upF_upF {α : Type} (f : Str → α) (n : Str) (v w : α) : upF (upF f n v) n w = upF f n w := by
  funext m
  unfold upF
  split <;> rfl
theorem BD.day_day (B : BD) (n : Str) (ds es : List Int) : (B.day n ds).day n es = B.day n es := by
  show ({ B with h := upF (upF B.h n ds) n es } : BD) = { B with h := upF B.h n es }
  rw [upF_upF]
theorem addD_take {ds : List Int} {j : Nat} {x : Int} (h : ds.Pairwise (· < ·)) (e : ds[j]? = some x) : addD (ds.take j) x = ds.take (j + 1) := by
  have e2 : ds.take (j + 1) = ds.take j ++ [x] := by rw [List.take_add_one, e]; rfl
  have hp : (ds.take (j + 1)).Pairwise (· < ·) := h.sublist (List.take_sublist _ _)
  refine pair_ext (addD_pair (h.sublist (List.take_sublist _ _))) hp fun z => ?_
  rw [addD_mem, e2, List.mem_append, List.mem_singleton]
theorem cut_from1 {x : V} {L : List V} : cutV (x :: L) (some 1) none = L := by
  rw [cut_hi (by decide)]
  rfl
theorem cut_row (q : QD) (a : Addr) : cutV (qRow q a) (some 1) none = [.str q.mt, .ref a, .int q.ri, .int q.tl, .int q.ma, .str q.ki] := cut_from1
theorem nin_take {l : List Str} {i : Nat} {n : Str} (nd : l.Nodup) (h : l[i]? = some n) : n ∉ l.take i := fun hm => by
  obtain ⟨j, hj, ej⟩ := List.mem_iff_getElem.mp hm
  rw [List.length_take] at hj
  rw [List.getElem_take] at ej
  have il := List.getElem?_eq_some_iff.mp h
  have z := (List.getElem_inj nd (i := j) (j := i) (h₀ := by omega) (h₁ := il.1)).mp (by rw [ej, il.2])
  omega
/-- what the names are called -/
structure Calls (H : Hp) (cd : Addr) (ns : List Str) (ρ : Str → Str) : Prop where
  at_ : ∃ kvs, H cd = some (.dK kvs) ∧ ∀ n ∈ ns, valV kvs (.inr n) = some (.str (ρ n))
  nm : ∀ n ∈ ns, nameT (ρ n) = true
  inj : ∀ m ∈ ns, ∀ n ∈ ns, ρ m = ρ n → m = n
theorem Calls.keep {H H' : Hp} {cd : Addr} {ns : List Str} {ρ : Str → Str} (h : Calls H cd ns ρ) (s : ∀ kvs, H cd = some (.dK kvs) → H' cd = some (.dK kvs)) : Calls H' cd ns ρ := ⟨by
  obtain ⟨kvs, e, r⟩ := h.at_
  exact ⟨kvs, s _ e, r⟩, h.nm, h.inj⟩
theorem Calls.get {H : Hp} {cd : Addr} {ns : List Str} {ρ : Str → Str} (h : Calls H cd ns ρ) {n : Str} (hn : n ∈ ns) : DGet H cd (.str n) (some (.str (ρ n))) := by
  obtain ⟨kvs, e, r⟩ := h.at_
  have := DGet.k (k := .inr n) e
  rw [r n hn] at this
  exact this
def spCalled (CB CQ : Addr) : Sp := fun vs H Q _ => ∃ (b k r d cd : Addr) (B : BD) (ρ : Str → Str), vs = [.ref b, .ref cd] ∧ BankAt CB CQ H b k r d B ∧ GoodB B ∧ NdB B ∧ B.ns.length ≤ 40 ∧ (∀ n ∈ B.ns, (B.h n).length ≤ 60) ∧ Calls H cd B.ns ρ ∧
  ∀ (b2 k2 r2 d2 : Addr) (C : BD) (H' : Hp), Same H H' → H b2 = none → H k2 = none → H r2 = none → H d2 = none → BankAt CB CQ H' b2 k2 r2 d2 C → GoodB C → NdB C → Ren B C ρ → Q (.ref b2) H'
/-- a bank that is called otherwise, as far as some names -/
structure Half (B C : BD) (ρ : Str → Str) (L : List Str) : Prop where
  good : GoodB C
  nd : NdB C
  ns : C.ns = L.map ρ
  os : C.os = []
  f : ∀ n ∈ L, C.f (ρ n) = { B.f n with nm := ρ n } ∧ C.h (ρ n) = B.h n
theorem Half.add {B C : BD} {ρ : Str → Str} {L : List Str} {n : Str} (h : Half B C ρ L) (g : GoodB B) (nB : NdB B) (hn : n ∈ B.ns) (hL : ∀ m ∈ L, m ∈ B.ns) (nL : n ∉ L) (inj : ∀ m ∈ B.ns, ∀ n ∈ B.ns, ρ m = ρ n → m = n) (nm : nameT (ρ n) = true) (l : L.length < 60) : Half B ((C.add { B.f n with nm := ρ n }).day (ρ n) (B.h n)) ρ (L ++ [n]) := by
  have hnew : ρ n ∉ C.ns := by
    rw [h.ns]
    intro z
    obtain ⟨m, hm, e⟩ := List.mem_map.mp z
    exact nL (inj m (hL m hm) n hn e ▸ hm)
  have qv := (g.nm n hn).1
  have qv2 : QV { B.f n with nm := ρ n } := ⟨nm, qv.mt, qv.w2, qv.w6, qv.wt, qv.r0, qv.r1, qv.t1, qv.t9, qv.m1, qv.m9, qv.ki⟩
  have g1 := h.good.add qv2 hnew (by rw [h.ns, List.length_map]; exact l)
  refine ⟨g1.day (g.dy n hn), ?_, ?_, h.os, ?_⟩
  · intro m hm
    show (upF C.f (ρ n) _ m).ws.Nodup
    by_cases e : m = ρ n
    · rw [e, upF_at]; exact nB n hn
    · rw [upF_ne e]
      rcases List.mem_append.mp hm with z | z
      · exact h.nd m z
      · exact absurd (List.mem_singleton.mp z) e
  · show C.ns ++ [ρ n] = _
    rw [h.ns, List.map_append]
    rfl
  · intro m hm
    show upF C.f (ρ n) _ (ρ m) = _ ∧ upF (upF C.h (ρ n) []) (ρ n) (B.h n) (ρ m) = _
    rw [upF_upF]
    rcases List.mem_append.mp hm with z | z
    · have ne : ρ m ≠ ρ n := fun e => nL (inj m (hL m z) n hn e ▸ z)
      rw [upF_ne ne, upF_ne ne]
      exact h.f m z
    · rw [List.mem_singleton.mp z, upF_at, upF_at]
      exact ⟨rfl, rfl⟩
section
variable {P : Program} {w : World} {K : PySem.W.Frag} {mg : Str → Option Value} {base : Heap} {CB CQ cN cK cT cM : Addr} {c : Nat → Addr}
abbrev NCalled : List Str := ["_law_bank", "_law_calls", "_law_other", "_law_one", "_law_row_here", "_law_when", "_law_reason"]
theorem scCalled : FnScope NCalled ["_law_bank", "_law_calls"] (defScope sCalled) := ⟨rfl, rfl, rfl, by decide +kernel, rfl, by decide +kernel, by decide +kernel⟩
theorem ok_called {f fI fM fPa : Addr} {fd fdI fdM fdPa : FuncData} (F : Fun K "_law_called" "_law_called" sCalled f fd) (W : BkW P w K mg base CB CQ cN) (DW : DeedW P w K mg base CB CQ c)
    (FI : FunB K fI fdI) (GI : FnOk P w K mg base (L2.CX P w) 6 fI fdI ["self", "questions"] (spInitB K CB CQ cK cT cM)) (M : Mk K CB fI) (gB : mg "Bank" = some (.ref CB))
    (GM : FnOk P w K mg base CX0 7 fM fdM ["_law_row_here"] (spMade CQ)) (kM : PySem.W.keepIn K (.ref fM) = true) (bM : Binds K fdM ["_law_row_here"] []) (gM : mg "_law_made" = some (.ref fM))
    (GPa : FnOk P w K mg base CX0 1 fPa fdPa ["_law_one"] (spParts CQ)) (kPa : PySem.W.keepIn K (.ref fPa) = true) (bPa : Binds K fdPa ["_law_one"] []) (gPa : mg "_law_parts" = some (.ref fPa)) :
    FnOk P w K mg base CX0 8 f fd ["_law_bank", "_law_calls"] (spCalled CB CQ) := by
  obtain ⟨fA, fdA, FA, GA, MA, bA⟩ := DW.added
  obtain ⟨fO, fdO, FO, GO, MO⟩ := DW.out
  obtain ⟨fS, fdS, FS, GS, MS, bS⟩ := DW.used
  obtain ⟨fN, fdN, GN, MN, bN⟩ := W.names
  obtain ⟨fOu, fdOu, GOu, MOu, bOu⟩ := W.outs
  obtain ⟨fQ, fdQ, GQ, MQ, bQ⟩ := W.question
  obtain ⟨fDo, fdDo, GDo, MDo, bDo⟩ := W.daysOf
  obtain ⟨it3, kO3⟩ := kOut3 FO
  obtain ⟨d0, hd0, bb0⟩ := bB0 FI
  refine F.ok scCalled (fun vs H Q E h => ?_) (fun cdv A outer s H vs Q E hr h => ?_)
  · obtain ⟨b, k, r, d, cd, B, ρ, rfl, _⟩ := h
    rfl
  · obtain ⟨b, k, r, d, cd, B, ρ, rfl, hB, g, nB, l40, hl, hc, fin⟩ := h
    have hu := hu_of hr
    have r1 : Room 1 _ := hr.mono (by decide)
    have r4 : Room 4 _ := hr.mono (by decide)
    have r5 : Room 5 _ := hr.mono (by decide)
    have r7 : Room 7 _ := hr.mono (by decide)
    refine ⟨_, pss_cons (ps_set (i := 2) scCalled.nd rfl (.inl rfl) (pe_make0 (E := E0) M GI r7 (by rfl) gB bb0 hd0 pass_no))
      (pss_cons (ps_for PassesOwn.never rfl (pi_list (pe_revL (pe_meth0 (E := E0) (pv 0) W.C.cls MN GN r1 bN .nil pass0))) (pg_name (i := 3) scCalled.nd rfl (.inl rfl))
        (pss_cons (ps_set (i := 4) scCalled.nd rfl (.inl rfl) (pe_call (E := E0) GPa r1 (by rfl) gPa kPa bPa .nil pass0 (pa_cons (pe_meth (E := E0) (pv 0) W.C.cls MQ GQ r4 bQ .nil pass_no (pa_cons (pv 3) pa_nil)) pa_nil)))
        (pss_cons (ps_expr (pe_meth (E := E0) (pv 2) DW.C.cls MA GA r5 bA .nil pass_no (pa_cons (pe_call (E := E0) GM r7 (by rfl) gM kM bM .nil pass0 (pa_cons (pe_op op_catE (pe_tup (pa_cons (pe_dget hu (pv 1) (pv 3) (fun _ _ => rfl)) pa_nil)) (pe_slice sl_tupE (pv 4) (po_some pe_int) po_none)) pa_nil)) pa_nil)))
        (pss_one (ps_for PassesOwn.never rfl (pi_list (pe_meth (E := E0) (pv 0) W.C.cls MDo GDo r4 bDo .nil pass_no (pa_cons (pv 3) pa_nil))) (pg_name (i := 5) scCalled.nd rfl (.inl rfl))
        (pss_one (ps_expr (pe_meth (E := E0) (pv 2) DW.C.cls MS GS r5 bS .nil pass_no (pa_cons (pe_dget hu (pv 1) (pv 3) (fun _ _ => rfl)) (pa_cons (pv 5) pa_nil))))))))))
      (pss_cons (ps_for PassesOwn.never rfl (pi_list (pe_meth0 (E := E0) (pv 0) W.C.cls MOu GOu r1 bOu .nil pass0)) (pg_tup rfl (pgs_cons (pg_name (i := 3) scCalled.nd rfl (.inl rfl)) (pgs_cons (pg_name (i := 6) scCalled.nd rfl (.inl rfl)) pgs_nil)))
        (pss_one (ps_expr (pe_methNP (E := E0) (pv 2) DW.C.cls MO GO r5 kO3 pass_no (pa_cons (pe_dget hu (pv 1) (pv 3) (fun _ _ => rfl)) pa_nil) (by exact (pk_cons (pv 6) pk_nil))))))
      (pss_one (ps_ret (pv 2))))), ?_⟩
    obtain ⟨dx, hb⟩ := id hB.at_
    have l60 := g.le
    refine fun b2 dx2 nx ndx ne => init_goodX (qs := []) nx ndx ne (.inl ⟨rfl, rfl⟩) rfl (fun i v t e => by cases e) List.nodup_nil (by decide) fun H1 ⟨s1, k2, r2, d2, nk0, nr0, nd0, hB1⟩ => ⟨rfl, ?_⟩
    have half0 : Half B (bOf []) ρ [] := ⟨bOf_good (fun _ h => nomatch h) List.nodup_nil (by decide), (fun _ h => nomatch h), rfl, rfl, fun _ h => nomatch h⟩
    generalize bOf [] = C0 at hB1 half0
    have hB1' := hB.same s1
    have fresh : ∀ {G : Hp}, Bt [k2, r2, d2] H1 G → Same H G := fun {G} u => Bt.fresh s1 u fun p hp => by
      simp only [List.mem_cons, List.not_mem_nil, or_false] at hp
      rcases hp with rfl | rfl | rfl
      · exact nk0
      · exact nr0
      · exact nd0
    obtain ⟨dxo, hbo⟩ := id hB1.at_
    refine ⟨_, rfl, b, dx, _, rfl, s1 _ _ hb, lb_meth (by decide) _ _ _, b, k, r, d, B, rfl, hB1', by omega, fun pn H2 s2 nn hpn => ?_⟩
    refine ⟨pn, _, rfl, SqL.of hpn, fun pr npr => ⟨pr, rfl, ?_⟩⟩
    rw [← List.map_reverse]
    have s3 := same_upd (o := .lst ((srt B.ns).reverse.map V.str)) npr
    have hpr : upd H2 pr (.lst ((srt B.ns).reverse.map V.str)) pr = some (.lst ((srt B.ns).reverse.map V.str)) := upd_same
    have s13 := s2.trans s3
    generalize upd H2 pr (.lst ((srt B.ns).reverse.map V.str)) = H3 at s3 hpr s13 ⊢
    have hB3 := hB1.same s13
    have s03 : Same H H3 := s1.trans s13
    have ndr : (srt B.ns).reverse.Nodup := (List.reverse_perm _).nodup_iff.mpr (srt_nd g.nd)
    have mem : ∀ n, n ∈ (srt B.ns).reverse ↔ n ∈ B.ns := fun n => List.mem_reverse.trans srt_mem
    have lr : (srt B.ns).reverse.length ≤ 40 := by rw [List.length_reverse, srt_len]; exact l40
    have fr3 : ∀ {G : Hp}, Bt [k2, r2, d2] H3 G → Same H G := fun {G} u => fresh ((Bt.same s13).trans u)
    have hpr' : ∀ {G : Hp}, Bt [k2, r2, d2] H3 G → G pr = some (.lst ((srt B.ns).reverse.map V.str)) := fun {G} u => hB3.off u (fun _ z => by cases z) hpr
    obtain ⟨rs, hrs⟩ : ∃ rs, rs = (srt B.ns).reverse := ⟨_, rfl⟩
    rw [← hrs] at hpr' ndr mem lr
    have hcG : ∀ {G : Hp}, Same H G → Calls G cd B.ns ρ := fun {G} s => hc.keep fun kvs e => s _ _ e
    refine ⟨⟨_, SqL.of (hpr' Bt.refl)⟩, ?_⟩
    refine for_it (walk_list (K := K) (a := pr) (xs := rs.map V.str)) (fun i σ G => (∃ v3 v4 v5 : Option V, σ = [some (.ref b), some (.ref cd), some (.ref b2), v3, v4, v5, none]) ∧ Bt [k2, r2, d2] H3 G ∧ ∃ C, BankAt CB CQ G b2 k2 r2 d2 C ∧ Half B C ρ (rs.take i)) ⟨⟨_, _, _, rfl⟩, Bt.refl, C0, hB3, half0⟩ (fun i σ G _ h => SqL.of (hpr' h.2.1)) ?_ ?_
    · rintro i x σ G_ G hi ⟨⟨v3, v4, v5, rfl⟩, uG, C, hC, half⟩ ⟨rfl, hx⟩
      obtain ⟨n, hn, rfl⟩ := getD_map hx
      have il := (List.getElem?_eq_some_iff.mp hn).1
      have hnB : n ∈ B.ns := (mem n).mp (List.mem_of_getElem? hn)
      have nin : n ∉ rs.take i := nin_take ndr hn
      have sG := fr3 uG
      have hBg := hB.same sG
      refine ⟨_, rfl, b, dx, _, rfl, sG _ _ hb, lb_meth (by decide) _ _ _, _, rfl, b, k, r, d, B, .str n, rfl, hBg, .inl ⟨n, hnB, rfl, fun y qy => ?_⟩⟩
      refine ⟨y, B.f n, rfl, qy, fun p4 H4 s4 n4 ⟨a4, h4, ha4⟩ => ?_⟩
      have sG4 := sG.trans s4
      have hC4 := hC.same s4
      obtain ⟨dx4, hb4⟩ := id hC4.at_
      have qv := (g.nm n hnB).1
      have nmr := hc.nm n hnB
      have qv2 : QV { B.f n with nm := ρ n } := ⟨nmr, qv.mt, qv.w2, qv.w6, qv.wt, qv.r0, qv.r1, qv.t1, qv.t9, qv.m1, qv.m9, qv.ki⟩
      have hL : ∀ m ∈ rs.take i, m ∈ B.ns := fun m hm => (mem m).mp (List.mem_of_mem_take hm)
      have lC : C.ns.length ≤ 40 := by rw [half.ns, List.length_map, List.length_take]; omega
      have hnew : ρ n ∉ C.ns := by
        rw [half.ns]
        intro z
        obtain ⟨m, hm, e⟩ := List.mem_map.mp z
        exact nin (hc.inj m (hL m hm) n hnB e ▸ hm)
      refine ⟨_, rfl, b2, dx4, _, rfl, hb4, lb_meth (by decide) _ _ _, _, rfl, _, rfl, cd, _, rfl, (hcG sG4).get hnB, by show 1 ≤ sizeLine; decide, fun pt npt => ⟨_, rfl, 1, rfl, p4, _, rfl, same_upd npt _ _ h4, fun p5 H5 s5 h5 => ?_⟩⟩
      have w1 := same_upd (o := .tup [V.str (ρ n)]) npt
      refine ⟨pt, p5, _, _, rfl, rfl, s5 _ _ upd_same, h5, by rw [cut_row]; show 1 + 6 ≤ 1000; decide, fun p6 H6 s6 h6 => ?_⟩
      have s46 := w1.trans (s5.trans s6)
      refine ⟨p6, { B.f n with nm := ρ n }, rfl, ⟨a4, by rw [h6, cut_row]; rfl, s46 _ _ ha4⟩, ⟨qv2, nB n hnB⟩, fun y2 H7 s7 qy2 => ?_⟩
      have hC7 := hC4.same (s46.trans s7)
      have sG7 := sG4.trans (s46.trans s7)
      refine ⟨b2, k2, r2, d2, C, .ref y2, rfl, hC7, .inl ⟨y2, _, rfl, qy2, fun h => absurd h hnew, fun _ h => absurd h (by omega), fun _ _ H8 u8 hC8 => ?_⟩⟩
      have u38 : Bt [k2, r2, d2] H3 H8 := uG.trans ((Bt.same (s4.trans (s46.trans s7))).trans (u8.mono (by simp)))
      have sG8 := fr3 u38
      refine ⟨_, rfl, b, dx, _, rfl, sG8 _ _ hb, lb_meth (by decide) _ _ _, _, rfl, b, k, r, d, B, .str n, rfl, hB.same sG8, .inl ⟨n, hnB, rfl, fun pd H9 s9 n9 h9 => ⟨pd, rfl, ⟨_, SqL.of h9⟩, ?_⟩⟩⟩
      have hC9 := hC8.same s9
      have half2 := half.add g nB hnB hL nin hc.inj nmr (by rw [List.length_take]; omega)
      have hz0 : (C.add { B.f n with nm := ρ n }).h (ρ n) = [] := upF_at _ _ _
      have hlC : ∀ m ∈ C.ns, (C.h m).length ≤ 60 := fun m hm => by
        rw [half.ns] at hm
        obtain ⟨x, hx, rfl⟩ := List.mem_map.mp hm
        rw [(half.f x hx).2]
        exact hl x (hL x hx)
      obtain ⟨C2, hC2⟩ : ∃ C2, C2 = C.add { B.f n with nm := ρ n } := ⟨_, rfl⟩
      have lC2 : C2.ns.length ≤ 41 := by rw [hC2]; show (C.ns ++ [ρ n]).length ≤ 41; rw [List.length_append, List.length_singleton]; omega
      have hlC2 : ∀ (ds : List Int), ds.length ≤ 60 → ∀ m ∈ (C2.day (ρ n) ds).ns, ((C2.day (ρ n) ds).h m).length ≤ 1000 := fun ds hds m hm => by
        show (upF C2.h (ρ n) ds m).length ≤ 1000
        by_cases e : m = ρ n
        · rw [e, upF_at]; omega
        · rw [upF_ne e, hC2]
          show (upF C.h (ρ n) [] m).length ≤ 1000
          rw [upF_ne e]
          have hm2 : m ∈ C.ns := by
            rw [hC2] at hm
            rcases List.mem_append.mp hm with z | z
            · exact z
            · exact absurd (List.mem_singleton.mp z) e
          have := hlC m hm2
          omega
      have hn2 : ρ n ∈ C2.ns := by rw [hC2]; exact List.mem_append_right _ (List.mem_singleton.mpr rfl)
      rw [← hC2] at hC9 half2 hz0
      have dy := g.dy n hnB
      have lh := hl n hnB
      have e0 : C2.day (ρ n) ((B.h n).take 0) = C2 := by
        rw [List.take_zero, ← hz0]
        exact BD.day_self _ _
      obtain ⟨INV, hINV⟩ : ∃ INV : Nat → List (Option V) → Hp → Prop, INV = fun (j : Nat) σ G' => (∃ v5 : Option V, σ = [some (.ref b), some (.ref cd), some (.ref b2), some (.str n), some (.ref p4), v5, none]) ∧ Bt [k2, r2, d2] H9 G' ∧ BankAt CB CQ G' b2 k2 r2 d2 (C2.day (ρ n) ((B.h n).take j)) := ⟨_, rfl⟩
      have u39 : Bt [k2, r2, d2] H3 H9 := u38.trans (Bt.same s9)
      refine for_it (walk_list (K := K) (a := pd) (xs := (B.h n).map V.int)) INV (by rw [hINV]; exact ⟨⟨_, rfl⟩, Bt.refl, by rw [e0]; exact hC9⟩) (fun j σ G' _ hI => by rw [hINV] at hI; exact SqL.of (hC9.off hI.2.1 (fun _ z => by cases z) h9)) ?_ ?_
      · rintro j x σ G_ G' hj hI ⟨rfl, hx2⟩
        rw [hINV] at hI
        obtain ⟨⟨v5', rfl⟩, uI, hCI⟩ := hI
        obtain ⟨z, hz, rfl⟩ := getD_map hx2
        have sI := fr3 (u39.trans uI)
        obtain ⟨dxI, hbI⟩ := id hCI.at_
        have hzr := dy.2.1 z (List.mem_of_getElem? hz)
        have lt : ((B.h n).take j).length ≤ 60 := by rw [List.length_take]; omega
        refine ⟨_, rfl, b2, dxI, _, rfl, hbI, lb_meth (by decide) _ _ _, _, rfl, _, rfl, cd, _, rfl, (hcG sI).get hnB, _, rfl, ?_⟩
        have hself : (C2.day (ρ n) ((B.h n).take j)).h (ρ n) = (B.h n).take j := upF_at _ _ _
        have main : ∀ Q' : VK, (∀ H', Bt [d2] G' H' → BankAt CB CQ H' b2 k2 r2 d2 ((C2.day (ρ n) ((B.h n).take j)).day (ρ n) (addD ((C2.day (ρ n) ((B.h n).take j)).h (ρ n)) z)) → Q' .non H') → spUsedB CB CQ (c 3) (c 4) [.ref b2, .str (ρ n), .int z] G' Q' E0 := fun Q' qq => used_go hCI hn2 (by show C2.ns.length ≤ 1000; omega) (hlC2 _ lt) hzr.1 hzr.2 qq
        exact main (fun _ G'' => INV (j + 1) _ G'') fun HA uA hCA => by
          rw [BD.day_day, hself, addD_take dy.1 hz] at hCA
          rw [hINV]
          exact ⟨⟨_, rfl⟩, uI.trans (uA.mono (by simp)), hCA⟩
      rintro σ GF hI
      rw [hINV, List.length_map, List.take_of_length_le (Nat.le_refl _)] at hI
      obtain ⟨⟨v5', rfl⟩, uF, hCF⟩ := hI
      refine ⟨⟨_, _, _, rfl⟩, u39.trans uF, _, hCF, ?_⟩
      rw [List.take_add_one, hn]
      exact half2
    rintro σ G ⟨⟨v3, v4, v5, rfl⟩, uG, C, hC, half⟩
    rw [List.length_map, List.take_of_length_le (Nat.le_refl _)] at half
    have sG := fr3 uG
    have lo := os_len g
    refine ⟨_, rfl, b, dx, _, rfl, sG _ _ hb, lb_meth (by decide) _ _ _, b, k, r, d, B, rfl, hB.same sG, by omega, fun po H9 s9 n9 ⟨as, hpo, las, has⟩ => ⟨po, rfl, ⟨_, SqL.of hpo⟩, ?_⟩⟩
    rw [List.length_map, srt_len] at las
    have hC9 := hC.same s9
    have fr9 : ∀ {G' : Hp}, Bt [k2, r2, d2] H9 G' → Same H G' := fun {G'} u => fr3 (uG.trans ((Bt.same s9).trans u))
    obtain ⟨INV, hINV⟩ : ∃ INV : Nat → List (Option V) → Hp → Prop, INV = fun (j : Nat) σ G' => (∃ v3 v6 : Option V, σ = [some (.ref b), some (.ref cd), some (.ref b2), v3, v4, v5, v6]) ∧ Bt [k2, r2, d2] H9 G' ∧ ∃ D : BD, BankAt CB CQ G' b2 k2 r2 d2 D ∧ GoodB D ∧ D.ns = C.ns ∧ D.f = C.f ∧ D.h = C.h ∧ D.os = ((srt B.os).take j).map ρ ∧ ∀ n ∈ (srt B.os).take j, D.g (ρ n) = B.g n := ⟨_, rfl⟩
    refine for_it (walk_list (K := K) (a := po) (xs := as.map V.ref)) INV (by rw [hINV]; exact ⟨⟨_, _, rfl⟩, Bt.refl, C, hC9, half.good, rfl, rfl, rfl, by rw [half.os]; rfl, fun _ h => by rw [List.take_zero] at h; cases h⟩) (fun j σ G' _ hI => by rw [hINV] at hI; exact SqL.of (hC9.off hI.2.1 (fun _ z => by cases z) hpo)) ?_ ?_
    · rintro j x σ G_ G' hj hI ⟨rfl, hx2⟩
      rw [hINV] at hI
      obtain ⟨⟨v3', v6', rfl⟩, uI, D, hD, gD, e1, e2, e3, e4, e5⟩ := hI
      obtain ⟨a, ea, rfl⟩ := getD_map hx2
      have jl := (List.getElem?_eq_some_iff.mp ea).1
      have hm : (srt B.os)[j]? = some ((srt B.os)[j]'(by rw [srt_len]; omega)) := List.getElem?_eq_getElem _
      obtain ⟨n, hn⟩ : ∃ n, (srt B.os)[j]? = some n := ⟨_, hm⟩
      have hta := has j a (n, B.g n) ea (by rw [List.getElem?_map, hn]; rfl)
      have hno : n ∈ B.os := srt_mem.mp (List.mem_of_getElem? hn)
      have hnB := g.os n hno
      have nin := nin_take (srt_nd g.od) hn
      have sI := fr9 uI
      obtain ⟨dxI, hbI⟩ := id hD.at_
      have htG := hC9.off uI (fun _ z => by cases z) hta
      have hmem : ρ n ∈ D.ns := by rw [e1, half.ns]; exact List.mem_map_of_mem ((mem n).mpr hnB)
      have lD : D.os.length ≤ 60 := by rw [e4, List.length_map, List.length_take, srt_len]; omega
      have hnotin : ρ n ∉ D.os := by
        rw [e4]
        intro z
        obtain ⟨m, hm, e⟩ := List.mem_map.mp z
        exact nin (hc.inj m (g.os m (srt_mem.mp (List.mem_of_mem_take hm))) n hnB e ▸ hm)
      refine ⟨a, _, rfl, SqT.of htG, rfl, _, _, rfl, _, _, rfl, rfl, ?_⟩
      refine ⟨_, rfl, b2, dxI, _, rfl, hbI, lb_meth (by decide) _ _ _, _, rfl, _, rfl, cd, _, rfl, (hcG sI).get hnB, _, rfl, rfl, rfl, ?_⟩
      have main : ∀ Q' : VK, (∀ H', Bt [r2] G' H' → BankAt CB CQ H' b2 k2 r2 d2 (D.out (ρ n) (B.g n)) → Q' .non H') → spOutB CB CQ (c 3) (c 0) [.ref b2, .str (ρ n), .str (B.g n)] G' Q' E0 := fun Q' qq => out_go hD hmem (by omega) (g.tx n hno) qq
      exact main (fun _ G'' => INV (j + 1) _ G'') fun HA uA hDA => by
        rw [hINV]
        refine ⟨⟨_, _, rfl⟩, uI.trans (uA.mono (by simp)), _, hDA, gD.out hmem (g.tx n hno), e1, e2, e3, ?_, fun m hm => ?_⟩
        · show putN D.os (ρ n) = _
          rw [putN_new hnotin, e4, List.take_add_one, hn, List.map_append]
          rfl
        · show upF D.g (ρ n) (B.g n) (ρ m) = _
          rw [List.take_add_one, hn] at hm
          rcases List.mem_append.mp hm with z | z
          · have ne : ρ m ≠ ρ n := fun e => hnotin (by rw [← e, e4]; exact List.mem_map_of_mem z)
            rw [upF_ne ne]
            exact e5 m z
          · have z : m = n := by simpa using z
            rw [z, upF_at]
    rintro σ G9 hI
    rw [hINV, List.length_map, las, show (srt B.os).take B.os.length = srt B.os from List.take_of_length_le (by rw [srt_len]; exact Nat.le_refl _)] at hI
    obtain ⟨⟨v3', v6', rfl⟩, uI, D, hD, gD, e1, e2, e3, e4, e5⟩ := hI
    have pr0 : rs.Perm B.ns := by rw [hrs]; exact (List.reverse_perm _).trans (srt_perm _)
    refine ⟨_, rfl, fin b2 k2 r2 d2 D G9 (fr9 uI) nx nk0 nr0 nd0 hD gD (fun m hm => ?_) ⟨?_, fun n hn => ?_, ?_, fun n hn => ?_, fun n hn => ?_⟩⟩
    · rw [e2]
      rw [e1] at hm
      exact half.nd m hm
    · rw [e1, half.ns]
      exact pr0.map ρ
    · rw [e2]
      exact (half.f n ((mem n).mpr hn)).1
    · rw [e4]
      exact (srt_perm _).map ρ
    · exact e5 n (srt_mem.mpr hn)
    · rw [e3]
      exact (half.f n ((mem n).mpr hn)).2
end
end Pk
namespace Pk
open PySem L2
/-! ### _law_calls_right -/
def words13 : List Str := ["all", "bank", "in", "kin", "many", "marks", "none", "out", "rest", "toil", "used", "with", "wrong"]
theorem words13_pair : words13.Pairwise (fun a b => leS a b ∧ a ≠ b) := by unfold leS; decide +kernel
theorem words13_nm : ∀ z ∈ words13, nameT z = true := by decide +kernel
/-- the name that stands where n does -/
def rhoF (ns ws : List Str) (n : Str) : Str := ws.getD (ns.idxOf n) ""
theorem rho_map {ns ws : List Str} (nd : ns.Nodup) (l : ns.length ≤ ws.length) : ns.map (rhoF ns ws) = ws.take ns.length := by
  refine List.ext_getElem (by rw [List.length_map, List.length_take]; omega) fun i h1 h2 => ?_
  rw [List.length_map] at h1
  rw [List.getElem_map, List.getElem_take]
  unfold rhoF
  rw [nd.idxOf_getElem]
  simp [List.getD, List.getElem?_eq_getElem (show i < ws.length by omega)]
def askE (w s : Int) : Ask := ⟨"", 3, 9, "", some w, s⟩
def PairR (H : Hp) (pr : Addr) (ρ : Str → Str) (B : BD) (t : Addr) : Prop := ∃ (a c : Addr) (ns : List Str), a ≠ pr ∧ c ≠ pr ∧ H t = some (.tup [.ref a, .ref c]) ∧ H a = some (.lst (ns.map V.str)) ∧ H c = some (.lst ((ns.map ρ).map V.str)) ∧ (∀ n ∈ ns, n ∈ B.ns) ∧ ns.length ≤ 60
theorem PairR.keep {H H' : Hp} {pr : Addr} {ρ : Str → Str} {B : BD} {t : Addr} {L : List V} (h : PairR H pr ρ B t) (e : H pr = some (.lst L)) (s : ∀ a u, a ≠ pr → H a = some u → H' a = some u) : PairR H' pr ρ B t := by
  obtain ⟨a, c, ns, na, nc, ht, ha, hc, r⟩ := h
  exact ⟨a, c, ns, na, nc, s _ _ (fun z => by rw [z, e] at ht; cases ht) ht, s _ _ na ha, s _ _ nc hc, r⟩
theorem PairR.same {H H' : Hp} {pr : Addr} {ρ : Str → Str} {B : BD} {t : Addr} (h : PairR H pr ρ B t) (s : Same H H') : PairR H' pr ρ B t := by
  obtain ⟨a, c, ns, na, nc, ht, ha, hc, r⟩ := h
  exact ⟨a, c, ns, na, nc, s _ _ ht, s _ _ ha, s _ _ hc, r⟩
theorem paired_pairs {K : PySem.W.Frag} {H : Hp} {ρ : Str → Str} : ∀ {ps : List Addr} {ns : List Str}, Paired (fun p n => H p = some (.tup [.str (ρ n), .str n])) ps ns → Paired (fun p (kv : Key × V) => SqT K H p [kV kv.1, kv.2]) ps (ns.map fun n => (Sum.inr (ρ n), V.str n)) := fun p => by
  induction p with
  | nil => exact .nil
  | cons h t ih => exact .cons (SqT.of h) ih
theorem inv_of {ns : List Str} {ρ : Str → Str} (inj : ∀ m ∈ ns, ∀ n ∈ ns, ρ m = ρ n → m = n) : ∃ σ : Str → Str, ∀ n ∈ ns, σ (ρ n) = n := by
  classical
  refine ⟨fun m => if h : ∃ n ∈ ns, ρ n = m then h.choose else "", fun n hn => ?_⟩
  have h : ∃ x ∈ ns, ρ x = ρ n := ⟨n, hn, rfl⟩
  show (if h : ∃ x ∈ ns, ρ x = ρ n then h.choose else "") = n
  rw [dif_pos h]
  exact inj _ h.choose_spec.1 n hn h.choose_spec.2
theorem counted_len (ms : List Str) : (counted ms).length ≤ ms.length := by
  unfold counted
  rw [List.length_map]
  exact firsts_len ms
def tRowsOk (CB CQ : Addr) : TT := fun σ H Q => ∃ (b cd b2 pr : Addr) (B : BD) (ρ : Str → Str) (ts : List Addr) (v1 v2 v3 v7 : Option V), σ = [some (.ref b), v1, v2, v3, some (.ref cd), some (.ref b2), some (.ref pr), v7, none, none, none, none] ∧ H pr = some (.lst (ts.map V.ref)) ∧ ts.length ≤ 10 ∧ (∀ t ∈ ts, PairR H pr ρ B t) ∧ Calls H cd B.ns ρ ∧ ∀ H', Same H H' → Q false H'
def tOutsOk (CB CQ : Addr) : TT := fun σ H Q => ∃ (b k r d b2 k2 r2 d2 cd pr : Addr) (B C : BD) (ρ : Str → Str) (v1 v2 v3 v7 : Option V), σ = [some (.ref b), v1, v2, v3, some (.ref cd), some (.ref b2), some (.ref pr), v7, none, none, none, none] ∧ BankAt CB CQ H b k r d B ∧ GoodB B ∧ BankAt CB CQ H b2 k2 r2 d2 C ∧ GoodB C ∧ RenO B C ρ ∧ Calls H cd B.ns ρ ∧ ∀ H', Same H H' → Q false H'
def tBack : TE := fun σ H Q => ∃ (b b2 pr cd : Addr) (ns : List Str) (ρ : Str → Str) (v1 v2 v3 v7 : Option V), σ = [some (.ref b), v1, v2, v3, some (.ref cd), some (.ref b2), some (.ref pr), v7, none, none, none, none] ∧ (∃ kvs, H cd = some (.dK kvs) ∧ TbK kvs ns (fun n v => v = .str (ρ n))) ∧ ns.Nodup ∧ ns.length ≤ 60 ∧ ∀ (D : Addr) (ps : List Addr) (H' : Hp), Same H H' → H' D = some (.lst (ps.map V.ref)) → Paired (fun p n => H' p = some (.tup [.str (ρ n), .str n])) ps ns → Q (.ref D) H'
def spCallsR (CB CQ : Addr) : Sp := fun vs H Q _ => ∃ (b k r d : Addr) (B : BD) (ls ks : List Str) (w_ sp : Int), vs = [.ref b, .int w_, .int sp] ∧ BankAt CB CQ H b k r d B ∧ Led ls ks 60 B ∧ B.ns.length ≤ 9 ∧ 0 ≤ w_ ∧ w_ ≤ 9999 ∧ 0 ≤ sp ∧ sp ≤ 9999 ∧ ∀ H', Same H H' → Q (.bl true) H'
section
variable {P : Program} {w : World} {K : PySem.W.Frag} {mg : Str → Option Value} {base : Heap} {CB CQ cN : Addr} {c : Nat → Addr}
abbrev NCallsR : List Str := ["_law_bank", "_law_when", "_law_span", "_law_words", "_law_calls", "_law_other", "_law_rows", "_law_back", "_law_some", "_law_others", "_law_one", "_law_reason"]
theorem scCallsR : FnScope NCallsR ["_law_bank", "_law_when", "_law_span"] (defScope sCallsRight) := ⟨rfl, rfl, rfl, by decide +kernel, rfl, by decide +kernel, by decide +kernel⟩
theorem dp_pairs {K : PySem.W.Frag} {H : Hp} {f g : Str → Str} : ∀ {as : List Addr} {ns : List Str}, Paired (fun a n => H a = some (.tup [.str (f n), .str (g n)])) as ns → DpAll K H (as.map V.ref) ((ns.map fun n => (f n, g n)).map fun q => .tuple [.str q.1, .str q.2]) := fun p => by
  induction p with
  | nil => exact .nil
  | cons h t ih => exact .cons (.tup (SqT.of h) (.cons (.str _) (.cons (.str _) .nil))) ih
theorem dp_pairs2 {K : PySem.W.Frag} {H : Hp} : ∀ {as : List Addr} {ps : List (Str × Str)}, as.length = ps.length → (∀ (i : Nat) (a : Addr) (q : Str × Str), as[i]? = some a → ps[i]? = some q → H a = some (.tup [.str q.1, .str q.2])) → DpAll K H (as.map V.ref) (ps.map fun q => .tuple [.str q.1, .str q.2])
  | [], [], _, _ => .nil
  | [], _ :: _, l, _ => by cases l
  | _ :: _, [], l, _ => by cases l
  | a :: as, q :: ps, l, h => .cons (.tup (SqT.of (h 0 a q rfl rfl)) (.cons (.str _) (.cons (.str _) .nil))) (dp_pairs2 (by simpa using l) fun i a q e1 e2 => h (i + 1) a q e1 e2)
theorem pairs_can : ∀ {ps : List (Str × Str)}, (∀ q ∈ ps, PyData.strOk q.1 = true ∧ PyData.strOk q.2 = true) → PyData.canLayAll0 (ps.map fun q => (.tuple [.str q.1, .str q.2] : PyData)) = true
  | [], _ => by simp [PyData.canLayAll0]
  | q :: ps, h => by
    rw [List.map_cons]
    obtain ⟨h1, h2⟩ := h q List.mem_cons_self
    simp [PyData.canLayAll0, PyData.canLay0, h1, h2, pairs_can fun z hz => h z (List.mem_cons_of_mem _ hz)]
theorem pairs_depth : ∀ ps : List (Str × Str), PyData.depthAll (ps.map fun q => (.tuple [.str q.1, .str q.2] : PyData)) ≤ 2
  | [] => by simp [PyData.depthAll]
  | q :: ps => by
    have ih := pairs_depth ps
    rw [List.map_cons]
    simp only [PyData.depthAll, PyData.depth]
    omega
theorem pairs_shaped {ps : List (Str × Str)} (h : ∀ q ∈ ps, PyData.strOk q.1 = true ∧ PyData.strOk q.2 = true) : SeqAt.shaped (.list (ps.map fun q => .tuple [.str q.1, .str q.2])) = true := by
  have e := pairs_can h
  have d := pairs_depth ps
  simp [SeqAt.shaped, PyData.canLay0, PyData.depth, e]
  omega
theorem pairs_eqv : ∀ (ps : List (Str × Str)), PyData.eqv (.list (ps.map fun q => .tuple [.str q.1, .str q.2])) (.list (ps.map fun q => .tuple [.str q.1, .str q.2])) = true
  | [] => by simp [PyData.eqv, PyData.eqvAll]
  | q :: ps => by
    have ih := pairs_eqv ps
    simp only [PyData.eqv, PyData.eqvAll, List.map_cons, Bool.and_eq_true] at ih ⊢
    simp
    exact ih
theorem paired_mono {α β : Type} {R R' : α → β → Prop} (k : ∀ a b, R a b → R' a b) : ∀ {xs : List α} {ys : List β}, Paired R xs ys → Paired R' xs ys := fun p => by
  induction p with
  | nil => exact .nil
  | cons h t ih => exact .cons (k _ _ h) ih
theorem paired_snoc {α β : Type} {R : α → β → Prop} {x : α} {y : β} (r : R x y) : ∀ {xs : List α} {ys : List β}, Paired R xs ys → Paired R (xs ++ [x]) (ys ++ [y]) := fun p => by
  induction p with
  | nil => exact .cons r .nil
  | cons h t ih => exact .cons h ih
theorem merge_nd : ∀ (kvs acc : List (Key × V)), ((acc ++ kvs).map (·.1)).Nodup → mergeK acc kvs = acc ++ kvs
  | [], acc, _ => (List.append_nil acc).symm
  | p :: r, acc, nd => by
    have hn : valV acc p.1 = none := by
      cases e : valV acc p.1 with
      | none => rfl
      | some v =>
        rw [List.map_append, List.map_cons] at nd
        exact absurd rfl ((List.nodup_append.mp nd).2.2 p.1 (valV_in e) p.1 List.mem_cons_self)
    show mergeK (putK acc p.1 p.2) r = _
    rw [putK_new _ hn, merge_nd r (acc ++ [(p.1, p.2)]) (by rw [List.append_assoc]; exact nd), List.append_assoc]
    rfl
theorem zip_tb {ns ws : List Str} (nd : ns.Nodup) (l : ns.length ≤ ws.length) : TbK ((ns.map Sum.inr : List Key).zip (ws.map V.str)) ns (fun n v => v = .str (rhoF ns ws n)) := by
  have hk : ((ns.map Sum.inr : List Key).zip (ws.map V.str)).map (·.1) = ns.map Sum.inr := by
    rw [List.map_fst_zip (by rw [List.length_map, List.length_map]; exact l)]
  refine ⟨hk, fun n hn => ?_⟩
  obtain ⟨i, hi, rfl⟩ := List.mem_iff_getElem.mp hn
  have hmem : ((Sum.inr ns[i] : Key), V.str (ws[i]'(by omega))) ∈ ((ns.map Sum.inr : List Key).zip (ws.map V.str)) := by
    refine List.mem_iff_getElem?.mpr ⟨i, ?_⟩
    rw [List.getElem?_zip_eq_some]
    exact ⟨by rw [List.getElem?_map, List.getElem?_eq_getElem hi]; rfl, by rw [List.getElem?_map, List.getElem?_eq_getElem (show i < ws.length by omega)]; rfl⟩
  have := valV_mem (kvs := (ns.map Sum.inr : List Key).zip (ws.map V.str)) (p := (Sum.inr ns[i], V.str (ws[i]'(by omega)))) (by rw [hk]; exact inr_nd nd) hmem
  refine ⟨_, this, ?_⟩
  show V.str (ws[i]'(by omega)) = V.str (rhoF ns ws ns[i])
  unfold rhoF
  rw [nd.idxOf_getElem]
  simp [List.getD, List.getElem?_eq_getElem (show i < ws.length by omega)]
theorem zip_merge {ns ws : List Str} (nd : ns.Nodup) (l : ns.length ≤ ws.length) : mergeK [] ((ns.map Sum.inr : List Key).zip (ws.map V.str)) = (ns.map Sum.inr : List Key).zip (ws.map V.str) := by
  rw [merge_nd _ [] (by rw [List.nil_append, (zip_tb nd l).1]; exact inr_nd nd), List.nil_append]
theorem inj_of_map {ns : List Str} {ρ : Str → Str} (h : (ns.map ρ).Nodup) : ∀ m ∈ ns, ∀ n ∈ ns, ρ m = ρ n → m = n := by
  intro m hm n hn e
  obtain ⟨i, hi, rfl⟩ := List.mem_iff_getElem.mp hm
  obtain ⟨j, hj, rfl⟩ := List.mem_iff_getElem.mp hn
  have hij : (ns.map ρ)[i]'(by rw [List.length_map]; exact hi) = (ns.map ρ)[j]'(by rw [List.length_map]; exact hj) := by rw [List.getElem_map, List.getElem_map]; exact e
  have := (List.getElem_inj h).mp hij
  subst this
  rfl
theorem rho_o {ns : List Str} {i : Nat} (nd : ns.Nodup) (l : ns.length ≤ (words13.drop i).length) : (ns.map (rhoF ns (words13.drop i))).Pairwise leS ∧ (ns.map (rhoF ns (words13.drop i))).Nodup ∧ ∀ n ∈ ns, nameT (rhoF ns (words13.drop i) n) = true := by
  rw [rho_map nd l]
  have p : ((words13.drop i).take ns.length).Pairwise (fun a b => leS a b ∧ a ≠ b) := words13_pair.sublist ((List.take_sublist _ _).trans (List.drop_sublist _ _))
  refine ⟨p.imp And.left, List.nodup_iff_pairwise_ne.mpr (p.imp And.right), fun n hn => ?_⟩
  have : rhoF ns (words13.drop i) n ∈ (words13.drop i).take ns.length := by rw [← rho_map nd l]; exact List.mem_map_of_mem hn
  exact words13_nm _ (List.mem_of_mem_drop (List.mem_of_mem_take this))
def scRows : Scope := { kind := ScopeKind.function, names := [(Str.ofString ".0", NameKind.local), (Str.ofString "_law_some", NameKind.local), (Str.ofString "_law_others", NameKind.local), (Str.ofString "_law_calls", NameKind.free)], isGenerator := false, isCoroutine := false }
def scIn : Scope := { kind := ScopeKind.function, names := [(Str.ofString ".0", NameKind.local), (Str.ofString "_law_one", NameKind.local), (Str.ofString "_law_calls", NameKind.free)], isGenerator := false, isCoroutine := false }
theorem blkIn (env : Env) : BlkOk NCallsR (relabel scRows env) scIn [("_law_one", 10)] := by
  have b : BlkOk NCallsR scRows scIn [("_law_one", 10)] := blkOk_by (by decide +kernel)
  refine ⟨b.kind, b.uniq, b.ix, fun y hy hf => ?_, b.own⟩
  have hy' : y = (Str.ofString "_law_calls", NameKind.free) := by
    simp only [scIn, List.mem_cons, List.not_mem_nil, or_false] at hy
    rcases hy with rfl | rfl | rfl
    · cases hf
    · cases hf
    · rfl
  rw [hy']
  have e : (relabel scRows env).names = [(Str.ofString ".0", NameKind.local), (Str.ofString "_law_some", NameKind.local), (Str.ofString "_law_others", NameKind.local), if (NameKind.free == NameKind.free && env.scope.kind == ScopeKind.function && env.kindOf (Str.ofString "_law_calls") == some NameKind.cell) = true then (Str.ofString "_law_calls", NameKind.cell) else (Str.ofString "_law_calls", NameKind.free)] := rfl
  rw [e]
  split
  · exact .inl (by decide +kernel)
  · exact .inr (by decide +kernel)
theorem ok_callsR {f fCa : Addr} {fd fdCa : FuncData} (F : Fun K "_law_calls_right" "_law_calls_right" sCallsRight f fd) (W : BkW P w K mg base CB CQ cN) (FW : FoundW P w K mg base CB CQ) (LW : LastW P w K mg base CB CQ c) (ml : mg "len" = none) (mdi : mg "dict" = none) (mz : mg "zip" = none) (mre : mg "repr" = none)
    (GCa : FnOk P w K mg base CX0 8 fCa fdCa ["_law_bank", "_law_calls"] (spCalled CB CQ)) (kCa : PySem.W.keepIn K (.ref fCa) = true) (bCa : Binds K fdCa ["_law_bank", "_law_calls"] []) (gCa : mg "_law_called" = some (.ref fCa)) :
    FnG P w K mg base CX0 10 f fd ["_law_bank", "_law_when", "_law_span"] (spCallsR CB CQ) := by
  obtain ⟨fN, fdN, GN, MN, bN⟩ := W.names
  obtain ⟨fNi, fdNi, GNi, MNi, bNi⟩ := W.namesIn
  obtain ⟨fOu, fdOu, GOu, MOu, bOu⟩ := W.outs
  obtain ⟨fMa, fdMa, GMa, MMa, bMa⟩ := W.matters
  obtain ⟨fF, fdF, FF, GF, MF⟩ := FW.found
  obtain ⟨fRe, fdRe, GRe, kRe, bRe, gRe⟩ := LW.rest
  obtain ⟨fE, fdE, GE, aE, hE, bE⟩ := LW.eq
  obtain ⟨ie, ke⟩ := kFde FF
  have OB := LW.isB
  refine okG F scCallsR (fun vs H Q E h => ?_) (fun cdv A calm outer s H vs Q E hr h => ?_)
  · obtain ⟨b, k, r, d, B, ls, ks, w_, sp, rfl, _⟩ := h
    rfl
  · obtain ⟨b, k, r, d, B, ls, ks, w_, sp, rfl, hB, led, l9, w0, w9, q0, q9, fin⟩ := h
    have hu := hu_of hr
    have hu1 : _ < cLine := room1 hr
    have hu70 := room_show hr
    have hu64 : _ + 64 < cLine := Nat.lt_of_le_of_lt (Nat.add_le_add_left (by decide) _) (room_show hr)
    have r1 : Room 1 _ := hr.mono (by decide)
    have r2 : Room 2 _ := hr.mono (by decide)
    have r3 : Room 3 _ := hr.mono (by decide)
    have r4 : Room 4 _ := hr.mono (by decide)
    have r5 : Room 5 _ := hr.mono (by decide)
    have r8 : Room 8 _ := hr.mono (by decide)
    have calm2 : Calm (A.deeper (PyProof.Rows.envOfC "_law_calls_right" (defScope sCallsRight) s.heap.objs.size f cdv)) := calm
    refine ⟨_, pss_cons (ps_set (i := 3) scCallsR.nd rfl (.inl rfl) (pe_lst (pa_cons pe_str (pa_cons pe_str (pa_cons pe_str (pa_cons pe_str (pa_cons pe_str (pa_cons pe_str (pa_cons pe_str (pa_cons pe_str (pa_cons pe_str (pa_cons pe_str (pa_cons pe_str (pa_cons pe_str (pa_cons pe_str pa_nil)))))))))))))))
      (pss_cons (ps_set (i := 4) scCallsR.nd rfl (.inr rfl) (pe_dictZip (by rfl) mdi (by rfl) mz (pa_cons (pe_meth0 (E := E0) (pv 0) W.C.cls MN GN r1 bN .nil pass0) (pa_cons (pe_slice sl_list (pv 3) (po_some (pe_op op_mod (pe_callB call_lenQ (by rfl) ml PySem.boot_len (pa_cons (pe_meth0 (E := E0) (pv 0) W.C.cls MN GN r1 bN .nil pass0) pa_nil)) pe_int)) po_none) pa_nil))))
      (pss_cons (ps_set (i := 5) scCallsR.nd rfl (.inl rfl) (pe_call (E := E0) GCa r8 (by rfl) gCa kCa bCa .nil pass0 (pa_cons (pv 0) (pa_cons (pv 4) pa_nil))))
      (pss_cons (ps_set (i := 6) scCallsR.nd rfl (.inl rfl) (pe_lst (pa_cons (pe_tup (pa_cons (pe_meth0 (E := E0) (pv 0) W.C.cls MN GN r1 bN .nil pass0) (pa_cons (pe_meth0 (E := E0) (pv 5) W.C.cls MN GN r1 bN .nil pass0) pa_nil))) (pa_cons (pe_tup (pa_cons (pe_meth0 (E := E0) (pv 0) W.C.cls MNi GNi r2 bNi .nil pass0) (pa_cons (pe_meth0 (E := E0) (pv 5) W.C.cls MNi GNi r2 bNi .nil pass0) pa_nil))) pa_nil))))
      (pss_cons (ps_expr (pe_bm PySem.F.plainAttrs_list PySem.F.slot_list_append PySem.F.type_list_append mt_append (pv 6) (pa_cons (pe_tup (pa_cons (pe_methN0 (E := E0) (pv 0) W.C.cls MF GF r3 ke pass0 (by exact (pk_cons (pv 1) (pk_cons (pv 2) (pk_cons pe_int pk_nil))))) (pa_cons (pe_methN0 (E := E0) (pv 5) W.C.cls MF GF r3 ke pass0 (by exact (pk_cons (pv 1) (pk_cons (pv 2) (pk_cons pe_int pk_nil))))) pa_nil))) pa_nil)))
      (pss_cons (ps_expr (pe_bm PySem.F.plainAttrs_list PySem.F.slot_list_append PySem.F.type_list_append mt_append (pv 6) (pa_cons (pe_tup (pa_cons (pe_call (E := E0) GRe r5 (by rfl) gRe kRe bRe .nil pass_no (pa_cons (pv 0) (pa_cons (pv 1) (pa_cons (pv 2) pa_nil)))) (pa_cons (pe_call (E := E0) GRe r5 (by rfl) gRe kRe bRe .nil pass_no (pa_cons (pv 5) (pa_cons (pv 1) (pa_cons (pv 2) pa_nil)))) pa_nil))) pa_nil)))
      (pss_cons (ps_if (pt_imp (tRowsOk CB CQ) (pt_cmpR (op_neE hu1) (pe_lc (own := [("_law_some", 8), ("_law_others", 9)]) (g := gTup K 2 (gCons (gName 8) (gCons (gName 9) gNil))) (te := tC (.int 1)) (tt := tTest (tOp (rNeS K) (tLc (iList K (tVar 8)) (gName 10) tYes (tDGet (tVar 4) (tVar 10)) [10]) (tVar 9))) rfl scCallsR.nd (pi_list (pv 6)) (blkOk_by (N := NCallsR) (sc := defScope sCallsRight) (by decide +kernel)) (fun _ _ _ _ _ => pg_tup rfl (pgs_cons (pg_name (i := 8) scCallsR.nd rfl (Or.inl rfl)) (pgs_cons (pg_name (i := 9) scCallsR.nd rfl (Or.inl rfl)) pgs_nil))) (fun _ _ _ _ _ => by exact pts_one (pt_cmpR (op_neS hu64) (pe_lc (own := [("_law_one", 10)]) (g := gName 10) (te := tDGet (tVar 4) (tVar 10)) rfl scCallsR.nd (pi_list (pv 8)) (by exact blkIn _) (fun _ _ _ _ _ => pg_name (i := 10) scCallsR.nd rfl (Or.inl rfl)) (fun _ _ _ _ _ => pts_nil) (fun _ _ _ _ _ => by exact pe_dget hu (pv 4) (pv 10) (fun _ _ => rfl))) (pv 9) (nomark _))) (fun _ _ _ _ _ => by exact pe_int)) (pe_lst pa_nil) (nomark _)) (by
          rintro σ H Q ⟨b, cd, b2, pr, B, ρ, ts, v1, v2, v3, v7, rfl, hpr, lt, hts, hc, q⟩
          refine ⟨_, rfl, pr, rfl, ⟨_, SqL.of hpr⟩, fun D nD => ?_⟩
          have aD : ∀ {a : Addr} {o : HO}, H a = some o → a ≠ D := fun {a o} e => ne_of_none e nD
          refine lc_it (walk_list (K := K) (a := pr) (xs := ts.map V.ref)) (fun i G => (∀ a u, a ≠ D → H a = some u → G a = some u) ∧ G D = some (.lst [])) ⟨fun a u n e => by rw [upd_ne n]; exact e, upd_same⟩ (fun i G _ h => SqL.of (h.1 _ _ (aD hpr) hpr)) ?_ ?_
          · rintro i x G G' hi ⟨kp, hd⟩ ⟨rfl, hx⟩
            obtain ⟨t, ht, rfl⟩ := getD_map hx
            obtain ⟨a, c', ns, na, nc, hta, ha, hcc, hns, ln⟩ := hts t (List.mem_of_getElem? ht)
            have sG : Same H G' := fun a u e => kp a u (aD e) e
            have cG : Calls G' cd B.ns ρ := hc.keep fun kvs e => sG _ _ e
            refine ⟨t, _, rfl, SqT.of (sG _ _ hta), rfl, _, _, rfl, _, _, rfl, rfl, rfl, ?_⟩
            refine ⟨_, rfl, a, rfl, ⟨_, SqL.of (sG _ _ ha)⟩, fun D2 nD2 => ?_⟩
            have aD2 : ∀ {a : Addr} {o : HO}, G' a = some o → a ≠ D2 := fun {a o} e => ne_of_none e nD2
            refine lc_it (walk_list (K := K) (a := a) (xs := ns.map V.str)) (fun j G2 => (∀ a u, a ≠ D2 → G' a = some u → G2 a = some u) ∧ G2 D2 = some (.lst (((ns.take j).map ρ).map V.str))) ⟨fun a u n e => by rw [upd_ne n]; exact e, upd_same⟩ (fun j G2 _ h => SqL.of (h.1 _ _ (aD2 (sG _ _ ha)) (sG _ _ ha))) ?_ ?_
            · rintro j x G2 G3 hj ⟨kp2, hd2⟩ ⟨rfl, hx2⟩
              obtain ⟨n, hn, rfl⟩ := getD_map hx2
              have jl := (List.getElem?_eq_some_iff.mp hn).1
              have sG3 : Same G' G3 := fun a u e => kp2 a u (aD2 e) e
              have cG3 : Calls G3 cd B.ns ρ := cG.keep fun kvs e => sG3 _ _ e
              refine ⟨rfl, _, rfl, _, rfl, cd, _, rfl, cG3.get (hns n (List.mem_of_getElem? hn)), _, hd2, by rw [List.length_map, List.length_map, List.length_take, sizeLine_eq]; omega, fun c o n e => by rw [upd_ne n]; exact kp2 c o n e, ?_⟩
              rw [upd_same, List.take_add_one, hn, List.map_append, List.map_append]
              rfl
            rintro G3 ⟨kp3, hd3⟩
            rw [List.length_map, List.take_of_length_le (Nat.le_refl _)] at hd3
            have sG3 : Same G' G3 := fun a u e => kp3 a u (aD2 e) e
            refine ⟨_, rfl, D2, c', _, rfl, rfl, SqL.of hd3, SqL.of (sG3 _ _ (sG _ _ hcc)), fun v hv => by
              obtain ⟨z, _, rfl⟩ := List.mem_map.mp hv
              rfl, _, rfl, iteF' (by simp) ⟨fun a u n e => sG3 _ _ (kp a u n e), sG3 _ _ hd⟩⟩
          rintro G ⟨kp, hd⟩
          refine ⟨by show 0 ≤ sizeLine; exact Nat.zero_le _, fun pe npe => ?_⟩
          have s5 := same_upd (o := .lst []) npe
          have sG : Same H G := fun a u e => kp a u (aD e) e
          refine ⟨D, pe, _, rfl, rfl, SqL.of (s5 _ _ hd), SqL.of upd_same, _, rfl, ?_⟩
          exact q _ (sG.trans s5))) (pss_one (ps_ret pe_bl)) pss_nil)
      (pss_cons (ps_if (pt_imp (tOutsOk CB CQ) (pt_cmpR (op_neD hu64) (pe_lc (own := [("_law_one", 10), ("_law_reason", 11)]) (g := gTup K 2 (gCons (gName 10) (gCons (gName 11) gNil))) (te := tTup (tCons (tDGet (tVar 4) (tVar 10)) (tCons (tVar 11) tNil))) rfl scCallsR.nd (pi_list (pe_meth0 (E := E0) (pv 0) W.C.cls MOu GOu r1 bOu .nil pass0)) (blkOk_by (N := NCallsR) (sc := defScope sCallsRight) (by decide +kernel)) (fun _ _ _ _ _ => pg_tup rfl (pgs_cons (pg_name (i := 10) scCallsR.nd rfl (Or.inl rfl)) (pgs_cons (pg_name (i := 11) scCallsR.nd rfl (Or.inl rfl)) pgs_nil))) (fun _ _ _ _ _ => pts_nil) (fun _ _ _ _ _ => by exact pe_tup (pa_cons (pe_dget hu (pv 4) (pv 10) (fun _ _ => rfl)) (pa_cons (pv 11) pa_nil)))) (pe_meth0 (E := E0) (pv 5) W.C.cls MOu GOu r1 bOu .nil pass0) (nomark _)) (by
          rintro σ H Q ⟨b, k, r, d, b2, k2, r2, d2, cd, pr, B, C, ρ, v1, v2, v3, v7, rfl, hB, g, hC, gC, rn, hc, q⟩
          obtain ⟨dx, hb⟩ := id hB.at_
          obtain ⟨dx2, hb2⟩ := id hC.at_
          have lo := os_len g
          have lo2 := os_len gC
          refine ⟨_, rfl, b, dx, _, rfl, hb, lb_meth (by decide) _ _ _, b, k, r, d, B, rfl, hB, by omega, fun p H1 s1 n1 ⟨as, hp, la, ha⟩ => ⟨p, rfl, ⟨_, SqL.of hp⟩, fun D nD => ?_⟩⟩
          rw [List.length_map, srt_len] at la
          have aD : ∀ {a : Addr} {o : HO}, H1 a = some o → a ≠ D := fun {a o} e => ne_of_none e nD
          refine lc_it (walk_list (K := K) (a := p) (xs := as.map V.ref)) (fun i G => (∀ a u, a ≠ D → H1 a = some u → G a = some u) ∧ ∃ ps : List Addr, G D = some (.lst (ps.map V.ref)) ∧ Paired (fun a n => G a = some (.tup [.str (ρ n), .str (B.g n)])) ps ((srt B.os).take i)) ⟨fun a u n e => by rw [upd_ne n]; exact e, [], upd_same, .nil⟩ (fun i G _ h => SqL.of (h.1 _ _ (aD hp) hp)) ?_ ?_
          · rintro i x G G' hi ⟨kp, ps, hd, pps⟩ ⟨rfl, hx⟩
            obtain ⟨a, ea, rfl⟩ := getD_map hx
            have il := (List.getElem?_eq_some_iff.mp ea).1
            have hm : (srt B.os)[i]? = some ((srt B.os)[i]'(by rw [srt_len]; omega)) := List.getElem?_eq_getElem _
            obtain ⟨n, hn⟩ : ∃ n, (srt B.os)[i]? = some n := ⟨_, hm⟩
            have hta := ha i a (n, B.g n) ea (by rw [List.getElem?_map, hn]; rfl)
            have hno : n ∈ B.os := srt_mem.mp (List.mem_of_getElem? hn)
            have sG : Same H1 G' := fun a u e => kp a u (aD e) e
            have cG : Calls G' cd B.ns ρ := hc.keep fun kvs e => sG _ _ (s1 _ _ e)
            have lps : ps.length ≤ 60 := by rw [Paired.length pps, List.length_take, srt_len]; omega
            refine ⟨a, _, rfl, SqT.of (sG _ _ hta), rfl, _, _, rfl, _, _, rfl, rfl, rfl, ?_⟩
            refine ⟨_, rfl, _, rfl, cd, _, rfl, cG.get (g.os n hno), _, rfl, by show 2 ≤ sizeLine; decide, fun pt npt => ?_⟩
            have s5 := same_upd (o := .tup [V.str (ρ n), V.str (B.g n)]) npt
            have hd5 := s5 _ _ hd
            have hpt : upd G' pt (.tup [V.str (ρ n), V.str (B.g n)]) pt = some (.tup [V.str (ρ n), V.str (B.g n)]) := upd_same
            generalize upd G' pt (.tup [V.str (ρ n), V.str (B.g n)]) = G5 at s5 hd5 hpt ⊢
            have off : ∀ {a : Addr} {L w : List V}, G5 a = some (.tup L) → upd G5 D (.lst w) a = some (.tup L) := fun {a L w} e => by
              rw [upd_ne (fun z => by rw [z, hd5] at e; cases e)]
              exact e
            refine ⟨_, hd5, by rw [List.length_map, sizeLine_eq]; omega, fun c o n e => by rw [upd_ne n]; exact s5 _ _ (kp c o n e), ps ++ [pt], by rw [upd_same, List.map_append]; rfl, ?_⟩
            rw [List.take_add_one, hn]
            exact paired_snoc (R := fun a n => upd G5 D (.lst (ps.map V.ref ++ [V.ref pt])) a = some (.tup [V.str (ρ n), V.str (B.g n)])) (off hpt) (paired_mono (fun a b e => off (s5 _ _ e)) pps)
          rintro G ⟨kp, ps, hd, pps⟩
          rw [List.length_map, la, show (srt B.os).take B.os.length = srt B.os from List.take_of_length_le (by rw [srt_len]; exact Nat.le_refl _)] at pps
          have sG : Same H G := fun a u e => kp a u (aD (s1 _ _ e)) (s1 _ _ e)
          refine ⟨_, rfl, b2, dx2, _, rfl, sG _ _ hb2, lb_meth (by decide) _ _ _, b2, k2, r2, d2, C, rfl, hC.same sG, by omega, fun p2 H2 s2 n2 ⟨as2, hp2, la2, ha2⟩ => ?_⟩
          rw [rn.outsN g] at la2 ha2
          have okp : ∀ q ∈ (srt B.os).map fun n => (ρ n, B.g n), PyData.strOk q.1 = true ∧ PyData.strOk q.2 = true := fun q hq => by
            obtain ⟨n, hn, rfl⟩ := List.mem_map.mp hq
            have hno := srt_mem.mp hn
            exact ⟨name_strOk (hc.nm n (g.os n hno)), text_strOk (g.tx n hno)⟩
          have dq := dp_pairs (K := K) (H := H2) (f := ρ) (g := B.g) (paired_mono (fun a n e => s2 _ _ e) pps)
          have dq2 := dp_pairs2 (K := K) (H := H2) la2 ha2
          refine ⟨_, _, .lst (SqL.of (s2 _ _ hd)) dq, .lst (SqL.of hp2) dq2, pairs_shaped (ps := (srt B.os).map fun n => (ρ n, B.g n)) okp, pairs_shaped (ps := (srt B.os).map fun n => (ρ n, B.g n)) okp, _, rfl, ?_⟩
          rw [pairs_eqv]
          exact q _ (sG.trans s2))) (pss_one (ps_ret pe_bl)) pss_nil)
      (pss_cons (ps_set (i := 7) scCallsR.nd rfl (.inl rfl) (pe_callTy (call_dictP rfl) (by rfl) mdi PyProof.Rows.boot_dict (pa_cons (pe_imp tBack (pe_lock (pe_lc (own := [("_law_one", 10)]) (g := gName 10) (te := tTup (tCons (tDGet (tVar 4) (tVar 10)) (tCons (tVar 10) tNil))) rfl scCallsR.nd (pi_keys (pv 4)) (blkOk_by (N := NCallsR) (sc := defScope sCallsRight) (by decide +kernel)) (fun _ _ _ _ _ => pg_name (i := 10) scCallsR.nd rfl (Or.inl rfl)) (fun _ _ _ _ _ => pts_nil) (fun _ _ _ _ _ => by exact pe_tup (pa_cons (pe_dget hu (pv 4) (pv 10) (fun _ _ => rfl)) (pa_cons (pv 10) pa_nil))))) (by
          rintro σ H Q ⟨b, b2, pr, cd, ns, ρ, v1, v2, v3, v7, rfl, ⟨kvs, hcd, tk⟩, nd, l60, q⟩
          have lk := tk.len
          refine ⟨cd, _, hcd, trivial, fun od => ?_⟩
          have ea : upd H cd (.frz od (.dK kvs)) cd = some (.frz od (.dK kvs)) := upd_same
          generalize hH1 : upd H cd (.frz od (.dK kvs)) = H1 at *
          refine ⟨_, rfl, cd, od, rfl, .inl ⟨_, ea, fun D nD => ?_⟩⟩
          have aD : ∀ {a : Addr} {o : HO}, H1 a = some o → a ≠ D := fun {a o} e => ne_of_none e nD
          refine lc_it (walk_keys (d := cd) (o := od) (kvs := kvs)) (fun i G => (∀ a u, a ≠ D → H1 a = some u → G a = some u) ∧ ∃ ps : List Addr, G D = some (.lst (ps.map V.ref)) ∧ Paired (fun a n => G a = some (.tup [.str (ρ n), .str n])) ps (ns.take i)) ⟨fun a u n e => by rw [upd_ne n]; exact e, [], upd_same, .nil⟩ (fun i G _ h => h.1 _ _ (aD ea) ea) ?_ ?_
          · rintro i x G G' hi ⟨kp, ps, hd, pps⟩ ⟨rfl, ke, v, hx, rfl⟩
            have hk : (kvs.map (·.1))[i]? = some ke := by rw [List.getElem?_map, hx]; rfl
            rw [tk.1] at hk
            obtain ⟨n, hn, rfl⟩ := getD_map hk
            have hnm := List.mem_of_getElem? hn
            obtain ⟨v', ev, rv⟩ := tk.2 n hnm
            rw [rv] at ev
            have sG : Same H1 G' := fun a u e => kp a u (aD e) e
            have lps : ps.length ≤ 60 := by rw [Paired.length pps, List.length_take]; omega
            refine ⟨rfl, _, rfl, _, rfl, cd, _, rfl, .inl ⟨_, .inr n, .inr ⟨od, sG _ _ ea⟩, rfl, ev.symm⟩, _, rfl, by show 2 ≤ sizeLine; decide, fun pt npt => ?_⟩
            have s5 := same_upd (o := .tup [V.str (ρ n), kV (Sum.inr n)]) npt
            have hd5 := s5 _ _ hd
            have hpt : upd G' pt (.tup [V.str (ρ n), kV (Sum.inr n)]) pt = some (.tup [V.str (ρ n), V.str n]) := upd_same
            generalize upd G' pt (.tup [V.str (ρ n), kV (Sum.inr n)]) = G5 at s5 hd5 hpt ⊢
            have off : ∀ {a : Addr} {L w : List V}, G5 a = some (.tup L) → upd G5 D (.lst w) a = some (.tup L) := fun {a L w} e => by
              rw [upd_ne (fun z => by rw [z, hd5] at e; cases e)]
              exact e
            refine ⟨_, hd5, by rw [List.length_map, sizeLine_eq]; omega, fun c o n e => by rw [upd_ne n]; exact s5 _ _ (kp c o n e), ps ++ [pt], by rw [upd_same, List.map_append]; rfl, ?_⟩
            rw [List.take_add_one, hn]
            exact paired_snoc (R := fun a n => upd G5 D (.lst (ps.map V.ref ++ [V.ref pt])) a = some (.tup [V.str (ρ n), V.str n])) (off hpt) (paired_mono (fun a b e => off (s5 _ _ e)) pps)
          rintro G ⟨kp, ps, hd, pps⟩
          rw [lk, List.take_of_length_le (Nat.le_refl _)] at pps
          have kD : cd ≠ D := aD ea
          have ec := kp _ _ kD ea
          have sF : Same H (upd G cd (.dK kvs)) := lock_same (o := od) hcd (by rw [hH1]; exact fun a u e => kp a u (aD e) e)
          refine ⟨ec, q D ps _ sF (by rw [upd_ne (Ne.symm kD)]; exact hd) (paired_mono (fun a n e => ?_) pps)⟩
          rw [upd_ne (fun z => by rw [z, ec] at e; cases e)]
          exact e)) pa_nil)))
      (pss_one (ps_ret (pe_and (pe_cmpR op_eq (pe_callB (call_showT (by exact calm2) hu70) (by rfl) mre (by decide +kernel) (pa_cons (pe_meth0 (E := E0) (pv 0) W.C.cls MMa GMa r3 bMa .nil pass0) pa_nil)) (pe_callB (call_showT (by exact calm2) hu70) (by rfl) mre (by decide +kernel) (pa_cons (pe_meth0 (E := E0) (pv 5) W.C.cls MMa GMa r3 bMa .nil pass0) pa_nil)) (nomark _)) (pe_one (pe_cmpR (op_eqO GE r4 aE hE bE) (pe_call (E := E0) GCa r8 (by rfl) gCa kCa bCa .nil pass0 (pa_cons (pv 5) (pa_cons (pv 7) pa_nil))) (pv 0) (nomark _)))))))))))))), ?_⟩
    have g := led.good
    have l60 := g.le
    obtain ⟨dx, hb⟩ := id hB.at_
    refine ⟨by show 13 ≤ sizeLine; decide, fun p3 n3 => ?_⟩
    have s1 := same_upd (o := .lst (words13.map V.str)) n3
    have h1 : upd H p3 (.lst (words13.map V.str)) p3 = some (.lst (words13.map V.str)) := upd_same
    show tSeq _ _ _ _ (upd H p3 (.lst (words13.map V.str)))
    generalize upd H p3 (.lst (words13.map V.str)) = H1 at s1 h1 ⊢
    have hB1 := hB.same s1
    refine ⟨_, rfl, b, dx, _, rfl, s1 _ _ hb, lb_meth (by decide) _ _ _, b, k, r, d, B, rfl, hB1, by omega, fun pn H2 s2 n2 h2 => ?_⟩
    have s12 := s1.trans s2
    refine ⟨_, rfl, _, rfl, b, dx, _, rfl, s12 _ _ hb, lb_meth (by decide) _ _ _, b, k, r, d, B, rfl, hB.same s12, by omega, fun pm H3 s3 n3' h3 => ?_⟩
    have s13 := s12.trans s3
    refine ⟨pm, _, rfl, .inl (SqL.of h3), _, _, rfl, rfl, (by show (0 : Int) < 3; decide), _, rfl, ?_⟩
    rw [List.length_map, srt_len]
    obtain ⟨j, hj, hj3⟩ : ∃ j : Nat, ((B.ns.length : Nat) : Int) % 3 = (j : Int) ∧ j < 3 := ⟨(((B.ns.length : Nat) : Int) % 3).toNat, by omega, by omega⟩
    rw [hj]
    refine ⟨p3, _, rfl, SqL.of (s3 _ _ (s2 _ _ h1)), fun p6 n6 => ?_⟩
    rw [cut_hi (by omega), Int.toNat_natCast, ← List.map_drop]
    have s4 := same_upd (o := .lst ((words13.drop j).map V.str)) n6
    have ndN := srt_nd g.nd
    have lw : (srt B.ns).length ≤ (words13.drop j).length := by rw [srt_len, List.length_drop, show words13.length = 13 from rfl]; omega
    refine ⟨pn, p6, srt B.ns, _, rfl, SqL.of (s4 _ _ (s3 _ _ h2)), SqL.of upd_same, by rw [List.length_map]; exact lw, fun cd ncd => ?_⟩
    rw [zip_merge ndN lw]
    obtain ⟨o1, o2, o3⟩ := rho_o ndN lw
    have tb := zip_tb ndN lw
    generalize hρ : rhoF (srt B.ns) (words13.drop j) = ρ at o1 o2 o3 tb
    generalize hkv : (List.map Sum.inr (srt B.ns) : List Key).zip (List.map V.str (words13.drop j)) = kvs at tb ⊢
    have s5 := (s13.trans s4).trans (same_upd (o := .dK kvs) ncd)
    have hcd : upd (upd H3 p6 (.lst ((words13.drop j).map V.str))) cd (.dK kvs) cd = some (.dK kvs) := upd_same
    generalize upd (upd H3 p6 (.lst ((words13.drop j).map V.str))) cd (.dK kvs) = H5 at s5 hcd ⊢
    have inj : ∀ m ∈ B.ns, ∀ n ∈ B.ns, ρ m = ρ n → m = n := fun m hm n hn => inj_of_map o2 m (srt_mem.mpr hm) n (srt_mem.mpr hn)
    have hc : ∀ {G : Hp}, G cd = some (.dK kvs) → Calls G cd B.ns ρ := fun {G} e => ⟨⟨kvs, e, fun n hn => by
      obtain ⟨v, e1, e2⟩ := tb.2 n (srt_mem.mpr hn)
      rw [e1, e2]⟩, fun n hn => o3 n (srt_mem.mpr hn), inj⟩
    have hB5 := hB.same s5
    refine ⟨_, rfl, _, rfl, b, k, r, d, cd, B, ρ, rfl, hB5, g, led.ws, by omega, led.hl, hc hcd, fun b2 k2 r2 d2 C H6 s6 nb2 nk2 nr2 nd2 hC gC nC ren => ?_⟩
    have rn : RenO B C ρ := ⟨ren, o1, inj⟩
    have lC : C.ns.length ≤ 9 := by rw [ren.ns.length_eq, List.length_map]; exact l9
    have s06 := s5.trans s6
    have hB6 := hB.same s06
    obtain ⟨dx2, hb2⟩ := id hC.at_
    have fn : ∀ n ∈ B.ins, n ∈ B.ns := fun n hn => inN hn
    refine ⟨_, rfl, b, dx, _, rfl, s06 _ _ hb, lb_meth (by decide) _ _ _, b, k, r, d, B, rfl, hB6, by omega, fun a1 G1 t1 m1 e1 => ?_⟩
    refine ⟨_, rfl, b2, dx2, _, rfl, t1 _ _ hb2, lb_meth (by decide) _ _ _, b2, k2, r2, d2, C, rfl, hC.same t1, by omega, fun a2 G2 t2 m2 e2 => ⟨by show 2 ≤ sizeLine; decide, fun x1 y1 => ?_⟩⟩
    have z2 := (t1.trans t2).trans (same_upd (o := .tup [V.ref a1, V.ref a2]) y1)
    have w1 : Same G1 (upd G2 x1 (.tup [V.ref a1, V.ref a2])) := t2.trans (same_upd y1)
    have f1 := w1 _ _ e1
    have f2 := same_upd (o := .tup [V.ref a1, V.ref a2]) y1 _ _ e2
    have fx1 : upd G2 x1 (.tup [V.ref a1, V.ref a2]) x1 = some (.tup [V.ref a1, V.ref a2]) := upd_same
    generalize upd G2 x1 (.tup [V.ref a1, V.ref a2]) = G3 at z2 f1 f2 fx1 ⊢
    rw [rn.srtN] at f2
    refine ⟨_, rfl, b, dx, _, rfl, z2 _ _ (s06 _ _ hb), lb_meth (by decide) _ _ _, b, k, r, d, B, rfl, hB6.same z2, by omega, fun a3 G4 t4 m4 e4 => ?_⟩
    refine ⟨_, rfl, b2, dx2, _, rfl, t4 _ _ (z2 _ _ hb2), lb_meth (by decide) _ _ _, b2, k2, r2, d2, C, rfl, (hC.same z2).same t4, by omega, fun a4 G5 t5 m5 e5 => ⟨by show 2 ≤ sizeLine; decide, fun x2 y2 => ?_⟩⟩
    rw [rn.insN g] at e5
    have z5 := (z2.trans t4).trans (t5.trans (same_upd (o := .tup [V.ref a3, V.ref a4]) y2))
    have w4 : Same G3 (upd G5 x2 (.tup [V.ref a3, V.ref a4])) := t4.trans (t5.trans (same_upd y2))
    have w5 : Same G4 (upd G5 x2 (.tup [V.ref a3, V.ref a4])) := t5.trans (same_upd y2)
    have g1 := w4 _ _ f1
    have g2 := w4 _ _ f2
    have gx1 := w4 _ _ fx1
    have g3 := w5 _ _ e4
    have g4 := same_upd (o := .tup [V.ref a3, V.ref a4]) y2 _ _ e5
    have gx2 : upd G5 x2 (.tup [V.ref a3, V.ref a4]) x2 = some (.tup [V.ref a3, V.ref a4]) := upd_same
    generalize upd G5 x2 (.tup [V.ref a3, V.ref a4]) = G6 at z5 g1 g2 gx1 g3 g4 gx2 ⊢
    refine ⟨by show 2 ≤ sizeLine; decide, fun pr npr => ?_⟩
    have ne : ∀ {a : Addr} {o : HO}, G6 a = some o → a ≠ pr := fun {a o} e => ne_of_none e npr
    have lsrt : (srt B.ns).length ≤ 60 := by rw [srt_len]; omega
    have lins : B.ins.length ≤ 60 := by have := ins_len B; omega
    have u1 := same_upd (o := .lst [V.ref x1, V.ref x2]) npr
    have hpr : upd G6 pr (.lst [V.ref x1, V.ref x2]) pr = some (.lst [V.ref x1, V.ref x2]) := upd_same
    have pp1 : PairR (upd G6 pr (.lst [V.ref x1, V.ref x2])) pr ρ B x1 := ⟨a1, a2, srt B.ns, ne g1, ne g2, u1 _ _ gx1, u1 _ _ g1, u1 _ _ g2, fun n hn => srt_mem.mp hn, lsrt⟩
    have pp2 : PairR (upd G6 pr (.lst [V.ref x1, V.ref x2])) pr ρ B x2 := ⟨a3, a4, B.ins, ne g3, ne g4, u1 _ _ gx2, u1 _ _ g3, u1 _ _ g4, fn, lins⟩
    have z6 := z5.trans u1
    generalize upd G6 pr (.lst [V.ref x1, V.ref x2]) = G7 at z6 hpr pp1 pp2 ⊢
    have hB7 := hB6.same z6
    have hC7 := hC.same z6
    have hb7 := z6 _ _ (s06 _ _ hb)
    have hb27 := z6 _ _ hb2
    refine ⟨_, rfl, .inl ⟨rfl, _, SqL.of hpr⟩, ?_⟩
    refine ⟨_, rfl, b, dx, _, rfl, hb7, lb_meth (by decide) _ _ _, _, rfl, _, rfl, rfl, b, k, r, d, B, askE w_ sp, rfl, hB7, g, fun a5 G8 t8 m8 e8 => ?_⟩
    have nprH : H6 pr = none := none_of z5 npr
    refine ⟨_, rfl, b2, dx2, _, rfl, t8 _ _ hb27, lb_meth (by decide) _ _ _, _, rfl, _, rfl, rfl, b2, k2, r2, d2, C, askE w_ sp, rfl, hC7.same t8, gC, fun a6 G9 t9 m9 e9 => ⟨by show 2 ≤ sizeLine; decide, fun x3 y3 => ?_⟩⟩
    rw [rn.foundN g] at e9
    have n5 : a5 ≠ pr := fun z => by rw [z, hpr] at m8; cases m8
    have n6' : a6 ≠ pr := fun z => by rw [z, t8 _ _ hpr] at m9; cases m9
    have u3 := same_upd (o := .tup [V.ref a5, V.ref a6]) y3
    have q5 := u3 _ _ (t9 _ _ e8)
    have q6 := u3 _ _ e9
    have qx3 : upd G9 x3 (.tup [V.ref a5, V.ref a6]) x3 = some (.tup [V.ref a5, V.ref a6]) := upd_same
    have z9 := (t8.trans t9).trans u3
    have hpr9 := z9 _ _ hpr
    have pp1' := pp1.same z9
    have pp2' := pp2.same z9
    have z69 := z6.trans z9
    generalize upd G9 x3 (.tup [V.ref a5, V.ref a6]) = Ga at z9 q5 q6 qx3 hpr9 pp1' pp2' z69 ⊢
    have lf : (B.found (askE w_ sp)).length ≤ 60 := by have := found_len B (askE w_ sp); omega
    have pp3 : PairR Ga pr ρ B x3 := ⟨a5, a6, _, n5, n6', qx3, q5, q6, fun n hn => fn n (List.mem_filter.mp hn).1, lf⟩
    refine ⟨pr, _, _, rfl, rfl, hpr9, by show 3 ≤ sizeLine; decide, ?_⟩
    have zb : Same H6 (upd Ga pr (.lst ([V.ref x1, V.ref x2] ++ [V.ref x3]))) := fun a u e => by
      rw [upd_ne (fun z => by rw [z, nprH] at e; cases e)]
      exact z69 a u e
    have kpb : ∀ a u, a ≠ pr → Ga a = some u → upd Ga pr (.lst ([V.ref x1, V.ref x2] ++ [V.ref x3])) a = some u := fun a u n e => by rw [upd_ne n]; exact e
    have hprb : upd Ga pr (.lst ([V.ref x1, V.ref x2] ++ [V.ref x3])) pr = some (.lst ([x1, x2, x3].map V.ref)) := upd_same
    have p1 := pp1'.keep hpr9 kpb
    have p2 := pp2'.keep hpr9 kpb
    have p3' := pp3.keep hpr9 kpb
    show tSeq _ _ _ _ (upd Ga pr (.lst ([V.ref x1, V.ref x2] ++ [V.ref x3])))
    generalize upd Ga pr (.lst ([V.ref x1, V.ref x2] ++ [V.ref x3])) = Gb at zb hprb p1 p2 p3' ⊢
    refine ⟨_, rfl, .inl ⟨rfl, _, SqL.of hprb⟩, ?_⟩
    refine ⟨_, rfl, _, rfl, _, rfl, .ref b, .int w_, .int sp, rfl, .inl ⟨b, k, r, d, B, rfl, hB6.same zb, g, .int _, .int _, fun hw => absurd hw (by rw [whole_of w0 w9]; simp), fun _ hw => absurd hw (by rw [whole_of q0 q9]; simp), fun i' j' e1' e2' _ _ a7 Gc tc mc ec => ?_⟩⟩
    cases e1'
    cases e2'
    refine ⟨_, rfl, _, rfl, _, rfl, .ref b2, .int w_, .int sp, rfl, .inl ⟨b2, k2, r2, d2, C, rfl, (hC.same zb).same tc, gC, .int _, .int _, fun hw => absurd hw (by rw [whole_of w0 w9]; simp), fun _ hw => absurd hw (by rw [whole_of q0 q9]; simp), fun i' j' e1' e2' _ _ a8 Gd td md ed => ⟨by show 2 ≤ sizeLine; decide, fun x4 y4 => ?_⟩⟩⟩
    cases e1'
    cases e2'
    rw [show C.rests w_ sp = (B.rests w_ sp).map ρ from rn.restsN g fun ds => wasU ds (w_ - sp + 1) w_] at ed
    have n7 : a7 ≠ pr := fun z => by rw [z, hprb] at mc; cases mc
    have n8 : a8 ≠ pr := fun z => by rw [z, tc _ _ hprb] at md; cases md
    have u4 := same_upd (o := .tup [V.ref a7, V.ref a8]) y4
    have q7 := u4 _ _ (td _ _ ec)
    have q8 := u4 _ _ ed
    have qx4 : upd Gd x4 (.tup [V.ref a7, V.ref a8]) x4 = some (.tup [V.ref a7, V.ref a8]) := upd_same
    have zd := (tc.trans td).trans u4
    have hprd := zd _ _ hprb
    have r1' := p1.same zd
    have r2' := p2.same zd
    have r3' := p3'.same zd
    have z6d := zb.trans zd
    generalize upd Gd x4 (.tup [V.ref a7, V.ref a8]) = Ge at zd q7 q8 qx4 hprd r1' r2' r3' z6d ⊢
    have lr : (B.rests w_ sp).length ≤ 60 := by have : (B.rests w_ sp).length ≤ B.ins.length := List.length_filter_le _ _; omega
    have r4' : PairR Ge pr ρ B x4 := ⟨a7, a8, _, n7, n8, qx4, q7, q8, fun n hn => fn n (List.mem_filter.mp hn).1, lr⟩
    refine ⟨pr, _, _, rfl, rfl, hprd, by show 4 ≤ sizeLine; decide, ?_⟩
    have zf : Same H6 (upd Ge pr (.lst ([x1, x2, x3].map V.ref ++ [V.ref x4]))) := fun a u e => by
      rw [upd_ne (fun z => by rw [z, nprH] at e; cases e)]
      exact z6d a u e
    have kpf : ∀ a u, a ≠ pr → Ge a = some u → upd Ge pr (.lst ([x1, x2, x3].map V.ref ++ [V.ref x4])) a = some u := fun a u n e => by rw [upd_ne n]; exact e
    have hprf : upd Ge pr (.lst ([x1, x2, x3].map V.ref ++ [V.ref x4])) pr = some (.lst ([x1, x2, x3, x4].map V.ref)) := upd_same
    have w1' := r1'.keep hprd kpf
    have w2' := r2'.keep hprd kpf
    have w3' := r3'.keep hprd kpf
    have w4' := r4'.keep hprd kpf
    show tSeq _ _ _ _ (upd Ge pr (.lst ([x1, x2, x3].map V.ref ++ [V.ref x4])))
    generalize upd Ge pr (.lst ([x1, x2, x3].map V.ref ++ [V.ref x4])) = Gf at zf hprf w1' w2' w3' w4' ⊢
    have hcdf := zf _ _ (s6 _ _ hcd)
    refine ⟨b, cd, b2, pr, B, ρ, [x1, x2, x3, x4], _, _, _, _, rfl, hprf, by show 4 ≤ 10; decide, fun t ht => ?_, hc hcdf, fun Gg sg => iteF' (by simp) ?_⟩
    · simp only [List.mem_cons, List.not_mem_nil, or_false] at ht
      rcases ht with rfl | rfl | rfl | rfl
      · exact w1'
      · exact w2'
      · exact w3'
      · exact w4'
    have zg := zf.trans sg
    refine ⟨b, k, r, d, b2, k2, r2, d2, cd, pr, B, C, ρ, _, _, _, _, rfl, hB6.same zg, g, hC.same zg, gC, rn, hc (sg _ _ hcdf), fun Gh sh => iteF' (by simp) ?_⟩
    have zh := zg.trans sh
    refine ⟨b, b2, pr, cd, srt B.ns, ρ, _, _, _, _, rfl, ⟨kvs, sh _ _ (sg _ _ hcdf), tb⟩, ndN, lsrt, fun D ps Gi si hD pps => ⟨D, ps, _, rfl, SqL.of hD, paired_pairs pps, fun bk nbk => ?_⟩⟩
    have kb : ((srt B.ns).map fun n => ((Sum.inr (ρ n) : Key), V.str n)).map (·.1) = ((srt B.ns).map ρ).map Sum.inr := by rw [List.map_map, List.map_map]; rfl
    rw [merge_nd _ [] (by rw [List.nil_append, kb]; exact inr_nd o2), List.nil_append]
    have zi := (zh.trans si).trans (same_upd (o := .dK ((srt B.ns).map fun n => ((Sum.inr (ρ n) : Key), V.str n))) nbk)
    have hbk : upd Gi bk (.dK ((srt B.ns).map fun n => ((Sum.inr (ρ n) : Key), V.str n))) bk = some (.dK ((srt B.ns).map fun n => ((Sum.inr (ρ n) : Key), V.str n))) := upd_same
    generalize upd Gi bk (.dK ((srt B.ns).map fun n => ((Sum.inr (ρ n) : Key), V.str n))) = Gj at zi hbk ⊢
    have tm : ∀ p ∈ counted B.ms, p.1.length ≤ 100 ∧ Sgn p.1 ∧ p.2.natAbs.log2 < 1920 := fun p hp => by
      obtain ⟨m, hm, rfl⟩ := List.mem_map.mp hp
      obtain ⟨z1, z2⟩ := name_100 (ms_name g m (firsts_mem.mp hm))
      refine ⟨z1, z2, log_small (by show (0 : Int) ≤ (B.ms.count m : Int); omega) ?_⟩
      have := List.count_le_length (a := m) (l := B.ms)
      have := ms_len B
      have := ins_len B
      show (B.ms.count m : Int) ≤ 1000000
      omega
    have tl : (counted B.ms).length ≤ 1000 := by
      have := counted_len B.ms
      have := ms_len B
      have := ins_len B
      omega
    have zj := s06.trans zi
    refine ⟨_, rfl, b, dx, _, rfl, zj _ _ hb, lb_meth (by decide) _ _ _, b, k, r, d, B, rfl, hB.same zj, g, fun p1' Gk sk nk hk => ⟨p1', counted B.ms, rfl, hk, tm, tl, ?_⟩⟩
    refine ⟨_, rfl, b2, dx2, _, rfl, sk _ _ (zi _ _ hb2), lb_meth (by decide) _ _ _, b2, k2, r2, d2, C, rfl, (hC.same zi).same sk, gC, fun p2' Gl sl nl hl2 => ?_⟩
    rw [rn.msN g] at hl2
    refine ⟨p2', counted B.ms, rfl, hl2, tm, tl, rfl, _, rfl, iteT' (by simp) ?_⟩
    obtain ⟨iv, hiv⟩ := inv_of inj
    have zl := (zj.trans sk).trans sl
    have hCl := ((hC.same zi).same sk).same sl
    have memC : ∀ m ∈ C.ns, ∃ n ∈ B.ns, ρ n = m := fun m hm => by
      obtain ⟨n, hn, e⟩ := List.mem_map.mp (ren.ns.mem_iff.mp hm)
      exact ⟨n, hn, e⟩
    have cb : Calls Gl bk C.ns iv := ⟨⟨_, sl _ _ (sk _ _ hbk), fun m hm => by
      obtain ⟨n, hn, rfl⟩ := memC m hm
      rw [hiv n hn]
      exact valV_mem (kvs := (srt B.ns).map fun n => ((Sum.inr (ρ n) : Key), V.str n)) (p := (Sum.inr (ρ n), V.str n)) (by rw [kb]; exact inr_nd o2) (List.mem_map.mpr ⟨n, srt_mem.mpr hn, rfl⟩)⟩, fun m hm => by
      obtain ⟨n, hn, rfl⟩ := memC m hm
      rw [hiv n hn]
      exact g.name hn, fun m hm m' hm' e => by
      obtain ⟨n, hn, rfl⟩ := memC m hm
      obtain ⟨n', hn', rfl⟩ := memC m' hm'
      rw [hiv n hn, hiv n' hn'] at e
      rw [e]⟩
    have hlC : ∀ m ∈ C.ns, (C.h m).length ≤ 60 := fun m hm => by
      obtain ⟨n, hn, rfl⟩ := memC m hm
      rw [ren.h n hn]
      exact led.hl n hn
    refine ⟨_, rfl, _, rfl, b2, k2, r2, d2, bk, C, iv, rfl, hCl, gC, nC, by omega, hlC, cb, fun b3 k3 r3 d3 D3 Gm sm nb3 nk3 nr3 nd3 hD3 gD3 nD3 ren3 => ?_⟩
    have hBm := (hB.same zl).same sm
    have neq : ∀ {x y : Addr} {kv : List (Key × V)}, Gl x = some (.dK kv) → Gl y = none → y ≠ x := fun {x y kv} e n z => by rw [z, e] at n; cases n
    obtain ⟨⟨v1, c1⟩, ⟨v2, c2⟩, ⟨v3, c3⟩⟩ := (hB.same zl).isB
    refine ⟨_, rfl, eqO_go OB hD3 gD3 hBm g (neq c1 nk3) (neq c2 nr3) (neq c3 nd3) ?_⟩
    rw [eqBk_eqv (ren.back ren3 g hiv)]
    exact fin _ (zl.trans sm)
end
end Pk
namespace Pk
open PySem L2
/-! ### the law -/
def spLaw (K : PySem.W.Frag) : Sp := fun vs H Q _ => ∃ (a : Addr) (ns : List Int), vs = [.ref a] ∧ SqL K H a (ns.map V.int) ∧ ns.length ≤ 63 ∧ ∀ H', Q (.bl true) H'
section
variable {P : Program} {w : World} {K : PySem.W.Frag} {mg : Str → Option Value} {base : Heap} {CB CQ cN : Addr} {c : Nat → Addr}
abbrev NLaw : List Str := ["_law_script", "_law_k", "_law_state", "_law_many", "_law_turns", "_law_kinds", "_law_labels", "_law_bank", "_law_turn", "_law_label", "_law_when", "_law_span"]
theorem scLaw : FnScope NLaw ["_law_script"] (defScope sLaw) := ⟨rfl, rfl, rfl, by decide +kernel, rfl, by decide +kernel, by decide +kernel⟩
theorem ok_law {f fT f0 fNm fR fLd fBR fPR fCR : Addr} {fd fdT fd0 fdNm fdR fdLd fdBR fdPR fdCR : FuncData} (F : Fun K "law" "law" sLaw f fd) (mra : mg "range" = none) (ml : mg "len" = none) (mx : mg "max" = none) (mn : mg "min" = none)
    (GT : FnOk P w K mg base CX0 2 fT fdT ["_law_state", "_law_many"] spTake) (kT : PySem.W.keepIn K (.ref fT) = true) (bT : Binds K fdT ["_law_state", "_law_many"] []) (gT : mg "_law_take" = some (.ref fT))
    (G0 : FnOk P w K mg base CX0 1 f0 fd0 ["_law_script", "_law_k"] (spBegun K)) (k0 : PySem.W.keepIn K (.ref f0) = true) (b0 : Binds K fd0 ["_law_script", "_law_k"] []) (g0 : mg "_law_begun" = some (.ref f0))
    (GNm : FnOk P w K mg base CX0 3 fNm fdNm ["_law_state", "_law_many"] spNames) (kNm : PySem.W.keepIn K (.ref fNm) = true) (bNm : Binds K fdNm ["_law_state", "_law_many"] []) (gNm : mg "_law_names" = some (.ref fNm))
    (GR : FnOk P w K mg base CX0 3 fR fdR ["_law_state", "_law_label", "_law_kinds"] spRow) (kR : PySem.W.keepIn K (.ref fR) = true) (bR : Binds K fdR ["_law_state", "_law_label", "_law_kinds"] []) (gR : mg "_law_row" = some (.ref fR))
    (GLd : FnOk P w K mg base CX0 8 fLd fdLd ["_law_state", "_law_kinds", "_law_labels", "_law_turns"] (spLed CB CQ)) (kLd : PySem.W.keepIn K (.ref fLd) = true) (bLd : Binds K fdLd ["_law_state", "_law_kinds", "_law_labels", "_law_turns"] []) (gLd : mg "_law_led" = some (.ref fLd))
    (GBR : FnOk P w K mg base CX0 9 fBR fdBR ["_law_bank", "_law_label", "_law_when", "_law_row_here"] (spBackR CB CQ)) (kBR : PySem.W.keepIn K (.ref fBR) = true) (bBR : Binds K fdBR ["_law_bank", "_law_label", "_law_when", "_law_row_here"] []) (gBR : mg "_law_back_right" = some (.ref fBR))
    (GPR : FnOk P w K mg base CX0 6 fPR fdPR ["_law_bank", "_law_kinds", "_law_when", "_law_span"] (spPartsR CB CQ)) (kPR : PySem.W.keepIn K (.ref fPR) = true) (bPR : Binds K fdPR ["_law_bank", "_law_kinds", "_law_when", "_law_span"] []) (gPR : mg "_law_parts_right" = some (.ref fPR))
    (GCR : FnG P w K mg base CX0 10 fCR fdCR ["_law_bank", "_law_when", "_law_span"] (spCallsR CB CQ)) (kCR : PySem.W.keepIn K (.ref fCR) = true) (bCR : Binds K fdCR ["_law_bank", "_law_when", "_law_span"] []) (gCR : mg "_law_calls_right" = some (.ref fCR)) :
    FnG P w K mg base CX0 11 f fd ["_law_script"] (spLaw K) := by
  refine okG F scLaw (fun vs H Q E h => ?_) (fun cdv A calm outer s H vs Q E hr h => ?_)
  · obtain ⟨a, ns, rfl, _⟩ := h
    rfl
  · obtain ⟨a, ns, rfl, hS0, hlen, fin⟩ := h
    have hu := hu_of hr
    have r1 : Room 1 _ := hr.mono (by decide)
    have r2 : Room 2 _ := hr.mono (by decide)
    have r3 : Room 3 _ := hr.mono (by decide)
    have r6 : Room 6 _ := hr.mono (by decide)
    have r8 : Room 8 _ := hr.mono (by decide)
    have r9 : Room 9 _ := hr.mono (by decide)
    have calm2 : Calm (A.deeper (PyProof.Rows.envOfC "law" (defScope sLaw) s.heap.objs.size f cdv)) := calm
    refine ⟨_, pss_cons (ps_for PassesOwn.never rfl (pi_range1 (by rfl) mra (pa_cons (pe_callB (call_max2 rfl) (by rfl) mx (by decide +kernel) (pa_cons pe_int (pa_cons (pe_callB (call_min2 rfl) (by rfl) mn (by decide +kernel) (pa_cons pe_int (pa_cons (pe_callB call_lenQ (by rfl) ml PySem.boot_len (pa_cons (pv 0) pa_nil)) pa_nil))) pa_nil))) pa_nil)) (pg_name (i := 1) scLaw.nd rfl (.inl rfl))
        (pss_cons (ps_set (i := 2) scLaw.nd rfl (.inl rfl) (pe_call (E := E0) G0 r1 (by rfl) g0 k0 b0 .nil pass0 (pa_cons (pv 0) (pa_cons (pv 1) pa_nil))))
        (pss_cons (ps_par (i := 3) (j := 4) (by rfl) scLaw.nd rfl rfl (by decide) rfl rfl (pa_cons (pe_op op_add pe_int (pe_call (E := E0) GT r2 (by rfl) gT kT bT .nil pass0 (pa_cons (pv 2) (pa_cons pe_int pa_nil)))) (pa_cons (pe_call (E := E0) GT r2 (by rfl) gT kT bT .nil pass0 (pa_cons (pv 2) (pa_cons pe_int pa_nil))) pa_nil)) (by rfl))
        (pss_cons (ps_par (i := 5) (j := 6) (by rfl) scLaw.nd rfl rfl (by decide) rfl rfl (pa_cons (pe_call (E := E0) GNm r3 (by rfl) gNm kNm bNm .nil pass0 (pa_cons (pv 2) (pa_cons pe_int pa_nil))) (pa_cons (pe_call (E := E0) GNm r3 (by rfl) gNm kNm bNm .nil pass0 (pa_cons (pv 2) (pa_cons pe_int pa_nil))) pa_nil)) (by rfl))
        (pss_cons (ps_set (i := 7) scLaw.nd rfl (.inl rfl) (pe_call (E := E0) GLd r8 (by rfl) gLd kLd bLd .nil pass0 (pa_cons (pv 2) (pa_cons (pv 5) (pa_cons (pe_slice sl_list (pv 6) po_none (po_some (pv 3))) (pa_cons (pv 4) pa_nil))))))
        (pss_one (ps_for PassesOwn.never rfl (pi_range1 (by rfl) mra (pa_cons pe_int pa_nil)) (pg_name (i := 8) scLaw.nd rfl (.inl rfl))
        (pss_cons (ps_par3 (i := 9) (j := 10) (l := 11) (by rfl) scLaw.nd rfl rfl rfl (by decide) (by decide) (by decide) rfl rfl rfl (pa_cons (pe_ix ix_list (pv 6) (pe_call (E := E0) GT r2 (by rfl) gT kT bT .nil pass0 (pa_cons (pv 2) (pa_cons (pv 3) pa_nil))) (fun _ _ => rfl)) (pa_cons (pe_call (E := E0) GT r2 (by rfl) gT kT bT .nil pass0 (pa_cons (pv 2) (pa_cons pe_int pa_nil))) (pa_cons (pe_call (E := E0) GT r2 (by rfl) gT kT bT .nil pass0 (pa_cons (pv 2) (pa_cons pe_int pa_nil))) pa_nil))) (by rfl))
        (pss_cons (ps_if (pt_not (pt_val (pe_call (E := E0) GBR r9 (by rfl) gBR kBR bBR .nil pass0 (pa_cons (pv 7) (pa_cons (pv 9) (pa_cons (pv 10) (pa_cons (pe_slice sl_tupE (pe_call (E := E0) GR r3 (by rfl) gR kR bR .nil pass0 (pa_cons (pv 2) (pa_cons (pv 9) (pa_cons (pv 5) pa_nil)))) (po_some pe_int) po_none) pa_nil))))))) (pss_one (ps_ret pe_bl)) pss_nil)
        (pss_one (ps_if (PW.pt (pw_or (pt_not (pt_val (pe_call (E := E0) GPR r6 (by rfl) gPR kPR bPR .nil pass0 (pa_cons (pv 7) (pa_cons (pv 5) (pa_cons (pv 10) (pa_cons (pv 11) pa_nil))))))) (pw_or1 (pt_not (pt_val (pe_callG GCR calm2 hr (by rfl) gCR kCR bCR .nil pass0 (pa_cons (pv 7) (pa_cons (pv 10) (pa_cons (pv 11) pa_nil))))))))) (pss_one (ps_ret pe_bl)) pss_nil)))))))))))
      (pss_one (ps_ret pe_bl)), ?_⟩
    refine ⟨_, rfl, a, _, rfl, .inl hS0, _, _, rfl, _, _, rfl, ?_⟩
    rw [List.length_map]
    obtain ⟨NN, eN, N12⟩ : ∃ NN : Nat, (if (if (ns.length : Int) < 8 then (ns.length : Int) else 8) > 1 then (if (ns.length : Int) < 8 then (ns.length : Int) else 8) else 1) = (NN : Int) ∧ NN ≤ 8 := by
      by_cases h1 : (ns.length : Int) < 8
      · rw [if_pos h1]
        by_cases h2 : (ns.length : Int) > 1
        · rw [if_pos h2]; exact ⟨ns.length, rfl, by omega⟩
        · rw [if_neg h2]; exact ⟨1, rfl, by omega⟩
      · rw [if_neg h1]; exact ⟨8, by decide, by omega⟩
    refine ⟨NN, by rw [← eN], by omega, by omega, ?_⟩
    rw [Int.toNat_natCast]
    refine for_it (walk_range (lo := 0) (n := NN)) (fun i σ G => (∃ v1 v2 v3 v4 v5 v6 v7 v8 v9 v10 v11 : Option V, σ = [some (.ref a), v1, v2, v3, v4, v5, v6, v7, v8, v9, v10, v11]) ∧ SqL K G a (ns.map V.int)) ⟨⟨_, _, _, _, _, _, _, _, _, _, _, rfl⟩, hS0⟩ (fun _ _ _ _ _ => trivial) ?_ ?_
    · rintro iK x σ G1_ G hi ⟨⟨v1, v2, v3, v4, v5, v6, v7, v8, v9, v10, v11, rfl⟩, hS⟩ ⟨rfl, rfl⟩
      refine ⟨_, rfl, _, rfl, a, iK, ns, by show [V.ref a, V.int (0 + (iK : Int))] = _; rw [Int.zero_add], hS, by omega, by omega, fun e H1 s1 n1 D1 => ?_⟩
      refine ⟨_, rfl, e, _, 7, rfl, D1, by omega, by omega, by decide, by decide, fun many t2 H2 m0 m1 u2 D2 c2 b2 => ⟨_, _, rfl, rfl, ?_⟩⟩
      refine ⟨_, rfl, e, _, 15, rfl, D2, by omega, by omega, by decide, by decide, fun turns t3 H3 w0 w1 u3 D3 c3 b3 => ⟨_, _, rfl, ?_⟩⟩
      refine ⟨_, rfl, e, t3, 3, rfl, D3, by omega, by omega, by decide, fun lk ks H4 t4 u4 nk hk lks nks ndk D4 c4 b4 => ?_⟩
      refine ⟨_, rfl, e, t4, 8, rfl, D4, by omega, by omega, by decide, fun ll ls H5 t5 u5 nl hl lls nls ndl D5 c5 b5 => ⟨_, _, rfl, ?_⟩⟩
      have u25 := (u2.trans u3).trans (u4.trans u5)
      have hk5 := u5.at (D4.ne hk fun _ z => by cases z) hk
      have sG5 : Same G H5 := Bt.fresh s1 u25 fun x hx => by rw [List.mem_singleton.mp hx]; exact n1
      obtain ⟨mq, rfl⟩ : ∃ mq : Nat, many = (mq : Int) := ⟨many.toNat, by omega⟩
      refine ⟨_, rfl, _, rfl, _, rfl, _, rfl, _, rfl, ll, _, rfl, SqL.of hl, fun p7 n7 => ?_⟩
      rw [cut_lo (by omega), ← List.map_take]
      obtain ⟨mm, hmm⟩ : ∃ mm : Nat, (2 + (mq : Int)).toNat = mm := ⟨_, rfl⟩
      rw [hmm]
      have hmm2 : mm = 2 + mq := by omega
      have s7 := same_upd (o := .lst ((ls.take mm).map V.str)) n7
      have h7 : upd H5 p7 (.lst ((ls.take mm).map V.str)) p7 = some (.lst ((ls.take mm).map V.str)) := upd_same
      have D7 := D5.same s7
      have hk7 := s7 _ _ hk5
      have hl7 := s7 _ _ hl
      have sG7 := sG5.trans s7
      generalize upd H5 p7 (.lst ((ls.take mm).map V.str)) = H7 at s7 D7 hk7 h7 hl7 sG7 ⊢
      have lT : (ls.take mm).length = mm := by rw [List.length_take]; omega
      refine ⟨_, rfl, e, lk, p7, t5, turns, ks, ls.take mm, rfl, D7, by omega, by omega, w0, by omega, hk7, by omega, by omega, nks, h7, by omega, by omega, ndl.sublist (List.take_sublist _ _), (fun z hz => nls z (List.mem_of_mem_take hz)), fun b k r d B0 H8 t8 u8 nb nk8 nr8 nd8 hB8 led8 D8 c8 b8 => ?_⟩
      have nG : ∀ {x : Addr}, H7 x = none → G x = none := fun {x} h => none_of sG7 h
      have hk8 := u8.at (D7.ne hk7 fun _ z => by cases z) hk7
      have hl8 := u8.at (D7.ne hl7 fun _ z => by cases z) hl7
      have ne1 : G e = none := n1
      have sG8 : Same G H8 := Bt.fresh sG7 u8 fun x hx => by rw [List.mem_singleton.mp hx]; exact n1
      refine ⟨(4 : Int), rfl, by decide, by decide, ?_⟩
      rw [show (4 : Int).toNat = 4 from rfl]
      refine for_it (walk_range (lo := 0) (n := 4)) (fun i σ G' => (∃ v8 v9 v10 v11 : Option V, σ = [some (.ref a), some (.int (0 + (iK : Int))), some (.ref e), some (.int (2 + (mq : Int))), some (.int turns), some (.ref lk), some (.ref ll), some (.ref b), v8, v9, v10, v11]) ∧ Same G G' ∧ G' lk = some (.lst (ks.map V.str)) ∧ G' ll = some (.lst (ls.map V.str)) ∧ (∃ t', DrawAt G' e t' ∧ t8 ≤ t' ∧ t' ≤ t8 + 20 * i) ∧ ∃ B, BankAt CB CQ G' b k r d B ∧ Led (ls.take mm) ks 60 B) ⟨⟨_, _, _, _, rfl⟩, sG8, hk8, hl8, ⟨t8, D8, Int.le_refl _, by omega⟩, B0, hB8, led8.mono (by decide)⟩ (fun _ _ _ _ _ => trivial) ?_ ?_
      · rintro i x σ GA G' hi' ⟨⟨v8, v9, v10, v11, rfl⟩, sG', hkG, hlG, ⟨t', Dt, ta, tb⟩, B, hB, led⟩ ⟨rfl, rfl⟩
        have hi4 : i < 4 := hi'
        have g := led.good
        have l8 : B.ns.length ≤ 8 := by
          have : B.ns.length ≤ (ls.take mm).length := g.nd.length_le_of_subset fun n hn => (led.ns n).mp hn
          omega
        refine ⟨_, rfl, _, rfl, _, rfl, e, t', _, rfl, Dt, by omega, by omega, by omega, by omega, fun v y1 X1 i0 i1 x1 E1 f1 g1 => ?_⟩
        have vl : v.toNat < ls.length := by omega
        have vm : v.toNat < (ls.take mm).length := by omega
        obtain ⟨n, hn0⟩ : ∃ n, n = ls[v.toNat] := ⟨_, rfl⟩
        have hn : n ∈ ls.take mm := List.mem_iff_getElem.mpr ⟨v.toNat, vm, by rw [List.getElem_take, hn0]⟩
        have en2 : atI (ls.map V.str) v = some (.str n) := by
          have := atI_nat (xs := ls.map V.str) (j := v.toNat) (v := V.str n) (by rw [List.getElem?_map, List.getElem?_eq_getElem vl, hn0]; rfl)
          rwa [Int.toNat_of_nonneg i0] at this
        have hl1 := x1.at (Dt.ne hlG fun _ z => by cases z) hlG
        refine ⟨ll, _, v, .str n, rfl, rfl, SqL.of hl1, en2, ?_⟩
        refine ⟨_, rfl, e, y1, 14, rfl, E1, by omega, by omega, by decide, by decide, fun wh y2 X2 j0 j1 x2 E2 f2 g2 => ?_⟩
        refine ⟨_, rfl, e, y2, 6, rfl, E2, by omega, by omega, by decide, by decide, fun sp y3 X3 k0' k1' x3 E3 f3 g3 => ⟨_, _, _, rfl, ?_⟩⟩
        have x13 := x1.trans (x2.trans x3)
        have hkX := x13.at (Dt.ne hkG fun _ z => by cases z) hkG
        have hlX := x13.at (Dt.ne hlG fun _ z => by cases z) hlG
        have hBX := ((hB.draw Dt x1).draw E1 x2).draw E2 x3
        have sGX : Same G X3 := Bt.fresh sG' x13 fun x hx => by rw [List.mem_singleton.mp hx]; exact n1
        have nn := nls n (List.mem_of_mem_take hn)
        refine ⟨_, rfl, _, rfl, _, rfl, _, rfl, _, rfl, _, rfl, e, lk, y3, n, ks, rfl, E3, by omega, by omega, nn, hkX, by omega, by omega, nks, fun p q X4 y4 x4 np rp qg qn ki E4 f4 g4 => ?_⟩
        obtain ⟨ap, hp, hap⟩ := rp
        refine ⟨1, rfl, p, _, rfl, hp, fun p5 X5 s5 h5 => ?_⟩
        rw [cut_row] at h5
        have hBX4 := hBX.draw E3 x4
        have hB5 := hBX4.same s5
        have E5 := E4.same s5
        have hk5' := s5 _ _ (x4.at (E3.ne hkX fun _ z => by cases z) hkX)
        have hl5' := s5 _ _ (x4.at (E3.ne hlX fun _ z => by cases z) hlX)
        have sG5' : Same G X5 := (Bt.fresh sGX x4 fun x hx => by rw [List.mem_singleton.mp hx]; exact n1).trans s5
        refine ⟨b, k, r, d, p5, B, ls.take mm, ks, n, wh, q, rfl, hB5, led, by omega, (led.ns n).mpr hn, by omega, by omega, ⟨ap, h5, s5 _ _ hap⟩, qg, qn, fun X6 u6 B6 hB6 e6 => ⟨_, rfl, iteF' (by simp) ?_⟩⟩
        have led6 := led.eqv e6.symm
        have hk6 := hB5.off u6 (fun _ z => by cases z) hk5'
        have hl6 := hB5.off u6 (fun _ z => by cases z) hl5'
        have E6 := E5.bt u6 (E5.ap hB5)
        have l86 : B6.ns.length ≤ 8 := by rw [e6.ns.length_eq]; exact l8
        have sG6 : Same G X6 := Bt.fresh sG5' u6 fun x hx => by
          simp only [List.mem_cons, List.not_mem_nil, or_false] at hx
          rcases hx with rfl | rfl | rfl
          · exact nG nk8
          · exact nG nr8
          · exact nG nd8
        refine ⟨_, rfl, _, rfl, _, rfl, _, rfl, b, k, r, d, lk, B6, ls.take mm, ks, wh, sp, rfl, hB6, led6, by omega, hk6, by omega, ndk, nks, by omega, by omega, by omega, by omega, fun X7 s7' => ⟨_, rfl, iteF' (by simp) ?_⟩⟩
        refine ⟨_, rfl, _, rfl, _, rfl, b, k, r, d, B6, ls.take mm, ks, wh, sp, rfl, hB6.same s7', led6, by omega, by omega, by omega, by omega, by omega, fun X8 s8' => ⟨_, rfl, iteF' (by simp) ?_⟩⟩
        have s78 := s7'.trans s8'
        exact ⟨⟨_, _, _, _, rfl⟩, sG6.trans s78, s78 _ _ hk6, s78 _ _ hl6, ⟨y4, E6.same s78, by omega, by push_cast; omega⟩, B6, hB6.same s78, led6⟩
      rintro σ G9 ⟨⟨v8, v9, v10, v11, rfl⟩, sG9, _⟩
      exact ⟨⟨_, _, _, _, _, _, _, _, _, _, _, rfl⟩, hS.ext sG9⟩
    rintro σ G ⟨⟨v1, v2, v3, v4, v5, v6, v7, v8, v9, v10, v11, rfl⟩, _⟩
    exact fin G
end
end Pk
/-! ### facts that the top has left, by looks -/
namespace Pk
open PySem L2
def pick (l : List Addr) : Nat → Addr := fun i => l.getD i 0
def isNone : Option (Option Value) → Bool
  | some none => true
  | _ => false
theorem isNone_of {x : Option (Option Value)} (h : isNone x = true) : x = some none := by
  cases x with
  | none => cases h
  | some y =>
    cases y with
    | none => rfl
    | some z => cases h
def isBlt (s : String) : Option (Option Value) → Bool
  | some (some (.builtin b)) => decide (b = s)
  | _ => false
theorem isBlt_of {s : String} {x : Option (Option Value)} (h : isBlt s x = true) : x = some (some (.builtin s)) := by
  unfold isBlt at h
  split at h
  · rw [of_decide_eq_true h]
  · cases h
def isTyp (s : String) : Option Value → Bool
  | some (.type b) => decide (b = s)
  | _ => false
theorem isTyp_of {s : String} {x : Option Value} (h : isTyp s x = true) : x = some (.type s) := by
  unfold isTyp at h
  split at h
  · rw [of_decide_eq_true h]
  · cases h
/-- a class of errors, by one look -/
def excB (K : PySem.W.Frag) (D : Addr) : Bool := isBlt "BaseException.__getattribute__" (PySem.W.findIn K (.ref D) "__getattribute__") && (isNone (PySem.W.findIn K (.ref D) "__getattr__") && (PySem.W.subIn K (.ref D) (.type "BaseException") == some true && (PySem.W.hasDictIn K D && (isBlt "object.__class__" (PySem.W.findIn K (.ref D) "__class__") && (PySem.W.mroIn K D (.type "object") == some true && (isBlt "object.__setattr__" (PySem.W.findIn K (.ref D) "__setattr__") && (PySem.W.keepIn K (.ref D) && (isTyp "type" (PySem.W.typeIn K (.ref D)) && PySem.W.kitOne K (.ref D) (.type "Exception") == some true))))))))
structure ExcK (K : PySem.W.Frag) (D : Addr) : Prop where
  h1 : PySem.W.findIn K (.ref D) "__getattribute__" = some (some (.builtin "BaseException.__getattribute__"))
  h2 : PySem.W.findIn K (.ref D) "__getattr__" = some none
  h3 : PySem.W.subIn K (.ref D) (.type "BaseException") = some true
  h4 : PySem.W.hasDictIn K D = true
  h5 : PySem.W.findIn K (.ref D) "__class__" = some (some (.builtin "object.__class__"))
  h8 : PySem.W.mroIn K D (.type "object") = some true
  sa : PySem.W.findIn K (.ref D) "__setattr__" = some (some (.builtin "object.__setattr__"))
  kp : PySem.W.keepIn K (.ref D) = true
  ty : PySem.W.typeIn K (.ref D) = some (.type "type")
  xx : PySem.W.kitOne K (.ref D) (.type "Exception") = some true
theorem exc_of {K : PySem.W.Frag} {D : Addr} (h : excB K D = true) : ExcK K D := by
  unfold excB at h
  simp only [Bool.and_eq_true] at h
  obtain ⟨a1, a2, a3, a4, a5, a6, a7, a8, a9, a10⟩ := h
  exact ⟨isBlt_of a1, isNone_of a2, beq_iff_eq.mp a3, a4, isBlt_of a5, beq_iff_eq.mp a6, isBlt_of a7, a8, isTyp_of a9, beq_iff_eq.mp a10⟩
/-- what isinstance tells of errors of the class D, class by class -/
def kitsL (K : PySem.W.Frag) (D : Addr) (l : List (Addr × Bool)) : Bool := l.all fun p => PySem.W.kitOne K (.ref D) (.ref p.1) == some p.2
theorem kits_at {K : PySem.W.Frag} {D : Addr} {l : List (Addr × Bool)} (h : kitsL K D l = true) {c : Addr} {b : Bool} (hm : (c, b) ∈ l) : PySem.W.kitOne K (.ref D) (.ref c) = some b := beq_iff_eq.mp (List.all_eq_true.mp h _ hm)
/-- an own class, by one look: its fields, what it has of object -/
def clsB (K : PySem.W.Frag) (C : Addr) (fs : List Str) : Bool := PySem.W.plainGet K C Str.empty && (PySem.W.hasDictIn K C && (PySem.W.plainOver K C && (isBlt "object.__setattr__" (PySem.W.findIn K (.ref C) "__setattr__") && ((fs.all fun f => isNone (PySem.W.findIn K (.ref C) f)) && (PySem.W.makesIn K C && (PySem.W.keepIn K (.ref C) && (isBlt "object.__class__" (PySem.W.findIn K (.ref C) "__class__") && (PySem.W.mroIn K C (.type "object") == some true && (PySem.W.kitOne K (.ref C) (.ref C) == some true && (PySem.W.kitAny K (.ref C) [.type "list", .type "tuple"] == some false && oddB K C))))))))))
structure ClsK (K : PySem.W.Frag) (C : Addr) (fs : List Str) : Prop where
  cls : Cls K C
  no : ∀ f ∈ fs, NoAttr K C f
  mks : PySem.W.makesIn K C = true
  kp : PySem.W.keepIn K (.ref C) = true
  hc : PySem.W.findIn K (.ref C) "__class__" = some (some (.builtin "object.__class__"))
  hm : PySem.W.mroIn K C (.type "object") = some true
  hk : PySem.W.kitOne K (.ref C) (.ref C) = some true
  hl : PySem.W.kitAny K (.ref C) [.type "list", .type "tuple"] = some false
  odd : oddB K C = true
theorem cls_of {K : PySem.W.Frag} {C : Addr} {fs : List Str} (h : clsB K C fs = true) : ClsK K C fs := by
  unfold clsB at h
  simp only [Bool.and_eq_true] at h
  obtain ⟨a1, a2, a3, a4, a5, a6, a7, a8, a9, a10, a11, a12⟩ := h
  exact ⟨⟨a1, a2, a3, isBlt_of a4⟩, fun f hf => isNone_of (List.all_eq_true.mp a5 f hf), a6, a7, isBlt_of a8, beq_iff_eq.mp a9, beq_iff_eq.mp a10, beq_iff_eq.mp a11, a12⟩
theorem ClsK.oty {K : PySem.W.Frag} {C : Addr} {fs : List Str} (h : ClsK K C fs) (hn : PySem.W.specialIn K (.builtin "object.__class__") "__get__" = some (some (.builtin "getset_descriptor.__get__"))) (ht : PySem.W.takesIn K (.builtin "object.__class__") = some true) : OTy K C := ⟨h.cls, h.hc, hn, ht, h.hm, h.hk, h.hl, h.odd⟩
/-- a tuple of texts among the constants -/
theorem texts_at {K : PySem.W.Frag} {a : Addr} {oc : Value} {od : Option Addr} {its : Array Value} {n : Nat} {sl : Array (Option Value)} {zs : List Str} (h : K.lookup a = some ⟨oc, od, .seq its n, sl⟩) (hc : oc = .type "tuple") (hs : its.size ≤ 1000) (hv : Vals (zs.map V.str) its.toList) (H : Hp) : SqT K H a (zs.map V.str) :=
  .inr ⟨_, its, n, h, hc, rfl, Nat.le_trans hs (by decide), hv⟩
theorem el_Exception : ErrLine "Exception" [.type "Exception", .type "BaseException", .type "object"] := ⟨⟨by decide +kernel, by decide +kernel, by decide +kernel⟩, F.store_Exception.passes, by decide +kernel⟩
theorem el_ValueError : ErrLine "ValueError" [.type "ValueError", .type "Exception", .type "BaseException", .type "object"] := ⟨⟨by decide +kernel, by decide +kernel, by decide +kernel⟩, F.store_ValueError.passes, by decide +kernel⟩
theorem el_TypeError : ErrLine "TypeError" [.type "TypeError", .type "Exception", .type "BaseException", .type "object"] := ⟨⟨by decide +kernel, by decide +kernel, by decide +kernel⟩, F.store_TypeError.passes, by decide +kernel⟩
theorem el_IndexError : ErrLine "IndexError" [.type "IndexError", .type "LookupError", .type "Exception", .type "BaseException", .type "object"] := ⟨⟨by decide +kernel, by decide +kernel, by decide +kernel⟩, F.store_IndexError.passes, by decide +kernel⟩
theorem el_LookupError : ErrLine "LookupError" [.type "LookupError", .type "Exception", .type "BaseException", .type "object"] := ⟨⟨by decide +kernel, by decide +kernel, by decide +kernel⟩, F.store_LookupError.passes, by decide +kernel⟩
theorem el_KeyError : ErrLine "LookupError" [.type "KeyError", .type "LookupError", .type "Exception", .type "BaseException", .type "object"] := ⟨ky_line, fun self => by kernel_rfl, by decide +kernel⟩
theorem el_OverflowError : ErrLine "OverflowError" [.type "OverflowError", .type "ArithmeticError", .type "Exception", .type "BaseException", .type "object"] := ⟨⟨by decide +kernel, by decide +kernel, by decide +kernel⟩, F.store_OverflowError.passes, by decide +kernel⟩
theorem el_RuntimeError : ErrLine "RuntimeError" [.type "RuntimeError", .type "Exception", .type "BaseException", .type "object"] := ⟨⟨by decide +kernel, by decide +kernel, by decide +kernel⟩, F.store_RuntimeError.passes, by decide +kernel⟩
end Pk
/-! The end of a law that holds lambdas and shows things: tables of code objects are tracked, nothing is being shown around. -/
namespace Pk
open PySem PySem.Spec PyProof.Rows L2
def emptyT : Obj := { cls := .none, data := .fields #[] }
section
variable {P : Program} {w : World} {K : PySem.W.Frag} {mg mb : Str → Option Value} {k : Nat} {fa a : Addr} {cs : List (Addr × Addr)} {fd : FuncData} {x : Str} {sp : Sp} {s : Shared} {vs : List Value} {ns : List Int}
/-- what the head tells of the tables -/
structure TabsE (K : PySem.W.Frag) (mg : Str → Option Value) (h : Heap) (cs : List (Addr × Addr)) : Prop where
  empty : ∀ p ∈ cs, h.get? p.2 = some emptyT
  out : ∀ p ∈ cs, K.lookup p.2 = none
  code : ∀ p ∈ cs, PySem.W.CodeHd h p.1 p.2
theorem lawT_at (H : Hp) (T : TabsE K mg s.heap cs) (tr : ∀ p ∈ cs, H p.2 = some (.tbl #[])) (only : ∀ b, H b = none ∨ (∃ p ∈ cs, p.2 = b) ∨ ∃ o xs, H b = some (.frz o (.lst xs))) (just : ∀ b, H b ≠ none → b = a ∨ ∃ p ∈ cs, p.2 = b) (apart : H a ≠ none → K.lookup a = none)
    (hok : HOk P w H s.heap) (kin : K.In s.heap) (gl : s.heap.Ns mainGlobals mg) (bl : s.heap.Ns builtinsNs mb) (bb : ∀ x : Str, x ≠ "__name__" → mb x = bootBuiltins x) (lim : s.heap.NoLimit) (gens : s.gens = #[])
    (mod : ∃ (bm : Addr) (ob : Obj), mg "__builtins__" = some (.ref bm) ∧ bm ≠ builtinsNs ∧ s.heap.get? bm = some ob ∧ ob.cls = .type "module" ∧ ob.dict = some builtinsNs ∧ ob.data = .plain)
    (obj : s.heap.get? a = some { cls := .type "list", data := .seq vs.toArray }) (room : Room k callerA) (F : ∀ base : Heap, K.In base → base.Ns mainGlobals mg → (∀ p ∈ cs, LamX.TabB base mg p.1 p.2) → FnG P w K mg base CX0 k fa fd [x] sp)
    (bind : ∀ (s : Shared) (u : Value), BindsTo s fd ⟨[u], []⟩ [(x, u)]) (hsp : sp [.ref a] H (fun v _ => v = .bl true) fun _ _ _ => False) :
    codeAny (model P w) callerA (.call (.ref fa) ⟨[.ref a], []⟩) (fun r s' => r = .ok (.ret (.bool true)) ∧ OldK s.heap s'.heap ∧ s'.os = s.os ∧ AllBare s'.gens) s := by
  -- what is neither a sequence nor an empty table is not tracked
  have plain : ∀ {b : Addr} {o : Obj}, s.heap.get? b = some o → (∀ us n, o.data ≠ .seq us n) → o.data ≠ .fields #[] → H b = none := by
    intro b o e n1 n2
    cases q : H b with
    | none => rfl
    | some u =>
      rcases just b (by rw [q]; exact fun z => nomatch z) with rfl | ⟨p, hp, rfl⟩
      · rw [obj] at e
        cases e
        exact absurd rfl (n1 _ _)
      · rw [T.empty p hp] at e
        cases e
        exact absurd rfl n2
  have names : ∀ {b : Addr} {m : Str → Option Value}, s.heap.Ns b m → (hidT s.heap H).Ns b m := by
    rintro b m ⟨o, es, n, e, d, r⟩
    exact ⟨o, es, n, hidT_get e (plain e (fun _ _ z => by rw [d] at z; cases z) fun z => by rw [d] at z; cases z), d, r⟩
  have kin' : K.In (hidT s.heap H) := by
    intro b o e
    refine hidT_get (kin b o e) ?_
    cases q : H b with
    | none => rfl
    | some u =>
      have nn : H b ≠ none := by rw [q]; exact fun z => nomatch z
      rcases just b nn with rfl | ⟨p, hp, rfl⟩
      · rw [apart nn] at e
        cases e
      · rw [T.out p hp] at e
        cases e
  obtain ⟨mc, lm, lv⟩ := lim
  have md : Mod K mg (hidT s.heap H) := ⟨kin', names gl, ⟨mb, names bl, bb⟩, ⟨mc, names lm, lv⟩⟩
  have tabs : ∀ p ∈ cs, LamX.TabB (hidT s.heap H) mg p.1 p.2 := by
    intro p hp
    have e0 := T.empty p hp
    have notG : ∀ {b : Addr} {m : Str → Option Value}, s.heap.Ns b m → b ≠ p.2 := by
      rintro b m ⟨o, es, n, e, d, _⟩ rfl
      rw [e0] at e
      cases e
      cases d
    constructor
    · obtain ⟨oc, us, fl, tf, fg, tg, nf, tx, tt, c1, c2, c3, c4, c5, c6, c7, c8, c9, c10⟩ := T.code p hp
      exact ⟨oc, us, fl, tf, fg, tg, nf, tx, tt, hidT_get c1 (plain c1 (fun _ _ z => by rw [c3] at z; cases z) fun z => by rw [c3] at z; cases z; simp at c4), c2, c3, c4, c5, c6, c7, c8, c9, c10⟩
    · obtain ⟨bm, ob, m1, m2, m3, m4, m5, m6⟩ := mod
      refine ⟨bm, ob, m1, m2, fun z => ?_, fun z => ?_, hidT_get m3 (plain m3 (fun _ _ z => by rw [m6] at z; cases z) fun z => by rw [m6] at z; cases z), m4, m5, m6⟩
      · obtain ⟨o, es, n, e, d, _⟩ := gl
        rw [z, e] at m3
        cases m3
        rw [d] at m6
        cases m6
      · rw [z, e0] at m3
        cases m3
        cases m6
    · exact notG gl
  have env : Env0 P w K mg (hidT s.heap H) callerA [] s H := ⟨rfl, md, fun b o e => of_hidT e, Nat.le_of_eq (hidT_size _ _), trivial, (fun b hb => by cases hb), hok, AllBare.of_eq gens⟩
  refine codeAny_mono ((F _ kin' (names gl) tabs).go callerA rfl room [] s H ⟨[.ref a], []⟩ [.ref a] [.ref a] _ _ env (bind s (.ref a)) (.cons rfl .nil) hsp) ?_
  intro r s' h
  match r, h with
  | .error e, h => exact h.elim
  | .ok .next, h => exact h.elim
  | .ok .brk, h => exact h.elim
  | .ok .cont, h => exact h.elim
  | .ok (.ret u), ⟨v, H', os, bare, un, hok', rv, q⟩ =>
    have q' : v = .bl true := q
    subst q'
    cases (show u = Value.bool true from rv)
    have stay : ∀ b o, (¬ ∃ p ∈ cs, p.2 = b) → s.heap.get? b = some o → s'.heap.get? b = some o := by
      intro b o nb e
      rcases only b with z | z | ⟨ob, xs, z⟩
      · exact un.keep b o e z (fun m => by cases m) (fun m => by cases m)
      · exact absurd z nb
      · have e1 := (hok b _ z).1
        have e2 := (hok' b _ (un.frzs b ob _ z)).1
        rw [e] at e1
        cases e1
        exact e2
    have grow : ∀ p ∈ cs, ∃ more : Array Value, s'.heap.get? p.2 = some { cls := .none, data := .fields more } := by
      intro p hp
      obtain ⟨more, z⟩ := un.tbls p.2 #[] (tr p hp)
      exact ⟨_, hok' p.2 _ z⟩
    refine ⟨rfl, ⟨fun b o e => ?_, fun b o e => ?_⟩, os, bare⟩
    · by_cases hb : ∃ p ∈ cs, p.2 = b
      · obtain ⟨p, hp, rfl⟩ := hb
        obtain ⟨more, hm⟩ := grow p hp
        rw [T.empty p hp] at e
        cases e
        exact .inr (.inl ⟨((T.code p hp).tab (T.empty p hp)).isCodeTable, rfl, #[], more, rfl, by rw [Array.empty_append]; exact hm⟩)
      · exact .inl (stay b o hb e)
    · by_cases hb : ∃ p ∈ cs, p.2 = b
      · obtain ⟨p, hp, rfl⟩ := hb
        obtain ⟨more, hm⟩ := grow p hp
        exact ⟨_, hm⟩
      · exact ⟨o, stay b o hb e⟩
/-- the heap ahead: the script, if it isn't written, and the empty tables -/
noncomputable def ahead (cs : List (Addr × Addr)) (a : Addr) (u : Option HO) : Hp := fun b => open Classical in if ∃ p ∈ cs, p.2 = b then some (.tbl #[]) else if b = a then u else none
theorem ahead_tab {cs : List (Addr × Addr)} {a : Addr} {u : Option HO} {b : Addr} (h : ∃ p ∈ cs, p.2 = b) : ahead cs a u b = some (.tbl #[]) := if_pos h
theorem ahead_at {cs : List (Addr × Addr)} {a : Addr} {u : Option HO} (h : ¬ ∃ p ∈ cs, p.2 = a) : ahead cs a u a = u := (if_neg h).trans (if_pos rfl)
theorem ahead_no {cs : List (Addr × Addr)} {a : Addr} {u : Option HO} {b : Addr} (h : ¬ ∃ p ∈ cs, p.2 = b) (n : b ≠ a) : ahead cs a u b = none := (if_neg h).trans (if_neg n)
theorem lawT_call (T : TabsE K mg s.heap cs) (kin : K.In s.heap) (gl : s.heap.Ns mainGlobals mg) (bl : s.heap.Ns builtinsNs mb) (bb : ∀ x : Str, x ≠ "__name__" → mb x = bootBuiltins x) (lim : s.heap.NoLimit) (gens : s.gens = #[])
    (mod : ∃ (bm : Addr) (ob : Obj), mg "__builtins__" = some (.ref bm) ∧ bm ≠ builtinsNs ∧ s.heap.get? bm = some ob ∧ ob.cls = .type "module" ∧ ob.dict = some builtinsNs ∧ ob.data = .plain)
    (obj : s.heap.get? a = some { cls := .type "list", data := .seq vs.toArray }) (hin : IntsAre vs ns) (short : ns.length ≤ sizeLine) (room : Room k callerA) (F : ∀ base : Heap, K.In base → base.Ns mainGlobals mg → (∀ p ∈ cs, LamX.TabB base mg p.1 p.2) → FnG P w K mg base CX0 k fa fd [x] sp)
    (bind : ∀ (s : Shared) (u : Value), BindsTo s fd ⟨[u], []⟩ [(x, u)]) (hsp : ∀ H : Hp, (∀ p ∈ cs, H p.2 = some (.tbl #[])) → SqL K H a (ns.map V.int) → sp [.ref a] H (fun v _ => v = .bl true) fun _ _ _ => False) :
    codeAny (model P w) callerA (.call (.ref fa) ⟨[.ref a], []⟩) (fun r s' => r = .ok (.ret (.bool true)) ∧ OldK s.heap s'.heap ∧ s'.os = s.os ∧ AllBare s'.gens) s := by
  have rv := vals_ints hin
  have len := hin.length
  have na : ¬ ∃ p ∈ cs, p.2 = a := by
    rintro ⟨p, hp, e⟩
    have z := T.empty p hp
    rw [e, obj] at z
    have z' : Data.seq vs.toArray _ = Data.fields #[] := congrArg Obj.data (Option.some.inj z)
    cases z'
  have tr : ∀ {u : Option HO}, ∀ p ∈ cs, ahead cs a u p.2 = some (.tbl #[]) := fun p hp => ahead_tab ⟨p, hp, rfl⟩
  have just : ∀ {u : Option HO}, ∀ b, ahead cs a u b ≠ none → b = a ∨ ∃ p ∈ cs, p.2 = b := by
    intro u b z
    by_cases h1 : ∃ p ∈ cs, p.2 = b
    · exact .inr h1
    · by_cases h2 : b = a
      · exact .inl h2
      · exact absurd (ahead_no h1 h2) z
  cases hk : K.lookup a with
  | some o =>
    have e := kin a o hk
    rw [obj] at e
    cases e
    refine lawT_at (ahead cs a none) T tr (fun b => ?_) just (fun z => absurd (ahead_at na) z) (fun b u z => ?_) kin gl bl bb lim gens mod obj room F bind (hsp _ tr (.inr ⟨_, vs.toArray, _, hk, rfl, rfl, rfl, by rw [List.size_toArray, len]; exact short, by simpa using rv⟩))
    · by_cases h1 : ∃ p ∈ cs, p.2 = b
      · exact .inr (.inl h1)
      · by_cases h2 : b = a
        · exact .inl (by rw [h2]; exact ahead_at na)
        · exact .inl (ahead_no h1 h2)
    · by_cases h1 : ∃ p ∈ cs, p.2 = b
      · rw [ahead_tab h1] at z
        cases z
        obtain ⟨p, hp, rfl⟩ := h1
        exact T.empty p hp
      · by_cases h2 : b = a
        · rw [h2, ahead_at na] at z
          cases z
        · rw [ahead_no h1 h2] at z
          cases z
  | none =>
    let ob : Obj := { cls := .type "list", data := .seq vs.toArray }
    have at_a : ahead cs a (some (.frz ob (.lst (ns.map V.int)))) a = some (.frz ob (.lst (ns.map V.int))) := ahead_at na
    refine lawT_at (ahead cs a (some (.frz ob (.lst (ns.map V.int))))) T tr (fun b => ?_) just (fun _ => hk) (fun b u z => ?_) kin gl bl bb lim gens mod obj room F bind (hsp _ tr (.inl (.inr ⟨ob, at_a⟩)))
    · by_cases h1 : ∃ p ∈ cs, p.2 = b
      · exact .inr (.inl h1)
      · by_cases h2 : b = a
        · exact .inr (.inr ⟨ob, ns.map V.int, by rw [h2]; exact at_a⟩)
        · exact .inl (ahead_no h1 h2)
    · by_cases h1 : ∃ p ∈ cs, p.2 = b
      · rw [ahead_tab h1] at z
        cases z
        obtain ⟨p, hp, rfl⟩ := h1
        exact T.empty p hp
      · by_cases h2 : b = a
        · rw [h2, at_a] at z
          cases z
          rw [h2]
          exact ⟨obj, by rw [List.length_map]; exact short, vs, _, rv, obj⟩
        · rw [ahead_no h1 h2] at z
          cases z
end
/-- a def by its body, its code object known -/
theorem okGc {P : Program} {w : World} {K : PySem.W.Frag} {mg : Str → Option Value} {base : Heap} {k : Nat} {f : Addr} {fd : FuncData} {ps : List Str} {sp : Sp} {x qual : Str} {st : Stmt} {N : List Str} {cv : Value} (F : Fun K x qual st f fd) (hc : fd.code = cv) (S : FnScope N ps (defScope st)) (size : ∀ vs H Q E, sp vs H Q E → vs.length = ps.length)
    (body : ∀ (A : Around), Calm A → ∀ (outer : List Env) (s : Shared) (H : Hp) (vs : List V) (Q : VK) (E : XK), Room k (A.deeper (envOfC qual (defScope st) s.heap.objs.size f cv)) → sp vs H Q E → ∃ t, PSs (cxOf CX0 P w K mg base N qual (defScope st) f cv A outer s H E).nox (defBody st) t ∧ t { nx := fun _ H' => Q .non H', rt := Q } (start N vs) H) :
    FnG P w K mg base CX0 (k + 1) f fd ps sp := by
  obtain ⟨oc, od, kV, doc, pm, an, cdv, ct, osl, rfl, lk, hcd⟩ := F.ex
  cases (show cdv = cv from hc)
  refine fnG_of lk hcd S size fun A calm outer s H vs Q E hr hsp => ?_
  obtain ⟨t, h, q⟩ := body A calm outer s H vs Q E hr hsp
  exact ⟨t, h.nox, q⟩
theorem walkT {l : PySem.W.OpenLaw} {n k : Nat} {q : Program} {loose : List Str} {XP : (Str → Option Value) → Heap → Prop} {YP : World → Heap → Prop} {d : DefRec} {K : Params → PySem.W.Frag} {x : Str} (hn : l.most = some n) (hn2 : n ≤ sizeLine) (hdf : d.params.defaults = []) (hr : Room k callerA)
    (hY : ∀ (w : World) (h : Heap), YP w h → (K w.params).In h)
    (F : ∀ (w : World) (mg : Str → Option Value) (fa : Addr) (h : Heap), YP w h → (K w.params).In h → h.Ns mainGlobals mg → mg d.name = some (.ref fa) → (∀ (y : Str) (c T : Addr), ((recsOf q).find? fun e => e.name == y).isSome = true → PySem.W.tabIn (K w.params) y = some (c, T) → PySem.W.CodeHd h c T ∧ h.get? T = some emptyT) →
      ∃ (fd : FuncData) (cs : List (Addr × Addr)) (sp : Sp), TabsE (K w.params) mg h cs ∧ (∀ (s : Shared) (u : Value), BindsTo s fd ⟨[u], []⟩ [(x, u)]) ∧
        (∀ (H : Hp) (a : Addr) (ns : List Int), ns.length ≤ n → (∀ z ∈ ns, Builtin.Int.intBits z ≤ 1048576) → (∀ p ∈ cs, H p.2 = some (.tbl #[])) → SqL (K w.params) H a (ns.map V.int) → sp [.ref a] H (fun v _ => v = .bl true) fun _ _ _ => False) ∧
        ∀ base : Heap, (K w.params).In base → base.Ns mainGlobals mg → (∀ p ∈ cs, LamX.TabB base mg p.1 p.2) → FnG l.prog w (K w.params) mg base CX0 k fa fd [x] sp) :
    PySem.W.WalkO q loose XP YP l.row.toRowW d [] (fun f vs => PySem.call f vs) := by
  refine Att.attach_callB hn hdf ?_
  intro w s₀ s₁ mg mb fa o pm cd doc a vs ns G Y ho hd hcd hmg hobj hints hlen hbits hg
  have kin := hY w _ Y
  obtain ⟨fd, cs, sp, T, hb, hsp, hF⟩ := F w mg fa _ Y kin G.T.g hmg fun y c tb hy ht => by
    obtain ⟨r, hr1⟩ := Option.isSome_iff_exists.mp hy
    exact PySem.W.tab_of G.T kin hr1 ht
  exact lawT_call T kin G.T.g G.T.b G.T.builtins G.T.nolimit hg G.T.bmain hobj hints (Nat.le_trans hlen hn2) hr hF hb fun H hH hS => hsp H a ns hlen hbits hH hS
end Pk
namespace Pk
open PySem L2
/-! ### what the top has left -/
theorem va_line : Line VaLine VaLine := ⟨fun _ => rfl, F.store_ValueError.passes, by decide +kernel⟩
abbrev TxQ (K : PySem.W.Frag) (mg : Str → Option Value) (C fI : Addr) : Prop := Of_part.Tx K mg "BadQuestion" "BadQuestion.__init__" C fI "ValueError" "ValueError.__new__" "ValueError.__init__" VaLine
theorem all_mk {l : PySem.W.OpenLaw} {w : World} {K : PySem.W.Frag} {h : Heap} {mg : Str → Option Value} {fa cB cE c0 c1 c2 c3 c4 c5 c6 fIcE fIc2 fIc3 fIc5 fIc6 fIc4 CQ CB fQI tQI fQE fBI tBI fBE fBL fBK fBA fBP fBX fBN fBJ fBO fBQ fBD fBM fBT tBT f1 f2 t2 f3 f4 f5 f6 f7 f8 fBR fBU fBV f9 fBZ fBF tBF fBY tBY fBTw f10 f11 f12 f13 f14 f15 f16 f17 f18 f19 f20 f21 f22 f23 f24 f25 f26 : Addr} (X : K.In h) (G : h.Ns mainGlobals mg) (hfa : mg "law" = some (.ref fa))
    {odIcE anIcE odIc2 anIc2 odIc3 anIc3 odIc5 anIc5 odIc6 anIc6 odIc4 anIc4 odQI anQI odTQI odQE anQE odBI anBI odTBI odBE anBE odBL anBL odBK anBK odBA anBA odBP anBP odBX anBX odBN anBN odBJ anBJ odBO anBO odBQ anBQ odBD anBD odBM anBM odBT anBT odTBT od1 an1 od2 an2 odT2 od3 an3 od4 an4 od5 an5 od6 an6 od7 an7 od8 an8 odBR anBR odBU anBU odBV anBV od9 an9 odBZ anBZ odBF anBF odTBF odBY anBY odTBY odBTw anBTw od10 an10 od11 an11 od12 an12 od13 an13 od14 an14 od15 an15 od16 an16 od17 an17 od18 an18 od19 an19 od20 an20 od21 an21 od22 an22 od23 an23 od24 an24 od25 an25 od26 an26 : Option Addr} {slIcE slIc2 slIc3 slIc5 slIc6 slIc4 slQI slTQI slQE slBI slTBI slBE slBL slBK slBA slBP slBX slBN slBJ slBO slBQ slBD slBM slBT slTBT sl1 sl2 slT2 sl3 sl4 sl5 sl6 sl7 sl8 slBR slBU slBV sl9 slBZ slBF slTBF slBY slTBY slBTw sl10 sl11 sl12 sl13 sl14 sl15 sl16 sl17 sl18 sl19 sl20 sl21 sl22 sl23 sl24 sl25 sl26 : Array (Option Value)} {ocIcE dcIcE pmIcE cdIcE ctIcE ocIc2 dcIc2 pmIc2 cdIc2 ctIc2 ocIc3 dcIc3 pmIc3 cdIc3 ctIc3 ocIc5 dcIc5 pmIc5 cdIc5 ctIc5 ocIc6 dcIc6 pmIc6 cdIc6 ctIc6 ocIc4 dcIc4 pmIc4 cdIc4 ctIc4 ocQI dcQI pmQI cdQI ctQI kVQI ocTQI ocQE dcQE pmQE cdQE ctQE kVQE ocBI dcBI pmBI cdBI ctBI kVBI ocTBI ocBE dcBE pmBE cdBE ctBE kVBE ocBL dcBL pmBL cdBL ctBL kVBL ocBK dcBK pmBK cdBK ctBK kVBK ocBA dcBA pmBA cdBA ctBA kVBA ocBP dcBP pmBP cdBP ctBP kVBP ocBX dcBX pmBX cdBX ctBX kVBX ocBN dcBN pmBN cdBN ctBN kVBN ocBJ dcBJ pmBJ cdBJ ctBJ kVBJ ocBO dcBO pmBO cdBO ctBO kVBO ocBQ dcBQ pmBQ cdBQ ctBQ kVBQ ocBD dcBD pmBD cdBD ctBD kVBD ocBM dcBM pmBM cdBM ctBM kVBM ocBT dcBT pmBT cdBT ctBT kVBT ocTBT oc1 dc1 pm1 cd1 ct1 kV1 oc2 dc2 pm2 cd2 ct2 kV2 ocT2 oc3 dc3 pm3 cd3 ct3 kV3 oc4 dc4 pm4 cd4 ct4 kV4 oc5 dc5 pm5 cd5 ct5 kV5 oc6 dc6 pm6 cd6 ct6 kV6 oc7 dc7 pm7 cd7 ct7 kV7 oc8 dc8 pm8 cd8 ct8 kV8 ocBR dcBR pmBR cdBR ctBR kVBR ocBU dcBU pmBU cdBU ctBU kVBU ocBV dcBV pmBV cdBV ctBV kVBV oc9 dc9 pm9 cd9 ct9 kV9 ocBZ dcBZ pmBZ cdBZ ctBZ kVBZ ocBF dcBF pmBF cdBF ctBF kVBF ocTBF ocBY dcBY pmBY cdBY ctBY kVBY ocTBY ocBTw dcBTw pmBTw cdBTw ctBTw kVBTw oc10 dc10 pm10 cd10 ct10 kV10 oc11 dc11 pm11 cd11 ct11 kV11 oc12 dc12 pm12 cd12 ct12 kV12 oc13 dc13 pm13 cd13 ct13 kV13 oc14 dc14 pm14 cd14 ct14 kV14 oc15 dc15 pm15 cd15 ct15 kV15 oc16 dc16 pm16 cd16 ct16 kV16 oc17 dc17 pm17 cd17 ct17 kV17 oc18 dc18 pm18 cd18 ct18 kV18 oc19 dc19 pm19 cd19 ct19 kV19 oc20 dc20 pm20 cd20 ct20 kV20 oc21 dc21 pm21 cd21 ct21 kV21 oc22 dc22 pm22 cd22 ct22 kV22 oc23 dc23 pm23 cd23 ct23 kV23 oc24 dc24 pm24 cd24 ct24 kV24 oc25 dc25 pm25 cd25 ct25 kV25 oc26 dc26 pm26 cd26 ct26 kV26 : Value} {uMOST_LETTERS uMOST_SIGNS uPERCENT uLEAST_ANSWERS uMOST_ANSWERS uMOST_QUESTIONS uQI_0 uQI_1 uQI_2 uQI_3 uBT_0 u2_0 u2_1 uBF_0 uBF_1 uBF_2 uBF_3 uBF_5 uBY_0 : Tok} {nTQI nTBI nTBT nT2 nTBF nTBY : Nat} {zQI_3 zBT_0 zBF_0 zBF_3 : Str} {nmIcE qlIcE : Str} {NIcE : Addr} {bsIcE : List Value} {snIcE : List Str} {subIcE : List Value} {abIcE : Bool} {colIcE : Option Bool} {ddIcE : Option Addr} {m0IcE m1IcE m2IcE m3IcE m5IcE : Option Value} {nmIc2 qlIc2 : Str} {NIc2 : Addr} {bsIc2 : List Value} {snIc2 : List Str} {subIc2 : List Value} {abIc2 : Bool} {colIc2 : Option Bool} {ddIc2 : Option Addr} {m0Ic2 m1Ic2 m2Ic2 m3Ic2 m5Ic2 : Option Value} {nmIc3 qlIc3 : Str} {NIc3 : Addr} {bsIc3 : List Value} {snIc3 : List Str} {subIc3 : List Value} {abIc3 : Bool} {colIc3 : Option Bool} {ddIc3 : Option Addr} {m0Ic3 m1Ic3 m2Ic3 m3Ic3 m5Ic3 : Option Value} {nmIc5 qlIc5 : Str} {NIc5 : Addr} {bsIc5 : List Value} {snIc5 : List Str} {subIc5 : List Value} {abIc5 : Bool} {colIc5 : Option Bool} {ddIc5 : Option Addr} {m0Ic5 m1Ic5 m2Ic5 m3Ic5 m5Ic5 : Option Value} {nmIc6 qlIc6 : Str} {NIc6 : Addr} {bsIc6 : List Value} {snIc6 : List Str} {subIc6 : List Value} {abIc6 : Bool} {colIc6 : Option Bool} {ddIc6 : Option Addr} {m0Ic6 m1Ic6 m2Ic6 m3Ic6 m5Ic6 : Option Value} {nmIc4 qlIc4 : Str} {NIc4 : Addr} {bsIc4 : List Value} {snIc4 : List Str} {subIc4 : List Value} {abIc4 : Bool} {colIc4 : Option Bool} {ddIc4 : Option Addr} {m0Ic4 m1Ic4 m2Ic4 m3Ic4 m5Ic4 : Option Value}
    (e6 : PySem.W.specialIn K (.builtin "object.__class__") "__get__" = some (some (.builtin "getset_descriptor.__get__")))
    (e7 : PySem.W.takesIn K (.builtin "object.__class__") = some true)
    (gcB : PySem.W.nsIn K mainGlobals "BankError" = some (some (.ref cB)))
    (gcE : PySem.W.nsIn K mainGlobals "BadQuestion" = some (some (.ref cE)))
    (gc0 : PySem.W.nsIn K mainGlobals "BadText" = some (some (.ref c0)))
    (gc1 : PySem.W.nsIn K mainGlobals "Gone" = some (some (.ref c1)))
    (gc2 : PySem.W.nsIn K mainGlobals "BadKind" = some (some (.ref c2)))
    (gc3 : PySem.W.nsIn K mainGlobals "NoSuch" = some (some (.ref c3)))
    (gc4 : PySem.W.nsIn K mainGlobals "NoPlace" = some (some (.ref c4)))
    (gc5 : PySem.W.nsIn K mainGlobals "TooMany" = some (some (.ref c5)))
    (gc6 : PySem.W.nsIn K mainGlobals "Twice" = some (some (.ref c6)))
    (xkIcE : excB K cE = true)
    (xLIcE : K.lookup cE = some (excClassObj nmIcE qlIcE cE NIcE bsIcE [.type "ValueError", .type "Exception", .type "BaseException", .type "object"] true snIcE subIcE abIcE colIcE ddIcE m0IcE m1IcE m2IcE m3IcE m5IcE "ValueError.__new__"))
    (nbIcE : PySem.W.findIn K (.ref cE) "part" = some none)
    (aIcE : PySem.W.findIn K (.ref cE) "__init__" = some (some (.ref fIcE)))
    (tIcE : PySem.W.typeIn K (.ref fIcE) = some (.type "function"))
    (lIcE : K.lookup fIcE = some ⟨ocIcE, odIcE, .func (PySem.W.fnOf "__init__" "BadQuestion.__init__" (Of_part.iA ⟨11, 17, 11, 21⟩ ⟨11, 23, 11, 27⟩) (Of_part.iB ⟨12, 8, 12, 12⟩ ⟨12, 8, 12, 17⟩ ⟨12, 20, 12, 24⟩ ⟨12, 8, 12, 24⟩) Of_part.iS .none .none dcIcE pmIcE anIcE cdIcE ctIcE), slIcE⟩)
    (qIcE : PySem.W.codeIn K cdIcE "BadQuestion.__init__" = true)
    (xkIc2 : excB K c2 = true)
    (xLIc2 : K.lookup c2 = some (excClassObj nmIc2 qlIc2 c2 NIc2 bsIc2 [.type "TypeError", .type "Exception", .type "BaseException", .type "object"] true snIc2 subIc2 abIc2 colIc2 ddIc2 m0Ic2 m1Ic2 m2Ic2 m3Ic2 m5Ic2 "TypeError.__new__"))
    (nbIc2 : PySem.W.findIn K (.ref c2) "wanted" = some none)
    (aIc2 : PySem.W.findIn K (.ref c2) "__init__" = some (some (.ref fIc2)))
    (tIc2 : PySem.W.typeIn K (.ref fIc2) = some (.type "function"))
    (lIc2 : K.lookup fIc2 = some ⟨ocIc2, odIc2, .func (PySem.W.fnOf "__init__" "BadKind.__init__" (Of_wanted.iA ⟨38, 17, 38, 21⟩ ⟨38, 23, 38, 29⟩) (Of_wanted.iB ⟨39, 8, 39, 12⟩ ⟨39, 8, 39, 19⟩ ⟨39, 22, 39, 28⟩ ⟨39, 8, 39, 28⟩) Of_wanted.iS .none .none dcIc2 pmIc2 anIc2 cdIc2 ctIc2), slIc2⟩)
    (qIc2 : PySem.W.codeIn K cdIc2 "BadKind.__init__" = true)
    (xkIc3 : excB K c3 = true)
    (xLIc3 : K.lookup c3 = some (excClassObj nmIc3 qlIc3 c3 NIc3 bsIc3 [.type "KeyError", .type "LookupError", .type "Exception", .type "BaseException", .type "object"] true snIc3 subIc3 abIc3 colIc3 ddIc3 m0Ic3 m1Ic3 m2Ic3 m3Ic3 m5Ic3 "LookupError.__new__"))
    (nbIc3 : PySem.W.findIn K (.ref c3) "name" = some none)
    (aIc3 : PySem.W.findIn K (.ref c3) "__init__" = some (some (.ref fIc3)))
    (tIc3 : PySem.W.typeIn K (.ref fIc3) = some (.type "function"))
    (lIc3 : K.lookup fIc3 = some ⟨ocIc3, odIc3, .func (PySem.W.fnOf "__init__" "NoSuch.__init__" (Of_name.iA ⟨20, 17, 20, 21⟩ ⟨20, 23, 20, 27⟩) (Of_name.iB ⟨21, 8, 21, 12⟩ ⟨21, 8, 21, 17⟩ ⟨21, 20, 21, 24⟩ ⟨21, 8, 21, 24⟩) Of_name.iS .none .none dcIc3 pmIc3 anIc3 cdIc3 ctIc3), slIc3⟩)
    (qIc3 : PySem.W.codeIn K cdIc3 "NoSuch.__init__" = true)
    (xkIc5 : excB K c5 = true)
    (xLIc5 : K.lookup c5 = some (excClassObj nmIc5 qlIc5 c5 NIc5 bsIc5 [.type "OverflowError", .type "ArithmeticError", .type "Exception", .type "BaseException", .type "object"] true snIc5 subIc5 abIc5 colIc5 ddIc5 m0Ic5 m1Ic5 m2Ic5 m3Ic5 m5Ic5 "OverflowError.__new__"))
    (nbIc5 : PySem.W.findIn K (.ref c5) "most" = some none)
    (aIc5 : PySem.W.findIn K (.ref c5) "__init__" = some (some (.ref fIc5)))
    (tIc5 : PySem.W.typeIn K (.ref fIc5) = some (.type "function"))
    (lIc5 : K.lookup fIc5 = some ⟨ocIc5, odIc5, .func (PySem.W.fnOf "__init__" "TooMany.__init__" (Of_most.iA ⟨31, 17, 31, 21⟩ ⟨31, 23, 31, 27⟩) (Of_most.iB ⟨32, 8, 32, 12⟩ ⟨32, 8, 32, 17⟩ ⟨32, 20, 32, 24⟩ ⟨32, 8, 32, 24⟩) Of_most.iS .none .none dcIc5 pmIc5 anIc5 cdIc5 ctIc5), slIc5⟩)
    (qIc5 : PySem.W.codeIn K cdIc5 "TooMany.__init__" = true)
    (xkIc6 : excB K c6 = true)
    (xLIc6 : K.lookup c6 = some (excClassObj nmIc6 qlIc6 c6 NIc6 bsIc6 [.type "RuntimeError", .type "Exception", .type "BaseException", .type "object"] true snIc6 subIc6 abIc6 colIc6 ddIc6 m0Ic6 m1Ic6 m2Ic6 m3Ic6 m5Ic6 "RuntimeError.__new__"))
    (nbIc6 : PySem.W.findIn K (.ref c6) "name" = some none)
    (aIc6 : PySem.W.findIn K (.ref c6) "__init__" = some (some (.ref fIc6)))
    (tIc6 : PySem.W.typeIn K (.ref fIc6) = some (.type "function"))
    (lIc6 : K.lookup fIc6 = some ⟨ocIc6, odIc6, .func (PySem.W.fnOf "__init__" "Twice.__init__" (Of_name.iA ⟨42, 17, 42, 21⟩ ⟨42, 23, 42, 27⟩) (Of_name.iB ⟨43, 8, 43, 12⟩ ⟨43, 8, 43, 17⟩ ⟨43, 20, 43, 24⟩ ⟨43, 8, 43, 24⟩) Of_name.iS .none .none dcIc6 pmIc6 anIc6 cdIc6 ctIc6), slIc6⟩)
    (qIc6 : PySem.W.codeIn K cdIc6 "Twice.__init__" = true)
    (xkIc4 : excB K c4 = true)
    (xLIc4 : K.lookup c4 = some (excClassObj nmIc4 qlIc4 c4 NIc4 bsIc4 [.type "IndexError", .type "LookupError", .type "Exception", .type "BaseException", .type "object"] true snIc4 subIc4 abIc4 colIc4 ddIc4 m0Ic4 m1Ic4 m2Ic4 m3Ic4 m5Ic4 "IndexError.__new__"))
    (nbIc4 : PySem.W.findIn K (.ref c4) "at" = some none)
    (aIc4 : PySem.W.findIn K (.ref c4) "__init__" = some (some (.ref fIc4)))
    (tIc4 : PySem.W.typeIn K (.ref fIc4) = some (.type "function"))
    (lIc4 : K.lookup fIc4 = some ⟨ocIc4, odIc4, .func (PySem.W.fnOf "__init__" "NoPlace.__init__" (Of_at.iA ⟨27, 17, 27, 21⟩ ⟨27, 23, 27, 25⟩) (Of_at.iB ⟨28, 8, 28, 12⟩ ⟨28, 8, 28, 15⟩ ⟨28, 18, 28, 20⟩ ⟨28, 8, 28, 20⟩) Of_at.iS .none .none dcIc4 pmIc4 anIc4 cdIc4 ctIc4), slIc4⟩)
    (qIc4 : PySem.W.codeIn K cdIc4 "NoPlace.__init__" = true)
    (xk0 : excB K c0 = true)
    (xk1 : excB K c1 = true)
    (xi0 : PySem.W.excIn K c0 [.type "ValueError", .type "Exception", .type "BaseException", .type "object"] "ValueError.__new__" = true)
    (xi1 : PySem.W.excIn K c1 [.type "Exception", .type "BaseException", .type "object"] "Exception.__new__" = true)
    (z0 : PySem.W.nsIn K mainGlobals "isinstance" = some none)
    (z1 : PySem.W.nsIn K mainGlobals "int" = some none)
    (z2 : PySem.W.nsIn K mainGlobals "bool" = some none)
    (z3 : PySem.W.nsIn K mainGlobals "str" = some none)
    (z4 : PySem.W.nsIn K mainGlobals "len" = some none)
    (z5 : PySem.W.nsIn K mainGlobals "list" = some none)
    (z6 : PySem.W.nsIn K mainGlobals "tuple" = some none)
    (z7 : PySem.W.nsIn K mainGlobals "range" = some none)
    (z8 : PySem.W.nsIn K mainGlobals "max" = some none)
    (z9 : PySem.W.nsIn K mainGlobals "min" = some none)
    (z10 : PySem.W.nsIn K mainGlobals "all" = some none)
    (z11 : PySem.W.nsIn K mainGlobals "ord" = some none)
    (z12 : PySem.W.nsIn K mainGlobals "set" = some none)
    (z13 : PySem.W.nsIn K mainGlobals "sorted" = some none)
    (z14 : PySem.W.nsIn K mainGlobals "repr" = some none)
    (z15 : PySem.W.nsIn K mainGlobals "ValueError" = some none)
    (z16 : PySem.W.nsIn K mainGlobals "TypeError" = some none)
    (z17 : PySem.W.nsIn K mainGlobals "KeyError" = some none)
    (z18 : PySem.W.nsIn K mainGlobals "IndexError" = some none)
    (z19 : PySem.W.nsIn K mainGlobals "OverflowError" = some none)
    (z20 : PySem.W.nsIn K mainGlobals "RuntimeError" = some none)
    (cMOST_LETTERS : PySem.W.nsIn K mainGlobals "MOST_LETTERS" = some (some (.int 8 uMOST_LETTERS)))
    (cMOST_SIGNS : PySem.W.nsIn K mainGlobals "MOST_SIGNS" = some (some (.int 30 uMOST_SIGNS)))
    (cPERCENT : PySem.W.nsIn K mainGlobals "PERCENT" = some (some (.int 37 uPERCENT)))
    (cLEAST_ANSWERS : PySem.W.nsIn K mainGlobals "LEAST_ANSWERS" = some (some (.int 2 uLEAST_ANSWERS)))
    (cMOST_ANSWERS : PySem.W.nsIn K mainGlobals "MOST_ANSWERS" = some (some (.int 6 uMOST_ANSWERS)))
    (cMOST_QUESTIONS : PySem.W.nsIn K mainGlobals "MOST_QUESTIONS" = some (some (.int 60 uMOST_QUESTIONS)))
    (gCQ : PySem.W.nsIn K mainGlobals "Question" = some (some (.ref CQ)))
    (cbCQ : clsB K CQ ["name", "matter", "answers", "right", "toil", "marks", "kin"] = true)
    (gCB : PySem.W.nsIn K mainGlobals "Bank" = some (some (.ref CB)))
    (cbCB : clsB K CB ["kept", "reasons", "days"] = true)
    (ktBQ : PySem.W.kitOne K (.ref CB) (.ref CQ) = some false)
    (neCB : PySem.W.findIn K (.ref CB) "__ne__" = some (some (.builtin "object.__ne__")))
    (aQI : PySem.W.findIn K (.ref CQ) "__init__" = some (some (.ref fQI)))
    (hQI : PySem.W.isFn K (.ref fQI) = true)
    (lQI : K.lookup fQI = some ⟨ocQI, odQI, .func (PySem.W.fnOf "__init__" "Question.__init__" (defArgs sQInit) (defBody sQInit) (defScope sQInit) (.ref tQI) kVQI dcQI pmQI anQI cdQI ctQI), slQI⟩)
    (qQI : PySem.W.codeIn K cdQI "Question.__init__" = true)
    (kQI : PySem.W.keepIn K (.ref fQI) = true)
    (lTQI : K.lookup tQI = some ⟨ocTQI, odTQI, .seq #[.int 0 uQI_0, .int 5 uQI_1, .int 1 uQI_2, .str zQI_3 uQI_3] nTQI, slTQI⟩)
    (yzQI_3 : zQI_3 = "")
    (ykQI : kVQI = .none)
    (aQE : PySem.W.findIn K (.ref CQ) "__eq__" = some (some (.ref fQE)))
    (hQE : PySem.W.isFn K (.ref fQE) = true)
    (lQE : K.lookup fQE = some ⟨ocQE, odQE, .func (PySem.W.fnOf "__eq__" "Question.__eq__" (defArgs sQEq) (defBody sQEq) (defScope sQEq) .none kVQE dcQE pmQE anQE cdQE ctQE), slQE⟩)
    (qQE : PySem.W.codeIn K cdQE "Question.__eq__" = true)
    (kQE : PySem.W.keepIn K (.ref fQE) = true)
    (aBI : PySem.W.findIn K (.ref CB) "__init__" = some (some (.ref fBI)))
    (hBI : PySem.W.isFn K (.ref fBI) = true)
    (lBI : K.lookup fBI = some ⟨ocBI, odBI, .func (PySem.W.fnOf "__init__" "Bank.__init__" (defArgs sBInit) (defBody sBInit) (defScope sBInit) (.ref tBI) kVBI dcBI pmBI anBI cdBI ctBI), slBI⟩)
    (qBI : PySem.W.codeIn K cdBI "Bank.__init__" = true)
    (kBI : PySem.W.keepIn K (.ref fBI) = true)
    (lTBI : K.lookup tBI = some ⟨ocTBI, odTBI, .seq #[.none] nTBI, slTBI⟩)
    (ykBI : kVBI = .none)
    (aBE : PySem.W.findIn K (.ref CB) "__eq__" = some (some (.ref fBE)))
    (hBE : PySem.W.isFn K (.ref fBE) = true)
    (lBE : K.lookup fBE = some ⟨ocBE, odBE, .func (PySem.W.fnOf "__eq__" "Bank.__eq__" (defArgs sBEq) (defBody sBEq) (defScope sBEq) .none kVBE dcBE pmBE anBE cdBE ctBE), slBE⟩)
    (qBE : PySem.W.codeIn K cdBE "Bank.__eq__" = true)
    (kBE : PySem.W.keepIn K (.ref fBE) = true)
    (aBL : PySem.W.findIn K (.ref CB) "__len__" = some (some (.ref fBL)))
    (hBL : PySem.W.isFn K (.ref fBL) = true)
    (lBL : K.lookup fBL = some ⟨ocBL, odBL, .func (PySem.W.fnOf "__len__" "Bank.__len__" (defArgs sBLen) (defBody sBLen) (defScope sBLen) .none kVBL dcBL pmBL anBL cdBL ctBL), slBL⟩)
    (qBL : PySem.W.codeIn K cdBL "Bank.__len__" = true)
    (kBL : PySem.W.keepIn K (.ref fBL) = true)
    (aBK : PySem.W.findIn K (.ref CB) "need_known" = some (some (.ref fBK)))
    (hBK : PySem.W.isFn K (.ref fBK) = true)
    (lBK : K.lookup fBK = some ⟨ocBK, odBK, .func (PySem.W.fnOf "need_known" "Bank.need_known" (defArgs sBKnown) (defBody sBKnown) (defScope sBKnown) .none kVBK dcBK pmBK anBK cdBK ctBK), slBK⟩)
    (qBK : PySem.W.codeIn K cdBK "Bank.need_known" = true)
    (kBK : PySem.W.keepIn K (.ref fBK) = true)
    (aBA : PySem.W.findIn K (.ref CB) "added" = some (some (.ref fBA)))
    (hBA : PySem.W.isFn K (.ref fBA) = true)
    (lBA : K.lookup fBA = some ⟨ocBA, odBA, .func (PySem.W.fnOf "added" "Bank.added" (defArgs sBAdded) (defBody sBAdded) (defScope sBAdded) .none kVBA dcBA pmBA anBA cdBA ctBA), slBA⟩)
    (qBA : PySem.W.codeIn K cdBA "Bank.added" = true)
    (kBA : PySem.W.keepIn K (.ref fBA) = true)
    (aBP : PySem.W.findIn K (.ref CB) "put" = some (some (.ref fBP)))
    (hBP : PySem.W.isFn K (.ref fBP) = true)
    (lBP : K.lookup fBP = some ⟨ocBP, odBP, .func (PySem.W.fnOf "put" "Bank.put" (defArgs sBPut) (defBody sBPut) (defScope sBPut) .none kVBP dcBP pmBP anBP cdBP ctBP), slBP⟩)
    (qBP : PySem.W.codeIn K cdBP "Bank.put" = true)
    (kBP : PySem.W.keepIn K (.ref fBP) = true)
    (aBX : PySem.W.findIn K (.ref CB) "dropped" = some (some (.ref fBX)))
    (hBX : PySem.W.isFn K (.ref fBX) = true)
    (lBX : K.lookup fBX = some ⟨ocBX, odBX, .func (PySem.W.fnOf "dropped" "Bank.dropped" (defArgs sBDropped) (defBody sBDropped) (defScope sBDropped) .none kVBX dcBX pmBX anBX cdBX ctBX), slBX⟩)
    (qBX : PySem.W.codeIn K cdBX "Bank.dropped" = true)
    (kBX : PySem.W.keepIn K (.ref fBX) = true)
    (aBN : PySem.W.findIn K (.ref CB) "names" = some (some (.ref fBN)))
    (hBN : PySem.W.isFn K (.ref fBN) = true)
    (lBN : K.lookup fBN = some ⟨ocBN, odBN, .func (PySem.W.fnOf "names" "Bank.names" (defArgs sBNames) (defBody sBNames) (defScope sBNames) .none kVBN dcBN pmBN anBN cdBN ctBN), slBN⟩)
    (qBN : PySem.W.codeIn K cdBN "Bank.names" = true)
    (kBN : PySem.W.keepIn K (.ref fBN) = true)
    (aBJ : PySem.W.findIn K (.ref CB) "names_in" = some (some (.ref fBJ)))
    (hBJ : PySem.W.isFn K (.ref fBJ) = true)
    (lBJ : K.lookup fBJ = some ⟨ocBJ, odBJ, .func (PySem.W.fnOf "names_in" "Bank.names_in" (defArgs sBNamesIn) (defBody sBNamesIn) (defScope sBNamesIn) .none kVBJ dcBJ pmBJ anBJ cdBJ ctBJ), slBJ⟩)
    (qBJ : PySem.W.codeIn K cdBJ "Bank.names_in" = true)
    (kBJ : PySem.W.keepIn K (.ref fBJ) = true)
    (aBO : PySem.W.findIn K (.ref CB) "outs" = some (some (.ref fBO)))
    (hBO : PySem.W.isFn K (.ref fBO) = true)
    (lBO : K.lookup fBO = some ⟨ocBO, odBO, .func (PySem.W.fnOf "outs" "Bank.outs" (defArgs sBOuts) (defBody sBOuts) (defScope sBOuts) .none kVBO dcBO pmBO anBO cdBO ctBO), slBO⟩)
    (qBO : PySem.W.codeIn K cdBO "Bank.outs" = true)
    (kBO : PySem.W.keepIn K (.ref fBO) = true)
    (aBQ : PySem.W.findIn K (.ref CB) "question" = some (some (.ref fBQ)))
    (hBQ : PySem.W.isFn K (.ref fBQ) = true)
    (lBQ : K.lookup fBQ = some ⟨ocBQ, odBQ, .func (PySem.W.fnOf "question" "Bank.question" (defArgs sBQuestion) (defBody sBQuestion) (defScope sBQuestion) .none kVBQ dcBQ pmBQ anBQ cdBQ ctBQ), slBQ⟩)
    (qBQ : PySem.W.codeIn K cdBQ "Bank.question" = true)
    (kBQ : PySem.W.keepIn K (.ref fBQ) = true)
    (aBD : PySem.W.findIn K (.ref CB) "days_of" = some (some (.ref fBD)))
    (hBD : PySem.W.isFn K (.ref fBD) = true)
    (lBD : K.lookup fBD = some ⟨ocBD, odBD, .func (PySem.W.fnOf "days_of" "Bank.days_of" (defArgs sBDaysOf) (defBody sBDaysOf) (defScope sBDaysOf) .none kVBD dcBD pmBD anBD cdBD ctBD), slBD⟩)
    (qBD : PySem.W.codeIn K cdBD "Bank.days_of" = true)
    (kBD : PySem.W.keepIn K (.ref fBD) = true)
    (aBM : PySem.W.findIn K (.ref CB) "matters" = some (some (.ref fBM)))
    (hBM : PySem.W.isFn K (.ref fBM) = true)
    (lBM : K.lookup fBM = some ⟨ocBM, odBM, .func (PySem.W.fnOf "matters" "Bank.matters" (defArgs sBMatters) (defBody sBMatters) (defScope sBMatters) .none kVBM dcBM pmBM anBM cdBM ctBM), slBM⟩)
    (qBM : PySem.W.codeIn K cdBM "Bank.matters" = true)
    (kBM : PySem.W.keepIn K (.ref fBM) = true)
    (aBT : PySem.W.findIn K (.ref CB) "taken_out" = some (some (.ref fBT)))
    (hBT : PySem.W.isFn K (.ref fBT) = true)
    (lBT : K.lookup fBT = some ⟨ocBT, odBT, .func (PySem.W.fnOf "taken_out" "Bank.taken_out" (defArgs sBOut) (defBody sBOut) (defScope sBOut) (.ref tBT) kVBT dcBT pmBT anBT cdBT ctBT), slBT⟩)
    (qBT : PySem.W.codeIn K cdBT "Bank.taken_out" = true)
    (kBT : PySem.W.keepIn K (.ref fBT) = true)
    (lTBT : K.lookup tBT = some ⟨ocTBT, odTBT, .seq #[.str zBT_0 uBT_0] nTBT, slTBT⟩)
    (yzBT_0 : zBT_0 = "wrong")
    (ykBT : kVBT = .none)
    (a1 : PySem.W.nsIn K mainGlobals "is_number" = some (some (.ref f1)))
    (l1 : K.lookup f1 = some ⟨oc1, od1, .func (PySem.W.fnOf "is_number" "is_number" (defArgs sIsNumber) (defBody sIsNumber) (defScope sIsNumber) .none kV1 dc1 pm1 an1 cd1 ct1), sl1⟩)
    (q1 : PySem.W.codeIn K cd1 "is_number" = true)
    (k1 : PySem.W.keepIn K (.ref f1) = true)
    (a2 : PySem.W.nsIn K mainGlobals "is_whole" = some (some (.ref f2)))
    (l2 : K.lookup f2 = some ⟨oc2, od2, .func (PySem.W.fnOf "is_whole" "is_whole" (defArgs sIsWhole) (defBody sIsWhole) (defScope sIsWhole) (.ref t2) kV2 dc2 pm2 an2 cd2 ct2), sl2⟩)
    (q2 : PySem.W.codeIn K cd2 "is_whole" = true)
    (k2 : PySem.W.keepIn K (.ref f2) = true)
    (lT2 : K.lookup t2 = some ⟨ocT2, odT2, .seq #[.int 0 u2_0, .int 9999 u2_1] nT2, slT2⟩)
    (a3 : PySem.W.nsIn K mainGlobals "is_name" = some (some (.ref f3)))
    (l3 : K.lookup f3 = some ⟨oc3, od3, .func (PySem.W.fnOf "is_name" "is_name" (defArgs sIsName) (defBody sIsName) (defScope sIsName) .none kV3 dc3 pm3 an3 cd3 ct3), sl3⟩)
    (q3 : PySem.W.codeIn K cd3 "is_name" = true)
    (k3 : PySem.W.keepIn K (.ref f3) = true)
    (a4 : PySem.W.nsIn K mainGlobals "is_name_or_empty" = some (some (.ref f4)))
    (l4 : K.lookup f4 = some ⟨oc4, od4, .func (PySem.W.fnOf "is_name_or_empty" "is_name_or_empty" (defArgs sIsNameE) (defBody sIsNameE) (defScope sIsNameE) .none kV4 dc4 pm4 an4 cd4 ct4), sl4⟩)
    (q4 : PySem.W.codeIn K cd4 "is_name_or_empty" = true)
    (k4 : PySem.W.keepIn K (.ref f4) = true)
    (a5 : PySem.W.nsIn K mainGlobals "is_text" = some (some (.ref f5)))
    (l5 : K.lookup f5 = some ⟨oc5, od5, .func (PySem.W.fnOf "is_text" "is_text" (defArgs sIsText) (defBody sIsText) (defScope sIsText) .none kV5 dc5 pm5 an5 cd5 ct5), sl5⟩)
    (q5 : PySem.W.codeIn K cd5 "is_text" = true)
    (k5 : PySem.W.keepIn K (.ref f5) = true)
    (a6 : PySem.W.nsIn K mainGlobals "are_answers" = some (some (.ref f6)))
    (l6 : K.lookup f6 = some ⟨oc6, od6, .func (PySem.W.fnOf "are_answers" "are_answers" (defArgs sAreAnswers) (defBody sAreAnswers) (defScope sAreAnswers) .none kV6 dc6 pm6 an6 cd6 ct6), sl6⟩)
    (q6 : PySem.W.codeIn K cd6 "are_answers" = true)
    (k6 : PySem.W.keepIn K (.ref f6) = true)
    (a7 : PySem.W.nsIn K mainGlobals "need_question" = some (some (.ref f7)))
    (l7 : K.lookup f7 = some ⟨oc7, od7, .func (PySem.W.fnOf "need_question" "need_question" (defArgs sNeedQ) (defBody sNeedQ) (defScope sNeedQ) .none kV7 dc7 pm7 an7 cd7 ct7), sl7⟩)
    (q7 : PySem.W.codeIn K cd7 "need_question" = true)
    (k7 : PySem.W.keepIn K (.ref f7) = true)
    (a8 : PySem.W.nsIn K mainGlobals "listed" = some (some (.ref f8)))
    (l8 : K.lookup f8 = some ⟨oc8, od8, .func (PySem.W.fnOf "listed" "listed" (defArgs sListed) (defBody sListed) (defScope sListed) .none kV8 dc8 pm8 an8 cd8 ct8), sl8⟩)
    (q8 : PySem.W.codeIn K cd8 "listed" = true)
    (k8 : PySem.W.keepIn K (.ref f8) = true)
    (aBR : PySem.W.findIn K (.ref CB) "put_back" = some (some (.ref fBR)))
    (hBR : PySem.W.isFn K (.ref fBR) = true)
    (lBR : K.lookup fBR = some ⟨ocBR, odBR, .func (PySem.W.fnOf "put_back" "Bank.put_back" (defArgs sBBack) (defBody sBBack) (defScope sBBack) .none kVBR dcBR pmBR anBR cdBR ctBR), slBR⟩)
    (qBR : PySem.W.codeIn K cdBR "Bank.put_back" = true)
    (kBR : PySem.W.keepIn K (.ref fBR) = true)
    (aBU : PySem.W.findIn K (.ref CB) "used_on" = some (some (.ref fBU)))
    (hBU : PySem.W.isFn K (.ref fBU) = true)
    (lBU : K.lookup fBU = some ⟨ocBU, odBU, .func (PySem.W.fnOf "used_on" "Bank.used_on" (defArgs sBUsed) (defBody sBUsed) (defScope sBUsed) .none kVBU dcBU pmBU anBU cdBU ctBU), slBU⟩)
    (qBU : PySem.W.codeIn K cdBU "Bank.used_on" = true)
    (kBU : PySem.W.keepIn K (.ref fBU) = true)
    (aBV : PySem.W.findIn K (.ref CB) "unused_on" = some (some (.ref fBV)))
    (hBV : PySem.W.isFn K (.ref fBV) = true)
    (lBV : K.lookup fBV = some ⟨ocBV, odBV, .func (PySem.W.fnOf "unused_on" "Bank.unused_on" (defArgs sBUnused) (defBody sBUnused) (defScope sBUnused) .none kVBV dcBV pmBV anBV cdBV ctBV), slBV⟩)
    (qBV : PySem.W.codeIn K cdBV "Bank.unused_on" = true)
    (kBV : PySem.W.keepIn K (.ref fBV) = true)
    (a9 : PySem.W.nsIn K mainGlobals "need_day" = some (some (.ref f9)))
    (l9 : K.lookup f9 = some ⟨oc9, od9, .func (PySem.W.fnOf "need_day" "need_day" (defArgs sNeedDay) (defBody sNeedDay) (defScope sNeedDay) .none kV9 dc9 pm9 an9 cd9 ct9), sl9⟩)
    (q9 : PySem.W.codeIn K cd9 "need_day" = true)
    (k9 : PySem.W.keepIn K (.ref f9) = true)
    (aBZ : PySem.W.findIn K (.ref CB) "was_used" = some (some (.ref fBZ)))
    (hBZ : PySem.W.isFn K (.ref fBZ) = true)
    (lBZ : K.lookup fBZ = some ⟨ocBZ, odBZ, .func (PySem.W.fnOf "was_used" "Bank.was_used" (defArgs sBWasUsed) (defBody sBWasUsed) (defScope sBWasUsed) .none kVBZ dcBZ pmBZ anBZ cdBZ ctBZ), slBZ⟩)
    (qBZ : PySem.W.codeIn K cdBZ "Bank.was_used" = true)
    (kBZ : PySem.W.keepIn K (.ref fBZ) = true)
    (aBF : PySem.W.findIn K (.ref CB) "found" = some (some (.ref fBF)))
    (hBF : PySem.W.isFn K (.ref fBF) = true)
    (lBF : K.lookup fBF = some ⟨ocBF, odBF, .func (PySem.W.fnOf "found" "Bank.found" (defArgs sBFound) (defBody sBFound) (defScope sBFound) (.ref tBF) kVBF dcBF pmBF anBF cdBF ctBF), slBF⟩)
    (qBF : PySem.W.codeIn K cdBF "Bank.found" = true)
    (kBF : PySem.W.keepIn K (.ref fBF) = true)
    (lTBF : K.lookup tBF = some ⟨ocTBF, odTBF, .seq #[.str zBF_0 uBF_0, .int 1 uBF_1, .int 9 uBF_2, .str zBF_3 uBF_3, .none, .int 0 uBF_5] nTBF, slTBF⟩)
    (yzBF_0 : zBF_0 = "")
    (yzBF_3 : zBF_3 = "")
    (ykBF : kVBF = .none)
    (aBY : PySem.W.findIn K (.ref CB) "last_day" = some (some (.ref fBY)))
    (hBY : PySem.W.isFn K (.ref fBY) = true)
    (lBY : K.lookup fBY = some ⟨ocBY, odBY, .func (PySem.W.fnOf "last_day" "Bank.last_day" (defArgs sBLastDay) (defBody sBLastDay) (defScope sBLastDay) (.ref tBY) kVBY dcBY pmBY anBY cdBY ctBY), slBY⟩)
    (qBY : PySem.W.codeIn K cdBY "Bank.last_day" = true)
    (kBY : PySem.W.keepIn K (.ref fBY) = true)
    (lTBY : K.lookup tBY = some ⟨ocTBY, odTBY, .seq #[.int 9999 uBY_0] nTBY, slTBY⟩)
    (ykBY : kVBY = .none)
    (aBTw : PySem.W.findIn K (.ref CB) "twin" = some (some (.ref fBTw)))
    (hBTw : PySem.W.isFn K (.ref fBTw) = true)
    (lBTw : K.lookup fBTw = some ⟨ocBTw, odBTw, .func (PySem.W.fnOf "twin" "Bank.twin" (defArgs sBTwin) (defBody sBTwin) (defScope sBTwin) .none kVBTw dcBTw pmBTw anBTw cdBTw ctBTw), slBTw⟩)
    (qBTw : PySem.W.codeIn K cdBTw "Bank.twin" = true)
    (kBTw : PySem.W.keepIn K (.ref fBTw) = true)
    (a10 : PySem.W.nsIn K mainGlobals "suits" = some (some (.ref f10)))
    (l10 : K.lookup f10 = some ⟨oc10, od10, .func (PySem.W.fnOf "suits" "suits" (defArgs sSuits) (defBody sSuits) (defScope sSuits) .none kV10 dc10 pm10 an10 cd10 ct10), sl10⟩)
    (q10 : PySem.W.codeIn K cd10 "suits" = true)
    (k10 : PySem.W.keepIn K (.ref f10) = true)
    (a11 : PySem.W.nsIn K mainGlobals "rests_on" = some (some (.ref f11)))
    (l11 : K.lookup f11 = some ⟨oc11, od11, .func (PySem.W.fnOf "rests_on" "rests_on" (defArgs sRestsOn) (defBody sRestsOn) (defScope sRestsOn) .none kV11 dc11 pm11 an11 cd11 ct11), sl11⟩)
    (q11 : PySem.W.codeIn K cd11 "rests_on" = true)
    (k11 : PySem.W.keepIn K (.ref f11) = true)
    (a12 : PySem.W.nsIn K mainGlobals "need_bank" = some (some (.ref f12)))
    (l12 : K.lookup f12 = some ⟨oc12, od12, .func (PySem.W.fnOf "need_bank" "need_bank" (defArgs sNeedBank) (defBody sNeedBank) (defScope sNeedBank) .none kV12 dc12 pm12 an12 cd12 ct12), sl12⟩)
    (q12 : PySem.W.codeIn K cd12 "need_bank" = true)
    (k12 : PySem.W.keepIn K (.ref f12) = true)
    (a13 : PySem.W.nsIn K mainGlobals "resting" = some (some (.ref f13)))
    (l13 : K.lookup f13 = some ⟨oc13, od13, .func (PySem.W.fnOf "resting" "resting" (defArgs sResting) (defBody sResting) (defScope sResting) .none kV13 dc13 pm13 an13 cd13 ct13), sl13⟩)
    (q13 : PySem.W.codeIn K cd13 "resting" = true)
    (k13 : PySem.W.keepIn K (.ref f13) = true)
    (a14 : PySem.W.nsIn K mainGlobals "_law_mixed" = some (some (.ref f14)))
    (l14 : K.lookup f14 = some ⟨oc14, od14, .func (PySem.W.fnOf "_law_mixed" "_law_mixed" (defArgs sMixed) (defBody sMixed) (defScope sMixed) .none kV14 dc14 pm14 an14 cd14 ct14), sl14⟩)
    (q14 : PySem.W.codeIn K cd14 "_law_mixed" = true)
    (k14 : PySem.W.keepIn K (.ref f14) = true)
    (a15 : PySem.W.nsIn K mainGlobals "_law_begun" = some (some (.ref f15)))
    (l15 : K.lookup f15 = some ⟨oc15, od15, .func (PySem.W.fnOf "_law_begun" "_law_begun" (defArgs sBegun) (defBody sBegun) (defScope sBegun) .none kV15 dc15 pm15 an15 cd15 ct15), sl15⟩)
    (q15 : PySem.W.codeIn K cd15 "_law_begun" = true)
    (k15 : PySem.W.keepIn K (.ref f15) = true)
    (a16 : PySem.W.nsIn K mainGlobals "_law_take" = some (some (.ref f16)))
    (l16 : K.lookup f16 = some ⟨oc16, od16, .func (PySem.W.fnOf "_law_take" "_law_take" (defArgs sTake) (defBody sTake) (defScope sTake) .none kV16 dc16 pm16 an16 cd16 ct16), sl16⟩)
    (q16 : PySem.W.codeIn K cd16 "_law_take" = true)
    (k16 : PySem.W.keepIn K (.ref f16) = true)
    (a17 : PySem.W.nsIn K mainGlobals "_law_names" = some (some (.ref f17)))
    (l17 : K.lookup f17 = some ⟨oc17, od17, .func (PySem.W.fnOf "_law_names" "_law_names" (defArgs sNames) (defBody sNames) (defScope sNames) .none kV17 dc17 pm17 an17 cd17 ct17), sl17⟩)
    (q17 : PySem.W.codeIn K cd17 "_law_names" = true)
    (k17 : PySem.W.keepIn K (.ref f17) = true)
    (a18 : PySem.W.nsIn K mainGlobals "_law_row" = some (some (.ref f18)))
    (l18 : K.lookup f18 = some ⟨oc18, od18, .func (PySem.W.fnOf "_law_row" "_law_row" (defArgs sRow) (defBody sRow) (defScope sRow) .none kV18 dc18 pm18 an18 cd18 ct18), sl18⟩)
    (q18 : PySem.W.codeIn K cd18 "_law_row" = true)
    (k18 : PySem.W.keepIn K (.ref f18) = true)
    (a19 : PySem.W.nsIn K mainGlobals "_law_made" = some (some (.ref f19)))
    (l19 : K.lookup f19 = some ⟨oc19, od19, .func (PySem.W.fnOf "_law_made" "_law_made" (defArgs sMade) (defBody sMade) (defScope sMade) .none kV19 dc19 pm19 an19 cd19 ct19), sl19⟩)
    (q19 : PySem.W.codeIn K cd19 "_law_made" = true)
    (k19 : PySem.W.keepIn K (.ref f19) = true)
    (a20 : PySem.W.nsIn K mainGlobals "_law_parts" = some (some (.ref f20)))
    (l20 : K.lookup f20 = some ⟨oc20, od20, .func (PySem.W.fnOf "_law_parts" "_law_parts" (defArgs sParts) (defBody sParts) (defScope sParts) .none kV20 dc20 pm20 an20 cd20 ct20), sl20⟩)
    (q20 : PySem.W.codeIn K cd20 "_law_parts" = true)
    (k20 : PySem.W.keepIn K (.ref f20) = true)
    (a21 : PySem.W.nsIn K mainGlobals "_law_led" = some (some (.ref f21)))
    (l21 : K.lookup f21 = some ⟨oc21, od21, .func (PySem.W.fnOf "_law_led" "_law_led" (defArgs sLed) (defBody sLed) (defScope sLed) .none kV21 dc21 pm21 an21 cd21 ct21), sl21⟩)
    (q21 : PySem.W.codeIn K cd21 "_law_led" = true)
    (k21 : PySem.W.keepIn K (.ref f21) = true)
    (a22 : PySem.W.nsIn K mainGlobals "_law_back_right" = some (some (.ref f22)))
    (l22 : K.lookup f22 = some ⟨oc22, od22, .func (PySem.W.fnOf "_law_back_right" "_law_back_right" (defArgs sBackRight) (defBody sBackRight) (defScope sBackRight) .none kV22 dc22 pm22 an22 cd22 ct22), sl22⟩)
    (q22 : PySem.W.codeIn K cd22 "_law_back_right" = true)
    (k22 : PySem.W.keepIn K (.ref f22) = true)
    (a23 : PySem.W.nsIn K mainGlobals "_law_parts_right" = some (some (.ref f23)))
    (l23 : K.lookup f23 = some ⟨oc23, od23, .func (PySem.W.fnOf "_law_parts_right" "_law_parts_right" (defArgs sPartsRight) (defBody sPartsRight) (defScope sPartsRight) .none kV23 dc23 pm23 an23 cd23 ct23), sl23⟩)
    (q23 : PySem.W.codeIn K cd23 "_law_parts_right" = true)
    (k23 : PySem.W.keepIn K (.ref f23) = true)
    (a24 : PySem.W.nsIn K mainGlobals "_law_called" = some (some (.ref f24)))
    (l24 : K.lookup f24 = some ⟨oc24, od24, .func (PySem.W.fnOf "_law_called" "_law_called" (defArgs sCalled) (defBody sCalled) (defScope sCalled) .none kV24 dc24 pm24 an24 cd24 ct24), sl24⟩)
    (q24 : PySem.W.codeIn K cd24 "_law_called" = true)
    (k24 : PySem.W.keepIn K (.ref f24) = true)
    (a25 : PySem.W.nsIn K mainGlobals "_law_calls_right" = some (some (.ref f25)))
    (l25 : K.lookup f25 = some ⟨oc25, od25, .func (PySem.W.fnOf "_law_calls_right" "_law_calls_right" (defArgs sCallsRight) (defBody sCallsRight) (defScope sCallsRight) .none kV25 dc25 pm25 an25 cd25 ct25), sl25⟩)
    (q25 : PySem.W.codeIn K cd25 "_law_calls_right" = true)
    (k25 : PySem.W.keepIn K (.ref f25) = true)
    (a26 : PySem.W.nsIn K mainGlobals "law" = some (some (.ref f26)))
    (l26 : K.lookup f26 = some ⟨oc26, od26, .func (PySem.W.fnOf "law" "law" (defArgs sLaw) (defBody sLaw) (defScope sLaw) .none kV26 dc26 pm26 an26 cd26 ct26), sl26⟩)
    (q26 : PySem.W.codeIn K cd26 "law" = true)
    (k26 : PySem.W.keepIn K (.ref f26) = true)
    (z21 : PySem.W.nsIn K mainGlobals "dict" = some none)
    (z22 : PySem.W.nsIn K mainGlobals "zip" = some none)
    (z23 : PySem.W.nsIn K mainGlobals "sum" = some none) :
    ∃ fd : FuncData, (∀ (s : Shared) (v : Value), BindsTo s fd ⟨[v], []⟩ [("_law_script", v)]) ∧ ∀ base : Heap, K.In base → base.Ns mainGlobals mg → FnG l.prog w K mg base CX0 11 fa fd ["_law_script"] (spLaw K) := by
  have e := hfa.symm.trans (PySem.W.mg_of X G a26)
  cases e
  subst yzQI_3 ykQI ykBI yzBT_0 ykBT yzBF_0 yzBF_3 ykBF ykBY
  have yIcE := exc_of xkIcE
  have wIcE : ExcC K cE := ⟨yIcE.h1, yIcE.h2, yIcE.h3, yIcE.h4, yIcE.h5, e6, e7, yIcE.h8⟩
  have TIcE : TxQ K mg cE fIcE := { base := PySem.F.excBase_ValueError, gC := PySem.W.mg_of X G gcE, cls := ⟨nmIcE, qlIcE, NIcE, bsIcE, _, snIcE, subIcE, abIcE, colIcE, ddIcE, m0IcE, m1IcE, m2IcE, m3IcE, m5IcE, xLIcE, va_line⟩, sa := yIcE.sa, ex := wIcE, noN := nbIcE, iC := aIcE, tC := tIcE, kC := yIcE.kp, tyC := yIcE.ty, fn := ⟨_, _, _, _, _, _, _, _, _, _, _, _, _, _, lIcE, qIcE⟩ }
  have yIc2 := exc_of xkIc2
  have wIc2 : ExcC K c2 := ⟨yIc2.h1, yIc2.h2, yIc2.h3, yIc2.h4, yIc2.h5, e6, e7, yIc2.h8⟩
  have TIc2 : TxK K mg c2 fIc2 := { base := PySem.F.excBase_TypeError, gC := PySem.W.mg_of X G gc2, cls := ⟨nmIc2, qlIc2, NIc2, bsIc2, _, snIc2, subIc2, abIc2, colIc2, ddIc2, m0Ic2, m1Ic2, m2Ic2, m3Ic2, m5Ic2, xLIc2, el_TypeError⟩, sa := yIc2.sa, ex := wIc2, noN := nbIc2, iC := aIc2, tC := tIc2, kC := yIc2.kp, tyC := yIc2.ty, fn := ⟨_, _, _, _, _, _, _, _, _, _, _, _, _, _, lIc2, qIc2⟩ }
  have yIc3 := exc_of xkIc3
  have wIc3 : ExcC K c3 := ⟨yIc3.h1, yIc3.h2, yIc3.h3, yIc3.h4, yIc3.h5, e6, e7, yIc3.h8⟩
  have TIc3 : TxN K mg c3 fIc3 := { base := PySem.F.excBase_LookupError, gC := PySem.W.mg_of X G gc3, cls := ⟨nmIc3, qlIc3, NIc3, bsIc3, _, snIc3, subIc3, abIc3, colIc3, ddIc3, m0Ic3, m1Ic3, m2Ic3, m3Ic3, m5Ic3, xLIc3, el_KeyError⟩, sa := yIc3.sa, ex := wIc3, noN := nbIc3, iC := aIc3, tC := tIc3, kC := yIc3.kp, tyC := yIc3.ty, fn := ⟨_, _, _, _, _, _, _, _, _, _, _, _, _, _, lIc3, qIc3⟩ }
  have yIc5 := exc_of xkIc5
  have wIc5 : ExcC K c5 := ⟨yIc5.h1, yIc5.h2, yIc5.h3, yIc5.h4, yIc5.h5, e6, e7, yIc5.h8⟩
  have TIc5 : TxM K mg c5 fIc5 := { base := PySem.F.excBase_OverflowError, gC := PySem.W.mg_of X G gc5, cls := ⟨nmIc5, qlIc5, NIc5, bsIc5, _, snIc5, subIc5, abIc5, colIc5, ddIc5, m0Ic5, m1Ic5, m2Ic5, m3Ic5, m5Ic5, xLIc5, el_OverflowError⟩, sa := yIc5.sa, ex := wIc5, noN := nbIc5, iC := aIc5, tC := tIc5, kC := yIc5.kp, tyC := yIc5.ty, fn := ⟨_, _, _, _, _, _, _, _, _, _, _, _, _, _, lIc5, qIc5⟩ }
  have yIc6 := exc_of xkIc6
  have wIc6 : ExcC K c6 := ⟨yIc6.h1, yIc6.h2, yIc6.h3, yIc6.h4, yIc6.h5, e6, e7, yIc6.h8⟩
  have TIc6 : TxT K mg c6 fIc6 := { base := PySem.F.excBase_RuntimeError, gC := PySem.W.mg_of X G gc6, cls := ⟨nmIc6, qlIc6, NIc6, bsIc6, _, snIc6, subIc6, abIc6, colIc6, ddIc6, m0Ic6, m1Ic6, m2Ic6, m3Ic6, m5Ic6, xLIc6, el_RuntimeError⟩, sa := yIc6.sa, ex := wIc6, noN := nbIc6, iC := aIc6, tC := tIc6, kC := yIc6.kp, tyC := yIc6.ty, fn := ⟨_, _, _, _, _, _, _, _, _, _, _, _, _, _, lIc6, qIc6⟩ }
  have yIc4 := exc_of xkIc4
  have wIc4 : ExcC K c4 := ⟨yIc4.h1, yIc4.h2, yIc4.h3, yIc4.h4, yIc4.h5, e6, e7, yIc4.h8⟩
  have TIc4 : TxP K mg c4 fIc4 := { base := PySem.F.excBase_IndexError, gC := PySem.W.mg_of X G gc4, cls := ⟨nmIc4, qlIc4, NIc4, bsIc4, _, snIc4, subIc4, abIc4, colIc4, ddIc4, m0Ic4, m1Ic4, m2Ic4, m3Ic4, m5Ic4, xLIc4, el_IndexError⟩, sa := yIc4.sa, ex := wIc4, noN := nbIc4, iC := aIc4, tC := tIc4, kC := yIc4.kp, tyC := yIc4.ty, fn := ⟨_, _, _, _, _, _, _, _, _, _, _, _, _, _, lIc4, qIc4⟩ }
  have y0 := exc_of xk0
  have w0 : ExcC K c0 := ⟨y0.h1, y0.h2, y0.h3, y0.h4, y0.h5, e6, e7, y0.h8⟩
  have y1 := exc_of xk1
  have w1 : ExcC K c1 := ⟨y1.h1, y1.h2, y1.h3, y1.h4, y1.h5, e6, e7, y1.h8⟩
  have B0_ : BadTxt K mg c0 := ⟨PySem.W.mg_of X G gc0, xi0, y0.kp, y0.h3, y0.ty⟩
  have CCQ := cls_of cbCQ
  have OCQ := CCQ.oty e6 e7
  have CCB := cls_of cbCB
  have OCB := CCB.oty e6 e7
  have FQI : FunQ K fQI _ := ⟨⟨ocQI, odQI, .ref tQI, .none, dcQI, pmQI, anQI, cdQI, ctQI, slQI, rfl, lQI, qQI, .inr ⟨(fun z => nomatch z), tQI, _, [.int 0 uQI_0, .int 5 uQI_1, .int 1 uQI_2, .str "" uQI_3], nTQI, rfl, lTQI, rfl, (.cons ⟨_, rfl⟩ (.cons ⟨_, rfl⟩ (.cons ⟨_, rfl⟩ (.cons ⟨_, rfl⟩ .nil))))⟩, .inl rfl⟩, kQI⟩
  have FQE := fun_mk (st := sQEq) lQE qQE kQE
  have bQE := FQE.binds (ps := (["self", "other"] : List Str)) fun _ _ _ _ _ _ us hl => match us, hl with | [_, _], _ => rfl
  have FBI : FunB K fBI _ := ⟨⟨ocBI, odBI, .ref tBI, .none, dcBI, pmBI, anBI, cdBI, ctBI, slBI, rfl, lBI, qBI, .inr ⟨(fun z => nomatch z), tBI, _, [.none], nTBI, rfl, lTBI, rfl, (.cons rfl .nil)⟩, .inl rfl⟩, kBI⟩
  have FBE := fun_mk (st := sBEq) lBE qBE kBE
  have bBE := FBE.binds (ps := (["self", "other"] : List Str)) fun _ _ _ _ _ _ us hl => match us, hl with | [_, _], _ => rfl
  have FBL := fun_mk (st := sBLen) lBL qBL kBL
  have bBL := FBL.binds (ps := (["self"] : List Str)) fun _ _ _ _ _ _ us hl => match us, hl with | [_], _ => rfl
  have FBK := fun_mk (st := sBKnown) lBK qBK kBK
  have bBK := FBK.binds (ps := (["self", "name"] : List Str)) fun _ _ _ _ _ _ us hl => match us, hl with | [_, _], _ => rfl
  have FBA := fun_mk (st := sBAdded) lBA qBA kBA
  have bBA := FBA.binds (ps := (["self", "question"] : List Str)) fun _ _ _ _ _ _ us hl => match us, hl with | [_, _], _ => rfl
  have FBP := fun_mk (st := sBPut) lBP qBP kBP
  have bBP := FBP.binds (ps := (["self", "question"] : List Str)) fun _ _ _ _ _ _ us hl => match us, hl with | [_, _], _ => rfl
  have FBX := fun_mk (st := sBDropped) lBX qBX kBX
  have bBX := FBX.binds (ps := (["self", "name"] : List Str)) fun _ _ _ _ _ _ us hl => match us, hl with | [_, _], _ => rfl
  have FBN := fun_mk (st := sBNames) lBN qBN kBN
  have bBN := FBN.binds (ps := (["self"] : List Str)) fun _ _ _ _ _ _ us hl => match us, hl with | [_], _ => rfl
  have FBJ := fun_mk (st := sBNamesIn) lBJ qBJ kBJ
  have bBJ := FBJ.binds (ps := (["self"] : List Str)) fun _ _ _ _ _ _ us hl => match us, hl with | [_], _ => rfl
  have FBO := fun_mk (st := sBOuts) lBO qBO kBO
  have bBO := FBO.binds (ps := (["self"] : List Str)) fun _ _ _ _ _ _ us hl => match us, hl with | [_], _ => rfl
  have FBQ := fun_mk (st := sBQuestion) lBQ qBQ kBQ
  have bBQ := FBQ.binds (ps := (["self", "name"] : List Str)) fun _ _ _ _ _ _ us hl => match us, hl with | [_, _], _ => rfl
  have FBD := fun_mk (st := sBDaysOf) lBD qBD kBD
  have bBD := FBD.binds (ps := (["self", "name"] : List Str)) fun _ _ _ _ _ _ us hl => match us, hl with | [_, _], _ => rfl
  have FBM := fun_mk (st := sBMatters) lBM qBM kBM
  have bBM := FBM.binds (ps := (["self"] : List Str)) fun _ _ _ _ _ _ us hl => match us, hl with | [_], _ => rfl
  have FBT : FunO K fBT _ := ⟨⟨ocBT, odBT, .ref tBT, .none, dcBT, pmBT, anBT, cdBT, ctBT, slBT, rfl, lBT, qBT, .inr ⟨(fun z => nomatch z), tBT, _, [.str "wrong" uBT_0], nTBT, rfl, lTBT, rfl, (.cons ⟨_, rfl⟩ .nil)⟩, .inl rfl⟩, kBT⟩
  have F1 := fun_mk (st := sIsNumber) l1 q1 k1
  have b1 := F1.binds (ps := (["thing"] : List Str)) fun _ _ _ _ _ _ us hl => match us, hl with | [_], _ => rfl
  have F2 : FunDf K "is_whole" sIsWhole [.int 0, .int 9999] f2 _ := ⟨⟨oc2, od2, .ref t2, kV2, dc2, pm2, an2, cd2, ct2, sl2, rfl, l2, q2, .inr ⟨(fun z => nomatch z), t2, _, [.int 0 u2_0, .int 9999 u2_1], nT2, rfl, lT2, rfl, (.cons ⟨_, rfl⟩ (.cons ⟨_, rfl⟩ .nil))⟩, .inl rfl⟩, k2⟩
  have b2_3 : ∃ ds, Vals ([] : List V) ds ∧ Binds K _ ["thing", "least", "most"] ds := F2.binds1 3 2 (fun z => nomatch z) rfl fun T kV doc pm an cdv ct us its l1 l2 => match us, its, l1, l2 with
    | [_, _, _], [_, _], _, _ => ⟨_, rfl, rfl⟩
  have F3 := fun_mk (st := sIsName) l3 q3 k3
  have b3 := F3.binds (ps := (["thing"] : List Str)) fun _ _ _ _ _ _ us hl => match us, hl with | [_], _ => rfl
  have F4 := fun_mk (st := sIsNameE) l4 q4 k4
  have b4 := F4.binds (ps := (["thing"] : List Str)) fun _ _ _ _ _ _ us hl => match us, hl with | [_], _ => rfl
  have F5 := fun_mk (st := sIsText) l5 q5 k5
  have b5 := F5.binds (ps := (["thing"] : List Str)) fun _ _ _ _ _ _ us hl => match us, hl with | [_], _ => rfl
  have F6 := fun_mk (st := sAreAnswers) l6 q6 k6
  have b6 := F6.binds (ps := (["thing"] : List Str)) fun _ _ _ _ _ _ us hl => match us, hl with | [_], _ => rfl
  have F7 := fun_mk (st := sNeedQ) l7 q7 k7
  have b7 := F7.binds (ps := (["thing"] : List Str)) fun _ _ _ _ _ _ us hl => match us, hl with | [_], _ => rfl
  have F8 := fun_mk (st := sListed) l8 q8 k8
  have b8 := F8.binds (ps := (["questions"] : List Str)) fun _ _ _ _ _ _ us hl => match us, hl with | [_], _ => rfl
  have FBR := fun_mk (st := sBBack) lBR qBR kBR
  have bBR := FBR.binds (ps := (["self", "name"] : List Str)) fun _ _ _ _ _ _ us hl => match us, hl with | [_, _], _ => rfl
  have FBU := fun_mk (st := sBUsed) lBU qBU kBU
  have bBU := FBU.binds (ps := (["self", "name", "day"] : List Str)) fun _ _ _ _ _ _ us hl => match us, hl with | [_, _, _], _ => rfl
  have FBV := fun_mk (st := sBUnused) lBV qBV kBV
  have bBV := FBV.binds (ps := (["self", "name", "day"] : List Str)) fun _ _ _ _ _ _ us hl => match us, hl with | [_, _, _], _ => rfl
  have F9 := fun_mk (st := sNeedDay) l9 q9 k9
  have b9 := F9.binds (ps := (["thing"] : List Str)) fun _ _ _ _ _ _ us hl => match us, hl with | [_], _ => rfl
  have FBZ := fun_mk (st := sBWasUsed) lBZ qBZ kBZ
  have bBZ := FBZ.binds (ps := (["self", "name", "first", "last"] : List Str)) fun _ _ _ _ _ _ us hl => match us, hl with | [_, _, _, _], _ => rfl
  have FBF : FunFd K fBF _ := ⟨⟨ocBF, odBF, .ref tBF, .none, dcBF, pmBF, anBF, cdBF, ctBF, slBF, rfl, lBF, qBF, .inr ⟨(fun z => nomatch z), tBF, _, [.str "" uBF_0, .int 1 uBF_1, .int 9 uBF_2, .str "" uBF_3, .none, .int 0 uBF_5], nTBF, rfl, lTBF, rfl, (.cons ⟨_, rfl⟩ (.cons ⟨_, rfl⟩ (.cons ⟨_, rfl⟩ (.cons ⟨_, rfl⟩ (.cons rfl (.cons ⟨_, rfl⟩ .nil))))))⟩, .inl rfl⟩, kBF⟩
  have FBY : FunL K fBY _ := ⟨⟨ocBY, odBY, .ref tBY, .none, dcBY, pmBY, anBY, cdBY, ctBY, slBY, rfl, lBY, qBY, .inr ⟨(fun z => nomatch z), tBY, _, [.int 9999 uBY_0], nTBY, rfl, lTBY, rfl, (.cons ⟨_, rfl⟩ .nil)⟩, .inl rfl⟩, kBY⟩
  have FBTw := fun_mk (st := sBTwin) lBTw qBTw kBTw
  have bBTw := FBTw.binds (ps := (["self"] : List Str)) fun _ _ _ _ _ _ us hl => match us, hl with | [_], _ => rfl
  have F10 := fun_mk (st := sSuits) l10 q10 k10
  have b10 := F10.binds (ps := (["question", "matter", "least", "most", "kin"] : List Str)) fun _ _ _ _ _ _ us hl => match us, hl with | [_, _, _, _, _], _ => rfl
  have F11 := fun_mk (st := sRestsOn) l11 q11 k11
  have b11 := F11.binds (ps := (["bank", "name", "day", "rest"] : List Str)) fun _ _ _ _ _ _ us hl => match us, hl with | [_, _, _, _], _ => rfl
  have F12 := fun_mk (st := sNeedBank) l12 q12 k12
  have b12 := F12.binds (ps := (["thing"] : List Str)) fun _ _ _ _ _ _ us hl => match us, hl with | [_], _ => rfl
  have F13 := fun_mk (st := sResting) l13 q13 k13
  have b13 := F13.binds (ps := (["bank", "day", "rest"] : List Str)) fun _ _ _ _ _ _ us hl => match us, hl with | [_, _, _], _ => rfl
  have F14 := fun_mk (st := sMixed) l14 q14 k14
  have b14 := F14.binds (ps := (["_law_cell", "_law_k"] : List Str)) fun _ _ _ _ _ _ us hl => match us, hl with | [_, _], _ => rfl
  have F15 := fun_mk (st := sBegun) l15 q15 k15
  have b15 := F15.binds (ps := (["_law_script", "_law_k"] : List Str)) fun _ _ _ _ _ _ us hl => match us, hl with | [_, _], _ => rfl
  have F16 := fun_mk (st := sTake) l16 q16 k16
  have b16 := F16.binds (ps := (["_law_state", "_law_many"] : List Str)) fun _ _ _ _ _ _ us hl => match us, hl with | [_, _], _ => rfl
  have F17 := fun_mk (st := sNames) l17 q17 k17
  have b17 := F17.binds (ps := (["_law_state", "_law_many"] : List Str)) fun _ _ _ _ _ _ us hl => match us, hl with | [_, _], _ => rfl
  have F18 := fun_mk (st := sRow) l18 q18 k18
  have b18 := F18.binds (ps := (["_law_state", "_law_label", "_law_kinds"] : List Str)) fun _ _ _ _ _ _ us hl => match us, hl with | [_, _, _], _ => rfl
  have F19 := fun_mk (st := sMade) l19 q19 k19
  have b19 := F19.binds (ps := (["_law_row_here"] : List Str)) fun _ _ _ _ _ _ us hl => match us, hl with | [_], _ => rfl
  have F20 := fun_mk (st := sParts) l20 q20 k20
  have b20 := F20.binds (ps := (["_law_one"] : List Str)) fun _ _ _ _ _ _ us hl => match us, hl with | [_], _ => rfl
  have F21 := fun_mk (st := sLed) l21 q21 k21
  have b21 := F21.binds (ps := (["_law_state", "_law_kinds", "_law_labels", "_law_turns"] : List Str)) fun _ _ _ _ _ _ us hl => match us, hl with | [_, _, _, _], _ => rfl
  have F22 := fun_mk (st := sBackRight) l22 q22 k22
  have b22 := F22.binds (ps := (["_law_bank", "_law_label", "_law_when", "_law_row_here"] : List Str)) fun _ _ _ _ _ _ us hl => match us, hl with | [_, _, _, _], _ => rfl
  have F23 := fun_mk (st := sPartsRight) l23 q23 k23
  have b23 := F23.binds (ps := (["_law_bank", "_law_kinds", "_law_when", "_law_span"] : List Str)) fun _ _ _ _ _ _ us hl => match us, hl with | [_, _, _, _], _ => rfl
  have F24 := fun_mk (st := sCalled) l24 q24 k24
  have b24 := F24.binds (ps := (["_law_bank", "_law_calls"] : List Str)) fun _ _ _ _ _ _ us hl => match us, hl with | [_, _], _ => rfl
  have F25 := fun_mk (st := sCallsRight) l25 q25 k25
  have b25 := F25.binds (ps := (["_law_bank", "_law_when", "_law_span"] : List Str)) fun _ _ _ _ _ _ us hl => match us, hl with | [_, _, _], _ => rfl
  have F26 := fun_mk (st := sLaw) l26 q26 k26
  refine ⟨PySem.W.fnOf "law" "law" (defArgs sLaw) (defBody sLaw) (defScope sLaw) .none kV26 dc26 pm26 an26 cd26 ct26, fun s v => .of_eq rfl, fun base _ _ => ?_⟩
  have G_is_number : FnOk l.prog w K mg base CX0 1 f1 _ ["thing"] spIsNumber := ok_isNumber F1 (PySem.W.mg_none_of X G z0) (PySem.W.mg_none_of X G z1) (PySem.W.mg_none_of X G z2)
  have G_is_whole : FnOk l.prog w K mg base CX0 2 f2 _ ["thing", "least", "most"] spIsWhole := ok_isWhole F2 F1 b1 (PySem.W.mg_of X G a1) (PySem.W.mg_none_of X G z0) (PySem.W.mg_none_of X G z1) (PySem.W.mg_none_of X G z2)
  have G_is_name : FnOk l.prog w K mg base CX0 1 f3 _ ["thing"] spIsName := ok_isName F3 (PySem.W.mg_none_of X G z0) (PySem.W.mg_none_of X G z3) (PySem.W.mg_none_of X G z4) ⟨_, PySem.W.mg_of X G cMOST_LETTERS⟩
  have G_is_text : FnOk l.prog w K mg base CX0 2 f5 _ ["thing"] spIsText := ok_isText F5 (PySem.W.mg_none_of X G z0) (PySem.W.mg_none_of X G z3) (PySem.W.mg_none_of X G z4) (PySem.W.mg_none_of X G z10) (PySem.W.mg_none_of X G z11) ⟨_, PySem.W.mg_of X G cPERCENT⟩ ⟨_, PySem.W.mg_of X G cMOST_SIGNS⟩
  have G_is_name_or_empty : FnOk l.prog w K mg base CX0 2 f4 _ ["thing"] spIsNameE := ok_isNameE F4 F3 b3 (PySem.W.mg_of X G a3) (PySem.W.mg_none_of X G z0) (PySem.W.mg_none_of X G z3) (PySem.W.mg_none_of X G z4) ⟨_, PySem.W.mg_of X G cMOST_LETTERS⟩
  have G_are_answers : FnOk l.prog w K mg base CX0 3 f6 _ ["thing"] spAreAnswers := ok_areAnswers F6 G_is_text k5 b5 (PySem.W.mg_of X G a5) (PySem.W.mg_none_of X G z0) (PySem.W.mg_none_of X G z6) (PySem.W.mg_none_of X G z4) (PySem.W.mg_none_of X G z10) (PySem.W.mg_none_of X G z12) ⟨_, PySem.W.mg_of X G cLEAST_ANSWERS⟩ ⟨_, PySem.W.mg_of X G cMOST_ANSWERS⟩
  have QC : QCls K CQ := ⟨CCQ.cls, fun f hf => CCQ.no _ (List.mem_map_of_mem hf)⟩
  have BC : BCls K CB := ⟨CCB.cls, fun f hf => CCB.no _ (List.mem_map_of_mem hf)⟩
  have QT : QTy K CQ := ⟨OCQ.ha, OCQ.hn, OCQ.ht, OCQ.hm, OCQ.hk⟩
  have G_qinit : FnOk l.prog w K mg base (L2.CX l.prog w) 5 fQI _ psQ (spQInit CQ cE) := ok_qInit FQI TIcE QC G_is_name k3 b3 (PySem.W.mg_of X G a3) G_are_answers k6 b6 (PySem.W.mg_of X G a6) G_is_whole k2 b2_3 (PySem.W.mg_of X G a2) G_is_name_or_empty k4 b4 (PySem.W.mg_of X G a4) (PySem.W.mg_none_of X G z4) (PySem.W.mg_none_of X G z6)
  have MQ : Mk K CQ fQI := ⟨CCQ.mks, aQI, hQI, CCQ.kp⟩
  have G_qeq : FnOk l.prog w K mg base CX0 2 fQE _ ["self", "other"] (spQEq K CQ) := ok_qEq FQE QC QT (PySem.W.mg_none_of X G z0) (PySem.W.mg_of X G gCQ)
  have G_need_question : FnOk l.prog w K mg base (L2.CX l.prog w) 3 f7 _ ["thing"] (spNeedQ K CQ c2) := ok_needQ F7 OCQ TIc2 (PySem.W.mg_none_of X G z0) (PySem.W.mg_of X G gCQ)
  have G_known : FnOk l.prog w K mg base (L2.CX l.prog w) 3 fBK _ ["self", "name"] (spKnown CB CQ c3) := ok_known FBK BC TIc3 (PySem.W.mg_none_of X G z0) (PySem.W.mg_none_of X G z3)
  have G_added : FnOk l.prog w K mg base (L2.CX l.prog w) 5 fBA _ ["self", "question"] (spAddedB K CB CQ c2 c6 c5) := ok_added FBA BC QC TIc6 TIc5 (PySem.W.mg_none_of X G z4) ⟨_, PySem.W.mg_of X G cMOST_QUESTIONS⟩ G_need_question k7 b7 (PySem.W.mg_of X G a7)
  have G_dropped : FnOk l.prog w K mg base (L2.CX l.prog w) 5 fBX _ ["self", "name"] (spDroppedB CB CQ c3) := ok_dropped FBX BC G_known ⟨aBK, hBK, kBK⟩ bBK
  have G_put : FnOk l.prog w K mg base (L2.CX l.prog w) 5 fBP _ ["self", "question"] (spPutB K CB CQ c2 c3) := ok_putB FBP BC QC G_need_question k7 b7 (PySem.W.mg_of X G a7) G_known ⟨aBK, hBK, kBK⟩ bBK
  have G_out : FnOk l.prog w K mg base (L2.CX l.prog w) 5 fBT _ ["self", "name", "why"] (spOutB CB CQ c3 c0) := ok_outB FBT BC B0_ G_is_text k5 b5 (PySem.W.mg_of X G a5) G_known ⟨aBK, hBK, kBK⟩ bBK
  have G_names : FnOk l.prog w K mg base CX0 1 fBN _ ["self"] (spNamesB CB CQ) := ok_namesB FBN BC (PySem.W.mg_none_of X G z13) (PySem.W.mg_none_of X G z5)
  have G_names_in : FnOk l.prog w K mg base CX0 2 fBJ _ ["self"] (spNamesInB CB CQ) := ok_namesIn FBJ BC G_names ⟨aBN, hBN, kBN⟩ bBN
  have G_len : FnOk l.prog w K mg base CX0 1 fBL _ ["self"] (spLenB CB CQ) := ok_lenB FBL BC (PySem.W.mg_none_of X G z4)
  have G_question : FnOk l.prog w K mg base (L2.CX l.prog w) 4 fBQ _ ["self", "name"] (spQuestionB CB CQ c3) := ok_questionB FBQ BC G_known ⟨aBK, hBK, kBK⟩ bBK
  have G_days_of : FnOk l.prog w K mg base (L2.CX l.prog w) 4 fBD _ ["self", "name"] (spDaysOfB CB CQ c3) := ok_daysOf FBD BC (PySem.W.mg_none_of X G z5) G_known ⟨aBK, hBK, kBK⟩ bBK
  have G_outs : FnOk l.prog w K mg base CX0 1 fBO _ ["self"] (spOutsB CB CQ) := ok_outsB FBO BC (PySem.W.mg_none_of X G z13) (PySem.W.mg_none_of X G z5)
  have G_matters : FnOk l.prog w K mg base CX0 3 fBM _ ["self"] (spMattersB CB CQ) := ok_matters FBM BC QC (PySem.W.mg_none_of X G z13) G_names_in ⟨aBJ, hBJ, kBJ⟩ bBJ
  have G_eqB : FnOk l.prog w K mg base CX0 4 fBE _ ["self", "other"] (spEqB K CB CQ) := ok_eqB FBE BC OCB (PySem.W.mg_none_of X G z0) (PySem.W.mg_of X G gCB) G_qeq aQE hQE bQE
  have G_listed : FnOk l.prog w K mg base (L2.CX l.prog w) 3 f8 _ ["questions"] (spListed K c2) := ok_listed F8 TIc2 (PySem.W.mg_none_of X G z0) (PySem.W.mg_none_of X G z5) (PySem.W.mg_none_of X G z6)
  have G_binit : FnOk l.prog w K mg base (L2.CX l.prog w) 6 fBI _ ["self", "questions"] (spInitB K CB CQ c2 c6 c5) := ok_initB FBI BC G_listed k8 b8 (PySem.W.mg_of X G a8) G_added ⟨aBA, hBA, kBA⟩ bBA
  have MB : Mk K CB fBI := ⟨CCB.mks, aBI, hBI, CCB.kp⟩
  have BW : BkW l.prog w K mg base CB CQ c3 := ⟨BC, QC, ⟨_, _, G_names, ⟨aBN, hBN, kBN⟩, bBN⟩, ⟨_, _, G_names_in, ⟨aBJ, hBJ, kBJ⟩, bBJ⟩, ⟨_, _, G_len, aBL, hBL, bBL⟩, ⟨_, _, G_outs, ⟨aBO, hBO, kBO⟩, bBO⟩, ⟨_, _, G_question, ⟨aBQ, hBQ, kBQ⟩, bBQ⟩, ⟨_, _, G_days_of, ⟨aBD, hBD, kBD⟩, bBD⟩, ⟨_, _, G_matters, ⟨aBM, hBM, kBM⟩, bBM⟩⟩
  have GX_ : GoneX K mg c1 := ⟨PySem.W.mg_of X G gc1, xi1, y1.kp, y1.h3, y1.ty⟩
  have G_need_day : FnOk l.prog w K mg base (L2.CX l.prog w) 3 f9 _ ["thing"] (spNeedDay c4) := ok_needDay F9 TIc4 F2 G_is_whole k2 (PySem.W.mg_of X G a2)
  have G_back : FnOk l.prog w K mg base (L2.CX l.prog w) 5 fBR _ ["self", "name"] (spBackB CB CQ c3 c1) := ok_backB FBR BC GX_ G_known ⟨aBK, hBK, kBK⟩ bBK
  have G_used : FnOk l.prog w K mg base (L2.CX l.prog w) 5 fBU _ ["self", "name", "day"] (spUsedB CB CQ c3 c4) := ok_usedB FBU BC (PySem.W.mg_none_of X G z13) G_need_day k9 b9 (PySem.W.mg_of X G a9) G_known ⟨aBK, hBK, kBK⟩ bBK
  have G_unused : FnOk l.prog w K mg base (L2.CX l.prog w) 5 fBV _ ["self", "name", "day"] (spUnusedB CB CQ c3 c4 c1) := ok_unusedB FBV BC GX_ G_need_day k9 b9 (PySem.W.mg_of X G a9) G_known ⟨aBK, hBK, kBK⟩ bBK
  have DW : DeedW l.prog w K mg base CB CQ (pick [c0, c1, c2, c3, c4, c5, c6]) := ⟨BC, ⟨_, _, FBA, G_added, ⟨aBA, hBA, kBA⟩, bBA⟩, ⟨_, _, FBP, G_put, ⟨aBP, hBP, kBP⟩, bBP⟩, ⟨_, _, FBT, G_out, ⟨aBT, hBT, kBT⟩⟩, ⟨_, _, FBR, G_back, ⟨aBR, hBR, kBR⟩, bBR⟩, ⟨_, _, FBX, G_dropped, ⟨aBX, hBX, kBX⟩, bBX⟩, ⟨_, _, FBU, G_used, ⟨aBU, hBU, kBU⟩, bBU⟩, ⟨_, _, FBV, G_unused, ⟨aBV, hBV, kBV⟩, bBV⟩⟩
  have G_was_used : FnOk l.prog w K mg base CX0 1 fBZ _ ["self", "name", "first", "last"] (spWasB CB CQ) := ok_wasB FBZ BC
  have G_rests_on : FnOk l.prog w K mg base CX0 2 f11 _ ["bank", "name", "day", "rest"] (spRestsOn CB CQ) := ok_restsOn F11 BC G_was_used ⟨aBZ, hBZ, kBZ⟩ bBZ
  have G_suits : FnOk l.prog w K mg base CX0 1 f10 _ ["question", "matter", "least", "most", "kin"] (spSuits CQ) := ok_suits F10 QC
  have G_found : FnOk l.prog w K mg base CX0 3 fBF _ PFound (spFoundB CB CQ) := ok_foundB FBF BC QC G_names_in ⟨aBJ, hBJ, kBJ⟩ bBJ G_suits k10 b10 (PySem.W.mg_of X G a10) G_rests_on k11 b11 (PySem.W.mg_of X G a11)
  have FW : FoundW l.prog w K mg base CB CQ := ⟨BC, ⟨_, _, FBF, G_found, ⟨aBF, hBF, kBF⟩⟩⟩
  have G_last : FnOk l.prog w K mg base (L2.CX l.prog w) 5 fBY _ ["self", "name", "day"] (spLastB CB CQ c3 c4) := ok_lastB FBY BC (PySem.W.mg_none_of X G z4) G_need_day k9 b9 (PySem.W.mg_of X G a9) G_known ⟨aBK, hBK, kBK⟩ bBK
  have G_eqB2 : FnOk l.prog w K mg base CX0 4 fBE _ ["self", "other"] (spEqB2 K CB CQ) := ok_eqB2 FBE BC OCB (PySem.W.mg_none_of X G z0) (PySem.W.mg_of X G gCB) G_qeq aQE hQE bQE
  have G_twin : FnOk l.prog w K mg base CX0 8 fBTw _ ["self"] (spTwin CB CQ) := ok_twin FBTw BC (PySem.W.mg_none_of X G z21) (PySem.W.mg_none_of X G z5) G_names ⟨aBN, hBN, kBN⟩ bBN FBI G_binit MB (PySem.W.mg_of X G gCB)
  have G_need_bank : FnOk l.prog w K mg base (L2.CX l.prog w) 3 f12 _ ["thing"] (spNeedBank K CB c2) := ok_needBank F12 OCB TIc2 (PySem.W.mg_none_of X G z0) (PySem.W.mg_of X G gCB)
  have G_resting : FnOk l.prog w K mg base (L2.CX l.prog w) 5 f13 _ ["bank", "day", "rest"] (spResting K CB CQ c2 c4) := ok_resting F13 BC TIc4 G_need_bank k12 b12 (PySem.W.mg_of X G a12) G_need_day k9 b9 (PySem.W.mg_of X G a9) F2 G_is_whole k2 (PySem.W.mg_of X G a2) G_names_in ⟨aBJ, hBJ, kBJ⟩ bBJ G_rests_on k11 b11 (PySem.W.mg_of X G a11)
  have LW : LastW l.prog w K mg base CB CQ (pick [c0, c1, c2, c3, c4, c5, c6]) := ⟨⟨_, _, FBY, G_last, ⟨aBY, hBY, kBY⟩⟩, ⟨_, _, G_eqB2, aBE, hBE, bBE⟩, ⟨_, _, G_qeq, aQE, hQE, bQE⟩, ⟨_, _, G_twin, ⟨aBTw, hBTw, kBTw⟩, bBTw⟩, ⟨_, _, G_resting, k13, b13, (PySem.W.mg_of X G a13)⟩, OCB, OCQ⟩
  have G__law_mixed : FnOk l.prog w K mg base CX0 1 f14 _ ["_law_cell", "_law_k"] spMixed := ok_mixed F14
  have G__law_take : FnOk l.prog w K mg base CX0 2 f16 _ ["_law_state", "_law_many"] spTake := ok_take F16 G__law_mixed k14 b14 (PySem.W.mg_of X G a14)
  have G__law_begun : FnOk l.prog w K mg base CX0 1 f15 _ ["_law_script", "_law_k"] (spBegun K) := ok_begun F15
  have G__law_names : FnOk l.prog w K mg base CX0 3 f17 _ ["_law_state", "_law_many"] spNames := ok_names F17 (PySem.W.mg_none_of X G z4) (PySem.W.mg_none_of X G z7) G__law_take k16 b16 (PySem.W.mg_of X G a16)
  have G__law_row : FnOk l.prog w K mg base CX0 3 f18 _ ["_law_state", "_law_label", "_law_kinds"] spRow := ok_row F18 (PySem.W.mg_none_of X G z4) (PySem.W.mg_none_of X G z7) (PySem.W.mg_none_of X G z6) G__law_take k16 b16 (PySem.W.mg_of X G a16)
  have G__law_made : FnOk l.prog w K mg base CX0 7 f19 _ ["_law_row_here"] (spMade CQ) := ok_made F19 FQI G_qinit MQ (PySem.W.mg_of X G gCQ)
  have G__law_parts : FnOk l.prog w K mg base CX0 1 f20 _ ["_law_one"] (spParts CQ) := ok_parts F20 QC
  have G__law_led : FnOk l.prog w K mg base CX0 8 f21 _ ["_law_state", "_law_kinds", "_law_labels", "_law_turns"] (spLed CB CQ) := ok_led (c := (pick [c0, c1, c2, c3, c4, c5, c6])) F21 BW DW (PySem.W.mg_none_of X G z7) (PySem.W.mg_none_of X G z4) G__law_take k16 b16 (PySem.W.mg_of X G a16) FBI G_binit MB (PySem.W.mg_of X G gCB) G__law_row k18 b18 (PySem.W.mg_of X G a18) G__law_made k19 b19 (PySem.W.mg_of X G a19)
  have G__law_back_right : FnOk l.prog w K mg base CX0 9 f22 _ ["_law_bank", "_law_label", "_law_when", "_law_row_here"] (spBackR CB CQ) := ok_backR (c := (pick [c0, c1, c2, c3, c4, c5, c6])) F22 BW DW LW (PySem.W.mg_none_of X G z4) neCB G__law_made k19 b19 (PySem.W.mg_of X G a19)
  have G__law_parts_right : FnOk l.prog w K mg base CX0 6 f23 _ ["_law_bank", "_law_kinds", "_law_when", "_law_span"] (spPartsR CB CQ) := ok_partsR (c := (pick [c0, c1, c2, c3, c4, c5, c6])) F23 BW FW LW (PySem.W.mg_none_of X G z4) (PySem.W.mg_none_of X G z13) (PySem.W.mg_none_of X G z23) (PySem.W.mg_none_of X G z7)
  have G__law_called : FnOk l.prog w K mg base CX0 8 f24 _ ["_law_bank", "_law_calls"] (spCalled CB CQ) := ok_called (c := (pick [c0, c1, c2, c3, c4, c5, c6])) F24 BW DW FBI G_binit MB (PySem.W.mg_of X G gCB) G__law_made k19 b19 (PySem.W.mg_of X G a19) G__law_parts k20 b20 (PySem.W.mg_of X G a20)
  have G__law_calls_right : FnG l.prog w K mg base CX0 10 f25 _ ["_law_bank", "_law_when", "_law_span"] (spCallsR CB CQ) := ok_callsR (c := (pick [c0, c1, c2, c3, c4, c5, c6])) F25 BW FW LW (PySem.W.mg_none_of X G z4) (PySem.W.mg_none_of X G z21) (PySem.W.mg_none_of X G z22) (PySem.W.mg_none_of X G z14) G__law_called k24 b24 (PySem.W.mg_of X G a24)
  exact ok_law F26 (PySem.W.mg_none_of X G z7) (PySem.W.mg_none_of X G z4) (PySem.W.mg_none_of X G z8) (PySem.W.mg_none_of X G z9) G__law_take k16 b16 (PySem.W.mg_of X G a16) G__law_begun k15 b15 (PySem.W.mg_of X G a15) G__law_names k17 b17 (PySem.W.mg_of X G a17) G__law_row k18 b18 (PySem.W.mg_of X G a18) G__law_led k21 b21 (PySem.W.mg_of X G a21) G__law_back_right k22 b22 (PySem.W.mg_of X G a22) G__law_parts_right k23 b23 (PySem.W.mg_of X G a23) G__law_calls_right k25 b25 (PySem.W.mg_of X G a25)
end Pk
open PySem PySem.W PyProof.Rows
set_option maxRecDepth 100000 in
set_option maxHeartbeats 0 in
theorem PySem.Challenge.cw_paperkin_k72_whole_banks_holds : PySem.Challenge.rw_paperkin_k72_whole_banks.Holds := by
  w_on; o_law; k_head; (case hw => w_witness2)
  k_fill
  refine Pk.walkG (l := PySem.Challenge.rw_paperkin_k72_whole_banks) (n := 63) (k := 11) (x := "_law_script") (sp := Pk.spLaw) rfl (by decide) rfl ⟨rfl, by decide, by decide⟩ (fun w h Y => PySem.W.kIn_of Y) ?F (fun _ _ a ns hl hS => ⟨a, ns, rfl, hS, hl, fun _ => rfl⟩)
  case F =>
    intro w mg fa h KX G hmg
    refine' Pk.all_mk KX G hmg ?pk_e6 ?pk_e7 ?pk_gcB ?pk_gcE ?pk_gc0 ?pk_gc1 ?pk_gc2 ?pk_gc3 ?pk_gc4 ?pk_gc5 ?pk_gc6 ?pk_xkIcE ?pk_xLIcE ?pk_nbIcE ?pk_aIcE ?pk_tIcE ?pk_lIcE ?pk_qIcE ?pk_xkIc2 ?pk_xLIc2 ?pk_nbIc2 ?pk_aIc2 ?pk_tIc2 ?pk_lIc2 ?pk_qIc2 ?pk_xkIc3 ?pk_xLIc3 ?pk_nbIc3 ?pk_aIc3 ?pk_tIc3 ?pk_lIc3 ?pk_qIc3 ?pk_xkIc5 ?pk_xLIc5 ?pk_nbIc5 ?pk_aIc5 ?pk_tIc5 ?pk_lIc5 ?pk_qIc5 ?pk_xkIc6 ?pk_xLIc6 ?pk_nbIc6 ?pk_aIc6 ?pk_tIc6 ?pk_lIc6 ?pk_qIc6 ?pk_xkIc4 ?pk_xLIc4 ?pk_nbIc4 ?pk_aIc4 ?pk_tIc4 ?pk_lIc4 ?pk_qIc4 ?pk_xk0 ?pk_xk1 ?pk_xi0 ?pk_xi1 ?pk_z0 ?pk_z1 ?pk_z2 ?pk_z3 ?pk_z4 ?pk_z5 ?pk_z6 ?pk_z7 ?pk_z8 ?pk_z9 ?pk_z10 ?pk_z11 ?pk_z12 ?pk_z13 ?pk_z14 ?pk_z15 ?pk_z16 ?pk_z17 ?pk_z18 ?pk_z19 ?pk_z20 ?pk_cMOST_LETTERS ?pk_cMOST_SIGNS ?pk_cPERCENT ?pk_cLEAST_ANSWERS ?pk_cMOST_ANSWERS ?pk_cMOST_QUESTIONS ?pk_gCQ ?pk_cbCQ ?pk_gCB ?pk_cbCB ?pk_ktBQ ?pk_neCB ?pk_aQI ?pk_hQI ?pk_lQI ?pk_qQI ?pk_kQI ?pk_lTQI ?pk_yzQI_3 ?pk_ykQI ?pk_aQE ?pk_hQE ?pk_lQE ?pk_qQE ?pk_kQE ?pk_aBI ?pk_hBI ?pk_lBI ?pk_qBI ?pk_kBI ?pk_lTBI ?pk_ykBI ?pk_aBE ?pk_hBE ?pk_lBE ?pk_qBE ?pk_kBE ?pk_aBL ?pk_hBL ?pk_lBL ?pk_qBL ?pk_kBL ?pk_aBK ?pk_hBK ?pk_lBK ?pk_qBK ?pk_kBK ?pk_aBA ?pk_hBA ?pk_lBA ?pk_qBA ?pk_kBA ?pk_aBP ?pk_hBP ?pk_lBP ?pk_qBP ?pk_kBP ?pk_aBX ?pk_hBX ?pk_lBX ?pk_qBX ?pk_kBX ?pk_aBN ?pk_hBN ?pk_lBN ?pk_qBN ?pk_kBN ?pk_aBJ ?pk_hBJ ?pk_lBJ ?pk_qBJ ?pk_kBJ ?pk_aBO ?pk_hBO ?pk_lBO ?pk_qBO ?pk_kBO ?pk_aBQ ?pk_hBQ ?pk_lBQ ?pk_qBQ ?pk_kBQ ?pk_aBD ?pk_hBD ?pk_lBD ?pk_qBD ?pk_kBD ?pk_aBM ?pk_hBM ?pk_lBM ?pk_qBM ?pk_kBM ?pk_aBT ?pk_hBT ?pk_lBT ?pk_qBT ?pk_kBT ?pk_lTBT ?pk_yzBT_0 ?pk_ykBT ?pk_a1 ?pk_l1 ?pk_q1 ?pk_k1 ?pk_a2 ?pk_l2 ?pk_q2 ?pk_k2 ?pk_lT2 ?pk_a3 ?pk_l3 ?pk_q3 ?pk_k3 ?pk_a4 ?pk_l4 ?pk_q4 ?pk_k4 ?pk_a5 ?pk_l5 ?pk_q5 ?pk_k5 ?pk_a6 ?pk_l6 ?pk_q6 ?pk_k6 ?pk_a7 ?pk_l7 ?pk_q7 ?pk_k7 ?pk_a8 ?pk_l8 ?pk_q8 ?pk_k8 ?pk_aBR ?pk_hBR ?pk_lBR ?pk_qBR ?pk_kBR ?pk_aBU ?pk_hBU ?pk_lBU ?pk_qBU ?pk_kBU ?pk_aBV ?pk_hBV ?pk_lBV ?pk_qBV ?pk_kBV ?pk_a9 ?pk_l9 ?pk_q9 ?pk_k9 ?pk_aBZ ?pk_hBZ ?pk_lBZ ?pk_qBZ ?pk_kBZ ?pk_aBF ?pk_hBF ?pk_lBF ?pk_qBF ?pk_kBF ?pk_lTBF ?pk_yzBF_0 ?pk_yzBF_3 ?pk_ykBF ?pk_aBY ?pk_hBY ?pk_lBY ?pk_qBY ?pk_kBY ?pk_lTBY ?pk_ykBY ?pk_aBTw ?pk_hBTw ?pk_lBTw ?pk_qBTw ?pk_kBTw ?pk_a10 ?pk_l10 ?pk_q10 ?pk_k10 ?pk_a11 ?pk_l11 ?pk_q11 ?pk_k11 ?pk_a12 ?pk_l12 ?pk_q12 ?pk_k12 ?pk_a13 ?pk_l13 ?pk_q13 ?pk_k13 ?pk_a14 ?pk_l14 ?pk_q14 ?pk_k14 ?pk_a15 ?pk_l15 ?pk_q15 ?pk_k15 ?pk_a16 ?pk_l16 ?pk_q16 ?pk_k16 ?pk_a17 ?pk_l17 ?pk_q17 ?pk_k17 ?pk_a18 ?pk_l18 ?pk_q18 ?pk_k18 ?pk_a19 ?pk_l19 ?pk_q19 ?pk_k19 ?pk_a20 ?pk_l20 ?pk_q20 ?pk_k20 ?pk_a21 ?pk_l21 ?pk_q21 ?pk_k21 ?pk_a22 ?pk_l22 ?pk_q22 ?pk_k22 ?pk_a23 ?pk_l23 ?pk_q23 ?pk_k23 ?pk_a24 ?pk_l24 ?pk_q24 ?pk_k24 ?pk_a25 ?pk_l25 ?pk_q25 ?pk_k25 ?pk_a26 ?pk_l26 ?pk_q26 ?pk_k26 ?pk_z21 ?pk_z22 ?pk_z23
    (case pk_e6 => k_is)
    (case pk_e7 => k_is)
    (case pk_gcB => k_is)
    (case pk_gcE => k_is)
    (case pk_gc0 => k_is)
    (case pk_gc1 => k_is)
    (case pk_gc2 => k_is)
    (case pk_gc3 => k_is)
    (case pk_gc4 => k_is)
    (case pk_gc5 => k_is)
    (case pk_gc6 => k_is)
    (case pk_xkIcE => kernel_rfl)
    (case pk_xLIcE => k_is)
    (case pk_nbIcE => k_is)
    (case pk_aIcE => k_is)
    (case pk_tIcE => k_is)
    (case pk_lIcE => k_is)
    (case pk_qIcE => k_is)
    (case pk_xkIc2 => kernel_rfl)
    (case pk_xLIc2 => k_is)
    (case pk_nbIc2 => k_is)
    (case pk_aIc2 => k_is)
    (case pk_tIc2 => k_is)
    (case pk_lIc2 => k_is)
    (case pk_qIc2 => k_is)
    (case pk_xkIc3 => kernel_rfl)
    (case pk_xLIc3 => k_is)
    (case pk_nbIc3 => k_is)
    (case pk_aIc3 => k_is)
    (case pk_tIc3 => k_is)
    (case pk_lIc3 => k_is)
    (case pk_qIc3 => k_is)
    (case pk_xkIc5 => kernel_rfl)
    (case pk_xLIc5 => k_is)
    (case pk_nbIc5 => k_is)
    (case pk_aIc5 => k_is)
    (case pk_tIc5 => k_is)
    (case pk_lIc5 => k_is)
    (case pk_qIc5 => k_is)
    (case pk_xkIc6 => kernel_rfl)
    (case pk_xLIc6 => k_is)
    (case pk_nbIc6 => k_is)
    (case pk_aIc6 => k_is)
    (case pk_tIc6 => k_is)
    (case pk_lIc6 => k_is)
    (case pk_qIc6 => k_is)
    (case pk_xkIc4 => kernel_rfl)
    (case pk_xLIc4 => k_is)
    (case pk_nbIc4 => k_is)
    (case pk_aIc4 => k_is)
    (case pk_tIc4 => k_is)
    (case pk_lIc4 => k_is)
    (case pk_qIc4 => k_is)
    (case pk_xk0 => kernel_rfl)
    (case pk_xk1 => kernel_rfl)
    (case pk_xi0 => kernel_rfl)
    (case pk_xi1 => kernel_rfl)
    (case pk_z0 => k_is)
    (case pk_z1 => k_is)
    (case pk_z2 => k_is)
    (case pk_z3 => k_is)
    (case pk_z4 => k_is)
    (case pk_z5 => k_is)
    (case pk_z6 => k_is)
    (case pk_z7 => k_is)
    (case pk_z8 => k_is)
    (case pk_z9 => k_is)
    (case pk_z10 => k_is)
    (case pk_z11 => k_is)
    (case pk_z12 => k_is)
    (case pk_z13 => k_is)
    (case pk_z14 => k_is)
    (case pk_z15 => k_is)
    (case pk_z16 => k_is)
    (case pk_z17 => k_is)
    (case pk_z18 => k_is)
    (case pk_z19 => k_is)
    (case pk_z20 => k_is)
    (case pk_cMOST_LETTERS => k_is)
    (case pk_cMOST_SIGNS => k_is)
    (case pk_cPERCENT => k_is)
    (case pk_cLEAST_ANSWERS => k_is)
    (case pk_cMOST_ANSWERS => k_is)
    (case pk_cMOST_QUESTIONS => k_is)
    (case pk_gCQ => k_is)
    (case pk_cbCQ => kernel_rfl)
    (case pk_gCB => k_is)
    (case pk_cbCB => kernel_rfl)
    (case pk_ktBQ => kernel_rfl)
    (case pk_neCB => k_is)
    (case pk_aQI => k_is)
    (case pk_hQI => k_is)
    (case pk_lQI => k_is)
    (case pk_qQI => k_is)
    (case pk_kQI => k_is)
    (case pk_lTQI => k_is)
    (case pk_yzQI_3 => decide +kernel)
    (case pk_ykQI => rfl)
    (case pk_aQE => k_is)
    (case pk_hQE => k_is)
    (case pk_lQE => k_is)
    (case pk_qQE => k_is)
    (case pk_kQE => k_is)
    (case pk_aBI => k_is)
    (case pk_hBI => k_is)
    (case pk_lBI => k_is)
    (case pk_qBI => k_is)
    (case pk_kBI => k_is)
    (case pk_lTBI => k_is)
    (case pk_ykBI => rfl)
    (case pk_aBE => k_is)
    (case pk_hBE => k_is)
    (case pk_lBE => k_is)
    (case pk_qBE => k_is)
    (case pk_kBE => k_is)
    (case pk_aBL => k_is)
    (case pk_hBL => k_is)
    (case pk_lBL => k_is)
    (case pk_qBL => k_is)
    (case pk_kBL => k_is)
    (case pk_aBK => k_is)
    (case pk_hBK => k_is)
    (case pk_lBK => k_is)
    (case pk_qBK => k_is)
    (case pk_kBK => k_is)
    (case pk_aBA => k_is)
    (case pk_hBA => k_is)
    (case pk_lBA => k_is)
    (case pk_qBA => k_is)
    (case pk_kBA => k_is)
    (case pk_aBP => k_is)
    (case pk_hBP => k_is)
    (case pk_lBP => k_is)
    (case pk_qBP => k_is)
    (case pk_kBP => k_is)
    (case pk_aBX => k_is)
    (case pk_hBX => k_is)
    (case pk_lBX => k_is)
    (case pk_qBX => k_is)
    (case pk_kBX => k_is)
    (case pk_aBN => k_is)
    (case pk_hBN => k_is)
    (case pk_lBN => k_is)
    (case pk_qBN => k_is)
    (case pk_kBN => k_is)
    (case pk_aBJ => k_is)
    (case pk_hBJ => k_is)
    (case pk_lBJ => k_is)
    (case pk_qBJ => k_is)
    (case pk_kBJ => k_is)
    (case pk_aBO => k_is)
    (case pk_hBO => k_is)
    (case pk_lBO => k_is)
    (case pk_qBO => k_is)
    (case pk_kBO => k_is)
    (case pk_aBQ => k_is)
    (case pk_hBQ => k_is)
    (case pk_lBQ => k_is)
    (case pk_qBQ => k_is)
    (case pk_kBQ => k_is)
    (case pk_aBD => k_is)
    (case pk_hBD => k_is)
    (case pk_lBD => k_is)
    (case pk_qBD => k_is)
    (case pk_kBD => k_is)
    (case pk_aBM => k_is)
    (case pk_hBM => k_is)
    (case pk_lBM => k_is)
    (case pk_qBM => k_is)
    (case pk_kBM => k_is)
    (case pk_aBT => k_is)
    (case pk_hBT => k_is)
    (case pk_lBT => k_is)
    (case pk_qBT => k_is)
    (case pk_kBT => k_is)
    (case pk_lTBT => k_is)
    (case pk_yzBT_0 => decide +kernel)
    (case pk_ykBT => rfl)
    (case pk_a1 => k_is)
    (case pk_l1 => k_is)
    (case pk_q1 => k_is)
    (case pk_k1 => k_is)
    (case pk_a2 => k_is)
    (case pk_l2 => k_is)
    (case pk_q2 => k_is)
    (case pk_k2 => k_is)
    (case pk_lT2 => k_is)
    (case pk_a3 => k_is)
    (case pk_l3 => k_is)
    (case pk_q3 => k_is)
    (case pk_k3 => k_is)
    (case pk_a4 => k_is)
    (case pk_l4 => k_is)
    (case pk_q4 => k_is)
    (case pk_k4 => k_is)
    (case pk_a5 => k_is)
    (case pk_l5 => k_is)
    (case pk_q5 => k_is)
    (case pk_k5 => k_is)
    (case pk_a6 => k_is)
    (case pk_l6 => k_is)
    (case pk_q6 => k_is)
    (case pk_k6 => k_is)
    (case pk_a7 => k_is)
    (case pk_l7 => k_is)
    (case pk_q7 => k_is)
    (case pk_k7 => k_is)
    (case pk_a8 => k_is)
    (case pk_l8 => k_is)
    (case pk_q8 => k_is)
    (case pk_k8 => k_is)
    (case pk_aBR => k_is)
    (case pk_hBR => k_is)
    (case pk_lBR => k_is)
    (case pk_qBR => k_is)
    (case pk_kBR => k_is)
    (case pk_aBU => k_is)
    (case pk_hBU => k_is)
    (case pk_lBU => k_is)
    (case pk_qBU => k_is)
    (case pk_kBU => k_is)
    (case pk_aBV => k_is)
    (case pk_hBV => k_is)
    (case pk_lBV => k_is)
    (case pk_qBV => k_is)
    (case pk_kBV => k_is)
    (case pk_a9 => k_is)
    (case pk_l9 => k_is)
    (case pk_q9 => k_is)
    (case pk_k9 => k_is)
    (case pk_aBZ => k_is)
    (case pk_hBZ => k_is)
    (case pk_lBZ => k_is)
    (case pk_qBZ => k_is)
    (case pk_kBZ => k_is)
    (case pk_aBF => k_is)
    (case pk_hBF => k_is)
    (case pk_lBF => k_is)
    (case pk_qBF => k_is)
    (case pk_kBF => k_is)
    (case pk_lTBF => k_is)
    (case pk_yzBF_0 => decide +kernel)
    (case pk_yzBF_3 => decide +kernel)
    (case pk_ykBF => rfl)
    (case pk_aBY => k_is)
    (case pk_hBY => k_is)
    (case pk_lBY => k_is)
    (case pk_qBY => k_is)
    (case pk_kBY => k_is)
    (case pk_lTBY => k_is)
    (case pk_ykBY => rfl)
    (case pk_aBTw => k_is)
    (case pk_hBTw => k_is)
    (case pk_lBTw => k_is)
    (case pk_qBTw => k_is)
    (case pk_kBTw => k_is)
    (case pk_a10 => k_is)
    (case pk_l10 => k_is)
    (case pk_q10 => k_is)
    (case pk_k10 => k_is)
    (case pk_a11 => k_is)
    (case pk_l11 => k_is)
    (case pk_q11 => k_is)
    (case pk_k11 => k_is)
    (case pk_a12 => k_is)
    (case pk_l12 => k_is)
    (case pk_q12 => k_is)
    (case pk_k12 => k_is)
    (case pk_a13 => k_is)
    (case pk_l13 => k_is)
    (case pk_q13 => k_is)
    (case pk_k13 => k_is)
    (case pk_a14 => k_is)
    (case pk_l14 => k_is)
    (case pk_q14 => k_is)
    (case pk_k14 => k_is)
    (case pk_a15 => k_is)
    (case pk_l15 => k_is)
    (case pk_q15 => k_is)
    (case pk_k15 => k_is)
    (case pk_a16 => k_is)
    (case pk_l16 => k_is)
    (case pk_q16 => k_is)
    (case pk_k16 => k_is)
    (case pk_a17 => k_is)
    (case pk_l17 => k_is)
    (case pk_q17 => k_is)
    (case pk_k17 => k_is)
    (case pk_a18 => k_is)
    (case pk_l18 => k_is)
    (case pk_q18 => k_is)
    (case pk_k18 => k_is)
    (case pk_a19 => k_is)
    (case pk_l19 => k_is)
    (case pk_q19 => k_is)
    (case pk_k19 => k_is)
    (case pk_a20 => k_is)
    (case pk_l20 => k_is)
    (case pk_q20 => k_is)
    (case pk_k20 => k_is)
    (case pk_a21 => k_is)
    (case pk_l21 => k_is)
    (case pk_q21 => k_is)
    (case pk_k21 => k_is)
    (case pk_a22 => k_is)
    (case pk_l22 => k_is)
    (case pk_q22 => k_is)
    (case pk_k22 => k_is)
    (case pk_a23 => k_is)
    (case pk_l23 => k_is)
    (case pk_q23 => k_is)
    (case pk_k23 => k_is)
    (case pk_a24 => k_is)
    (case pk_l24 => k_is)
    (case pk_q24 => k_is)
    (case pk_k24 => k_is)
    (case pk_a25 => k_is)
    (case pk_l25 => k_is)
    (case pk_q25 => k_is)
    (case pk_k25 => k_is)
    (case pk_a26 => k_is)
    (case pk_l26 => k_is)
    (case pk_q26 => k_is)
    (case pk_k26 => k_is)
    (case pk_z21 => k_is)
    (case pk_z22 => k_is)
    (case pk_z23 => k_is)
