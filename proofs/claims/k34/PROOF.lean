import PyProof.Rows.All
import Wide.All
import OpenK.AllK
import Wide.FinOn
import KE.KTryMore
import HandS.Base
import HandS.Call
import HandS.List
import HandS.Exc
import HandS.Text
import HandS.ForMost
import HandS.ForExc
import HandS.Defaults
import KE.KExcInit
import KE.KExcIs
import HandS.ExcIs
import HandS.IsInst
import HandS.Walk
import HandS.Strs
import PyProof.StrLawsRepr
import HandS.StrMore
import PyProof.Rows.StrCut
import HandS.Comp
import HandS.OwnEq
import HandS.More
import PyProof.InstNe
import HandS.Deep
import PyProof.Rows.SortStrRead
import PyProof.Rows.StrMeet
import PyProof.Rows.SortStr
import PyProof.FString5
import KE.KCallOwn
import HandS.FStr
import PyProof.ExcClass
import HandS.ExcInit
import HandS.ExcValue
import PyProof.ReprRoads
import PyProof.CallStr
import PyProof.CallFns
import PyProof.FitsInt
import HandS.Dict
import KE.KEqDict
import HandS.Iter
import HandS.WordsDict
import HandS.MakeKwOnly
import HandS.Style
import KE.KRevSl
import PyProof.NeKinds
import HandS.DeepEq
import HandS.Star
import HandS.SortInts
import KE.SortKeyHeap
import HandS.SortKw
import KE.SortCalls
import PyProof.TupleOfSeq
import HandS.TupAny
import HandS.Set
import HandS.SetFor
import HandS.MakeKw
import HandS.Zip
import HandS.SetKeys
import KE.GoesEnum
import KE.GoesMore
import HandS.Lambda
import HandS.EndBits
import HandS.EndTab
import HandS.EndOwn
import KE.KNestM
import PySem.Challenge.RW_paperkin_k34_apart_and_left_over
set_option Elab.async false
set_option linter.all false
set_option maxRecDepth 100000
set_option maxHeartbeats 4000000
namespace Pk
open PySem PySem.Spec PyProof.Rows L2
open PySem.W (Looks Frag exmOne exmAny)
/-! ### a text, so many times -/
theorem op_times {X : Cx} : OpR X (binaryOp .Mult) (fun x y H Q => ∃ z n, x = .str z ∧ y = .int n ∧ MulOk z n ∧ Q (.str (Txt.mul z n)) H) := by
  rintro pins s σ H x y v u Q I rx ry ⟨z, n, ex, ey, ok, q⟩
  subst ex ey
  obtain ⟨t1, rfl⟩ := rx
  obtain ⟨t2, rfl⟩ := ry
  exact SB.mul ok fun t3 k => ⟨.str (Txt.mul z n), H, I.tok k, ⟨t3, rfl⟩, q⟩
/-! ### except (A, B, ..): the tuple's classes, one after the other -/
section
variable {M : Model} {K : Frag} {h : Heap}
theorem looks_every {β : Type} {cs : List Value} {b0 : β} {f : Value → β → Sem (ForInStep β)} (hf : ∀ c ∈ cs, Looks M h (f c b0) (.yield b0)) : Looks M h (forIn cs b0 f) b0 := by
  induction cs with
  | nil =>
    rw [List.forIn_nil]
    exact .now
  | cons c r ih =>
    rw [List.forIn_cons]
    exact (hf c List.mem_cons_self).andThen (ih fun d hd => hf d (List.mem_cons_of_mem _ hd))
theorem looks_first {β : Type} {b0 b1 : β} {f : Value → β → Sem (ForInStep β)} {g : Value → Bool} : ∀ {cs : List Value}, (∀ c ∈ cs, Looks M h (f c b0) (if g c = true then .done b1 else .yield b0)) → Looks M h (forIn cs b0 f) (if cs.any g = true then b1 else b0)
  | [], _ => by
    rw [List.forIn_nil]
    exact .now
  | c :: r, hf => by
    rw [List.forIn_cons]
    have h1 := hf c List.mem_cons_self
    have h2 := looks_first (cs := r) fun d hd => hf d (List.mem_cons_of_mem _ hd)
    rw [List.any_cons]
    cases hg : g c with
    | true =>
      rw [hg] at h1
      exact h1.andThen .now
    | false =>
      rw [hg] at h1
      rw [Bool.false_or]
      exact h1.andThen h2
theorem exm_all {cls : Value} : ∀ {cs : List Value} {b : Bool}, exmAny K cls cs = some b → ∀ c ∈ cs, exmOne K cls c = some ((exmOne K cls c).getD false)
  | [], _, _, _, hc => by cases hc
  | d :: r, b, e, c, hc => by
    obtain ⟨b1, d1, x1, y1, _⟩ := PySem.W.exmAny_cons e
    rcases List.mem_cons.mp hc with q | q
    · subst q
      rw [x1]
      rfl
    · exact exm_all y1 c q
theorem exm_any {cls : Value} : ∀ {cs : List Value} {b : Bool}, exmAny K cls cs = some b → b = cs.any fun c => (exmOne K cls c).getD false
  | [], b, e => (Option.some.inj e).symm
  | d :: r, b, e => by
    obtain ⟨b1, d1, x1, y1, z⟩ := PySem.W.exmAny_cons e
    rw [List.any_cons, x1, ← exm_any y1, z]
    rfl
/-- an exception held against a tuple of classes, however many -/
theorem exm_tuple {cls : Value} {cs : List Value} {tp e : Addr} {b : Bool} {n : Nat} {ot : Obj} (X : K.In h) (LT : Looks M h (typeOf (.ref e)) cls) (hp : h.get? tp = some ot) (hc : ot.cls = .type "tuple") (hd : ot.data = .seq cs.toArray n) (hx : exmAny K cls cs = some b) :
    Looks M h (excMatches (.ref e) (.ref tp)) b := by
  have LT0 : Looks M h (isInstance (.ref tp) (.type "tuple")) true := ((Looks.ld hp).andThen (by rw [hc]; exact .now)).andThen (Looks.of_pure isSubtype_tuple_tuple)
  have LS : Looks M h (seqItems? (.ref tp)) (some cs.toArray) := fun A Q E s k q => wpAny_seqItems (k _ _ hp) hd q
  have hall := exm_all hx
  have hany := exm_any hx
  unfold excMatches
  refine LT0.andThen ?_
  dsimp only
  rw [if_pos rfl]
  refine LS.andThen (Looks.andThen (a := cs) (by rw [Option.getD_some, List.toList_toArray]; exact .now) ?_)
  refine (looks_every (b0 := PUnit.unit) fun c hc => ?_).andThen ?_
  · refine (PySem.W.exm_cls X (hall c hc)).1.andThen ?_
    exact .now
  · refine LT.andThen ?_
    refine (looks_first (b0 := ((none, ()) : Option Bool × Unit)) (b1 := (some true, ())) (g := fun c => (exmOne K cls c).getD false) fun c hc => ?_).andThen ?_
    · refine (PySem.W.exm_cls X (hall c hc)).2.andThen ?_
      cases (exmOne K cls c).getD false with
      | true => exact .now
      | false => exact .now
    · rw [← hany]
      cases b with
      | true => exact .now
      | false => exact .now
end

/-! ### a caught exception that is kept -/
/-- an exception that was caught and is held as a value at a: its class, its own dict -/
def ExH (cls : Value) (d : Option Addr) (a : Addr) : HO := .ext fun h => ∃ (oe : Obj) (vs : Array Value), h.get? a = some oe ∧ Zc cls d oe ∧ oe.data = .fields vs
section
variable {X : Cx} {pins : List (Addr × Obj)} {σ : L2.St} {H : Hp} {s : Shared}
theorem held_ok {P : Program} {w : World} {h : Heap} {a : Addr} {cls : Value} {d : Option Addr} {oe : Obj} {vs : Array Value} (e : h.get? a = some oe) (z : Zc cls d oe) (hv : oe.data = .fields vs) : ObjOk P w H h a (ExH cls d a) :=
  ⟨⟨oe, vs, e, z, hv⟩, ⟨oe, e⟩, fun _ _ ⟨o, v, q, r⟩ k => ⟨o, v, k o q, r⟩⟩
/-- what was pinned is tracked -/
theorem inv_hold {a : Addr} {oe : Obj} {vs : Array Value} {cls : Value} {d : Option Addr} (J : Inv X ((a, oe) :: pins) σ H s) (z : Zc cls d oe) (hv : oe.data = .fields vs)
    (n0 : ∀ b o, X.s_0.heap.get? b = some o → b ∉ X.ex → b ≠ a) (nc : ∀ x c, X.env.cells.lookup x = some c → c ≠ a) (np : ∀ p ∈ X.pn ++ pins, p.1 ≠ a) : Inv X pins σ (upd H a (ExH cls d a)) s := by
  obtain ⟨ea, na, aL, aF, _⟩ := J.pin (a, oe) (List.mem_append_right _ List.mem_cons_self)
  have ne : ∀ {b : Addr} {o : HO}, H b = some o → b ≠ a := fun {b o} q => ne_of_none q na
  refine ⟨J.ok, J.os, J.bare, ⟨J.base.keep, J.base.slot, ?_, J.base.there, ?_, ?_, ?_⟩, J.loc, J.cell, ?_, ?_, ?_, ?_, J.len⟩
  · intro b o e n hx
    rw [upd_ne (n0 b o e hx)]
    exact J.base.free b o e n hx
  · intro b xs e
    have q := J.base.tups b xs e
    rw [upd_ne (ne q)]
    exact q
  · intro b o u e
    have q := J.base.frzs b o u e
    rw [upd_ne (ne q)]
    exact q
  · intro b ps e
    obtain ⟨m, q⟩ := J.base.tbls b ps e
    exact ⟨m, by rw [upd_ne (ne q)]; exact q⟩
  · rw [upd_ne (Ne.symm aL)]
    exact J.free
  · intro x c e
    rw [upd_ne (nc x c e)]
    exact J.freeC x c e
  · intro p hp
    have hq : p ∈ X.pn ++ (a, oe) :: pins := by
      rcases List.mem_append.mp hp with q | q
      · exact List.mem_append_left _ q
      · exact List.mem_append_right _ (List.mem_cons_of_mem _ q)
    obtain ⟨e, n, r⟩ := J.pin p hq
    exact ⟨e, by rw [upd_ne (np p hp)]; exact n, r⟩
  · intro b u e
    by_cases hb : b = a
    · subst hb
      rw [upd_same] at e
      cases e
      exact held_ok ea z hv
    · rw [upd_ne hb] at e
      exact (J.hok b u e).stay (fun _ _ _ q => q) (fun c q => by rw [upd_ne (ne q)]; exact q) fun c xs q => by rw [upd_ne (ne q)]; exact q
end
/-- what 'except (A, B, ..) as n: suite' wishes of an exception of the body, where the suite may keep it: behind the suite it is tracked -/
def wHeld (K : Frag) (cs : List Value) (i : Nat) (ts : Addr → Value → Option Addr → TS) (Wout : WX) (D : Ends) : WX := fun cls d σ H =>
  ∃ b, exmAny K cls cs = some b ∧
    (b = true → ∀ a, H a = none → ts a cls d { nx := fun σ' H' => H' a = none → D.nx (σ'.set i none) (upd H' a (ExH cls d a)), rt := fun _ _ => False, bk := fun _ _ => False, ct := fun _ _ => False } (σ.set i (some (.ref a))) H) ∧
    (b = false → Wout cls d σ H)
/-- the names of a written tuple of classes -/
inductive NamesAll (X : Cx) : List Expr → List Value → Prop
  | nil : NamesAll X [] []
  | cons {x : Str} {c : Value} {np : Pos} {es : List Expr} {cs : List Value} (hg : Gl X x) (hd : (x == ("__debug__" : Str)) = false) (hm : X.mg x = some c) (r : NamesAll X es cs) : NamesAll X (.Name x np :: es) (c :: cs)
section
variable {X : Cx} {n : Str} {cs : List Value} {es : List Expr} {i kk : Nat} {body suite : List Stmt} {b₀ : Stmt} {tpos pos pos' : Pos} {tb : WX → TS} {ts : Addr → Value → Option Addr → TS} {Wout : WX}
/-- the tuple of the clause is laid, nothing else is done -/
theorem names_run {a : Addr} {pn : List (Addr × Obj)} {σ : L2.St} {H : Hp} {s : Shared} {pins : List (Addr × Obj)} {E : Value → Shared → Prop} (S : Inv (X.suite a pn) pins σ H s) : ∀ {es : List Expr} {cs : List Value}, NamesAll X es cs → ∀ {Q : List Value → Shared → Prop}, Q cs s →
    wpAny (model X.prog X.w) (X.A.mark (some (.ref a))) (spliced (backTo tpos (starEach es X.env))) Q E s
  | _, _, .nil, Q, q => wpAny_items_nil q
  | _, _, .cons hg hd hm r, Q, q => wpAny_items_cons (ld_glob (X := X.suite a pn) S hg hm (names_run S r q) hd)
theorem names_len : ∀ {es : List Expr} {cs : List Value}, NamesAll X es cs → cs.length = es.length
  | _, _, .nil => rfl
  | _, _, .cons _ _ _ r => by rw [List.length_cons, List.length_cons, names_len r]
theorem flying_more {B : Heap} {l : List Env} {a : Addr} {Z : Obj → Prop} {h h' : Heap} (k : ∀ b o, h.get? b = some o → h'.get? b = some o) (f : HandSPX.FlyingZ B l a Z h) : HandSPX.FlyingZ B l a Z h' := by
  obtain ⟨f1, f2, f3, oe, vs, T, oT, tts, e1, e2, e3, e4, e5, e6, e7, e8⟩ := f
  exact ⟨fun b o q => k b o (f1 b o q), f2, f3.of_keeps fun b o q _ => ⟨o, k b o q, rfl⟩, oe, vs, T, oT, tts, k _ _ e1, e2, e3, e4, e5, e6, k _ _ e7, e8⟩
theorem ps_try_held (hs : X.stack = X.env :: X.outer) (hf : X.env.frame = some X.env.locals) (hN : X.N.Nodup) (hi : X.N[i]? = some n) (hln : X.env.kindOf n = some .local) (hc : NamesAll X es cs) (hz : es.length ≤ 1000) (tk : Takes X Wout)
    (hb : ∀ (W : WX) (pn : List (Addr × Obj)) (xe : Value → Shared → Prop), Takes (X.tr pn xe) W → PassesOwn (model X.prog X.w) X.A X.env xe → PSs (X.tr pn xe) body (tb W))
    (hsu : ∀ (a : Addr) (oe : Obj) (cls : Value) (d : Option Addr) (pn : List (Addr × Obj)), Zc cls d oe → (∃ vs, oe.data = .fields vs) → PSs (X.suite a ((a, oe) :: pn)) (b₀ :: suite) (ts a cls d)) :
    PS X (.Try body [.ExceptHandler (some (.Tuple es kk tpos)) (some n) (b₀ :: suite) pos'] [] [] pos) (fun D σ H => tb (wHeld X.K cs i ts Wout D) D σ H) := by
  constructor
  intro pins s σ H D I h
  have ok := I.ok
  have hfr : X.A.frames = some (X.env :: X.outer) := ok.frames.trans (congrArg some hs)
  refine wpAny_Try_except ?_
  have body_ := hb (wHeld X.K cs i ts Wout D) (X.pn ++ pins) (fun e s₁ => wpAny (model X.prog X.w) X.A (noteFrame e X.env) (fun _ s₂ => wpAny (model X.prog X.w) X.A (setFlight e none)
    (fun _ s₃ => wpAny (model X.prog X.w) X.A (handleBy e X.env [.ExceptHandler (some (.Tuple es kk tpos)) (some n) (b₀ :: suite) pos']) (SP X pins D) X.xe s₃) X.xe s₂) X.xe s₁) ?caught PassesOwn.looking
  refine wpAny_mono (body_.run [] s σ H D (I.toTry _) h) ?through fun e s1 he => he
  case through =>
    intro f s1 hsp
    cases f with
    | next =>
      obtain ⟨σ', H', J', q⟩ := hsp
      exact wpAny_execs_nil ⟨σ', H', J'.ofTry ok, q⟩
    | brk =>
      obtain ⟨σ', H', J', q⟩ := hsp
      exact ⟨σ', H', J'.ofTry ok, q⟩
    | cont =>
      obtain ⟨σ', H', J', q⟩ := hsp
      exact ⟨σ', H', J'.ofTry ok, q⟩
    | ret u =>
      obtain ⟨v, σ', H', J', r, q⟩ := hsp
      exact ⟨v, σ', H', J'.ofTry ok, r, q⟩
  case caught =>
    rintro u s' ⟨a, B, sI, pins', σ', H', cls, d, rfl, J', nb, up, sky, na, os, ag, b, hb1, hyes, hno⟩
    have J : Inv X pins σ' H' sI := J'.ofTry ok
    rw [hs] at sky
    show wpAny (model X.prog X.w) X.A (noteFrame (.ref a) X.env) _ _ _
    refine Sky.land Zc.steady hfr hf sky fun h3 fl3 up3 => ?_
    obtain ⟨oe3, vs3, he3, hz3, hd3⟩ := fl3.there
    -- where the exception stands: in no frame, new
    have nfr : a ∉ frs (X.env :: X.outer) := fun hm => by
      obtain ⟨_, o', e', hnf⟩ := fl3.2.2.1.mem hm
      rw [he3] at e'
      cases e'
      exact hnf _ hd3
    have nL : a ≠ X.env.locals := fun z => nfr (List.mem_filterMap.mpr ⟨X.env, List.mem_cons_self, by rw [hf, z]⟩)
    have nF : a ∉ X.fs := fun hm => by
      obtain ⟨e, he, q⟩ := List.mem_filterMap.mp hm
      exact nfr (List.mem_filterMap.mpr ⟨e, List.mem_cons_of_mem _ he, q⟩)
    have new : sI.heap.get? a = none := by
      cases q : sI.heap.get? a with
      | none => rfl
      | some o =>
        have z := nb a o q (by rw [hs]; exact nfr)
        rw [fl3.2.1] at z
        cases z
    have ne_ : ∀ {b : Addr} {o : Obj}, sI.heap.get? b = some o → b ≠ a := fun {b o} q z => by
      rw [z, new] at q
      cases q
    have n0 : ∀ b o, X.s_0.heap.get? b = some o → b ∉ X.ex → b ≠ a := fun b o e hx => by
      obtain ⟨o', q⟩ := J.base.there b o e hx
      exact ne_ q
    have nc : ∀ x c, X.env.cells.lookup x = some c → c ≠ a := fun x c e => by
      obtain ⟨v, o, q, _⟩ := J.cell x c e
      exact ne_ q
    have np : ∀ p ∈ X.pn ++ pins, p.1 ≠ a := fun p hp => ne_ (J.pin p hp).1
    have J3 : Inv X pins σ' H' { s' with heap := h3 } := J.landed nb fl3.1 (up.trans up3) os ag
    have S3 := J3.suite he3 hd3 na nL nF
    refine wpAny_handleBy_cons (codeAny_handlers_test ?_) (by intro q; cases q)
    -- the tuple
    refine wpAny_Tuple (names_run S3 hc ⟨by rw [names_len hc]; exact Nat.le_trans hz (by decide), ?_⟩)
    have kp : ∀ q o, h3.get? q = some o → (h3.push { cls := .type "tuple", data := .seq cs.toArray }).get? q = some o := fun _ _ z => Heap.get?_push_of_some _ z
    have fl5 := flying_more kp fl3
    have up5 : sI.heap.UpToSlots (h3.push { cls := .type "tuple", data := .seq cs.toArray }) := (up.trans up3).trans (.of_keeps kp)
    generalize hh5 : h3.push { cls := .type "tuple", data := .seq cs.toArray } = h5 at kp fl5 up5
    have htp : h5.get? h3.objs.size = some { cls := .type "tuple", data := .seq cs.toArray } := by
      rw [← hh5]
      exact Heap.get?_push_size h3 rfl
    have J5 : Inv X pins σ' H' { s' with heap := h5 } := J.landed nb fl5.1 up5 os ag
    have LT : Looks (model X.prog X.w) h5 (typeOf (.ref a)) cls := fun A Q E s k q => wpAny_typeOf_ref (k _ _ (kp _ _ he3)) (by rw [hz3.1]; exact q)
    refine (exm_tuple J5.kIn LT htp rfl rfl hb1).here ?_
    cases b with
    | true =>
      refine codeAny_handlers_suite_as ?_
      refine HandSPX.lands_againZ fl5 fun h4 fl4 up4 => ?_
      have J4 : Inv X pins σ' H' { s' with heap := h4 } := J.landed nb fl4.1 (up5.trans up4) os ag
      obtain ⟨oe4, vs4, he4, hz4, hd4⟩ := fl4.there
      have S4 := J4.suite he4 hd4 na nL nF
      refine store_ok (X := X.suite a ((a, oe4) :: (X.pn ++ pins))) (v := .ref a) S4 hN hi (.inl hln) rfl (fun s5 S5 => ?_) (.inr hln)
      refine wpAny_mono ((hsu a oe4 cls d (X.pn ++ pins) hz4 ⟨_, hd4⟩).run [] s5 _ H' _ S5 (hyes rfl a na)) (fun f s6 hsp => ?_) fun _ _ z => False.elim z
      cases f with
      | next =>
        obtain ⟨σ6, H6, S6, q6⟩ := hsp
        have U6 : Inv X ((a, oe4) :: pins) σ6 H6 s6 := ⟨ok, S6.os, S6.bare, S6.base, S6.loc, S6.cell, S6.free, S6.freeC, fun p hp => S6.pin p (by
          rw [List.append_nil]
          rcases List.mem_append.mp hp with q | q
          · exact List.mem_cons_of_mem _ (List.mem_append_left _ q)
          · rcases List.mem_cons.mp q with q | q
            · rw [q]
              exact List.mem_cons_self
            · exact List.mem_cons_of_mem _ (List.mem_append_right _ q)), S6.hok, S6.len⟩
        refine gone_ok U6 hN hi hln fun s7 J7 => ?_
        have na7 := (J7.pin (a, oe4) (List.mem_append_right _ List.mem_cons_self)).2.1
        exact ⟨_, _, inv_hold J7 hz4 hd4 n0 nc np, q6 na7⟩
      | brk =>
        obtain ⟨σ6, H6, S6, q6⟩ := hsp
        exact q6.elim
      | cont =>
        obtain ⟨σ6, H6, S6, q6⟩ := hsp
        exact q6.elim
      | ret u =>
        obtain ⟨v6, σ6, H6, S6, r6, q6⟩ := hsp
        exact q6.elim
    | false =>
      show wpAny _ X.A (handleBy (.ref a) X.env []) _ _ _
      refine wpAny_handleBy_nil ?_
      obtain ⟨k1, k2, k3, oe, vs, T, oT, tts, he, hz, hd, h1, hr⟩ := id fl5
      unfold PySem.passOn
      refine wpAny_bind (wpAny_field he hd h1 ?_)
      rw [if_neg (show ¬ ((Value.ref T == Value.none) = true) from by simp)]
      have fin : wpAny (model X.prog X.w) X.A (setFlight (.ref a) X.env.frame) (fun _ s4 => wpAny (model X.prog X.w) X.A (throw (.ref a) : Sem Flow) (SP X pins D) X.xe s4) X.xe { s' with heap := h5 } := by
        rw [hf]
        refine HandSPX.setFlight_upZ fl5 fun h4 hh4 up4 => wpAny_throw (tk _ _ ?_)
        exact ⟨a, B, sI, pins, σ', H', cls, d, rfl, J, nb, up5.trans up4, .inr (.inr (by rw [hs]; exact hh4)), na, os, ag, hno rfl⟩
      first
        | exact wpAny_bind (wpAny_pure (wpAny_bind fin))
        | exact wpAny_bind fin
end
end Pk
/-! Defs that are called while nothing is being shown (no repr runs around them): for repr of lists. -/
namespace Pk
open PySem PySem.Spec PyProof.Rows L2
/-- nothing is being shown around -/
def Calm (A : Around) : Prop := A.guards = some []
/-- a def's promise, where nothing is being shown around its call -/
structure FnG (P : Program) (w : World) (K : PySem.W.Frag) (mg : Str → Option Value) (base : Heap) (CX : CXT) (k : Nat) (f : Addr) (fd : FuncData) (ps : List Str) (sp : Sp) : Prop where
  size : ∀ vs H Q E, sp vs H Q E → vs.length = ps.length
  go : ∀ (A : Around), Calm A → Room k A → ∀ (outer : List Env) (s : Shared) (H : Hp) (args : Args) (us : List Value) (vs : List V) (Q : VK) (E : XK), Env0 P w K mg base A outer s H →
    BindsTo s fd args (ps.zip us) → Vals vs us → sp vs H Q E → codeAny (model P w) A (.call (.ref f) args) (CR CX outer P w H s Q E) s
section
variable {P : Program} {w : World} {K : PySem.W.Frag} {mg : Str → Option Value} {base : Heap} {CX : CXT} {k : Nat} {f : Addr} {fd : FuncData} {ps : List Str} {sp : Sp}
theorem FnG.of (F : FnOk P w K mg base CX k f fd ps sp) : FnG P w K mg base CX k f fd ps sp := ⟨F.len, fun A _ hr outer s H args us vs Q E e0 hb r h => F.run A outer s H args us vs Q E hr e0 hb r h⟩
/-- a def by its body -/
theorem fnG_of {name qual : Str} {params : Arguments} {body : List Stmt} {scope : Scope} {dV kV doc pm cdv ct oc : Value} {an od : Option Addr} {osl : Array (Option Value)} {N : List Str}
    (lk : K.lookup f = some ⟨oc, od, .func (PySem.W.fnOf name qual params body scope dV kV doc pm an cdv ct), osl⟩) (hcd : PySem.W.codeIn K cdv qual = true) (S : FnScope N ps scope) (size : ∀ vs H Q E, sp vs H Q E → vs.length = ps.length)
    (hbody : ∀ (A : Around), Calm A → ∀ (outer : List Env) (s : Shared) (H : Hp) (vs : List V) (Q : VK) (E : XK), Room k (A.deeper (envOfC qual scope s.heap.objs.size f cdv)) → sp vs H Q E →
      ∃ t, PSs (cxOf CX P w K mg base N qual scope f cdv A outer s H E) body t ∧ t { nx := fun _ H' => Q .non H', rt := Q } (start N vs) H) :
    FnG P w K mg base CX (k + 1) f (PySem.W.fnOf name qual params body scope dV kV doc pm an cdv ct) ps sp := by
  refine ⟨size, ?_⟩
  intro A calm hr outer s H args us vs Q E e0 hb r hsp
  have keep := fun b o e => (e0.bs b o e).1
  have KX := e0.mod.kin.keeps keep
  obtain ⟨t, ht, hq⟩ := hbody A calm outer s H vs Q E (hr.deeper _) hsp
  refine codeAny_call_function hr.depth (KX _ _ lk) rfl S.co S.gen rfl (PySem.W.codeRec_of KX hcd) (hb _ _ _ _ (wpAny_newFunctionEnv_cells S.kind ?kinds ?inside))
  case kinds =>
    rintro ⟨n, v⟩ hy
    rcases S.par n (List.of_mem_zip hy).1 with q | q
    · exact .inl q
    · exact .inr ⟨q, PySem.W.cellsFrom_some _ _ _ (.inl q)⟩
  case inside =>
    rintro env rfl s1 x
    refine ⟨(e0.mod.nolimit.keeps keep).keeps x.toInCall.keep, codeAny_func ?_⟩
    have I := inv_start (CX := CX) (E := E) S hr.hd e0 (size _ _ _ _ hsp) r x
    refine wpAny_mono (ht.run [] s1 (start N vs) H _ I hq) ?_ fun e s' hs => hs
    intro fl s' hs
    cases fl with
    | ret u =>
      obtain ⟨v, σ', H', J, rv, q⟩ := hs
      exact ⟨v, H', J.os, J.bare, J.base, J.hok, rv, q⟩
    | next =>
      obtain ⟨σ', H', J, q⟩ := hs
      exact ⟨.non, H', J.os, J.bare, J.base, J.hok, rfl, q⟩
    | brk =>
      obtain ⟨_, _, _, q⟩ := hs
      exact q.elim
    | cont =>
      obtain ⟨_, _, _, q⟩ := hs
      exact q.elim
/-- as Fun.ok -/
theorem okG {x qual : Str} {st : Stmt} {N : List Str} (F : Fun K x qual st f fd) (S : FnScope N ps (defScope st)) (size : ∀ vs H Q E, sp vs H Q E → vs.length = ps.length)
    (hbody : ∀ (cdv : Value) (A : Around), Calm A → ∀ (outer : List Env) (s : Shared) (H : Hp) (vs : List V) (Q : VK) (E : XK), Room k (A.deeper (envOfC qual (defScope st) s.heap.objs.size f cdv)) → sp vs H Q E →
      ∃ t, PSs (cxOf CX0 P w K mg base N qual (defScope st) f cdv A outer s H E).nox (defBody st) t ∧ t { nx := fun _ H' => Q .non H', rt := Q } (start N vs) H) : FnG P w K mg base CX0 (k + 1) f fd ps sp := by
  obtain ⟨oc, od, kV, doc, pm, an, cdv, ct, osl, rfl, lk, hcd⟩ := F.ex
  refine fnG_of lk hcd S size ?_
  intro A calm outer s H vs Q E hr hsp
  obtain ⟨t, h, q⟩ := hbody cdv A calm outer s H vs Q E hr hsp
  exact ⟨t, h.nox, q⟩
end
/-! ### calls of such defs -/
section
variable {X : Cx} {CX : CXT} {k : Nat} {f : Addr} {fd : FuncData} {ps ks : List Str} {sp : Sp} {E : XK} {x : Str} {p pos : Pos} {e : Expr} {es : List Expr} {t tk : TA} {ds : List Value} {dvs : List V}
theorem runG {pins : List (Addr × Obj)} {σ : L2.St} {H : Hp} {s : Shared} {Q : VK} {us : List Value} {vs : List V} (F : FnG X.prog X.w X.K X.mg X.base CX k f fd ps sp) (calm : Calm X.A) (hr : Room k X.A) (hb : Binds X.K fd ps ds) (hd : Vals dvs ds) (hx : Passes CX X E)
    (I : L2.Inv X pins σ H s) (r : Vals vs us) (h : sp (vs ++ dvs) H Q E) : wpAny (model X.prog X.w) X.A (call (.ref f) us) (EP X pins σ Q) X.xe s := by
  have r2 := r.append hd
  have hl : (us ++ ds).length = ps.length := r2.length.symm.trans (F.size _ _ _ _ h)
  refine wpAny_call (codeAny_mono (F.go X.A calm hr X.stack s H ⟨us, []⟩ (us ++ ds) (vs ++ dvs) Q E I.env0 (hb s us I.kIn hl) r2 h) ?_)
  intro r s' hq
  match r, hq with
  | .error e, hq => exact hx pins σ H s e s' I hq
  | .ok (.ret u), hq => exact I.after hq
  | .ok .next, hq => exact hq.elim
  | .ok .brk, hq => exact hq.elim
  | .ok .cont, hq => exact hq.elim
theorem pe_callG (F : FnG X.prog X.w X.K X.mg X.base CX k f fd ps sp) (calm : Calm X.A) (hr : Room k X.A) (hg : Gl X x) (hm : X.mg x = some (.ref f)) (hk : PySem.W.keepIn X.K (.ref f) = true) (hb : Binds X.K fd ps ds) (hd : Vals dvs ds) (hx : Passes CX X E)
    (ha : PA X (e :: es) t) (hdb : (x == ("__debug__" : Str)) = false := by decide) (he : starEach (e :: es) X.env = (false, eval e X.env) :: starEach es X.env := by rfl) (hpl : (backTo pos (starEach es X.env)).any (·.1) = false := by rfl) :
    PE X (.Call (.Name x p) (e :: es) [] pos) (tCall sp dvs E t) := by
  constructor
  intro pins s σ H Q I h
  refine wpAny_Call_Name_kw (ld_glob I hg hm (PySem.W.callWith_K (h₀ := X.base) I.ok.mod.kin hk (thn (ha.run pos pins s σ H _ I h) ?_) he hpl) hdb)
  rintro us s1 ⟨vs, H1, I1, r, q⟩
  exact ⟨I1.kIn, runG F calm hr hb hd hx I1 r q⟩
theorem pe_call0G (F : FnG X.prog X.w X.K X.mg X.base CX k f fd ps sp) (calm : Calm X.A) (hr : Room k X.A) (hg : Gl X x) (hm : X.mg x = some (.ref f)) (hk : PySem.W.keepIn X.K (.ref f) = true) (hb : Binds X.K fd ps ds) (hd : Vals dvs ds) (hx : Passes CX X E)
    (hdb : (x == ("__debug__" : Str)) = false := by decide) : PE X (.Call (.Name x p) [] [] pos) (tCall sp dvs E tNil) := by
  constructor
  intro pins s σ H Q I h
  refine wpAny_Call_Name_kw (ld_glob I hg hm ?_ hdb)
  exact PySem.W.callWith_K0 I.kIn hk (runG (us := []) (vs := []) F calm hr hb hd hx I .nil h)
end
/-! ### repr -/
section
variable {X : Cx}
/-- data as it is shown: of texts, numbers, truths, None, lists and tuples; or an empty dict; or a text and an empty dict in a tuple -/
inductive Dq (K : PySem.W.Frag) (H : Hp) : V → PyData → Prop
  | of {v : V} {d : PyData} (h : Dp K H v d) (n : d.hasDict = false) : Dq K H v d
  | emp {a : Addr} (h : H a = some (.dK [])) : Dq K H (.ref a) (.dict [])
  | tupE {p a : Addr} {x : Str} (h : H p = some (.tup [.str x, .ref a])) (h2 : H a = some (.dK [])) : Dq K H (.ref p) (.tuple [.str x, .dict []])
/-- repr(x) -/
def rShow (K : PySem.W.Frag) : List V → Hp → VK → Prop := fun xs H Q => ∃ x d, xs = [x] ∧ Dq K H x d ∧ d.showable = true ∧ d.depth ≤ 64 ∧ d.shown.length ≤ sizeLine ∧ Q (.str d.shown) H
theorem call_show (calm : Calm X.A) (hu : X.A.units + 70 < cLine) : CallR X (.builtin "repr") (rShow X.K) := by
  rintro pins s σ H xs us Q I r ⟨x, d, rfl, hd, hs, hdep, hsz, q⟩
  obtain ⟨u, rfl, rx⟩ := vals1 r
  have leaf : ∀ {t k : Nat}, EP X pins σ Q (.str d.shown t) { s with toks := k } := fun {t k} => ⟨.str d.shown, H, I.tok _, ⟨_, rfl⟩, q⟩
  have big : ∀ {a : Addr} {as : List Addr}, u = .ref a → Reads s.heap (.ref a) d as → (d.hasDict = true → sysModules ∉ as) → wpAny (model X.prog X.w) X.A (call (.builtin "repr") [u]) (EP X pins σ Q) X.xe s := by
    intro a as e rd nd
    subst e
    exact repr_of_reads' rd hs nd calm (by omega) (fun _ _ z => z) (fun h' t tk keep => ⟨.str d.shown, H, I.kept keep, ⟨_, rfl⟩, q⟩) hsz
  cases hd with
  | of h n =>
    obtain ⟨as, rd⟩ := Dp.reads I d x u h rx
    cases h with
    | non =>
      cases rx
      exact P.repr_of_none leaf
    | bl b =>
      cases rx
      exact P.repr_of_bool leaf
    | int i =>
      obtain ⟨t, rfl⟩ := rx
      exact P.repr_of_int (of_decide_eq_true hs) leaf
    | str y =>
      obtain ⟨t, rfl⟩ := rx
      exact P.repr_of_str leaf hsz
    | lst h1 h2 =>
      cases rx
      exact big rfl rd fun z => by rw [n] at z; cases z
    | tup h1 h2 =>
      cases rx
      exact big rfl rd fun z => by rw [n] at z; cases z
  | @emp a h =>
    cases rx
    obtain ⟨_, ns, vs, kv, o, es, ep, h1, h2, h3, h4⟩ := I.hok a _ h
    cases kv
    have e0 : es.toList = [] := by
      have z := h4.2.1
      cases hes : es.toList with
      | nil => rfl
      | cons e r =>
        rw [hes] at z
        cases z
    have rd : Reads s.heap (.ref a) (.dict []) (a :: [] ++ []) := .dict h1 h2.1 h3 (by rw [e0]; exact .nil) (by rw [e0]; exact .nil)
    refine big rfl rd fun _ hm => ?_
    rw [List.append_nil, List.mem_singleton] at hm
    rw [hm, beq_self_eq_true] at ns
    cases ns
  | @tupE p a x h g =>
    cases rx
    obtain ⟨its, rv, ⟨op, hop, hcp, np, hdp⟩, _⟩ := I.tuple (SqT.of h)
    obtain ⟨_, ns, vs, kv, o, es, ep, h1, h2, h3, h4⟩ := I.hok a _ g
    cases kv
    have e0 : es.toList = [] := by
      have z := h4.2.1
      cases hes : es.toList with
      | nil => rfl
      | cons e r =>
        rw [hes] at z
        cases z
    have rd : Reads s.heap (.ref a) (.dict []) (a :: [] ++ []) := .dict h1 h2.1 h3 (by rw [e0]; exact .nil) (by rw [e0]; exact .nil)
    cases rv with
    | cons r1 r2 =>
      obtain ⟨t, rfl⟩ := r1
      cases r2 with
      | cons r3 r4 =>
        cases r3
        cases r4
        refine big rfl (.tuple hop hcp hdp (ReadsAll.cons (Reads.str x t) (ReadsAll.cons rd ReadsAll.nil))) fun _ hm => ?_
        simp only [List.append_nil, List.nil_append, List.mem_singleton] at hm
        rw [hm, beq_self_eq_true] at ns
        cases ns
end
/-! ### the end: the law is called while nothing is being shown -/
section
variable {P : Program} {w : World} {K : PySem.W.Frag} {mg mb : Str → Option Value} {k : Nat} {fa a : Addr} {fd : FuncData} {x : Str} {sp : Sp} {s : Shared} {vs : List Value} {ns : List Int}
/-- at the law's call at most the script is tracked -/
theorem lawG_at (H : Hp) (only : Only H) (just : ∀ b, H b ≠ none → b = a) (apart : H a ≠ none → K.lookup a = none) (hok : HOk P w H s.heap) (kin : K.In s.heap) (gl : s.heap.Ns mainGlobals mg) (bl : s.heap.Ns builtinsNs mb) (bb : ∀ x : Str, x ≠ "__name__" → mb x = bootBuiltins x)
    (lim : s.heap.NoLimit) (gens : s.gens = #[]) (obj : s.heap.get? a = some { cls := .type "list", data := .seq vs.toArray }) (room : Room k callerA) (F : ∀ base : Heap, K.In base → base.Ns mainGlobals mg → FnG P w K mg base CX0 k fa fd [x] sp)
    (bind : ∀ (s : Shared) (u : Value), BindsTo s fd ⟨[u], []⟩ [(x, u)]) (hsp : sp [.ref a] H (fun v _ => v = .bl true) fun _ _ _ => False) :
    codeAny (model P w) callerA (.call (.ref fa) ⟨[.ref a], []⟩) (fun r s' => r = .ok (.ret (.bool true)) ∧ OldK s.heap s'.heap ∧ s'.os = s.os ∧ AllBare s'.gens) s := by
  have at_a : ∀ {b : Addr} {u : HO}, H b = some u → b = a := fun {b u} q => just b (by rw [q]; exact fun z => nomatch z)
  have untracked : ∀ {b : Addr} {o : Obj} {es : Array DictEntry} {n : Nat}, s.heap.get? b = some o → o.data = .dict es n → H b = none := by
    intro b o es n e d
    cases q : H b with
    | none => rfl
    | some u =>
      rw [at_a q, obj] at e
      cases e
      cases d
  have names : ∀ {b : Addr} {m : Str → Option Value}, s.heap.Ns b m → (hidT s.heap H).Ns b m := by
    rintro b m ⟨o, es, n, e, d, r⟩
    exact ⟨o, es, n, hidT_get e (untracked e d), d, r⟩
  have kin' : K.In (hidT s.heap H) := by
    intro b o e
    refine hidT_get (kin b o e) ?_
    cases q : H b with
    | none => rfl
    | some u =>
      have z := apart (by rw [← at_a q, q]; exact fun z => nomatch z)
      rw [at_a q, z] at e
      cases e
  obtain ⟨mc, lm, lv⟩ := lim
  have md : Mod K mg (hidT s.heap H) := ⟨kin', names gl, ⟨mb, names bl, bb⟩, ⟨mc, names lm, lv⟩⟩
  have env : Env0 P w K mg (hidT s.heap H) callerA [] s H := ⟨rfl, md, fun b o e => of_hidT e, Nat.le_of_eq (hidT_size _ _), trivial, (fun b hb => by cases hb), hok, AllBare.of_eq gens⟩
  refine codeAny_mono ((F _ kin' (names gl)).go callerA rfl room [] s H ⟨[.ref a], []⟩ [.ref a] [.ref a] _ _ env (bind s (.ref a)) (.cons rfl .nil) hsp) ?_
  intro r s' h
  match r, h with
  | .error e, h => exact h.elim
  | .ok .next, h => exact h.elim
  | .ok .brk, h => exact h.elim
  | .ok .cont, h => exact h.elim
  | .ok (.ret u), ⟨v, H', os, bare, un, hok', rv, q⟩ =>
    have q' : v = .bl true := q
    subst q'
    cases (show u = Value.bool true from rv)
    refine ⟨rfl, OldK.of_keep fun b o e => ?_, os, bare⟩
    rcases only b with z | ⟨ob, xs, z⟩
    · exact un.keep b o e z (fun m => by cases m) (fun m => by cases m)
    · have e1 := (hok b _ z).1
      have e2 := (hok' b _ (un.frzs b ob _ z)).1
      rw [e] at e1
      cases e1
      exact e2
theorem lawG_call (kin : K.In s.heap) (gl : s.heap.Ns mainGlobals mg) (bl : s.heap.Ns builtinsNs mb) (bb : ∀ x : Str, x ≠ "__name__" → mb x = bootBuiltins x) (lim : s.heap.NoLimit) (gens : s.gens = #[]) (obj : s.heap.get? a = some { cls := .type "list", data := .seq vs.toArray })
    (hin : IntsAre vs ns) (short : ns.length ≤ sizeLine) (room : Room k callerA) (F : ∀ base : Heap, K.In base → base.Ns mainGlobals mg → FnG P w K mg base CX0 k fa fd [x] sp) (bind : ∀ (s : Shared) (u : Value), BindsTo s fd ⟨[u], []⟩ [(x, u)])
    (hsp : ∀ H : Hp, SqL K H a (ns.map V.int) → sp [.ref a] H (fun v _ => v = .bl true) fun _ _ _ => False) :
    codeAny (model P w) callerA (.call (.ref fa) ⟨[.ref a], []⟩) (fun r s' => r = .ok (.ret (.bool true)) ∧ OldK s.heap s'.heap ∧ s'.os = s.os ∧ AllBare s'.gens) s := by
  have rv := vals_ints hin
  have len := hin.length
  cases hk : K.lookup a with
  | some o =>
    have e := kin a o hk
    rw [obj] at e
    cases e
    refine lawG_at (fun _ => none) (fun _ => .inl rfl) (fun b z => absurd rfl z) (fun z => absurd rfl z) (fun b u z => by cases z) kin gl bl bb lim gens obj room F bind (hsp _ (.inr ?_))
    exact ⟨_, vs.toArray, _, hk, rfl, rfl, rfl, by rw [List.size_toArray, len]; exact short, by simpa using rv⟩
  | none =>
    let ob : Obj := { cls := .type "list", data := .seq vs.toArray }
    have at_ : ∀ {b : Addr} {u : HO}, upd (fun _ => none) a (.frz ob (.lst (ns.map V.int))) b = some u → b = a ∧ u = .frz ob (.lst (ns.map V.int)) := by
      intro b u e
      by_cases hb : b = a
      · subst hb
        rw [upd_same] at e
        cases e
        exact ⟨rfl, rfl⟩
      · rw [upd_ne hb] at e
        cases e
    refine lawG_at (upd (fun _ => none) a (.frz ob (.lst (ns.map V.int)))) (fun b => ?_) (fun b z => ?_) (fun _ => hk) (fun b u e => ?_) kin gl bl bb lim gens obj room F bind (hsp _ (.inl (.inr ⟨ob, upd_same⟩)))
    · by_cases hb : b = a
      · rw [hb]
        exact .inr ⟨ob, ns.map V.int, upd_same⟩
      · exact .inl (upd_ne hb)
    · cases q : upd (fun _ => none) a (.frz ob (.lst (ns.map V.int))) b with
      | none => exact absurd q z
      | some u => exact (at_ q).1
    · obtain ⟨rfl, rfl⟩ := at_ e
      exact ⟨obj, by rw [List.length_map]; exact short, vs, _, rv, obj⟩
end
theorem walkG {l : PySem.W.OpenLaw} {n k : Nat} {q : Program} {loose : List Str} {XP : (Str → Option Value) → Heap → Prop} {YP : World → Heap → Prop} {d : DefRec} {K : Params → PySem.W.Frag} {sp : PySem.W.Frag → Sp} {x : Str} (hn : l.most = some n) (hn2 : n ≤ sizeLine) (hdf : d.params.defaults = []) (hr : Room k callerA)
    (hY : ∀ (w : World) (h : Heap), YP w h → (K w.params).In h)
    (F : ∀ (w : World) (mg : Str → Option Value) (fa : Addr) (h : Heap), (K w.params).In h → h.Ns mainGlobals mg → mg d.name = some (.ref fa) →
      ∃ fd : FuncData, (∀ (s : Shared) (u : Value), BindsTo s fd ⟨[u], []⟩ [(x, u)]) ∧ ∀ base : Heap, (K w.params).In base → base.Ns mainGlobals mg → FnG l.prog w (K w.params) mg base CX0 k fa fd [x] (sp (K w.params)))
    (hsp : ∀ (K : PySem.W.Frag) (H : Hp) (a : Addr) (ns : List Int), ns.length ≤ n → SqL K H a (ns.map V.int) → sp K [.ref a] H (fun v _ => v = .bl true) fun _ _ _ => False) :
    PySem.W.WalkO q loose XP YP l.row.toRowW d [] (fun f vs => PySem.call f vs) := by
  refine Att.attach_call hn hdf ?_
  intro w s₀ s₁ mg mb fa o pm cd doc a vs ns G Y ho hd hcd hmg hobj hints hlen hg
  obtain ⟨fd, hb, hF⟩ := F w mg fa _ (hY w _ Y) G.T.g hmg
  exact lawG_call (hY w _ Y) G.T.g G.T.b G.T.builtins G.T.nolimit hg hobj hints (Nat.le_trans hlen hn2) hr hF hb fun H hS => hsp _ H a ns hlen hS
end Pk
/-! Own errors that keep what they are made of in one field: made, raised, caught, kept, read. -/
namespace Pk
open PySem PySem.Spec PySem.W PySem.Calls PyProof.Rows PySem.HandSPX
open Builtin Builtin.ObjectAttr
/-- what a class's line of ancestors must bear, so that its errors are made and their fields stored -/
structure Line (bm bmB : List Value) : Prop where
  has : ∀ X : String, bm.contains (.type X) = bmB.contains (.type X)
  pass : ∀ self : Value, refuseLoop self "__setattr__" bm = pure ()
  obj : bmB.contains (.type "object") = true
theorem Line.own {bm bmB : List Value} {c : Addr} (l : Line bm bmB) : Line (.ref c :: bm) bmB where
  has := fun X => by
    rw [List.contains_cons, l.has X]
    rfl
  pass := fun self => by
    rw [refuseLoop_ref]
    exact l.pass self
  obj := l.obj
section
variable {prog : Program} {w : World} {A : Around} {E : Value → Shared → Prop} {R : Result → Shared → Prop} {hp : Heap} {g : Array GenState} {d : Drawn} {t : Nat} {os : OsState}
/-- self.name = v on an error that has no dict yet, whatever its built-in base -/
theorem store_err {K : Frag} {name : Str} {tk : Tok} {v : Value} {x C : Addr} {fv : Array Value} {cd : ClassData} {bmB : List Value} (X : K.In hp) (hx : hp.get? x = some { cls := .ref C, data := .fields fv }) (hcd : clsIn K C = some cd) (ln : Line cd.mro bmB) (ne : cd.mro.isEmpty = false)
    (hh : cd.hasDict = true) (ha : findIn K (.ref C) name = some none)
    (hq : ∀ h' tk' dx, (∀ b o, b ≠ x → hp.get? b = some o → h'.get? b = some o) → hp.objs.size ≤ dx → dx ≠ x → h'.get? x = some { cls := .ref C, dict := some dx, data := .fields fv } → h'.Ns1 dx (fun y => if y = name then some v else none) → R (.ok (.ret .none)) ⟨h', g, d, tk', os⟩) :
    codeAny (model prog w) A (.call (.builtin "object.__setattr__") ⟨[.ref x, .str name tk, v], []⟩) R ⟨hp, g, d, t, os⟩ := by
  have I : InstAt hp x { cls := .ref C, data := .fields fv } C none := ⟨hx, rfl, rfl, trivial⟩
  have hob : cd.mro.contains (.type "object") = true := (ln.has "object").trans ln.obj
  have hxs : x ≠ hp.objs.size := Nat.ne_of_lt (Heap.lt_size hx)
  have mro_ : mroIn K C (.type "object") = some true := by
    unfold mroIn
    rw [hcd, Option.bind_some, if_neg (by rw [ne]; exact Bool.false_ne_true), hob]
  have isObj : Looks (model prog w) hp (isInstance (.ref x) (.type "object")) true := I.type.andThen (looks_mroIn X mro_)
  refine codeAny_call_builtin F.store_object.slot.plain F.store_object.entry (@check_slot (model prog w) _ _ ⟨hp, g, d, t, os⟩ "object.__setattr__" "object" "__setattr__" (.ref x) [.str name tk, v] [] _ F.store_object.kind F.store_object.split isObj (F.store_object.args (.ref x) (.str name tk) v) ?_)
  have Lm : Looks (model prog w) hp (mroOf (.ref C)) cd.mro := (looks_clsIn X hcd).andThen .now
  have Lt : Looks (model prog w) hp (storeTaker? none) none := .now
  have Lc : Looks (model prog w) hp (classData C) cd := looks_clsIn X hcd
  rw [osa_eq, refuse_eq]
  refine wpAny_bind (wpAny_bind (I.type.at (wpAny_bind (Lm.at ?_))))
  rw [ln.pass]
  refine wpAny_pure (wpAny_bind (I.type.at (wpAny_bind ((looks_findIn X ha).at (wpAny_bind (Lt.at ?_))))))
  show wpAny _ _ (storeInOwnDict (.ref x) (.ref C) (.str name tk) name v false) _ _ _
  obtain ⟨nm, bs, mro, ns, qn, hd, sn, sb, ab, col, del⟩ := cd
  dsimp only at hh
  subst hh
  unfold storeInOwnDict ownDictForStores
  repeat (first | with_reducible refine store_in_new ?_ ?_ | with_reducible refine wpAny_loadPart_at hx ?_ | with_reducible refine Lc.at ?_ | wp_step)
  · exact ⟨_, #[], _, (Heap.get?_update_ne _ _ _ _ hxs.symm).trans (Heap.get?_push_at rfl rfl), rfl, fun e he => absurd he (by simp), fun _ => rfl⟩
  · intro h' tk' hn' hs
    refine hq h' tk' hp.objs.size ?_ (Nat.le_refl _) hxs.symm ?_ hn'
    · intro b o hb ho
      exact (hs.2 b (Nat.ne_of_lt (Heap.lt_size ho))).trans ((Heap.get?_update_ne _ _ _ _ hb).trans (Heap.get?_push_of_some _ ho))
    · exact (hs.2 x hxs).trans (Heap.get?_update_self _ (Heap.get?_push_of_some _ hx) rfl)
end
theorem one_size (v : Value) : [v].length ≤ sizeLine := by
  rw [sizeLine_eq]
  exact (by decide : 1 ≤ 16777216)
theorem ldC {M : Model} {s : Shared} {name : Str} {scope : Scope} {L a : Addr} {cd : Value} {m : Str → Option Value} {x : Str} {pos : Pos} {v : Value} {Q : Value → Shared → Prop} {A : Around} {E : Value → Shared → Prop} (hn : s.heap.Ns L m) (hv : m x = some v) (h : Q v s)
    (hk : scope.kind = .function := by rfl) (hl : (envOfC name scope L a cd).kindOf x = some .local := by rfl) (hd : (x == ("__debug__" : Str)) = false := by decide) :
    wpAny M A (eval (.Name x pos) (envOfC name scope L a cd)) Q E s := wpAny_Name (wpAny_loadName_local hk hl hn hv h) hd
end Pk
namespace Pk
open PySem PySem.Spec PyProof.Rows L2
/-! ### isinstance of an error that is kept, with a dict of its own or without -/
/-- where the dict of a kept error is tracked, if it has one -/
def DictOk (H : Hp) (d : Option Addr) : Prop := d = none ∨ ∃ (dd : Addr) (fs : List (Str × V)), d = some dd ∧ H dd = some (.xd fs)
def rIsK (K : PySem.W.Frag) : List V → Hp → VK → Prop := fun xs H Q => ∃ (a D : Addr) (d : Option Addr) (c : V) (cv : Value) (b : Bool), xs = [.ref a, c] ∧ H a = some (ExH (.ref D) d a) ∧ DictOk H d ∧ ExcC K D ∧ ClsV c cv ∧ PySem.W.kitOne K (.ref D) cv = some b ∧ Q (.bl b) H
theorem held_at {X : Cx} {pins : List (Addr × Obj)} {σ : L2.St} {H : Hp} {s : Shared} {a D : Addr} {d : Option Addr} (I : L2.Inv X pins σ H s) (hH : H a = some (ExH (.ref D) d a)) (hd : DictOk H d) : ∃ oe od, PySem.W.InstAt s.heap a oe D od ∧ (∀ dd fs, d = some dd → H dd = some (.xd fs) → ∃ o, od = some o ∧ s.heap.get? dd = some o) := by
  obtain ⟨⟨oe, vs, hget, hz, hv⟩, _, _⟩ := I.hok a _ hH
  obtain ⟨oc, odt, oda, osl⟩ := oe
  obtain ⟨h1, h2⟩ := hz
  dsimp only at h1 h2 hv
  subst h1 h2 hv
  rcases hd with rfl | ⟨dd, fs, rfl, hdd⟩
  · exact ⟨_, none, ⟨hget, rfl, rfl, trivial⟩, fun _ _ z => nomatch z⟩
  · obtain ⟨mA, hns, hr⟩ := I.hok dd _ hdd
    obtain ⟨o, ho, _⟩ := lookIn_ns hns
    refine ⟨_, some o, ⟨hget, rfl, rfl, ho⟩, fun dd' fs' e _ => ?_⟩
    cases e
    exact ⟨o, rfl, ho⟩
theorem call_isK {X : Cx} : CallR X (.builtin "isinstance") (rIsK X.K) := by
  rintro pins s σ H xs us Q I r ⟨a, D, d, c, cv, b, rfl, hH, hd, C, hc, e, q⟩
  obtain ⟨u1, u2, rfl, r1, r2⟩ := vals2 r
  cases (show u1 = Value.ref a from r1)
  have ec := hc.eq r2
  subst ec
  obtain ⟨oe, od, J, _⟩ := held_at I hH hd
  have hcl : (PySem.W.clsIn X.K D).isSome = true := by
    have z := C.hd
    unfold PySem.W.hasDictIn at z
    cases hq : PySem.W.clsIn X.K D with
    | none =>
      rw [hq] at z
      cases z
    | some c => rfl
  exact PySem.W.kia_one (PySem.W.kitx_exc hcl C.hg C.hk C.hs C.ha C.hn C.ht C.hm) I.kIn J e (fun z => nomatch z) fun tk => ⟨.bl b, H, I.tok tk, rfl, q⟩
/-! ### errors of the field part -/
namespace Of_part
open PySem.W PySem.Calls PySem.HandSPX
def iA (p1 p2 : Pos) : Arguments := { posonlyargs := [], args := [{ arg := "self", annotation := none, pos := p1 }, { arg := "part", annotation := none, pos := p2 }], vararg := none, kwonlyargs := [], kw_defaults := [], kwarg := none, defaults := [] }
def iB (q1 q2 q3 q4 : Pos) : List Stmt := [.Assign [.Attribute (.Name "self" q1) "part" q2] (.Name "part" q3) q4]
def iS : Scope := { kind := .function, names := [(PySem.Str.ofString "self", .local), (PySem.Str.ofString "part", .local)], isGenerator := false, isCoroutine := false, more := [] }
/-- the class called nm, at C, and its __init__, at fI, as the top has left them -/
structure Tx (K : Frag) (mg : Str → Option Value) (nm ql : Str) (C fI : Addr) (B newId initId : String) (bmB : List Value) : Prop where
  base : ExcBaseFacts B newId initId bmB
  gC : mg nm = some (.ref C)
  cls : ∃ n1 q N bs bm sn sub ab col dd k0 k1 k2 k3 k5, K.lookup C = some (excClassObj n1 q C N bs bm true sn sub ab col dd k0 k1 k2 k3 k5 newId) ∧ Line bm bmB
  sa : findIn K (.ref C) "__setattr__" = some (some (.builtin "object.__setattr__"))
  ex : ExcC K C
  noN : findIn K (.ref C) "part" = some none
  iC : findIn K (.ref C) "__init__" = some (some (.ref fI))
  tC : typeIn K (.ref fI) = some (.type "function")
  kC : keepIn K (.ref C) = true
  tyC : typeIn K (.ref C) = some (.type "type")
  fn : ∃ (oc : Value) (od : Option Addr) (doc pm : Value) (an : Option Addr) (cdv ct : Value) (osl : Array (Option Value)) (p1 p2 q1 q2 q3 q4 : Pos),
    K.lookup fI = some ⟨oc, od, .func (fnOf "__init__" ql (iA p1 p2) (iB q1 q2 q3 q4) iS .none .none doc pm an cdv ct), osl⟩ ∧ codeIn K cdv ql = true
/-- an error made of v, at e, its own dict at d -/
structure Made (h h' : Heap) (e C d : Addr) (v : Value) : Prop where
  keep : ∀ b o, h.get? b = some o → h'.get? b = some o
  new : h.objs.size ≤ e
  obj : ∃ oe vs, h'.get? e = some oe ∧ oe.cls = .ref C ∧ oe.dict = some d ∧ oe.data = .fields vs ∧ vs[1]? = some .none
  dbig : h.objs.size ≤ d
  dne : d ≠ e
  ns : h'.Ns1 d (fun y => if y = "part" then some v else none)
section
variable {prog : Program} {w : World} {A : Around} {E : Value → Shared → Prop} {R : Result → Shared → Prop} {s : Shared} {K : Frag} {mg : Str → Option Value} {nm ql : Str} {C fI : Addr} {B newId initId : String} {bmB : List Value}
theorem made (T : Tx K mg nm ql C fI B newId initId bmB) {v : Value} (X : K.In s.heap) (hlim : s.heap.NoLimit) (hroom : A.depth + 1 < recursionLimit) (hq : ∀ h' tk e d, Made s.heap h' e C d v → R (.ok (.ret (.ref e))) { s with heap := h', toks := tk }) :
    codeAny (model prog w) A (.call (.ref C) ⟨[v], []⟩) R s := by
  obtain ⟨n1, q, N, bs, bm, sn, sub, ab, col, dd, k0, k1, k2, k3, k5, hC, ln⟩ := T.cls
  obtain ⟨oc, od, doc, pm, an, cdv, ct, osl, p1, p2, q1, q2, q3, q4, ho, hcd⟩ := T.fn
  have hcl : clsIn K C = some { name := n1, bases := bs, mro := .ref C :: bm, ns := N, qualname := q, hasDict := true, slotNames := sn, subclasses := sub, abstract := ab, collection := col, hasDel := false } := by
    unfold clsIn
    rw [hC]
  obtain ⟨hp, g, dr, tk, os⟩ := s
  have k : ∀ b o, hp.get? b = some o → ((hp.push (kdv_tup [v])).push (excO C hp.objs.size)).get? b = some o := fun b o e => Heap.get?_push_of_some _ (Heap.get?_push_of_some _ e)
  have hx : ((hp.push (kdv_tup [v])).push (excO C hp.objs.size)).get? (hp.objs.size + 1) = some (excO C hp.objs.size) := by heap_get
  refine call_own T.base ln.has (X _ _ hC) (looks_findIn X T.iC) (fun self => bind_fn X self T.tC) (one_size v) ?_
  have X1 := X.keeps k
  have lim1 : ((hp.push (kdv_tup [v])).push (excO C hp.objs.size)).NoLimit := hlim.keeps k
  have size1 : ((hp.push (kdv_tup [v])).push (excO C hp.objs.size)).objs.size = hp.objs.size + 1 + 1 := by rw [Heap.size_push, Heap.size_push]
  generalize (hp.push (kdv_tup [v])).push (excO C hp.objs.size) = h1 at k hx X1 lim1 size1 ⊢
  refine Att.call_fn (binds := [("self", .ref (hp.objs.size + 1)), ("part", v)]) X1 lim1 ho hcd hroom (BindsTo.of_eq (by first | rfl | with_unfolding_all rfl)) (by first | rfl | decide | with_unfolding_all rfl) (fun s₁ IC => ?_) rfl rfl rfl
  obtain ⟨h₁, tk₁, rfl⟩ := IC.toInCall.same
  have k1' : ∀ b o, h1.get? b = some o → h₁.get? b = some o := IC.toInCall.keep
  have hn := IC.toInCall.ns
  show wpAny _ _ (execs _ _) _ _ _
  refine wpAny_execs_cons (plainObj_wpAny_Assign_Attribute ?_)
  refine ldC (v := v) hn (by first | rfl | with_unfolding_all rfl | kernel_rfl) (ldC (v := .ref (hp.objs.size + 1)) hn (by first | rfl | with_unfolding_all rfl | kernel_rfl) ?_)
  refine set_plain (X1.keeps k1') (ox := excO C hp.objs.size) (od := none) ⟨k1' _ _ hx, rfl, rfl, trivial⟩ T.sa ?_
  refine store_err (X1.keeps k1') (k1' _ _ hx) hcl (bmB := bmB) ln.own rfl rfl T.noN (fun h₃ tk₃ dx k₃ dn dne hx₃ hn₃ => ?_)
  show wpAny _ _ (execs _ _) _ _ _
  have z : h1.objs.size < h₁.objs.size := hn.lt
  have lt_ : ∀ {b : Addr} {o : Obj}, hp.get? b = some o → b ≠ hp.objs.size + 1 := fun {b o} e => Nat.ne_of_lt (Nat.lt_succ_of_lt (Heap.lt_size e))
  refine wpAny_execs_nil ⟨rfl, hq h₃ tk₃ (hp.objs.size + 1) dx ⟨fun b o e => k₃ b o (lt_ e) (k1' b o (k b o e)), Nat.le_succ _, ⟨_, _, hx₃, rfl, rfl, rfl, rfl⟩, ?_, dne, hn₃⟩⟩
  have dn' : h₁.objs.size ≤ dx := dn
  show hp.objs.size ≤ dx
  omega
end
end Of_part
section
variable {X : Cx} {nm ql : Str} {C fI : Addr} {B newId initId : String} {bmB : List Value}
theorem relO_part {v : V} {v' : Value} (r : RelV v v') (f : Str) : RelO (List.lookup f [(("part" : Str), v)]) (if f = "part" then some v' else none) := by
  by_cases hw : f = "part"
  · subst hw
    rw [if_pos rfl]
    have q : List.lookup ("part" : Str) [(("part" : Str), v)] = some v := by simp [List.lookup]
    rw [q]
    exact r
  · rw [if_neg hw]
    have qw : (f == ("part" : Str)) = false := by simpa using hw
    have q2 : List.lookup f [(("part" : Str), v)] = none := by simp [List.lookup, qw]
    rw [q2]
    trivial
/-- nm(e) -/
def tMk_part (C : Addr) (ta : TA) : L2.St → Hp → XK → Prop := fun σ H Q => ta σ H fun vs H1 => ∃ v, vs = [v] ∧ ∀ d, H1 d = none → Q (.ref C) (some d) (upd H1 d (.xd [(("part" : Str), v)]))
theorem pmk_part {a : Expr} {ta : TA} {p pos : Pos} {k : Nat} (T : Of_part.Tx X.K X.mg nm ql C fI B newId initId bmB) (hr : Room k X.A) (ha : PA X [a] ta) (hg : Gl X nm := by rfl) (hdb : (nm == ("__debug__" : Str)) = false := by decide)
    (he : starEach (a :: []) X.env = (false, eval a X.env) :: starEach [] X.env := by rfl) (hpl : (backTo pos (starEach [] X.env)).any (·.1) = false := by rfl) :
    PMk X (.Call (.Name nm p) [a] [] pos) (tMk_part C ta) := by
  intro pins s σ H Q I h
  refine wpAny_Call_Name_kw (ld_glob I hg T.gC ?_ hdb)
  refine PySem.W.callWith_K (h₀ := X.base) I.ok.mod.kin T.kC (thn (ha.run pos pins s σ H _ I h) fun us s1 hh => ?_) he hpl
  obtain ⟨vs, H1, I1, r1, v, ev, q1⟩ := hh
  subst ev
  refine ⟨I1.kIn, ?_⟩
  cases r1 with
  | cons rv rn =>
    rename_i v' us'
    cases rn
    show wpAny _ _ (call (.ref C) [v']) _ _ _
    have hlim := I1.nolimit
    obtain ⟨hp, g, dr, tk, os⟩ := s1
    refine wpAny_call (Of_part.made T I1.kIn hlim (by have := hr.dp; omega) fun h' tk' e d M => ?_)
    show MkP X pins σ Q (.ref e) ⟨h', g, dr, tk', os⟩
    obtain ⟨oe, fv, hoe, hc, hd, hdat, h1⟩ := M.obj
    have hns := M.ns
    obtain ⟨G', g1, g2⟩ := restrict h' fun b => decide (b ≠ e)
    have gk : ∀ b, b ≠ e → G'.get? b = h'.get? b := fun b hb => g1 b (decide_eq_true hb)
    have ge : G'.get? e = none := g2 e (by simp)
    have old : ∀ b o, hp.get? b = some o → G'.get? b = some o := fun b o q => (gk b (Nat.ne_of_lt (Nat.lt_of_lt_of_le (Heap.lt_size q) M.new))).trans (M.keep b o q)
    have ob : ObjOk X.prog X.w (upd H1 d (.xd [(("part" : Str), v)])) G' d (.xd [(("part" : Str), v)]) :=
      ⟨_, hns.at (fun o q => (gk d M.dne).trans q), fun f => relO_part rv f⟩
    have J : L2.Inv X pins σ (upd H1 d (.xd [(("part" : Str), v)])) ⟨G', g, dr, tk', os⟩ := I1.laid (t' := tk') old M.dbig ob
    refine ⟨e, oe, fv, ⟨G', g, dr, tk', os⟩, _, .ref C, some d, rfl, J, fun b o q => ?_, ge, hoe, ⟨hc, hd⟩, hdat, h1, ?_, rfl, I1.bare, raises_own T.ex.hs T.tyC, q1 d (I1.hok.fresh M.dbig)⟩
    · by_cases hb : b = e
      · have q' : G'.get? b = some o := q
        rw [hb, ge] at q'
        cases q'
      · exact (gk b hb).symm.trans q
    · rw [upd_ne (Ne.symm M.dne)]
      exact I1.hok.fresh M.new
/-- raise nm(e) -/
def tRaise_part (C : Addr) (W : WX) (ta : TA) : TS := fun _ σ H => tMk_part C ta σ H fun cls d H' => W cls d σ H'
theorem ps_raise_part {a : Expr} {ta : TA} {W : WX} {p pos pos2 : Pos} {k : Nat} (hc : X.calm = true) (T : Of_part.Tx X.K X.mg nm ql C fI B newId initId bmB) (hr : Room k X.A) (tk : Takes X W) (ha : PA X [a] ta) (hg : Gl X nm := by rfl) (hdb : (nm == ("__debug__" : Str)) = false := by decide)
    (he : starEach (a :: []) X.env = (false, eval a X.env) :: starEach [] X.env := by rfl) (hpl : (backTo pos (starEach [] X.env)).any (·.1) = false := by rfl) :
    PS X (.Raise (some (.Call (.Name nm p) [a] [] pos)) none pos2) (tRaise_part C W ta) := ps_raise hc tk (pmk_part T hr ha hg hdb he hpl)
/-- e.part, e a kept error -/
def tGet_part (K : PySem.W.Frag) (te : TE) : TE := fun σ H Q => te σ H fun x H1 => ∃ (a C dd : Addr) (v : V), x = .ref a ∧ H1 a = some (ExH (.ref C) (some dd) a) ∧ ExcC K C ∧ PySem.W.findIn K (.ref C) "part" = some none ∧ H1 dd = some (.xd [(("part" : Str), v)]) ∧ Q v H1
theorem pe_get_part {e : Expr} {te : TE} {pos : Pos} (he : PE X e te) (hb : attributeBase e "part" X.env (eval e X.env) = eval e X.env := by rfl) : PE X (.Attribute e "part" pos) (tGet_part X.K te) := by
  constructor
  intro pins s σ H Q I h
  refine attr_of hb (thn (he.run pins s σ H _ I h) ?_)
  rintro u s1 ⟨x, H1, I1, rx, a, C, dd, v, rfl, ha, EC, noN, hdd, q⟩
  cases (show u = Value.ref a from rx)
  obtain ⟨oe, od, J, hod⟩ := held_at I1 ha (.inr ⟨dd, _, rfl, hdd⟩)
  obtain ⟨mA, hns, hr⟩ := I1.hok dd _ hdd
  obtain ⟨o, ho, hl⟩ := lookIn_ns hns
  obtain ⟨o', eo, ho'⟩ := hod dd _ rfl hdd
  rw [ho] at ho'
  cases ho'
  subst eo
  have l : List.lookup ("part" : Str) [(("part" : Str), v)] = some v := by simp [List.lookup]
  obtain ⟨u, hu, ru⟩ := RelO.some_of (v := v) (o := mA "part") (by rw [← l]; exact hr "part")
  exact HandSPX.exc_get I1.kIn J EC.hg EC.hk EC.hs (PySem.W.findObj_own EC.hd noN rfl (by rw [hl, hu])) (handed_of ru) ⟨v, H1, I1.tok _, ru, q⟩
end
/-! ### errors of the field wanted -/
namespace Of_wanted
open PySem.W PySem.Calls PySem.HandSPX
def iA (p1 p2 : Pos) : Arguments := { posonlyargs := [], args := [{ arg := "self", annotation := none, pos := p1 }, { arg := "wanted", annotation := none, pos := p2 }], vararg := none, kwonlyargs := [], kw_defaults := [], kwarg := none, defaults := [] }
def iB (q1 q2 q3 q4 : Pos) : List Stmt := [.Assign [.Attribute (.Name "self" q1) "wanted" q2] (.Name "wanted" q3) q4]
def iS : Scope := { kind := .function, names := [(PySem.Str.ofString "self", .local), (PySem.Str.ofString "wanted", .local)], isGenerator := false, isCoroutine := false, more := [] }
/-- the class called nm, at C, and its __init__, at fI, as the top has left them -/
structure Tx (K : Frag) (mg : Str → Option Value) (nm ql : Str) (C fI : Addr) (B newId initId : String) (bmB : List Value) : Prop where
  base : ExcBaseFacts B newId initId bmB
  gC : mg nm = some (.ref C)
  cls : ∃ n1 q N bs bm sn sub ab col dd k0 k1 k2 k3 k5, K.lookup C = some (excClassObj n1 q C N bs bm true sn sub ab col dd k0 k1 k2 k3 k5 newId) ∧ Line bm bmB
  sa : findIn K (.ref C) "__setattr__" = some (some (.builtin "object.__setattr__"))
  ex : ExcC K C
  noN : findIn K (.ref C) "wanted" = some none
  iC : findIn K (.ref C) "__init__" = some (some (.ref fI))
  tC : typeIn K (.ref fI) = some (.type "function")
  kC : keepIn K (.ref C) = true
  tyC : typeIn K (.ref C) = some (.type "type")
  fn : ∃ (oc : Value) (od : Option Addr) (doc pm : Value) (an : Option Addr) (cdv ct : Value) (osl : Array (Option Value)) (p1 p2 q1 q2 q3 q4 : Pos),
    K.lookup fI = some ⟨oc, od, .func (fnOf "__init__" ql (iA p1 p2) (iB q1 q2 q3 q4) iS .none .none doc pm an cdv ct), osl⟩ ∧ codeIn K cdv ql = true
/-- an error made of v, at e, its own dict at d -/
structure Made (h h' : Heap) (e C d : Addr) (v : Value) : Prop where
  keep : ∀ b o, h.get? b = some o → h'.get? b = some o
  new : h.objs.size ≤ e
  obj : ∃ oe vs, h'.get? e = some oe ∧ oe.cls = .ref C ∧ oe.dict = some d ∧ oe.data = .fields vs ∧ vs[1]? = some .none
  dbig : h.objs.size ≤ d
  dne : d ≠ e
  ns : h'.Ns1 d (fun y => if y = "wanted" then some v else none)
section
variable {prog : Program} {w : World} {A : Around} {E : Value → Shared → Prop} {R : Result → Shared → Prop} {s : Shared} {K : Frag} {mg : Str → Option Value} {nm ql : Str} {C fI : Addr} {B newId initId : String} {bmB : List Value}
theorem made (T : Tx K mg nm ql C fI B newId initId bmB) {v : Value} (X : K.In s.heap) (hlim : s.heap.NoLimit) (hroom : A.depth + 1 < recursionLimit) (hq : ∀ h' tk e d, Made s.heap h' e C d v → R (.ok (.ret (.ref e))) { s with heap := h', toks := tk }) :
    codeAny (model prog w) A (.call (.ref C) ⟨[v], []⟩) R s := by
  obtain ⟨n1, q, N, bs, bm, sn, sub, ab, col, dd, k0, k1, k2, k3, k5, hC, ln⟩ := T.cls
  obtain ⟨oc, od, doc, pm, an, cdv, ct, osl, p1, p2, q1, q2, q3, q4, ho, hcd⟩ := T.fn
  have hcl : clsIn K C = some { name := n1, bases := bs, mro := .ref C :: bm, ns := N, qualname := q, hasDict := true, slotNames := sn, subclasses := sub, abstract := ab, collection := col, hasDel := false } := by
    unfold clsIn
    rw [hC]
  obtain ⟨hp, g, dr, tk, os⟩ := s
  have k : ∀ b o, hp.get? b = some o → ((hp.push (kdv_tup [v])).push (excO C hp.objs.size)).get? b = some o := fun b o e => Heap.get?_push_of_some _ (Heap.get?_push_of_some _ e)
  have hx : ((hp.push (kdv_tup [v])).push (excO C hp.objs.size)).get? (hp.objs.size + 1) = some (excO C hp.objs.size) := by heap_get
  refine call_own T.base ln.has (X _ _ hC) (looks_findIn X T.iC) (fun self => bind_fn X self T.tC) (one_size v) ?_
  have X1 := X.keeps k
  have lim1 : ((hp.push (kdv_tup [v])).push (excO C hp.objs.size)).NoLimit := hlim.keeps k
  have size1 : ((hp.push (kdv_tup [v])).push (excO C hp.objs.size)).objs.size = hp.objs.size + 1 + 1 := by rw [Heap.size_push, Heap.size_push]
  generalize (hp.push (kdv_tup [v])).push (excO C hp.objs.size) = h1 at k hx X1 lim1 size1 ⊢
  refine Att.call_fn (binds := [("self", .ref (hp.objs.size + 1)), ("wanted", v)]) X1 lim1 ho hcd hroom (BindsTo.of_eq (by first | rfl | with_unfolding_all rfl)) (by first | rfl | decide | with_unfolding_all rfl) (fun s₁ IC => ?_) rfl rfl rfl
  obtain ⟨h₁, tk₁, rfl⟩ := IC.toInCall.same
  have k1' : ∀ b o, h1.get? b = some o → h₁.get? b = some o := IC.toInCall.keep
  have hn := IC.toInCall.ns
  show wpAny _ _ (execs _ _) _ _ _
  refine wpAny_execs_cons (plainObj_wpAny_Assign_Attribute ?_)
  refine ldC (v := v) hn (by first | rfl | with_unfolding_all rfl | kernel_rfl) (ldC (v := .ref (hp.objs.size + 1)) hn (by first | rfl | with_unfolding_all rfl | kernel_rfl) ?_)
  refine set_plain (X1.keeps k1') (ox := excO C hp.objs.size) (od := none) ⟨k1' _ _ hx, rfl, rfl, trivial⟩ T.sa ?_
  refine store_err (X1.keeps k1') (k1' _ _ hx) hcl (bmB := bmB) ln.own rfl rfl T.noN (fun h₃ tk₃ dx k₃ dn dne hx₃ hn₃ => ?_)
  show wpAny _ _ (execs _ _) _ _ _
  have z : h1.objs.size < h₁.objs.size := hn.lt
  have lt_ : ∀ {b : Addr} {o : Obj}, hp.get? b = some o → b ≠ hp.objs.size + 1 := fun {b o} e => Nat.ne_of_lt (Nat.lt_succ_of_lt (Heap.lt_size e))
  refine wpAny_execs_nil ⟨rfl, hq h₃ tk₃ (hp.objs.size + 1) dx ⟨fun b o e => k₃ b o (lt_ e) (k1' b o (k b o e)), Nat.le_succ _, ⟨_, _, hx₃, rfl, rfl, rfl, rfl⟩, ?_, dne, hn₃⟩⟩
  have dn' : h₁.objs.size ≤ dx := dn
  show hp.objs.size ≤ dx
  omega
end
end Of_wanted
section
variable {X : Cx} {nm ql : Str} {C fI : Addr} {B newId initId : String} {bmB : List Value}
theorem relO_wanted {v : V} {v' : Value} (r : RelV v v') (f : Str) : RelO (List.lookup f [(("wanted" : Str), v)]) (if f = "wanted" then some v' else none) := by
  by_cases hw : f = "wanted"
  · subst hw
    rw [if_pos rfl]
    have q : List.lookup ("wanted" : Str) [(("wanted" : Str), v)] = some v := by simp [List.lookup]
    rw [q]
    exact r
  · rw [if_neg hw]
    have qw : (f == ("wanted" : Str)) = false := by simpa using hw
    have q2 : List.lookup f [(("wanted" : Str), v)] = none := by simp [List.lookup, qw]
    rw [q2]
    trivial
/-- nm(e) -/
def tMk_wanted (C : Addr) (ta : TA) : L2.St → Hp → XK → Prop := fun σ H Q => ta σ H fun vs H1 => ∃ v, vs = [v] ∧ ∀ d, H1 d = none → Q (.ref C) (some d) (upd H1 d (.xd [(("wanted" : Str), v)]))
theorem pmk_wanted {a : Expr} {ta : TA} {p pos : Pos} {k : Nat} (T : Of_wanted.Tx X.K X.mg nm ql C fI B newId initId bmB) (hr : Room k X.A) (ha : PA X [a] ta) (hg : Gl X nm := by rfl) (hdb : (nm == ("__debug__" : Str)) = false := by decide)
    (he : starEach (a :: []) X.env = (false, eval a X.env) :: starEach [] X.env := by rfl) (hpl : (backTo pos (starEach [] X.env)).any (·.1) = false := by rfl) :
    PMk X (.Call (.Name nm p) [a] [] pos) (tMk_wanted C ta) := by
  intro pins s σ H Q I h
  refine wpAny_Call_Name_kw (ld_glob I hg T.gC ?_ hdb)
  refine PySem.W.callWith_K (h₀ := X.base) I.ok.mod.kin T.kC (thn (ha.run pos pins s σ H _ I h) fun us s1 hh => ?_) he hpl
  obtain ⟨vs, H1, I1, r1, v, ev, q1⟩ := hh
  subst ev
  refine ⟨I1.kIn, ?_⟩
  cases r1 with
  | cons rv rn =>
    rename_i v' us'
    cases rn
    show wpAny _ _ (call (.ref C) [v']) _ _ _
    have hlim := I1.nolimit
    obtain ⟨hp, g, dr, tk, os⟩ := s1
    refine wpAny_call (Of_wanted.made T I1.kIn hlim (by have := hr.dp; omega) fun h' tk' e d M => ?_)
    show MkP X pins σ Q (.ref e) ⟨h', g, dr, tk', os⟩
    obtain ⟨oe, fv, hoe, hc, hd, hdat, h1⟩ := M.obj
    have hns := M.ns
    obtain ⟨G', g1, g2⟩ := restrict h' fun b => decide (b ≠ e)
    have gk : ∀ b, b ≠ e → G'.get? b = h'.get? b := fun b hb => g1 b (decide_eq_true hb)
    have ge : G'.get? e = none := g2 e (by simp)
    have old : ∀ b o, hp.get? b = some o → G'.get? b = some o := fun b o q => (gk b (Nat.ne_of_lt (Nat.lt_of_lt_of_le (Heap.lt_size q) M.new))).trans (M.keep b o q)
    have ob : ObjOk X.prog X.w (upd H1 d (.xd [(("wanted" : Str), v)])) G' d (.xd [(("wanted" : Str), v)]) :=
      ⟨_, hns.at (fun o q => (gk d M.dne).trans q), fun f => relO_wanted rv f⟩
    have J : L2.Inv X pins σ (upd H1 d (.xd [(("wanted" : Str), v)])) ⟨G', g, dr, tk', os⟩ := I1.laid (t' := tk') old M.dbig ob
    refine ⟨e, oe, fv, ⟨G', g, dr, tk', os⟩, _, .ref C, some d, rfl, J, fun b o q => ?_, ge, hoe, ⟨hc, hd⟩, hdat, h1, ?_, rfl, I1.bare, raises_own T.ex.hs T.tyC, q1 d (I1.hok.fresh M.dbig)⟩
    · by_cases hb : b = e
      · have q' : G'.get? b = some o := q
        rw [hb, ge] at q'
        cases q'
      · exact (gk b hb).symm.trans q
    · rw [upd_ne (Ne.symm M.dne)]
      exact I1.hok.fresh M.new
/-- raise nm(e) -/
def tRaise_wanted (C : Addr) (W : WX) (ta : TA) : TS := fun _ σ H => tMk_wanted C ta σ H fun cls d H' => W cls d σ H'
theorem ps_raise_wanted {a : Expr} {ta : TA} {W : WX} {p pos pos2 : Pos} {k : Nat} (hc : X.calm = true) (T : Of_wanted.Tx X.K X.mg nm ql C fI B newId initId bmB) (hr : Room k X.A) (tk : Takes X W) (ha : PA X [a] ta) (hg : Gl X nm := by rfl) (hdb : (nm == ("__debug__" : Str)) = false := by decide)
    (he : starEach (a :: []) X.env = (false, eval a X.env) :: starEach [] X.env := by rfl) (hpl : (backTo pos (starEach [] X.env)).any (·.1) = false := by rfl) :
    PS X (.Raise (some (.Call (.Name nm p) [a] [] pos)) none pos2) (tRaise_wanted C W ta) := ps_raise hc tk (pmk_wanted T hr ha hg hdb he hpl)
/-- e.wanted, e a kept error -/
def tGet_wanted (K : PySem.W.Frag) (te : TE) : TE := fun σ H Q => te σ H fun x H1 => ∃ (a C dd : Addr) (v : V), x = .ref a ∧ H1 a = some (ExH (.ref C) (some dd) a) ∧ ExcC K C ∧ PySem.W.findIn K (.ref C) "wanted" = some none ∧ H1 dd = some (.xd [(("wanted" : Str), v)]) ∧ Q v H1
theorem pe_get_wanted {e : Expr} {te : TE} {pos : Pos} (he : PE X e te) (hb : attributeBase e "wanted" X.env (eval e X.env) = eval e X.env := by rfl) : PE X (.Attribute e "wanted" pos) (tGet_wanted X.K te) := by
  constructor
  intro pins s σ H Q I h
  refine attr_of hb (thn (he.run pins s σ H _ I h) ?_)
  rintro u s1 ⟨x, H1, I1, rx, a, C, dd, v, rfl, ha, EC, noN, hdd, q⟩
  cases (show u = Value.ref a from rx)
  obtain ⟨oe, od, J, hod⟩ := held_at I1 ha (.inr ⟨dd, _, rfl, hdd⟩)
  obtain ⟨mA, hns, hr⟩ := I1.hok dd _ hdd
  obtain ⟨o, ho, hl⟩ := lookIn_ns hns
  obtain ⟨o', eo, ho'⟩ := hod dd _ rfl hdd
  rw [ho] at ho'
  cases ho'
  subst eo
  have l : List.lookup ("wanted" : Str) [(("wanted" : Str), v)] = some v := by simp [List.lookup]
  obtain ⟨u, hu, ru⟩ := RelO.some_of (v := v) (o := mA "wanted") (by rw [← l]; exact hr "wanted")
  exact HandSPX.exc_get I1.kIn J EC.hg EC.hk EC.hs (PySem.W.findObj_own EC.hd noN rfl (by rw [hl, hu])) (handed_of ru) ⟨v, H1, I1.tok _, ru, q⟩
end
/-! ### errors of the field at -/
namespace Of_at
open PySem.W PySem.Calls PySem.HandSPX
def iA (p1 p2 : Pos) : Arguments := { posonlyargs := [], args := [{ arg := "self", annotation := none, pos := p1 }, { arg := "at", annotation := none, pos := p2 }], vararg := none, kwonlyargs := [], kw_defaults := [], kwarg := none, defaults := [] }
def iB (q1 q2 q3 q4 : Pos) : List Stmt := [.Assign [.Attribute (.Name "self" q1) "at" q2] (.Name "at" q3) q4]
def iS : Scope := { kind := .function, names := [(PySem.Str.ofString "self", .local), (PySem.Str.ofString "at", .local)], isGenerator := false, isCoroutine := false, more := [] }
/-- the class called nm, at C, and its __init__, at fI, as the top has left them -/
structure Tx (K : Frag) (mg : Str → Option Value) (nm ql : Str) (C fI : Addr) (B newId initId : String) (bmB : List Value) : Prop where
  base : ExcBaseFacts B newId initId bmB
  gC : mg nm = some (.ref C)
  cls : ∃ n1 q N bs bm sn sub ab col dd k0 k1 k2 k3 k5, K.lookup C = some (excClassObj n1 q C N bs bm true sn sub ab col dd k0 k1 k2 k3 k5 newId) ∧ Line bm bmB
  sa : findIn K (.ref C) "__setattr__" = some (some (.builtin "object.__setattr__"))
  ex : ExcC K C
  noN : findIn K (.ref C) "at" = some none
  iC : findIn K (.ref C) "__init__" = some (some (.ref fI))
  tC : typeIn K (.ref fI) = some (.type "function")
  kC : keepIn K (.ref C) = true
  tyC : typeIn K (.ref C) = some (.type "type")
  fn : ∃ (oc : Value) (od : Option Addr) (doc pm : Value) (an : Option Addr) (cdv ct : Value) (osl : Array (Option Value)) (p1 p2 q1 q2 q3 q4 : Pos),
    K.lookup fI = some ⟨oc, od, .func (fnOf "__init__" ql (iA p1 p2) (iB q1 q2 q3 q4) iS .none .none doc pm an cdv ct), osl⟩ ∧ codeIn K cdv ql = true
/-- an error made of v, at e, its own dict at d -/
structure Made (h h' : Heap) (e C d : Addr) (v : Value) : Prop where
  keep : ∀ b o, h.get? b = some o → h'.get? b = some o
  new : h.objs.size ≤ e
  obj : ∃ oe vs, h'.get? e = some oe ∧ oe.cls = .ref C ∧ oe.dict = some d ∧ oe.data = .fields vs ∧ vs[1]? = some .none
  dbig : h.objs.size ≤ d
  dne : d ≠ e
  ns : h'.Ns1 d (fun y => if y = "at" then some v else none)
section
variable {prog : Program} {w : World} {A : Around} {E : Value → Shared → Prop} {R : Result → Shared → Prop} {s : Shared} {K : Frag} {mg : Str → Option Value} {nm ql : Str} {C fI : Addr} {B newId initId : String} {bmB : List Value}
theorem made (T : Tx K mg nm ql C fI B newId initId bmB) {v : Value} (X : K.In s.heap) (hlim : s.heap.NoLimit) (hroom : A.depth + 1 < recursionLimit) (hq : ∀ h' tk e d, Made s.heap h' e C d v → R (.ok (.ret (.ref e))) { s with heap := h', toks := tk }) :
    codeAny (model prog w) A (.call (.ref C) ⟨[v], []⟩) R s := by
  obtain ⟨n1, q, N, bs, bm, sn, sub, ab, col, dd, k0, k1, k2, k3, k5, hC, ln⟩ := T.cls
  obtain ⟨oc, od, doc, pm, an, cdv, ct, osl, p1, p2, q1, q2, q3, q4, ho, hcd⟩ := T.fn
  have hcl : clsIn K C = some { name := n1, bases := bs, mro := .ref C :: bm, ns := N, qualname := q, hasDict := true, slotNames := sn, subclasses := sub, abstract := ab, collection := col, hasDel := false } := by
    unfold clsIn
    rw [hC]
  obtain ⟨hp, g, dr, tk, os⟩ := s
  have k : ∀ b o, hp.get? b = some o → ((hp.push (kdv_tup [v])).push (excO C hp.objs.size)).get? b = some o := fun b o e => Heap.get?_push_of_some _ (Heap.get?_push_of_some _ e)
  have hx : ((hp.push (kdv_tup [v])).push (excO C hp.objs.size)).get? (hp.objs.size + 1) = some (excO C hp.objs.size) := by heap_get
  refine call_own T.base ln.has (X _ _ hC) (looks_findIn X T.iC) (fun self => bind_fn X self T.tC) (one_size v) ?_
  have X1 := X.keeps k
  have lim1 : ((hp.push (kdv_tup [v])).push (excO C hp.objs.size)).NoLimit := hlim.keeps k
  have size1 : ((hp.push (kdv_tup [v])).push (excO C hp.objs.size)).objs.size = hp.objs.size + 1 + 1 := by rw [Heap.size_push, Heap.size_push]
  generalize (hp.push (kdv_tup [v])).push (excO C hp.objs.size) = h1 at k hx X1 lim1 size1 ⊢
  refine Att.call_fn (binds := [("self", .ref (hp.objs.size + 1)), ("at", v)]) X1 lim1 ho hcd hroom (BindsTo.of_eq (by first | rfl | with_unfolding_all rfl)) (by first | rfl | decide | with_unfolding_all rfl) (fun s₁ IC => ?_) rfl rfl rfl
  obtain ⟨h₁, tk₁, rfl⟩ := IC.toInCall.same
  have k1' : ∀ b o, h1.get? b = some o → h₁.get? b = some o := IC.toInCall.keep
  have hn := IC.toInCall.ns
  show wpAny _ _ (execs _ _) _ _ _
  refine wpAny_execs_cons (plainObj_wpAny_Assign_Attribute ?_)
  refine ldC (v := v) hn (by first | rfl | with_unfolding_all rfl | kernel_rfl) (ldC (v := .ref (hp.objs.size + 1)) hn (by first | rfl | with_unfolding_all rfl | kernel_rfl) ?_)
  refine set_plain (X1.keeps k1') (ox := excO C hp.objs.size) (od := none) ⟨k1' _ _ hx, rfl, rfl, trivial⟩ T.sa ?_
  refine store_err (X1.keeps k1') (k1' _ _ hx) hcl (bmB := bmB) ln.own rfl rfl T.noN (fun h₃ tk₃ dx k₃ dn dne hx₃ hn₃ => ?_)
  show wpAny _ _ (execs _ _) _ _ _
  have z : h1.objs.size < h₁.objs.size := hn.lt
  have lt_ : ∀ {b : Addr} {o : Obj}, hp.get? b = some o → b ≠ hp.objs.size + 1 := fun {b o} e => Nat.ne_of_lt (Nat.lt_succ_of_lt (Heap.lt_size e))
  refine wpAny_execs_nil ⟨rfl, hq h₃ tk₃ (hp.objs.size + 1) dx ⟨fun b o e => k₃ b o (lt_ e) (k1' b o (k b o e)), Nat.le_succ _, ⟨_, _, hx₃, rfl, rfl, rfl, rfl⟩, ?_, dne, hn₃⟩⟩
  have dn' : h₁.objs.size ≤ dx := dn
  show hp.objs.size ≤ dx
  omega
end
end Of_at
section
variable {X : Cx} {nm ql : Str} {C fI : Addr} {B newId initId : String} {bmB : List Value}
theorem relO_at {v : V} {v' : Value} (r : RelV v v') (f : Str) : RelO (List.lookup f [(("at" : Str), v)]) (if f = "at" then some v' else none) := by
  by_cases hw : f = "at"
  · subst hw
    rw [if_pos rfl]
    have q : List.lookup ("at" : Str) [(("at" : Str), v)] = some v := by simp [List.lookup]
    rw [q]
    exact r
  · rw [if_neg hw]
    have qw : (f == ("at" : Str)) = false := by simpa using hw
    have q2 : List.lookup f [(("at" : Str), v)] = none := by simp [List.lookup, qw]
    rw [q2]
    trivial
/-- nm(e) -/
def tMk_at (C : Addr) (ta : TA) : L2.St → Hp → XK → Prop := fun σ H Q => ta σ H fun vs H1 => ∃ v, vs = [v] ∧ ∀ d, H1 d = none → Q (.ref C) (some d) (upd H1 d (.xd [(("at" : Str), v)]))
theorem pmk_at {a : Expr} {ta : TA} {p pos : Pos} {k : Nat} (T : Of_at.Tx X.K X.mg nm ql C fI B newId initId bmB) (hr : Room k X.A) (ha : PA X [a] ta) (hg : Gl X nm := by rfl) (hdb : (nm == ("__debug__" : Str)) = false := by decide)
    (he : starEach (a :: []) X.env = (false, eval a X.env) :: starEach [] X.env := by rfl) (hpl : (backTo pos (starEach [] X.env)).any (·.1) = false := by rfl) :
    PMk X (.Call (.Name nm p) [a] [] pos) (tMk_at C ta) := by
  intro pins s σ H Q I h
  refine wpAny_Call_Name_kw (ld_glob I hg T.gC ?_ hdb)
  refine PySem.W.callWith_K (h₀ := X.base) I.ok.mod.kin T.kC (thn (ha.run pos pins s σ H _ I h) fun us s1 hh => ?_) he hpl
  obtain ⟨vs, H1, I1, r1, v, ev, q1⟩ := hh
  subst ev
  refine ⟨I1.kIn, ?_⟩
  cases r1 with
  | cons rv rn =>
    rename_i v' us'
    cases rn
    show wpAny _ _ (call (.ref C) [v']) _ _ _
    have hlim := I1.nolimit
    obtain ⟨hp, g, dr, tk, os⟩ := s1
    refine wpAny_call (Of_at.made T I1.kIn hlim (by have := hr.dp; omega) fun h' tk' e d M => ?_)
    show MkP X pins σ Q (.ref e) ⟨h', g, dr, tk', os⟩
    obtain ⟨oe, fv, hoe, hc, hd, hdat, h1⟩ := M.obj
    have hns := M.ns
    obtain ⟨G', g1, g2⟩ := restrict h' fun b => decide (b ≠ e)
    have gk : ∀ b, b ≠ e → G'.get? b = h'.get? b := fun b hb => g1 b (decide_eq_true hb)
    have ge : G'.get? e = none := g2 e (by simp)
    have old : ∀ b o, hp.get? b = some o → G'.get? b = some o := fun b o q => (gk b (Nat.ne_of_lt (Nat.lt_of_lt_of_le (Heap.lt_size q) M.new))).trans (M.keep b o q)
    have ob : ObjOk X.prog X.w (upd H1 d (.xd [(("at" : Str), v)])) G' d (.xd [(("at" : Str), v)]) :=
      ⟨_, hns.at (fun o q => (gk d M.dne).trans q), fun f => relO_at rv f⟩
    have J : L2.Inv X pins σ (upd H1 d (.xd [(("at" : Str), v)])) ⟨G', g, dr, tk', os⟩ := I1.laid (t' := tk') old M.dbig ob
    refine ⟨e, oe, fv, ⟨G', g, dr, tk', os⟩, _, .ref C, some d, rfl, J, fun b o q => ?_, ge, hoe, ⟨hc, hd⟩, hdat, h1, ?_, rfl, I1.bare, raises_own T.ex.hs T.tyC, q1 d (I1.hok.fresh M.dbig)⟩
    · by_cases hb : b = e
      · have q' : G'.get? b = some o := q
        rw [hb, ge] at q'
        cases q'
      · exact (gk b hb).symm.trans q
    · rw [upd_ne (Ne.symm M.dne)]
      exact I1.hok.fresh M.new
/-- raise nm(e) -/
def tRaise_at (C : Addr) (W : WX) (ta : TA) : TS := fun _ σ H => tMk_at C ta σ H fun cls d H' => W cls d σ H'
theorem ps_raise_at {a : Expr} {ta : TA} {W : WX} {p pos pos2 : Pos} {k : Nat} (hc : X.calm = true) (T : Of_at.Tx X.K X.mg nm ql C fI B newId initId bmB) (hr : Room k X.A) (tk : Takes X W) (ha : PA X [a] ta) (hg : Gl X nm := by rfl) (hdb : (nm == ("__debug__" : Str)) = false := by decide)
    (he : starEach (a :: []) X.env = (false, eval a X.env) :: starEach [] X.env := by rfl) (hpl : (backTo pos (starEach [] X.env)).any (·.1) = false := by rfl) :
    PS X (.Raise (some (.Call (.Name nm p) [a] [] pos)) none pos2) (tRaise_at C W ta) := ps_raise hc tk (pmk_at T hr ha hg hdb he hpl)
/-- e.at, e a kept error -/
def tGet_at (K : PySem.W.Frag) (te : TE) : TE := fun σ H Q => te σ H fun x H1 => ∃ (a C dd : Addr) (v : V), x = .ref a ∧ H1 a = some (ExH (.ref C) (some dd) a) ∧ ExcC K C ∧ PySem.W.findIn K (.ref C) "at" = some none ∧ H1 dd = some (.xd [(("at" : Str), v)]) ∧ Q v H1
theorem pe_get_at {e : Expr} {te : TE} {pos : Pos} (he : PE X e te) (hb : attributeBase e "at" X.env (eval e X.env) = eval e X.env := by rfl) : PE X (.Attribute e "at" pos) (tGet_at X.K te) := by
  constructor
  intro pins s σ H Q I h
  refine attr_of hb (thn (he.run pins s σ H _ I h) ?_)
  rintro u s1 ⟨x, H1, I1, rx, a, C, dd, v, rfl, ha, EC, noN, hdd, q⟩
  cases (show u = Value.ref a from rx)
  obtain ⟨oe, od, J, hod⟩ := held_at I1 ha (.inr ⟨dd, _, rfl, hdd⟩)
  obtain ⟨mA, hns, hr⟩ := I1.hok dd _ hdd
  obtain ⟨o, ho, hl⟩ := lookIn_ns hns
  obtain ⟨o', eo, ho'⟩ := hod dd _ rfl hdd
  rw [ho] at ho'
  cases ho'
  subst eo
  have l : List.lookup ("at" : Str) [(("at" : Str), v)] = some v := by simp [List.lookup]
  obtain ⟨u, hu, ru⟩ := RelO.some_of (v := v) (o := mA "at") (by rw [← l]; exact hr "at")
  exact HandSPX.exc_get I1.kIn J EC.hg EC.hk EC.hs (PySem.W.findObj_own EC.hd noN rfl (by rw [hl, hu])) (handed_of ru) ⟨v, H1, I1.tok _, ru, q⟩
end
/-! ### errors of the field name -/
namespace Of_name
open PySem.W PySem.Calls PySem.HandSPX
def iA (p1 p2 : Pos) : Arguments := { posonlyargs := [], args := [{ arg := "self", annotation := none, pos := p1 }, { arg := "name", annotation := none, pos := p2 }], vararg := none, kwonlyargs := [], kw_defaults := [], kwarg := none, defaults := [] }
def iB (q1 q2 q3 q4 : Pos) : List Stmt := [.Assign [.Attribute (.Name "self" q1) "name" q2] (.Name "name" q3) q4]
def iS : Scope := { kind := .function, names := [(PySem.Str.ofString "self", .local), (PySem.Str.ofString "name", .local)], isGenerator := false, isCoroutine := false, more := [] }
/-- the class called nm, at C, and its __init__, at fI, as the top has left them -/
structure Tx (K : Frag) (mg : Str → Option Value) (nm ql : Str) (C fI : Addr) (B newId initId : String) (bmB : List Value) : Prop where
  base : ExcBaseFacts B newId initId bmB
  gC : mg nm = some (.ref C)
  cls : ∃ n1 q N bs bm sn sub ab col dd k0 k1 k2 k3 k5, K.lookup C = some (excClassObj n1 q C N bs bm true sn sub ab col dd k0 k1 k2 k3 k5 newId) ∧ Line bm bmB
  sa : findIn K (.ref C) "__setattr__" = some (some (.builtin "object.__setattr__"))
  ex : ExcC K C
  noN : findIn K (.ref C) "name" = some none
  iC : findIn K (.ref C) "__init__" = some (some (.ref fI))
  tC : typeIn K (.ref fI) = some (.type "function")
  kC : keepIn K (.ref C) = true
  tyC : typeIn K (.ref C) = some (.type "type")
  fn : ∃ (oc : Value) (od : Option Addr) (doc pm : Value) (an : Option Addr) (cdv ct : Value) (osl : Array (Option Value)) (p1 p2 q1 q2 q3 q4 : Pos),
    K.lookup fI = some ⟨oc, od, .func (fnOf "__init__" ql (iA p1 p2) (iB q1 q2 q3 q4) iS .none .none doc pm an cdv ct), osl⟩ ∧ codeIn K cdv ql = true
/-- an error made of v, at e, its own dict at d -/
structure Made (h h' : Heap) (e C d : Addr) (v : Value) : Prop where
  keep : ∀ b o, h.get? b = some o → h'.get? b = some o
  new : h.objs.size ≤ e
  obj : ∃ oe vs, h'.get? e = some oe ∧ oe.cls = .ref C ∧ oe.dict = some d ∧ oe.data = .fields vs ∧ vs[1]? = some .none
  dbig : h.objs.size ≤ d
  dne : d ≠ e
  ns : h'.Ns1 d (fun y => if y = "name" then some v else none)
section
variable {prog : Program} {w : World} {A : Around} {E : Value → Shared → Prop} {R : Result → Shared → Prop} {s : Shared} {K : Frag} {mg : Str → Option Value} {nm ql : Str} {C fI : Addr} {B newId initId : String} {bmB : List Value}
theorem made (T : Tx K mg nm ql C fI B newId initId bmB) {v : Value} (X : K.In s.heap) (hlim : s.heap.NoLimit) (hroom : A.depth + 1 < recursionLimit) (hq : ∀ h' tk e d, Made s.heap h' e C d v → R (.ok (.ret (.ref e))) { s with heap := h', toks := tk }) :
    codeAny (model prog w) A (.call (.ref C) ⟨[v], []⟩) R s := by
  obtain ⟨n1, q, N, bs, bm, sn, sub, ab, col, dd, k0, k1, k2, k3, k5, hC, ln⟩ := T.cls
  obtain ⟨oc, od, doc, pm, an, cdv, ct, osl, p1, p2, q1, q2, q3, q4, ho, hcd⟩ := T.fn
  have hcl : clsIn K C = some { name := n1, bases := bs, mro := .ref C :: bm, ns := N, qualname := q, hasDict := true, slotNames := sn, subclasses := sub, abstract := ab, collection := col, hasDel := false } := by
    unfold clsIn
    rw [hC]
  obtain ⟨hp, g, dr, tk, os⟩ := s
  have k : ∀ b o, hp.get? b = some o → ((hp.push (kdv_tup [v])).push (excO C hp.objs.size)).get? b = some o := fun b o e => Heap.get?_push_of_some _ (Heap.get?_push_of_some _ e)
  have hx : ((hp.push (kdv_tup [v])).push (excO C hp.objs.size)).get? (hp.objs.size + 1) = some (excO C hp.objs.size) := by heap_get
  refine call_own T.base ln.has (X _ _ hC) (looks_findIn X T.iC) (fun self => bind_fn X self T.tC) (one_size v) ?_
  have X1 := X.keeps k
  have lim1 : ((hp.push (kdv_tup [v])).push (excO C hp.objs.size)).NoLimit := hlim.keeps k
  have size1 : ((hp.push (kdv_tup [v])).push (excO C hp.objs.size)).objs.size = hp.objs.size + 1 + 1 := by rw [Heap.size_push, Heap.size_push]
  generalize (hp.push (kdv_tup [v])).push (excO C hp.objs.size) = h1 at k hx X1 lim1 size1 ⊢
  refine Att.call_fn (binds := [("self", .ref (hp.objs.size + 1)), ("name", v)]) X1 lim1 ho hcd hroom (BindsTo.of_eq (by first | rfl | with_unfolding_all rfl)) (by first | rfl | decide | with_unfolding_all rfl) (fun s₁ IC => ?_) rfl rfl rfl
  obtain ⟨h₁, tk₁, rfl⟩ := IC.toInCall.same
  have k1' : ∀ b o, h1.get? b = some o → h₁.get? b = some o := IC.toInCall.keep
  have hn := IC.toInCall.ns
  show wpAny _ _ (execs _ _) _ _ _
  refine wpAny_execs_cons (plainObj_wpAny_Assign_Attribute ?_)
  refine ldC (v := v) hn (by first | rfl | with_unfolding_all rfl | kernel_rfl) (ldC (v := .ref (hp.objs.size + 1)) hn (by first | rfl | with_unfolding_all rfl | kernel_rfl) ?_)
  refine set_plain (X1.keeps k1') (ox := excO C hp.objs.size) (od := none) ⟨k1' _ _ hx, rfl, rfl, trivial⟩ T.sa ?_
  refine store_err (X1.keeps k1') (k1' _ _ hx) hcl (bmB := bmB) ln.own rfl rfl T.noN (fun h₃ tk₃ dx k₃ dn dne hx₃ hn₃ => ?_)
  show wpAny _ _ (execs _ _) _ _ _
  have z : h1.objs.size < h₁.objs.size := hn.lt
  have lt_ : ∀ {b : Addr} {o : Obj}, hp.get? b = some o → b ≠ hp.objs.size + 1 := fun {b o} e => Nat.ne_of_lt (Nat.lt_succ_of_lt (Heap.lt_size e))
  refine wpAny_execs_nil ⟨rfl, hq h₃ tk₃ (hp.objs.size + 1) dx ⟨fun b o e => k₃ b o (lt_ e) (k1' b o (k b o e)), Nat.le_succ _, ⟨_, _, hx₃, rfl, rfl, rfl, rfl⟩, ?_, dne, hn₃⟩⟩
  have dn' : h₁.objs.size ≤ dx := dn
  show hp.objs.size ≤ dx
  omega
end
end Of_name
section
variable {X : Cx} {nm ql : Str} {C fI : Addr} {B newId initId : String} {bmB : List Value}
theorem relO_name {v : V} {v' : Value} (r : RelV v v') (f : Str) : RelO (List.lookup f [(("name" : Str), v)]) (if f = "name" then some v' else none) := by
  by_cases hw : f = "name"
  · subst hw
    rw [if_pos rfl]
    have q : List.lookup ("name" : Str) [(("name" : Str), v)] = some v := by simp [List.lookup]
    rw [q]
    exact r
  · rw [if_neg hw]
    have qw : (f == ("name" : Str)) = false := by simpa using hw
    have q2 : List.lookup f [(("name" : Str), v)] = none := by simp [List.lookup, qw]
    rw [q2]
    trivial
/-- nm(e) -/
def tMk_name (C : Addr) (ta : TA) : L2.St → Hp → XK → Prop := fun σ H Q => ta σ H fun vs H1 => ∃ v, vs = [v] ∧ ∀ d, H1 d = none → Q (.ref C) (some d) (upd H1 d (.xd [(("name" : Str), v)]))
theorem pmk_name {a : Expr} {ta : TA} {p pos : Pos} {k : Nat} (T : Of_name.Tx X.K X.mg nm ql C fI B newId initId bmB) (hr : Room k X.A) (ha : PA X [a] ta) (hg : Gl X nm := by rfl) (hdb : (nm == ("__debug__" : Str)) = false := by decide)
    (he : starEach (a :: []) X.env = (false, eval a X.env) :: starEach [] X.env := by rfl) (hpl : (backTo pos (starEach [] X.env)).any (·.1) = false := by rfl) :
    PMk X (.Call (.Name nm p) [a] [] pos) (tMk_name C ta) := by
  intro pins s σ H Q I h
  refine wpAny_Call_Name_kw (ld_glob I hg T.gC ?_ hdb)
  refine PySem.W.callWith_K (h₀ := X.base) I.ok.mod.kin T.kC (thn (ha.run pos pins s σ H _ I h) fun us s1 hh => ?_) he hpl
  obtain ⟨vs, H1, I1, r1, v, ev, q1⟩ := hh
  subst ev
  refine ⟨I1.kIn, ?_⟩
  cases r1 with
  | cons rv rn =>
    rename_i v' us'
    cases rn
    show wpAny _ _ (call (.ref C) [v']) _ _ _
    have hlim := I1.nolimit
    obtain ⟨hp, g, dr, tk, os⟩ := s1
    refine wpAny_call (Of_name.made T I1.kIn hlim (by have := hr.dp; omega) fun h' tk' e d M => ?_)
    show MkP X pins σ Q (.ref e) ⟨h', g, dr, tk', os⟩
    obtain ⟨oe, fv, hoe, hc, hd, hdat, h1⟩ := M.obj
    have hns := M.ns
    obtain ⟨G', g1, g2⟩ := restrict h' fun b => decide (b ≠ e)
    have gk : ∀ b, b ≠ e → G'.get? b = h'.get? b := fun b hb => g1 b (decide_eq_true hb)
    have ge : G'.get? e = none := g2 e (by simp)
    have old : ∀ b o, hp.get? b = some o → G'.get? b = some o := fun b o q => (gk b (Nat.ne_of_lt (Nat.lt_of_lt_of_le (Heap.lt_size q) M.new))).trans (M.keep b o q)
    have ob : ObjOk X.prog X.w (upd H1 d (.xd [(("name" : Str), v)])) G' d (.xd [(("name" : Str), v)]) :=
      ⟨_, hns.at (fun o q => (gk d M.dne).trans q), fun f => relO_name rv f⟩
    have J : L2.Inv X pins σ (upd H1 d (.xd [(("name" : Str), v)])) ⟨G', g, dr, tk', os⟩ := I1.laid (t' := tk') old M.dbig ob
    refine ⟨e, oe, fv, ⟨G', g, dr, tk', os⟩, _, .ref C, some d, rfl, J, fun b o q => ?_, ge, hoe, ⟨hc, hd⟩, hdat, h1, ?_, rfl, I1.bare, raises_own T.ex.hs T.tyC, q1 d (I1.hok.fresh M.dbig)⟩
    · by_cases hb : b = e
      · have q' : G'.get? b = some o := q
        rw [hb, ge] at q'
        cases q'
      · exact (gk b hb).symm.trans q
    · rw [upd_ne (Ne.symm M.dne)]
      exact I1.hok.fresh M.new
/-- raise nm(e) -/
def tRaise_name (C : Addr) (W : WX) (ta : TA) : TS := fun _ σ H => tMk_name C ta σ H fun cls d H' => W cls d σ H'
theorem ps_raise_name {a : Expr} {ta : TA} {W : WX} {p pos pos2 : Pos} {k : Nat} (hc : X.calm = true) (T : Of_name.Tx X.K X.mg nm ql C fI B newId initId bmB) (hr : Room k X.A) (tk : Takes X W) (ha : PA X [a] ta) (hg : Gl X nm := by rfl) (hdb : (nm == ("__debug__" : Str)) = false := by decide)
    (he : starEach (a :: []) X.env = (false, eval a X.env) :: starEach [] X.env := by rfl) (hpl : (backTo pos (starEach [] X.env)).any (·.1) = false := by rfl) :
    PS X (.Raise (some (.Call (.Name nm p) [a] [] pos)) none pos2) (tRaise_name C W ta) := ps_raise hc tk (pmk_name T hr ha hg hdb he hpl)
/-- e.name, e a kept error -/
def tGet_name (K : PySem.W.Frag) (te : TE) : TE := fun σ H Q => te σ H fun x H1 => ∃ (a C dd : Addr) (v : V), x = .ref a ∧ H1 a = some (ExH (.ref C) (some dd) a) ∧ ExcC K C ∧ PySem.W.findIn K (.ref C) "name" = some none ∧ H1 dd = some (.xd [(("name" : Str), v)]) ∧ Q v H1
theorem pe_get_name {e : Expr} {te : TE} {pos : Pos} (he : PE X e te) (hb : attributeBase e "name" X.env (eval e X.env) = eval e X.env := by rfl) : PE X (.Attribute e "name" pos) (tGet_name X.K te) := by
  constructor
  intro pins s σ H Q I h
  refine attr_of hb (thn (he.run pins s σ H _ I h) ?_)
  rintro u s1 ⟨x, H1, I1, rx, a, C, dd, v, rfl, ha, EC, noN, hdd, q⟩
  cases (show u = Value.ref a from rx)
  obtain ⟨oe, od, J, hod⟩ := held_at I1 ha (.inr ⟨dd, _, rfl, hdd⟩)
  obtain ⟨mA, hns, hr⟩ := I1.hok dd _ hdd
  obtain ⟨o, ho, hl⟩ := lookIn_ns hns
  obtain ⟨o', eo, ho'⟩ := hod dd _ rfl hdd
  rw [ho] at ho'
  cases ho'
  subst eo
  have l : List.lookup ("name" : Str) [(("name" : Str), v)] = some v := by simp [List.lookup]
  obtain ⟨u, hu, ru⟩ := RelO.some_of (v := v) (o := mA "name") (by rw [← l]; exact hr "name")
  exact HandSPX.exc_get I1.kIn J EC.hg EC.hk EC.hs (PySem.W.findObj_own EC.hd noN rfl (by rw [hl, hu])) (handed_of ru) ⟨v, H1, I1.tok _, ru, q⟩
end
/-! ### errors of the field most -/
namespace Of_most
open PySem.W PySem.Calls PySem.HandSPX
def iA (p1 p2 : Pos) : Arguments := { posonlyargs := [], args := [{ arg := "self", annotation := none, pos := p1 }, { arg := "most", annotation := none, pos := p2 }], vararg := none, kwonlyargs := [], kw_defaults := [], kwarg := none, defaults := [] }
def iB (q1 q2 q3 q4 : Pos) : List Stmt := [.Assign [.Attribute (.Name "self" q1) "most" q2] (.Name "most" q3) q4]
def iS : Scope := { kind := .function, names := [(PySem.Str.ofString "self", .local), (PySem.Str.ofString "most", .local)], isGenerator := false, isCoroutine := false, more := [] }
/-- the class called nm, at C, and its __init__, at fI, as the top has left them -/
structure Tx (K : Frag) (mg : Str → Option Value) (nm ql : Str) (C fI : Addr) (B newId initId : String) (bmB : List Value) : Prop where
  base : ExcBaseFacts B newId initId bmB
  gC : mg nm = some (.ref C)
  cls : ∃ n1 q N bs bm sn sub ab col dd k0 k1 k2 k3 k5, K.lookup C = some (excClassObj n1 q C N bs bm true sn sub ab col dd k0 k1 k2 k3 k5 newId) ∧ Line bm bmB
  sa : findIn K (.ref C) "__setattr__" = some (some (.builtin "object.__setattr__"))
  ex : ExcC K C
  noN : findIn K (.ref C) "most" = some none
  iC : findIn K (.ref C) "__init__" = some (some (.ref fI))
  tC : typeIn K (.ref fI) = some (.type "function")
  kC : keepIn K (.ref C) = true
  tyC : typeIn K (.ref C) = some (.type "type")
  fn : ∃ (oc : Value) (od : Option Addr) (doc pm : Value) (an : Option Addr) (cdv ct : Value) (osl : Array (Option Value)) (p1 p2 q1 q2 q3 q4 : Pos),
    K.lookup fI = some ⟨oc, od, .func (fnOf "__init__" ql (iA p1 p2) (iB q1 q2 q3 q4) iS .none .none doc pm an cdv ct), osl⟩ ∧ codeIn K cdv ql = true
/-- an error made of v, at e, its own dict at d -/
structure Made (h h' : Heap) (e C d : Addr) (v : Value) : Prop where
  keep : ∀ b o, h.get? b = some o → h'.get? b = some o
  new : h.objs.size ≤ e
  obj : ∃ oe vs, h'.get? e = some oe ∧ oe.cls = .ref C ∧ oe.dict = some d ∧ oe.data = .fields vs ∧ vs[1]? = some .none
  dbig : h.objs.size ≤ d
  dne : d ≠ e
  ns : h'.Ns1 d (fun y => if y = "most" then some v else none)
section
variable {prog : Program} {w : World} {A : Around} {E : Value → Shared → Prop} {R : Result → Shared → Prop} {s : Shared} {K : Frag} {mg : Str → Option Value} {nm ql : Str} {C fI : Addr} {B newId initId : String} {bmB : List Value}
theorem made (T : Tx K mg nm ql C fI B newId initId bmB) {v : Value} (X : K.In s.heap) (hlim : s.heap.NoLimit) (hroom : A.depth + 1 < recursionLimit) (hq : ∀ h' tk e d, Made s.heap h' e C d v → R (.ok (.ret (.ref e))) { s with heap := h', toks := tk }) :
    codeAny (model prog w) A (.call (.ref C) ⟨[v], []⟩) R s := by
  obtain ⟨n1, q, N, bs, bm, sn, sub, ab, col, dd, k0, k1, k2, k3, k5, hC, ln⟩ := T.cls
  obtain ⟨oc, od, doc, pm, an, cdv, ct, osl, p1, p2, q1, q2, q3, q4, ho, hcd⟩ := T.fn
  have hcl : clsIn K C = some { name := n1, bases := bs, mro := .ref C :: bm, ns := N, qualname := q, hasDict := true, slotNames := sn, subclasses := sub, abstract := ab, collection := col, hasDel := false } := by
    unfold clsIn
    rw [hC]
  obtain ⟨hp, g, dr, tk, os⟩ := s
  have k : ∀ b o, hp.get? b = some o → ((hp.push (kdv_tup [v])).push (excO C hp.objs.size)).get? b = some o := fun b o e => Heap.get?_push_of_some _ (Heap.get?_push_of_some _ e)
  have hx : ((hp.push (kdv_tup [v])).push (excO C hp.objs.size)).get? (hp.objs.size + 1) = some (excO C hp.objs.size) := by heap_get
  refine call_own T.base ln.has (X _ _ hC) (looks_findIn X T.iC) (fun self => bind_fn X self T.tC) (one_size v) ?_
  have X1 := X.keeps k
  have lim1 : ((hp.push (kdv_tup [v])).push (excO C hp.objs.size)).NoLimit := hlim.keeps k
  have size1 : ((hp.push (kdv_tup [v])).push (excO C hp.objs.size)).objs.size = hp.objs.size + 1 + 1 := by rw [Heap.size_push, Heap.size_push]
  generalize (hp.push (kdv_tup [v])).push (excO C hp.objs.size) = h1 at k hx X1 lim1 size1 ⊢
  refine Att.call_fn (binds := [("self", .ref (hp.objs.size + 1)), ("most", v)]) X1 lim1 ho hcd hroom (BindsTo.of_eq (by first | rfl | with_unfolding_all rfl)) (by first | rfl | decide | with_unfolding_all rfl) (fun s₁ IC => ?_) rfl rfl rfl
  obtain ⟨h₁, tk₁, rfl⟩ := IC.toInCall.same
  have k1' : ∀ b o, h1.get? b = some o → h₁.get? b = some o := IC.toInCall.keep
  have hn := IC.toInCall.ns
  show wpAny _ _ (execs _ _) _ _ _
  refine wpAny_execs_cons (plainObj_wpAny_Assign_Attribute ?_)
  refine ldC (v := v) hn (by first | rfl | with_unfolding_all rfl | kernel_rfl) (ldC (v := .ref (hp.objs.size + 1)) hn (by first | rfl | with_unfolding_all rfl | kernel_rfl) ?_)
  refine set_plain (X1.keeps k1') (ox := excO C hp.objs.size) (od := none) ⟨k1' _ _ hx, rfl, rfl, trivial⟩ T.sa ?_
  refine store_err (X1.keeps k1') (k1' _ _ hx) hcl (bmB := bmB) ln.own rfl rfl T.noN (fun h₃ tk₃ dx k₃ dn dne hx₃ hn₃ => ?_)
  show wpAny _ _ (execs _ _) _ _ _
  have z : h1.objs.size < h₁.objs.size := hn.lt
  have lt_ : ∀ {b : Addr} {o : Obj}, hp.get? b = some o → b ≠ hp.objs.size + 1 := fun {b o} e => Nat.ne_of_lt (Nat.lt_succ_of_lt (Heap.lt_size e))
  refine wpAny_execs_nil ⟨rfl, hq h₃ tk₃ (hp.objs.size + 1) dx ⟨fun b o e => k₃ b o (lt_ e) (k1' b o (k b o e)), Nat.le_succ _, ⟨_, _, hx₃, rfl, rfl, rfl, rfl⟩, ?_, dne, hn₃⟩⟩
  have dn' : h₁.objs.size ≤ dx := dn
  show hp.objs.size ≤ dx
  omega
end
end Of_most
section
variable {X : Cx} {nm ql : Str} {C fI : Addr} {B newId initId : String} {bmB : List Value}
theorem relO_most {v : V} {v' : Value} (r : RelV v v') (f : Str) : RelO (List.lookup f [(("most" : Str), v)]) (if f = "most" then some v' else none) := by
  by_cases hw : f = "most"
  · subst hw
    rw [if_pos rfl]
    have q : List.lookup ("most" : Str) [(("most" : Str), v)] = some v := by simp [List.lookup]
    rw [q]
    exact r
  · rw [if_neg hw]
    have qw : (f == ("most" : Str)) = false := by simpa using hw
    have q2 : List.lookup f [(("most" : Str), v)] = none := by simp [List.lookup, qw]
    rw [q2]
    trivial
/-- nm(e) -/
def tMk_most (C : Addr) (ta : TA) : L2.St → Hp → XK → Prop := fun σ H Q => ta σ H fun vs H1 => ∃ v, vs = [v] ∧ ∀ d, H1 d = none → Q (.ref C) (some d) (upd H1 d (.xd [(("most" : Str), v)]))
theorem pmk_most {a : Expr} {ta : TA} {p pos : Pos} {k : Nat} (T : Of_most.Tx X.K X.mg nm ql C fI B newId initId bmB) (hr : Room k X.A) (ha : PA X [a] ta) (hg : Gl X nm := by rfl) (hdb : (nm == ("__debug__" : Str)) = false := by decide)
    (he : starEach (a :: []) X.env = (false, eval a X.env) :: starEach [] X.env := by rfl) (hpl : (backTo pos (starEach [] X.env)).any (·.1) = false := by rfl) :
    PMk X (.Call (.Name nm p) [a] [] pos) (tMk_most C ta) := by
  intro pins s σ H Q I h
  refine wpAny_Call_Name_kw (ld_glob I hg T.gC ?_ hdb)
  refine PySem.W.callWith_K (h₀ := X.base) I.ok.mod.kin T.kC (thn (ha.run pos pins s σ H _ I h) fun us s1 hh => ?_) he hpl
  obtain ⟨vs, H1, I1, r1, v, ev, q1⟩ := hh
  subst ev
  refine ⟨I1.kIn, ?_⟩
  cases r1 with
  | cons rv rn =>
    rename_i v' us'
    cases rn
    show wpAny _ _ (call (.ref C) [v']) _ _ _
    have hlim := I1.nolimit
    obtain ⟨hp, g, dr, tk, os⟩ := s1
    refine wpAny_call (Of_most.made T I1.kIn hlim (by have := hr.dp; omega) fun h' tk' e d M => ?_)
    show MkP X pins σ Q (.ref e) ⟨h', g, dr, tk', os⟩
    obtain ⟨oe, fv, hoe, hc, hd, hdat, h1⟩ := M.obj
    have hns := M.ns
    obtain ⟨G', g1, g2⟩ := restrict h' fun b => decide (b ≠ e)
    have gk : ∀ b, b ≠ e → G'.get? b = h'.get? b := fun b hb => g1 b (decide_eq_true hb)
    have ge : G'.get? e = none := g2 e (by simp)
    have old : ∀ b o, hp.get? b = some o → G'.get? b = some o := fun b o q => (gk b (Nat.ne_of_lt (Nat.lt_of_lt_of_le (Heap.lt_size q) M.new))).trans (M.keep b o q)
    have ob : ObjOk X.prog X.w (upd H1 d (.xd [(("most" : Str), v)])) G' d (.xd [(("most" : Str), v)]) :=
      ⟨_, hns.at (fun o q => (gk d M.dne).trans q), fun f => relO_most rv f⟩
    have J : L2.Inv X pins σ (upd H1 d (.xd [(("most" : Str), v)])) ⟨G', g, dr, tk', os⟩ := I1.laid (t' := tk') old M.dbig ob
    refine ⟨e, oe, fv, ⟨G', g, dr, tk', os⟩, _, .ref C, some d, rfl, J, fun b o q => ?_, ge, hoe, ⟨hc, hd⟩, hdat, h1, ?_, rfl, I1.bare, raises_own T.ex.hs T.tyC, q1 d (I1.hok.fresh M.dbig)⟩
    · by_cases hb : b = e
      · have q' : G'.get? b = some o := q
        rw [hb, ge] at q'
        cases q'
      · exact (gk b hb).symm.trans q
    · rw [upd_ne (Ne.symm M.dne)]
      exact I1.hok.fresh M.new
/-- raise nm(e) -/
def tRaise_most (C : Addr) (W : WX) (ta : TA) : TS := fun _ σ H => tMk_most C ta σ H fun cls d H' => W cls d σ H'
theorem ps_raise_most {a : Expr} {ta : TA} {W : WX} {p pos pos2 : Pos} {k : Nat} (hc : X.calm = true) (T : Of_most.Tx X.K X.mg nm ql C fI B newId initId bmB) (hr : Room k X.A) (tk : Takes X W) (ha : PA X [a] ta) (hg : Gl X nm := by rfl) (hdb : (nm == ("__debug__" : Str)) = false := by decide)
    (he : starEach (a :: []) X.env = (false, eval a X.env) :: starEach [] X.env := by rfl) (hpl : (backTo pos (starEach [] X.env)).any (·.1) = false := by rfl) :
    PS X (.Raise (some (.Call (.Name nm p) [a] [] pos)) none pos2) (tRaise_most C W ta) := ps_raise hc tk (pmk_most T hr ha hg hdb he hpl)
/-- e.most, e a kept error -/
def tGet_most (K : PySem.W.Frag) (te : TE) : TE := fun σ H Q => te σ H fun x H1 => ∃ (a C dd : Addr) (v : V), x = .ref a ∧ H1 a = some (ExH (.ref C) (some dd) a) ∧ ExcC K C ∧ PySem.W.findIn K (.ref C) "most" = some none ∧ H1 dd = some (.xd [(("most" : Str), v)]) ∧ Q v H1
theorem pe_get_most {e : Expr} {te : TE} {pos : Pos} (he : PE X e te) (hb : attributeBase e "most" X.env (eval e X.env) = eval e X.env := by rfl) : PE X (.Attribute e "most" pos) (tGet_most X.K te) := by
  constructor
  intro pins s σ H Q I h
  refine attr_of hb (thn (he.run pins s σ H _ I h) ?_)
  rintro u s1 ⟨x, H1, I1, rx, a, C, dd, v, rfl, ha, EC, noN, hdd, q⟩
  cases (show u = Value.ref a from rx)
  obtain ⟨oe, od, J, hod⟩ := held_at I1 ha (.inr ⟨dd, _, rfl, hdd⟩)
  obtain ⟨mA, hns, hr⟩ := I1.hok dd _ hdd
  obtain ⟨o, ho, hl⟩ := lookIn_ns hns
  obtain ⟨o', eo, ho'⟩ := hod dd _ rfl hdd
  rw [ho] at ho'
  cases ho'
  subst eo
  have l : List.lookup ("most" : Str) [(("most" : Str), v)] = some v := by simp [List.lookup]
  obtain ⟨u, hu, ru⟩ := RelO.some_of (v := v) (o := mA "most") (by rw [← l]; exact hr "most")
  exact HandSPX.exc_get I1.kIn J EC.hg EC.hk EC.hs (PySem.W.findObj_own EC.hd noN rfl (by rw [hl, hu])) (handed_of ru) ⟨v, H1, I1.tok _, ru, q⟩
end
end Pk
namespace Pk
open PySem L2
theorem same_upd {H : Hp} {p : Addr} {o : HO} (h : H p = none) : Same H (upd H p o) := fun b x e => by
  rw [upd_ne (ne_of_none e h)]
  exact e
end Pk
namespace Pk
open PySem L2
def top (i : Nat) : Stmt := PySem.Challenge.pw_paperkin_k34_apart_and_left_over.main.body.getD i (.Pass ⟨0, 0, 0, 0⟩)
abbrev sIsNumber : Stmt := top 16
abbrev sIsWhole : Stmt := top 17
abbrev sIsName : Stmt := top 18
abbrev sIsNameE : Stmt := top 19
abbrev sIsText : Stmt := top 20
abbrev sNeedDay : Stmt := top 21
abbrev sAreAnswers : Stmt := top 25
abbrev sNeedQ : Stmt := top 27
abbrev sListed : Stmt := top 30
abbrev sNeedBank : Stmt := top 32
abbrev sAreNames : Stmt := top 35
abbrev sIsPaper : Stmt := top 36
abbrev sWithout : Stmt := top 37
abbrev sNeedPs : Stmt := top 39
abbrev sNamesOf : Stmt := top 40
abbrev sApart : Stmt := top 41
abbrev sLeftOver : Stmt := top 42
abbrev sBegun : Stmt := top 44
abbrev sTake : Stmt := top 45
abbrev sOf : Stmt := top 46
abbrev sTurned : Stmt := top 47
abbrev sNames : Stmt := top 48
abbrev sBankL : Stmt := top 49
abbrev sSomeP : Stmt := top 50
abbrev sRight : Stmt := top 51
abbrev sLaw : Stmt := top 52
def inCls (st : Stmt) (i : Nat) : Stmt := match st with
  | .ClassDef (body := b) .. => b.getD i (.Pass ⟨0, 0, 0, 0⟩)
  | _ => st
abbrev sQInit : Stmt := inCls (top 26) 0
abbrev sQEq : Stmt := inCls (top 26) 1
abbrev sQLen : Stmt := inCls (top 26) 2
abbrev sQStr : Stmt := inCls (top 26) 3
abbrev sQRepr : Stmt := inCls (top 26) 4
abbrev sQAnswer : Stmt := inCls (top 26) 5
abbrev sQTurned : Stmt := inCls (top 26) 6
abbrev sQChanged : Stmt := inCls (top 26) 7
abbrev sQKin : Stmt := inCls (top 26) 8
abbrev sBInit : Stmt := inCls (top 31) 0
abbrev sBEq : Stmt := inCls (top 31) 1
abbrev sBLen : Stmt := inCls (top 31) 2
abbrev sBKnown : Stmt := inCls (top 31) 3
abbrev sBAdded : Stmt := inCls (top 31) 4
abbrev sBPut : Stmt := inCls (top 31) 5
abbrev sBOut : Stmt := inCls (top 31) 6
abbrev sBBack : Stmt := inCls (top 31) 7
abbrev sBDropped : Stmt := inCls (top 31) 8
abbrev sBUsed : Stmt := inCls (top 31) 9
abbrev sBUsedAll : Stmt := inCls (top 31) 10
abbrev sBUnused : Stmt := inCls (top 31) 11
abbrev sBNames : Stmt := inCls (top 31) 12
abbrev sBNamesIn : Stmt := inCls (top 31) 13
abbrev sBIsIn : Stmt := inCls (top 31) 14
abbrev sBWasUsed : Stmt := inCls (top 31) 15
abbrev sBOuts : Stmt := inCls (top 31) 16
abbrev sBQuestion : Stmt := inCls (top 31) 17
abbrev sBQuestionsBy : Stmt := inCls (top 31) 18
abbrev sBDaysOf : Stmt := inCls (top 31) 19
abbrev sBLastDay : Stmt := inCls (top 31) 20
abbrev sBMatters : Stmt := inCls (top 31) 21
abbrev sBFound : Stmt := inCls (top 31) 22
abbrev sBTwin : Stmt := inCls (top 31) 23
end Pk
namespace Pk
open PySem L2
theorem len_is (z : Str) : z.length = z.cps.toList.length := TL.len_tl z
theorem blank_tl : TL.tl (" " : Str) = [32] := by decide +kernel
theorem empty_tl : TL.tl ("" : Str) = [] := by decide +kernel
/-! ### a text so many times -/
theorem mul_ok {z : Str} {n : Int} (hz : z.length ≤ 100000) (n0 : 0 ≤ n) (n1 : n ≤ 100) : MulOk z n := by
  refine ⟨?_, fun h1 _ h3 => ?_, fun h1 _ => ?_⟩
  · rw [Bool.or_eq_false_iff]
    exact ⟨decide_eq_false (by omega), decide_eq_false (by omega)⟩
  · have : (100000 : Int) ≤ (2 ^ 63 - 1 : Int) / n := Int.le_ediv_of_mul_le (by omega) (by omega)
    omega
  · have h : z.length * n.toNat ≤ 100000 * 100 := Nat.mul_le_mul hz (by omega)
    show decide (z.length * n.toNat > sizeLine) = false
    refine decide_eq_false ?_
    rw [sizeLine_eq]
    omega
theorem fold_app : ∀ (n : Nat) (x : Array Nat) (a : Array Nat), ((List.replicate n x).foldl (· ++ ·) a).toList = a.toList ++ (List.replicate n x.toList).flatten
  | 0, x, a => by simp
  | n + 1, x, a => by
    rw [List.replicate_succ, List.foldl_cons, fold_app n x (a ++ x), Array.toList_append, List.replicate_succ, List.flatten_cons, List.append_assoc]
theorem mul_tl (z : Str) {n : Int} (n0 : 0 ≤ n) : TL.tl (Txt.mul z n) = (List.replicate n.toNat (TL.tl z)).flatten := by
  unfold Txt.mul
  by_cases h1 : n < 1
  · have e : n = 0 := by omega
    subst e
    rw [if_pos h1]
    rfl
  · rw [if_neg h1]
    by_cases h2 : n = 1
    · subst h2
      show z.cps.toList = _
      simp
    · by_cases h3 : z.length = 0
      · rw [if_pos (by simp [h3])]
        have e : TL.tl z = [] := List.length_eq_zero_iff.mp (by rw [← TL.len_tl]; exact h3)
        rw [e]
        simp
      · rw [if_neg (by simp [h2, h3])]
        show ((List.replicate n.toNat z.cps).foldl (· ++ ·) #[]).toList = _
        rw [fold_app]
        rfl
theorem mul_len (z : Str) {n : Int} (n0 : 0 ≤ n) : (Txt.mul z n).length = n.toNat * z.length := by
  rw [TL.len_tl, mul_tl z n0, TL.len_tl]
  simp
/-- all signs are code points -/
def SOk (z : Str) : Prop := ∀ c ∈ z.cps.toList, c < 0x110000
theorem sok_iff (z : Str) : PyData.strOk z = true ↔ SOk z := by
  unfold PyData.strOk SOk
  rw [← Array.all_toList, List.all_eq_true]
  exact ⟨fun h c hc => of_decide_eq_true (h c hc), fun h c hc => decide_eq_true (h c hc)⟩
theorem sok_app {x y : Str} (hx : SOk x) (hy : SOk y) : SOk (x ++ y) := fun c hc => by
  rw [show (x ++ y).cps.toList = x.cps.toList ++ y.cps.toList from TL.tl_append x y] at hc
  rcases List.mem_append.mp hc with h | h
  · exact hx c h
  · exact hy c h
theorem sok_mul {x : Str} (hx : SOk x) {n : Int} (n0 : 0 ≤ n) : SOk (Txt.mul x n) := fun c hc => by
  rw [show (Txt.mul x n).cps.toList = _ from mul_tl x n0] at hc
  obtain ⟨l, hl, h⟩ := List.mem_flatten.mp hc
  rw [(List.mem_replicate.mp hl).2] at h
  exact hx c h
theorem joinL_mem {c : Nat} : ∀ l : List (List Nat), c ∈ TL.joinL [] l → ∃ p ∈ l, c ∈ p
  | [], h => by cases h
  | [p], h => ⟨p, List.mem_cons_self, h⟩
  | p :: q :: r, h => by
    have h' : c ∈ p ++ ([] ++ TL.joinL [] (q :: r)) := h
    rcases List.mem_append.mp h' with h | h
    · exact ⟨p, List.mem_cons_self, h⟩
    · obtain ⟨x, hx, hc⟩ := joinL_mem (q :: r) h
      exact ⟨x, List.mem_cons_of_mem _ hx, hc⟩
theorem sok_join {ys : List Str} (h : ∀ y ∈ ys, SOk y) : SOk (Txt.join "" ys) := fun c hc => by
  rw [show (Txt.join "" ys).cps.toList = TL.joinL (TL.tl "") (ys.map TL.tl) from by rw [TL.join_eq]; exact TL.tl_join "" ys, empty_tl] at hc
  obtain ⟨p, hp, hm⟩ := joinL_mem _ hc
  obtain ⟨y, hy, rfl⟩ := List.mem_map.mp hp
  exact h y hy c hm
theorem sok_blank : SOk " " := fun c hc => by
  rw [show (" " : Str).cps.toList = [32] from blank_tl, List.mem_singleton] at hc
  rw [hc]
  decide
theorem at_some {α : Type} {l : List α} {i : Int} (h0 : 0 ≤ i) (h1 : i < l.length) : ∃ c, atI l i = some c ∧ c ∈ l := by
  obtain ⟨j, rfl⟩ := Int.eq_ofNat_of_zero_le h0
  have hj : j < l.length := by omega
  exact ⟨l[j], atI_nat (List.getElem?_eq_getElem hj), List.getElem_mem hj⟩
theorem joinL_len : ∀ l : List (List Nat), (TL.joinL [] l).length = (l.map List.length).sum
  | [] => rfl
  | [p] => by simp [TL.joinL]
  | p :: q :: r => by
    have ih := joinL_len (q :: r)
    show (p ++ ([] ++ TL.joinL [] (q :: r))).length = _
    rw [List.nil_append, List.length_append, ih]
    simp
theorem join0_len (ys : List Str) : (Txt.join "" ys).length = (ys.map (·.length)).sum := by
  rw [TL.len_tl, TL.join_eq, TL.tl_join, empty_tl, joinL_len, List.map_map]
  exact congrArg List.sum (List.map_congr_left fun p _ => (TL.len_tl p).symm)
theorem app_len (x y : Str) : (x ++ y).length = x.length + y.length := by
  rw [TL.len_tl, TL.tl_append, List.length_append, ← TL.len_tl, ← TL.len_tl]
def S (l : List Nat) : Str := ⟨l.toArray⟩
theorem S_tl (l : List Nat) : TL.tl (S l) = l := rfl
theorem S_len (l : List Nat) : (S l).length = l.length := TL.len_tl _
end Pk
namespace Pk
open PySem L2
/-! ### things that are handed in -/
/-- signs that the texts have: from the blank to ~ but the percent sign, and line ends -/
def Sgn (z : Str) : Prop := ∀ c ∈ z.cps.toList, (32 ≤ c ∧ c ≤ 126 ∧ c ≠ 37) ∨ c = 10
theorem Sgn.ok {z : Str} (h : Sgn z) : SOk z := fun c hc => by
  rcases h c hc with q | q
  · omega
  · rw [q]
    decide
inductive Itm (H : Hp) : V → Prop
  | non : Itm H .non
  | bl (b : Bool) : Itm H (.bl b)
  | int (i : Int) (h : i.natAbs.log2 < 300) : Itm H (.int i)
  | str (z : Str) (hl : z.length ≤ 100) (ho : Sgn z) : Itm H (.str z)
  | lst {a : Addr} {v : V} (h : H a = some (.lst [v])) (hv : v = .int 1 ∨ ∃ z, v = .str z ∧ z.length ≤ 100 ∧ Sgn z) : Itm H (.ref a)
  | tup {a : Addr} (h : H a = some (.tup [.int 1])) : Itm H (.ref a)
  | dct {a : Addr} (h : H a = some (.dK [])) : Itm H (.ref a)
theorem Itm.same {H H' : Hp} {x : V} (h : Itm H x) (s : Same H H') : Itm H' x := by
  cases h with
  | non => exact .non
  | bl b => exact .bl b
  | int i h => exact .int i h
  | str z hl ho => exact .str z hl ho
  | lst h hv => exact .lst (s _ _ h) hv
  | tup h => exact .tup (s _ _ h)
  | dct h => exact .dct (s _ _ h)
def vInt : V → Bool
  | .int _ => true
  | _ => false
def vBool : V → Bool
  | .bl _ => true
  | _ => false
def vStr : V → Bool
  | .str _ => true
  | _ => false
theorem Itm.ty {K : PySem.W.Frag} {H : Hp} {x : V} (h : Itm H x) : ∃ t : String, TyX K H x (.type t) ∧ kitB t "int" = some (vInt x || vBool x) ∧ kitB t "bool" = some (vBool x) ∧ kitB t "str" = some (vStr x) := by
  cases h with
  | non => exact ⟨_, .base .non, by decide +kernel, by decide +kernel, by decide +kernel⟩
  | bl b => exact ⟨_, .base (.bl b), (by decide +kernel : kitB "bool" "int" = some true), (by decide +kernel : kitB "bool" "bool" = some true), (by decide +kernel : kitB "bool" "str" = some false)⟩
  | int i h => exact ⟨_, .base (.int i), (by decide +kernel : kitB "int" "int" = some true), (by decide +kernel : kitB "int" "bool" = some false), (by decide +kernel : kitB "int" "str" = some false)⟩
  | str z hl ho => exact ⟨_, .base (.str z), (by decide +kernel : kitB "str" "int" = some false), (by decide +kernel : kitB "str" "bool" = some false), (by decide +kernel : kitB "str" "str" = some true)⟩
  | lst h hv => exact ⟨_, .base (.lst h), (by decide +kernel : kitB "list" "int" = some false), (by decide +kernel : kitB "list" "bool" = some false), (by decide +kernel : kitB "list" "str" = some false)⟩
  | tup h => exact ⟨_, .base (.tup h), (by decide +kernel : kitB "tuple" "int" = some false), (by decide +kernel : kitB "tuple" "bool" = some false), (by decide +kernel : kitB "tuple" "str" = some false)⟩
  | dct h => exact ⟨_, .base (.dK h), (by decide +kernel : kitB "dict" "int" = some false), (by decide +kernel : kitB "dict" "bool" = some false), (by decide +kernel : kitB "dict" "str" = some false)⟩
/-- whether it is a whole number from lo to hi -/
def whole (x : V) (lo hi : Int) : Bool := match x with
  | .int i => decide (lo ≤ i) && decide (i ≤ hi)
  | _ => false
def letters : Str := "abcdefghijklmnopqrstuvwxyz"
def nameT (z : Str) : Bool := decide (1 ≤ z.length) && decide (z.length ≤ 8) && z.cps.toList.all fun c => decide (c ∈ letters.cps.toList)
def nameV : V → Bool
  | .str z => nameT z
  | _ => false
def signOk (c : Nat) : Bool := decide (32 ≤ c) && decide (c ≤ 126) && !decide (c = 37)
def textT (z : Str) : Bool := decide (1 ≤ z.length) && decide (z.length ≤ 30) && !decide (z.cps.toList[0]? = some 32) && !decide (z.cps.toList.getLast? = some 32) && z.cps.toList.all signOk
def textV : V → Bool
  | .str z => textT z
  | _ => false
end Pk
/-! ### how many texts of a tuple are unlike: len(set(texts)) -/
namespace Pk
open PySem PyProof.Rows
/-- which of the first i there are, and how many unlike ones -/
def seen (zs : List Str) (i : Nat) (k : Str) : Bool := (zs.take i).any (· == k)
def unlike (zs : List Str) : Nat → Nat
  | 0 => 0
  | i + 1 => if seen zs i (zs.getD i Str.empty) = true then unlike zs i else unlike zs i + 1
theorem unlike_le (zs : List Str) : ∀ i, unlike zs i ≤ i
  | 0 => Nat.le_refl _
  | i + 1 => by
    have := unlike_le zs i
    unfold unlike
    split <;> omega
theorem seen_next {zs : List Str} {i : Nat} (h : i < zs.length) (k : Str) : (seen zs i k || decide (k = zs.getD i Str.empty)) = seen zs (i + 1) k := by
  unfold seen
  have e1 : zs.getD i Str.empty = zs[i] := by rw [List.getD_eq_getElem?_getD, List.getElem?_eq_getElem h]; rfl
  rw [List.take_add_one, List.getElem?_eq_getElem h, List.any_append, e1]
  show _ = (_ || ((zs[i] == k) || false))
  rw [Bool.or_false]
  congr 1
  by_cases e : k = zs[i]
  · rw [decide_eq_true e, e]
    exact (beq_self_eq_true _).symm
  · rw [decide_eq_false e]
    exact (beq_eq_false_iff_ne.mpr (fun q => e q.symm)).symm
section
variable {prog : Program} {w : World} {A : Around} {R : Result → Shared → Prop} {it : Addr} {fp wr : List Addr} {G : Array GenState → Array GenState → Prop} {n : Nat} {Pv : Nat → Value → Prop} {St : Nat → Shared → Prop}
theorem fill_texts (W : WalksS prog w A.in1 it fp wr G n Pv St) (b : Addr) (hb : b ∉ fp) (zs : List Str) (hz : zs.length = n) (room : n + 1 < scanBound)
    (hv : ∀ i v, Pv i v → ∃ t, v = .str (zs.getD i Str.empty) t) :
    ∀ (m i : Nat) (s : Shared), n - i = m → i ≤ n → St i s → s.heap.SetOf (PySem.strKind prog w) b (seen zs i) (unlike zs i) →
      (∀ s', Moved (b :: wr) G s s' → s'.heap.SetOf (PySem.strKind prog w) b (seen zs n) (unlike zs n) → R (.ok (.ret .none)) s') →
      codeAny (model prog w) A (.builtin "set.update.loop" ⟨[.ref b, .ref it], []⟩) R s := by
  have nw : b ∉ wr := fun h => hb (W.sub _ h)
  have up : ∀ c ∈ wr, c ∈ b :: wr := fun c hc => List.mem_cons_of_mem _ hc
  have keepS : ∀ {s s' : Shared} {i : Nat}, Moved wr G s s' → s.heap.SetOf (PySem.strKind prog w) b (seen zs i) (unlike zs i) → s'.heap.SetOf (PySem.strKind prog w) b (seen zs i) (unlike zs i) := fun mv hS => by
    obtain ⟨o, es, ep, t, ho, rest⟩ := hS
    exact ⟨o, es, ep, t, mv.heap b _ nw ho, rest⟩
  intro m
  induction m with
  | zero =>
    intro i s e1 e2 e3 e4 e5
    have e6 : i = n := by omega
    subst e6
    refine codeAny_builtin F.entry_set_update_loop ?_
    rw [Around.under_plainId F.plain_set_update_loop _]
    show wpAny _ A.in1 (pyNext (.ref it) >>= _) _ _ s
    refine wpAny_bind (W.done s _ _ e3 fun s' mv => ?_)
    show wpAny _ A.in1 (ret Value.none) _ _ s'
    exact wpAny_pure (e5 s' (mv.mono up) (keepS mv e4))
  | succ m ih =>
    intro i s e1 e2 e3 e4 e5
    have lt : i < n := by omega
    have li := unlike_le zs i
    refine codeAny_builtin F.entry_set_update_loop ?_
    rw [Around.under_plainId F.plain_set_update_loop _]
    show wpAny _ A.in1 (pyNext (.ref it) >>= _) _ _ s
    refine wpAny_bind (W.item i s _ _ lt e3 fun v s' pv st' mv => ?_)
    obtain ⟨t, rfl⟩ := hv i v pv
    have e7 : s'.heap.SetOf (PySem.strKind prog w) b (seen zs i) (unlike zs i) := keepS mv e4
    show wpAny _ A.in1 (holding [Value.str (zs.getD i Str.empty) t] (setAdd b (.str (zs.getD i Str.empty) t)) >>= _) _ _ s'
    refine wpAny_bind (wpAny_holding ?_)
    unfold setAdd
    refine wpAny_holding (wpAny_bind ((PySem.strKind prog w).pyHash (k := zs.getD i Str.empty) (strKind_is _ _ _ _) ?_))
    refine wpAny_setAddHashed_of (knd := PySem.strKind prog w) (s := { s' with toks := s'.toks + 1 }) (strKind_is _ _ _ _) rfl e7 (by omega) fun h' hsb hS2 => ?_
    have hSi : h'.SetOf (PySem.strKind prog w) b (seen zs (i + 1)) (unlike zs (i + 1)) :=
      SetOf_congr hS2 (fun k => seen_next (by omega) k) rfl
    refine wpAny_pure ⟨plainId_quiet F.plain_set_update_loop _, ih (i + 1) _ (by omega) lt (W.frame _ s' _ _ st' (Nat.le_succ _) fun c hc o e => ?_) hSi fun s'' mv2 hS3 => ?_⟩
    · rw [hsb.2 c (fun h : c = b => hb (h ▸ hc))]
      exact e
    · refine e5 s'' (Moved.trans W.gtrans ((mv.mono up).then_heap (Nat.le_succ _) fun c o hc e => ?_) mv2) hS3
      rw [hsb.2 c (fun h : c = b => hc (by rw [h]; exact List.mem_cons_self))]
      exact e
end

section
variable {prog : Program} {w : World} {A : Around} {E : Value → Shared → Prop} {s : Shared}
abbrev bare (d : Bool) : Obj := { cls := .type "set", dict := none, data := .set #[] 0 (.fresh 0 0 d) }
/-- set(texts), of a tuple of texts -/
theorem set_of_texts {l : Addr} {its : Array Value} {zs : List Str} {Q : Value → Shared → Prop} (hh : A.handled = none) (hl : s.heap.IsTuple l its) (hi : StrsAre its.toList zs) (room : zs.length + 1 < scanBound)
    (h : ∀ (h' : Heap) (tk : Nat), h'.SetOf (PySem.strKind prog w) s.heap.objs.size (seen zs zs.length) (unlike zs zs.length) →
      (∀ c o, c < s.heap.objs.size → s.heap.get? c = some o → h'.get? c = some o) → Q (.ref s.heap.objs.size) { s with heap := h', toks := tk }) :
    wpAny (model prog w) A (call (.type "set") [.ref l]) Q E s := by
  have hsz : zs.length = its.size := by rw [← StrsAre.len_eq hi, Array.length_toList]
  obtain ⟨c0, tl0, m0⟩ := PySem.F.called_set.mro
  have m1 := PySem.F.called_set.made
  have m2 := PySem.F.called_set.sub
  refine wpAny_call (codeAny_of_tree ?_)
  show wpAny _ _ (callAny (.type "set") _) _ _ _
  refine wpAny_pure ⟨Code.quiet_builtin _ (by decide +kernel), codeAny_builtin PySem.F.entry_type_call ?_⟩
  rw [Around.under_plain (weight_type_call_type "set" [.ref l] []) rfl]
  have m3 := PySem.F.called_set.notType
  have m4 := PySem.F.called_set.canCreate
  have m5 := PySem.F.typeCall_set_1 (.ref l)
  repeat (any_goals (first | assumption | wp_step))
  refine codeAny_mono (code_set_new_1 (.ref l) (E := E) (Q₁ := fun x s₁ => ∃ d : Bool, x = .ref s.heap.objs.size ∧ s₁ = { s with heap := s.heap.push (bare d) }) fun d => ⟨d, rfl, rfl⟩) fun r s₁ hr => ?_
  cases r with
  | error e => exact hr
  | ok fl =>
    cases fl with
    | ret x =>
      obtain ⟨d, rfl, rfl⟩ := hr
      have n1 : (s.heap.push (bare d)).get? s.heap.objs.size = some (bare d) := Heap.get?_push_size _ rfl
      have n2 : Shared.TypeIs { s with heap := s.heap.push (bare d) } (.ref s.heap.objs.size) "set" := ⟨_, n1, rfl⟩
      have n3 := PySem.F.called_set.init.lookup
      have n4 := PySem.F.called_set.init.bind (.ref s.heap.objs.size)
      repeat (any_goals (first | assumption | wp_step))
      refine codeAny_mono (codeAny_call_builtin (R := wants (fun r s₂ => r = .none ∧ ∃ h' tk, s₂ = { s with heap := h', toks := tk } ∧
          h'.SetOf (PySem.strKind prog w) s.heap.objs.size (seen zs zs.length) (unlike zs zs.length) ∧
          (∀ c o, c < s.heap.objs.size → s.heap.get? c = some o → h'.get? c = some o)) E) PySem.F.called_set.init.plain PySem.F.entry_set_init (check_set_init_1 n2 ?_)) fun r₂ s₂ hr₂ => ?_
      · obtain ⟨⟨oc, od, odt, osl⟩, hol, hcl, nl, hdl⟩ := hl
        simp only at hcl hdl
        subst hcl; subst hdl
        have k1 : (s.heap.push (bare d)).get? l = some { cls := .type "tuple", dict := od, data := .seq its nl, slots := osl } := Heap.get?_push_of_some _ hol
        have k2 := PySem.F.sub_tuple_set
        have k3 := PySem.F.sub_tuple_frozenset
        have k4 : (Value.type "tuple" == Value.type "dict") = false := by decide
        have k5 : (s.heap.push (bare d)).IsTuple l its := ⟨_, k1, rfl, nl, rfl⟩
        have k6 : l < s.heap.objs.size := Heap.lt_size hol
        unfold Builtin.«set.__init__» noKeywords Builtin.Frozenset.updateFrom
        generalize hPI : pyIter = PI
        wp_walk
        subst hPI
        refine wpAny_pyIter_tuple k5 ?_
        refine wpAny_bind (wpAny_runValue ?_)
        have k7 : l ≠ (s.heap.push (bare d)).objs.size := by
          rw [Heap.size_push]
          exact Nat.ne_of_lt (Nat.lt_succ_of_lt k6)
        have k8 : s.heap.objs.size ∉ [(s.heap.push (bare d)).objs.size, l] := by
          rw [Heap.size_push]
          intro q
          rcases List.mem_cons.mp q with q | q
          · exact absurd q (Nat.ne_of_lt (Nat.lt_succ_self _))
          · exact absurd (List.mem_singleton.mp q) (Nat.ne_of_gt k6)
        refine fill_texts ((Walks.tuple (by simp [hh]) _ l k7 its).toS) s.heap.objs.size k8 zs hsz (by omega)
          (fun i v hv => SS.strs_at hi i v (by rw [Array.getElem?_toList]; exact hv)) (its.size - 0) 0 _ (by omega) (Nat.zero_le _)
          ⟨⟨_, Heap.get?_push_size _ rfl, rfl, rfl⟩, k5.push _⟩ ?pk_s0 ?pk_s1
        case pk_s0 =>
          exact SetOf_congr ((setObjOf_fresh (knd := PySem.strKind prog w) d).setOf (Heap.get?_push_of_some _ n1) (by unfold scanBound; omega)) (fun _ => rfl) rfl
        case pk_s1 =>
          rintro ⟨h', g', d', tk', os'⟩ mv hS'
          obtain rfl : g' = s.gens := mv.gens
          obtain rfl : d' = s.drawn := mv.drawn
          obtain rfl : os' = s.os := mv.os
          show wpAny _ _ _ _ _ _
          refine wpAny_pure ?_
          show wpAny _ _ (ret Value.none) _ _ _
          refine wpAny_pure ⟨rfl, h', tk', rfl, by rw [hsz]; exact hS', fun c o hc e => ?_⟩
          refine mv.heap c o (fun q => ?_) (Heap.get?_push_of_some _ (Heap.get?_push_of_some _ e))
          rw [Heap.size_push] at q
          rcases List.mem_cons.mp q with q | q
          · exact absurd q (Nat.ne_of_lt hc)
          · exact absurd (List.mem_singleton.mp q) (Nat.ne_of_lt (Nat.lt_succ_of_lt hc))
      · cases r₂ with
        | error e => exact hr₂
        | ok fl₂ =>
          cases fl₂ with
          | ret r =>
            obtain ⟨rfl, h', tk, rfl, hS', hk'⟩ := hr₂
            repeat (any_goals (first | assumption | wp_step))
            exact h _ _ hS' hk'
          | _ => exact hr₂.elim
    | _ => exact hr.elim
end
end Pk
namespace Pk
open PySem PySem.Spec L2
/-- len(set(texts)) -/
def tLenTexts (K : PySem.W.Frag) (ta : TE) : TE := fun σ H Q => ta σ H fun x H1 => ∃ (l : Addr) (zs : List Str), x = .ref l ∧ SqT K H1 l (zs.map V.str) ∧ zs.length ≤ 1000 ∧ Q (.int (unlike zs zs.length : Nat)) H1
theorem pe_lenTexts {X : Cx} {a : Expr} {ta : TE} {p p2 q pos : Pos} (hg : Gl X "len") (hm : X.mg "len" = none) (hg2 : Gl X "set") (hm2 : X.mg "set" = none) (ha : PE X a ta) (hc : X.calm = true := by rfl)
    (na : starEach [a] X.env = (false, eval a X.env) :: starEach [] X.env := by rfl) : PE X (.Call (.Name "len" p) [.Call (.Name "set" p2) [a] [] q] [] pos) (tLenTexts X.K ta) := by
  constructor
  intro pins s σ H Q I h
  refine PyProof.Rows.Call_ (ld_blt I hg hm boot_len (PyProof.Rows.callWith_builtin1 (PyProof.Rows.args_cons ?_ rfl) rfl rfl))
  refine PyProof.Rows.Call_ (ld_blt I hg2 hm2 PyProof.Rows.boot_set ?_)
  refine PyProof.Rows.callWith_type1 (PyProof.Rows.args_cons (thn (ha.run pins s σ H _ I h) ?_) na) na rfl
  rintro v s1 ⟨x, H1, I1, r1, l, zs, rfl, hq, hl, q1⟩
  cases r1
  obtain ⟨its, r, pl, hz⟩ := I1.tuple hq
  refine PyProof.Rows.args_nil (set_of_texts (I1.ok.hd hc) pl (by simpa using strsAre_of r) (by unfold scanBound; omega) fun h' tk hS hk => PyProof.Rows.args_nil ?_)
  obtain ⟨o, es, ep, t, ho, hex, hd, _, _, _, hf, hn⟩ := hS
  have hu := unlike_le zs zs.length
  refine call_len_set ho hex hd hf (by rw [hn]; omega) ⟨.int (unlike zs zs.length : Nat), H1, (I1.kept fun c o e => hk c o (Heap.lt_size e) e).tok _, ⟨_, by rw [hn]⟩, q1⟩
end Pk
namespace Pk
open PySem L2
/-! ### things of any of the plain kinds -/
inductive Thg (H : Hp) : V → Prop
  | non : Thg H .non
  | bl (b : Bool) : Thg H (.bl b)
  | int (i : Int) : Thg H (.int i)
  | str (z : Str) (hl : z.length ≤ 1000) (ho : Sgn z) : Thg H (.str z)
  | lst {a : Addr} {vs : List V} (h : H a = some (.lst vs)) : Thg H (.ref a)
  | tup {a : Addr} {vs : List V} (h : H a = some (.tup vs)) : Thg H (.ref a)
  | dct {a : Addr} {kvs : List (Key × V)} (h : H a = some (.dK kvs)) : Thg H (.ref a)
theorem Thg.same {H H' : Hp} {x : V} (h : Thg H x) (s : Same H H') : Thg H' x := by
  cases h with
  | non => exact .non
  | bl b => exact .bl b
  | int i => exact .int i
  | str z hl ho => exact .str z hl ho
  | lst h => exact .lst (s _ _ h)
  | tup h => exact .tup (s _ _ h)
  | dct h => exact .dct (s _ _ h)
/-- the things of a tuple -/
def tupO : Option HO → Option (List V)
  | some (.tup vs) => some vs
  | _ => none
def tupV (H : Hp) : V → Option (List V)
  | .ref a => tupO (H a)
  | _ => none
theorem tupV_ref (H : Hp) (a : Addr) : tupV H (.ref a) = tupO (H a) := rfl
theorem tupV_at {H : Hp} {a : Addr} {vs : List V} (h : H a = some (.tup vs)) : tupV H (.ref a) = some vs := by
  rw [tupV_ref, h]
  rfl
theorem tupV_of {H : Hp} {x : V} {vs : List V} (h : tupV H x = some vs) : ∃ a, x = .ref a ∧ H a = some (.tup vs) := by
  cases x with
  | ref a =>
    rw [tupV_ref] at h
    refine ⟨a, rfl, ?_⟩
    generalize H a = o at h
    cases o with
    | none => cases h
    | some o =>
      cases o with
      | tup ws =>
        cases h
        rfl
      | _ => cases h
  | _ => cases h
theorem Thg.tupS {H H' : Hp} {x : V} (h : Thg H x) (s : Same H H') : tupV H' x = tupV H x := by
  cases h with
  | non => rfl
  | bl b => rfl
  | int i => rfl
  | str z hl ho => rfl
  | lst h =>
    have e := s _ _ h
    rw [tupV_ref, tupV_ref, h, e]
  | tup h => rw [tupV_at h, tupV_at (s _ _ h)]
  | dct h =>
    have e := s _ _ h
    rw [tupV_ref, tupV_ref, h, e]
theorem Thg.ty {K : PySem.W.Frag} {H : Hp} {x : V} (h : Thg H x) : ∃ t : String, TyX K H x (.type t) ∧ kitB t "int" = some (vInt x || vBool x) ∧ kitB t "bool" = some (vBool x) ∧ kitB t "str" = some (vStr x) ∧ kitB t "tuple" = some (tupV H x).isSome := by
  cases h with
  | non => exact ⟨_, .base .non, by decide +kernel, by decide +kernel, by decide +kernel, (by decide +kernel : kitB "NoneType" "tuple" = some false)⟩
  | bl b => exact ⟨_, .base (.bl b), (by decide +kernel : kitB "bool" "int" = some true), (by decide +kernel : kitB "bool" "bool" = some true), (by decide +kernel : kitB "bool" "str" = some false), (by decide +kernel : kitB "bool" "tuple" = some false)⟩
  | int i => exact ⟨_, .base (.int i), (by decide +kernel : kitB "int" "int" = some true), (by decide +kernel : kitB "int" "bool" = some false), (by decide +kernel : kitB "int" "str" = some false), (by decide +kernel : kitB "int" "tuple" = some false)⟩
  | str z hl ho => exact ⟨_, .base (.str z), (by decide +kernel : kitB "str" "int" = some false), (by decide +kernel : kitB "str" "bool" = some false), (by decide +kernel : kitB "str" "str" = some true), (by decide +kernel : kitB "str" "tuple" = some false)⟩
  | lst h =>
    refine ⟨_, .base (.lst h), (by decide +kernel : kitB "list" "int" = some false), (by decide +kernel : kitB "list" "bool" = some false), (by decide +kernel : kitB "list" "str" = some false), ?_⟩
    rw [tupV_ref, h]
    exact (by decide +kernel : kitB "list" "tuple" = some false)
  | tup h =>
    refine ⟨_, .base (.tup h), (by decide +kernel : kitB "tuple" "int" = some false), (by decide +kernel : kitB "tuple" "bool" = some false), (by decide +kernel : kitB "tuple" "str" = some false), ?_⟩
    rw [tupV_at h]
    exact (by decide +kernel : kitB "tuple" "tuple" = some true)
  | dct h =>
    refine ⟨_, .base (.dK h), (by decide +kernel : kitB "dict" "int" = some false), (by decide +kernel : kitB "dict" "bool" = some false), (by decide +kernel : kitB "dict" "str" = some false), ?_⟩
    rw [tupV_ref, h]
    exact (by decide +kernel : kitB "dict" "tuple" = some false)
def nameE (x : V) : Bool := nameV x || decide (x = .str "")
def strV : V → Str
  | .str z => z
  | _ => ""
/-- whether these things are two to six unlike texts -/
def answersL (vs : List V) : Bool := decide (2 ≤ vs.length) && decide (vs.length ≤ 6) && vs.all textV && decide (unlike (vs.map strV) vs.length = vs.length)
def answersV (H : Hp) (x : V) : Bool := match tupV H x with
  | some vs => answersL vs
  | none => false
theorem strs_of : ∀ {vs : List V}, vs.all textV = true → vs = (vs.map strV).map V.str
  | [], _ => rfl
  | v :: vs, h => by
    rw [List.all_cons, Bool.and_eq_true] at h
    obtain ⟨h1, h2⟩ := h
    rw [List.map_cons, List.map_cons, ← strs_of h2]
    congr 1
    cases v with
    | str z => rfl
    | _ => cases h1
end Pk
namespace Pk
open PySem L2
/-! ### how things are shown -/
theorem from_le : ∀ (ts : List Str) (k : Nat) (acc : Str), (textFrom k acc ts).length ≤ acc.length + (ts.map fun t => t.length + 2).sum
  | [], k, acc => by
    show acc.length ≤ _
    omega
  | t :: r, k, acc => by
    have h := from_le r (k + 1) (acc ++ (if k > 0 then ", " else "" : String) ++ t)
    rw [app_len, app_len] at h
    have h2 : ((if k > 0 then ", " else "" : String) : Str).length ≤ 2 := by
      split <;> decide +kernel
    rw [List.map_cons, List.sum_cons]
    have h3 : textFrom k acc (t :: r) = textFrom (k + 1) (acc ++ (if k > 0 then ", " else "" : String) ++ t) r := rfl
    rw [h3]
    omega
theorem list_le (ts : List Str) : (listText ts).length ≤ 2 + (ts.map fun t => t.length + 2).sum := by
  unfold listText
  rw [app_len, show ("]" : Str).length = 1 by decide +kernel]
  have := from_le ts 0 "["
  rw [show ("[" : Str).length = 1 by decide +kernel] at this
  omega
/-- fit to be shown -/
structure Shows (K : PySem.W.Frag) (H : Hp) (x : V) (d : PyData) : Prop where
  dq : Dq K H x d
  sh : d.showable = true
  dp : d.depth ≤ 64
  sz : d.shown.length ≤ sizeLine
theorem repr_le {z : Str} (hl : z.length ≤ 100) (ho : Sgn z) : (reprText z).length ≤ 1002 := by
  have h := StrLaws.reprText_len z fun c hc => by
    have := ho.ok c hc
    omega
  omega
theorem bools_le : ∀ bs : List Bool, ((PyData.shownAll (bs.map .bool)).map fun t => t.length + 2).sum ≤ 7 * bs.length
  | [] => Nat.le_refl _
  | b :: r => by
    have ih := bools_le r
    show ((PyData.shown (.bool b)).length + 2) + ((PyData.shownAll (r.map .bool)).map fun t => t.length + 2).sum ≤ 7 * (r.length + 1)
    have : (PyData.shown (.bool b)).length ≤ 5 := by
      cases b <;> decide +kernel
    omega
theorem bools_show : ∀ bs : List Bool, PyData.showableAll (bs.map .bool) = true
  | [] => by simp [PyData.showableAll]
  | b :: r => by simp [PyData.showableAll, PyData.showable, bools_show r]
theorem bools_depth : ∀ bs : List Bool, PyData.depthAll (bs.map .bool) = 0
  | [] => by simp [PyData.depthAll]
  | b :: r => by simp [PyData.depthAll, PyData.depth, bools_depth r]
theorem bools_dict : ∀ bs : List Bool, PyData.hasDictAll (bs.map .bool) = false
  | [] => by simp [PyData.hasDictAll]
  | b :: r => by simp [PyData.hasDictAll, PyData.hasDict, bools_dict r]
theorem bools_dp {K : PySem.W.Frag} {H : Hp} : ∀ bs : List Bool, DpAll K H (bs.map V.bl) (bs.map .bool)
  | [] => .nil
  | b :: r => .cons (.bl b) (bools_dp r)
/-- a list of truths -/
theorem shows_bools {K : PySem.W.Frag} {H : Hp} {p : Addr} (bs : List Bool) (h : H p = some (.lst (bs.map V.bl))) (n : bs.length ≤ 100) : Shows K H (.ref p) (.list (bs.map .bool)) where
  dq := .of (.lst (SqL.of h) (bools_dp bs)) (by simp [PyData.hasDict, bools_dict])
  sh := by simp [PyData.showable, bools_show]
  dp := by simp [PyData.depth, bools_depth]
  sz := by
    have h1 := list_le (PyData.shownAll (bs.map .bool))
    have h2 := bools_le bs
    have e : (PyData.list (bs.map .bool)).shown = listText (PyData.shownAll (bs.map .bool)) := by simp [PyData.shown]
    rw [e, sizeLine_eq]
    omega
theorem Itm.shows {K : PySem.W.Frag} {H : Hp} {x : V} (h : Itm H x) : ∃ d, Shows K H x d := by
  cases h with
  | non => exact ⟨.none, .of .non rfl, rfl, by decide, by decide +kernel⟩
  | bl b => exact ⟨.bool b, .of (.bl b) (by simp [PyData.hasDict]), by simp [PyData.showable], by simp [PyData.depth], by cases b <;> decide +kernel⟩
  | int i h =>
    refine ⟨.int i, .of (.int i) (by simp [PyData.hasDict]), decide_eq_true (by omega), by simp [PyData.depth], ?_⟩
    have e : (PyData.int i).shown = Str.ofString (toString i) := by simp [PyData.shown]
    rw [e]
    exact int_text_fits (by omega)
  | str z hl ho =>
    refine ⟨.str z, .of (.str z) (by simp [PyData.hasDict]), by simp [PyData.showable], by simp [PyData.depth], ?_⟩
    have e : (PyData.str z).shown = reprText z := by simp [PyData.shown]
    have := repr_le hl ho
    rw [e, sizeLine_eq]
    omega
  | @lst a v h hv =>
    rcases hv with rfl | ⟨z, rfl, hl, ho⟩
    · refine ⟨.list [.int 1], .of (.lst (SqL.of h) (.cons (.int 1) .nil)) (by simp [PyData.hasDict, PyData.hasDictAll]), by decide +kernel, by decide +kernel, by decide +kernel⟩
    · refine ⟨.list [.str z], .of (.lst (SqL.of h) (.cons (.str z) .nil)) (by simp [PyData.hasDict, PyData.hasDictAll]), by simp [PyData.showable, PyData.showableAll], by simp [PyData.depth, PyData.depthAll], ?_⟩
      have e : (PyData.list [.str z]).shown = listText [reprText z] := by simp [PyData.shown, PyData.shownAll]
      have h1 := list_le [reprText z]
      have h2 := repr_le hl ho
      rw [e, sizeLine_eq]
      simp at h1
      omega
  | tup h => exact ⟨.tuple [.int 1], .of (.tup (SqT.of h) (.cons (.int 1) .nil)) (by simp [PyData.hasDict, PyData.hasDictAll]), by decide +kernel, by decide +kernel, by decide +kernel⟩
  | dct h => exact ⟨.dict [], .emp h, by decide +kernel, by decide +kernel, by decide +kernel⟩
theorem Dq.same {K : PySem.W.Frag} {H H' : Hp} {x : V} {d : PyData} (s : Same H H') (h : Itm H x) (g : Shows K H x d) : True := trivial
end Pk
namespace Pk
open PySem L2
theorem room_show {k : Nat} {A : Around} (hr : Room k A) : A.units + 70 < cLine := by
  have := hr.un
  omega
/-- a reading that asks for more -/
theorem pe_imp {X : Cx} {e : Expr} {t : TE} (t' : TE) (h : PE X e t) (k : ∀ σ H Q, t' σ H Q → t σ H Q) : PE X e t' := ⟨fun pins s σ H Q I w => h.run pins s σ H Q I (k σ H Q w)⟩
/-- signs as texts -/
def sgnD (l : List Nat) : PyData := .list (l.map fun c => .str ⟨#[c]⟩)
theorem sgn_lay : ∀ l : List Nat, (∀ c ∈ l, c < 0x110000) → PyData.canLayAll0 (l.map fun c => .str ⟨#[c]⟩) = true
  | [], _ => by simp [PyData.canLayAll0]
  | c :: r, h => by
    have h1 : PyData.strOk ⟨#[c]⟩ = true := (sok_iff _).mpr fun d hd => by
      rw [List.mem_singleton.mp hd]
      exact h c List.mem_cons_self
    have h2 := sgn_lay r fun d hd => h d (List.mem_cons_of_mem _ hd)
    simp [PyData.canLayAll0, PyData.canLay0, h1, h2]
theorem sgn_depth : ∀ l : List Nat, PyData.depthAll (l.map fun c => .str ⟨#[c]⟩) = 0
  | [] => by simp [PyData.depthAll]
  | c :: r => by simp [PyData.depthAll, PyData.depth, sgn_depth r]
theorem sgn_shaped (l : List Nat) (h : ∀ c ∈ l, c < 0x110000) : SeqAt.shaped (sgnD l) = true := by
  unfold sgnD
  simp [SeqAt.shaped, PyData.canLay0, PyData.depth, sgn_lay l h, sgn_depth]
theorem sgn_dp {K : PySem.W.Frag} {H : Hp} {p : Addr} {l : List Nat} (h : H p = some (.lst (l.map fun c => V.str ⟨#[c]⟩))) : Dp K H (.ref p) (sgnD l) := by
  refine .lst (SqL.of h) ?_
  clear h
  induction l with
  | nil => exact .nil
  | cons c r ih => exact .cons (.str _) ih
theorem sgn_nil (l : List Nat) : PyData.eqv (sgnD l) (sgnD []) = decide (l = []) := by
  cases l with
  | nil => simp [sgnD, PyData.eqv, PyData.eqvAll]
  | cons c r => simp [sgnD, PyData.eqv, PyData.eqvAll]
theorem name_filter (z : Str) : nameT z = (decide (0 < z.length) && (decide (z.length < 9) && decide (z.cps.toList.filter (fun c => !decide (c ∈ letters.cps.toList)) = []))) := by
  unfold nameT
  have e : (z.cps.toList.all fun c => decide (c ∈ letters.cps.toList)) = decide (z.cps.toList.filter (fun c => !decide (c ∈ letters.cps.toList)) = []) := by
    rw [Bool.eq_iff_iff, List.all_eq_true, decide_eq_true_iff, List.filter_eq_nil_iff]
    constructor
    · intro h c hc
      rw [h c hc]
      decide
    · intro h c hc
      have := h c hc
      simpa using this
  rw [e]
  have e1 : decide (1 ≤ z.length) = decide (0 < z.length) := decide_eq_decide.mpr (by omega)
  have e2 : decide (z.length ≤ 8) = decide (z.length < 9) := decide_eq_decide.mpr (by omega)
  rw [e1, e2, Bool.and_assoc]
theorem sign_ten {z : Str} (ho : Sgn z) : z.cps.toList.all signOk = !decide (10 ∈ z.cps.toList) := by
  rw [Bool.eq_iff_iff, List.all_eq_true]
  constructor
  · intro h
    have : ¬ (10 ∈ z.cps.toList) := fun hm => by
      have := h 10 hm
      revert this
      decide
    rw [decide_eq_false this]
    rfl
  · intro h c hc
    have hn : ¬ (10 ∈ z.cps.toList) := by
      intro hm
      rw [decide_eq_true hm] at h
      cases h
    rcases ho c hc with q | q
    · unfold signOk
      rw [decide_eq_true q.1, decide_eq_true q.2.1, decide_eq_false q.2.2]
      rfl
    · rw [q] at hc
      exact absurd hc hn
theorem text_law {z : Str} (ho : Sgn z) : textT z = ((decide (0 < z.length) && (decide (z.length < 31) && !decide (10 ∈ z.cps.toList))) && (!decide (z.cps.toList[0]? = some 32) && !decide (z.cps.toList.getLast? = some 32))) := by
  unfold textT
  rw [sign_ten ho]
  have e1 : decide (1 ≤ z.length) = decide (0 < z.length) := decide_eq_decide.mpr (by omega)
  have e2 : decide (z.length ≤ 30) = decide (z.length < 31) := decide_eq_decide.mpr (by omega)
  rw [e1, e2]
  cases decide (0 < z.length) <;> cases decide (z.length < 31) <;> cases decide (10 ∈ z.cps.toList) <;> cases decide (z.cps.toList[0]? = some 32) <;> cases decide (z.cps.toList.getLast? = some 32) <;> rfl

theorem one_blank (c : Nat) : decide (V.str ⟨#[c]⟩ = V.str " ") = decide (c = 32) := decide_eq_decide.mpr ⟨fun z => by
  have e := congrArg TL.tl (V.str.inj z)
  rw [blank_tl] at e
  exact (List.cons.inj e).1, fun z => by rw [z]; exact congrArg V.str (by decide +kernel)⟩
theorem last_at {l : List Nat} (h : l ≠ []) : atI l (-1) = some (l.getLast h) :=
  (congrArg (fun x => atI x (-1)) (List.dropLast_concat_getLast h).symm).trans (atI_last _ _)
end Pk
namespace Pk
open PySem L2
/-! ### a text without blanks at its ends -/
theorem strip_is (x : Str) : ∃ lo hi, lo ≤ hi ∧ hi ≤ x.length ∧ (Txt.stripChars x " ").cps.toList = (x.cps.toList.drop lo).take (hi - lo) ∧ (lo = hi ∨ (x.cps.getD lo 0 ≠ 32 ∧ x.cps.getD (hi - 1) 0 ≠ 32)) := by
  have e : Txt.stripChars x " " = Txt.stripBy (" " : Str).cps.contains true true x := rfl
  obtain ⟨a1, a2, a3⟩ := PyProof.Rows.lo_facts (" " : Str).cps.contains x
  obtain ⟨b1, b2, b3, b4⟩ := PyProof.Rows.hi_facts (" " : Str).cps.contains x _ a1
  have no : ∀ c : Nat, (" " : Str).cps.contains c = false → c ≠ 32 := fun c h z => by
    rw [z] at h
    revert h
    decide +kernel
  rw [PyProof.Rows.stripBy_eq] at e
  refine ⟨_, _, b1, b2, ?_, ?_⟩
  · rw [e]
    show (x.cps.extract _ _).toList = _
    rw [Array.toList_extract]
  · rcases b4 with h | h
    · exact .inl h.symm
    · rcases a3 with g | g
      · exact .inl (by omega)
      · exact .inr ⟨no _ g, no _ h⟩
theorem getD_at {x : Str} {k : Nat} (h : k < x.length) : x.cps.toList[k]? = some (x.cps.getD k 0) := by
  have h' : k < x.cps.toList.length := by rw [← len_is]; exact h
  rw [← PyProof.Rows.getD_list, List.getD_eq_getElem?_getD, List.getElem?_eq_getElem h']
  rfl
/-- such a text of good signs is a TEXT, unless nothing is left -/
theorem strip_text {x : Str} (hl : x.length ≤ 30) (hs : ∀ c ∈ x.cps.toList, signOk c = true) (hn : Txt.stripChars x " " ≠ "") : textT (Txt.stripChars x " ") = true := by
  obtain ⟨lo, hi, h1, h2, e, h3⟩ := strip_is x
  have ll : x.cps.toList.length = x.length := (len_is x).symm
  have hlen : (Txt.stripChars x " ").length = hi - lo := by
    rw [len_is, e, List.length_take, List.length_drop, ll]
    omega
  have ne : lo ≠ hi := fun z => hn (TL.ext_tl (by
    rw [empty_tl]
    show (Txt.stripChars x " ").cps.toList = []
    rw [e, z, Nat.sub_self, List.take_zero]))
  obtain ⟨c1, c2⟩ := h3.resolve_left ne
  have g0 : (Txt.stripChars x " ").cps.toList[0]? = some (x.cps.getD lo 0) := by
    rw [e, List.getElem?_take, if_pos (by omega), List.getElem?_drop, Nat.add_zero]
    exact getD_at (by omega)
  have gl : (Txt.stripChars x " ").cps.toList.getLast? = some (x.cps.getD (hi - 1) 0) := by
    rw [List.getLast?_eq_getElem?, ← len_is, hlen, e, List.getElem?_take, if_pos (by omega), List.getElem?_drop, show lo + (hi - lo - 1) = hi - 1 by omega]
    exact getD_at (by omega)
  have al : (Txt.stripChars x " ").cps.toList.all signOk = true := List.all_eq_true.mpr fun c hc => by
    rw [e] at hc
    exact hs c (List.mem_of_mem_drop (List.mem_of_mem_take hc))
  unfold textT
  rw [g0, gl, al, hlen, decide_eq_true (show 1 ≤ hi - lo by omega), decide_eq_true (show hi - lo ≤ 30 by omega), decide_eq_false (fun z => c1 (Option.some.inj z)), decide_eq_false (fun z => c2 (Option.some.inj z))]
  rfl
/-- signs one by one, put together -/
theorem joins_of {p : Nat → Prop} {ys : List Str} (h : ∀ y ∈ ys, ∃ c, y = ⟨#[c]⟩ ∧ p c) : (Txt.join "" ys).length = ys.length ∧ ∀ c ∈ (Txt.join "" ys).cps.toList, p c := by
  constructor
  · rw [join0_len]
    induction ys with
    | nil => rfl
    | cons y r ih =>
      obtain ⟨c, rfl, _⟩ := h y List.mem_cons_self
      rw [List.map_cons, List.sum_cons, ih fun x hx => h x (List.mem_cons_of_mem _ hx), List.length_cons]
      show 1 + _ = _
      omega
  · intro c hc
    rw [show (Txt.join "" ys).cps.toList = TL.joinL (TL.tl "") (ys.map TL.tl) from by rw [TL.join_eq]; exact TL.tl_join "" ys, empty_tl] at hc
    obtain ⟨q, hq, hm⟩ := joinL_mem _ hc
    obtain ⟨y, hy, rfl⟩ := List.mem_map.mp hq
    obtain ⟨d, rfl, hd⟩ := h y hy
    have : c = d := List.mem_singleton.mp hm
    rw [this]
    exact hd
end Pk
namespace Pk
open PySem L2
theorem iteF' {p : Prop} [Decidable p] {a b : Prop} (h : ¬ p) (k : b) : if p then a else b := by
  rw [if_neg h]
  exact k
theorem iteT' {p : Prop} [Decidable p] {a b : Prop} (h : p) (k : a) : if p then a else b := by
  rw [if_pos h]
  exact k
theorem upd_upd {H : Hp} {a : Addr} {o o' : HO} : upd (upd H a o) a o' = upd H a o' := by
  funext b
  unfold upd
  by_cases h : b = a
  · rw [if_pos h, if_pos h]
  · rw [if_neg h, if_neg h, if_neg h]
theorem wipe1 {σ : St} {j : Nat} : wipe σ [j] = σ.set j none := by
  first | rfl | simp [wipe]
theorem wipe_set {σ : St} {j : Nat} {v : Option V} : wipe ((wipe σ [j]).set j v) [j] = wipe σ [j] := by
  rw [wipe1, wipe1, List.set_set, List.set_set]
theorem set_at {σ : St} {j : Nat} {v : Option V} (h : j < σ.length) : ((wipe σ [j]).set j v)[j]? = some v := by
  rw [wipe1, List.set_set]
  exact List.getElem?_set_self h
theorem ps_imp {X : Cx} {st : Stmt} {t : TS} (t' : TS) (h : PS X st t) (k : ∀ D σ H, t' D σ H → t D σ H) : PS X st t' := ⟨fun pins s σ H D I w => h.run pins s σ H D I (k D σ H w)⟩
theorem pss_imp {X : Cx} {st : List Stmt} {t : TS} (t' : TS) (h : PSs X st t) (k : ∀ D σ H, t' D σ H → t D σ H) : PSs X st t' := ⟨fun pins s σ H D I w => h.run pins s σ H D I (k D σ H w)⟩
theorem pt_imp {X : Cx} {e : Expr} {t : TT} (t' : TT) (h : PT X e t) (k : ∀ σ H Q, t' σ H Q → t σ H Q) : PT X e t' := ⟨fun pins s σ H Q I w => h.run pins s σ H Q I (k σ H Q w)⟩
/-- len of any list or tuple that is read, its question by name -/
def rLenQ (K : PySem.W.Frag) : List V → Hp → VK → Prop := fun xs H Q => ∃ p ys, xs = [.ref p] ∧ (SqL K H p ys ∨ SqT K H p ys) ∧ Q (.int ys.length) H
theorem call_lenQ {X : Cx} : CallR X (.builtin "len") (rLenQ X.K) := call_len_seq
/-- two objects of unlike kinds stand apart -/
theorem apart {H : Hp} {p q : Addr} {o u : HO} (h1 : H p = some o) (h2 : H q = some u) (n : o ≠ u) : p ≠ q := fun e => by
  rw [e, h2] at h1
  exact n (Option.some.inj h1).symm
theorem getD_map {α β : Type} {f : α → β} {l : List α} {i : Nat} {y : β} (h : (l.map f)[i]? = some y) : ∃ x, l[i]? = some x ∧ y = f x := by
  rw [List.getElem?_map] at h
  cases e : l[i]? with
  | none => rw [e] at h; cases h
  | some x => rw [e] at h; exact ⟨x, rfl, (Option.some.inj h).symm⟩
end Pk
namespace Pk
open PySem L2
/-! ### names, of letters -/
theorem letters_len : letters.cps.toList.length = 26 := by decide +kernel
theorem letters_sign : ∀ c ∈ letters.cps.toList, signOk c = true := fun c hc => List.all_eq_true.mp (by decide +kernel : letters.cps.toList.all signOk = true) c hc
theorem letters_nd : letters.cps.toList.Nodup := by decide +kernel
theorem sign_sgn {c : Nat} (h : signOk c = true) : 32 ≤ c ∧ c ≤ 126 ∧ c ≠ 37 := by
  unfold signOk at h
  simp at h
  omega
theorem name_len {z : Str} (h : nameT z = true) : 1 ≤ z.length ∧ z.length ≤ 8 := by
  unfold nameT at h
  simp only [Bool.and_eq_true, decide_eq_true_iff] at h
  exact h.1
theorem name_sgn {z : Str} (h : nameT z = true) : Sgn z := by
  unfold nameT at h
  simp only [Bool.and_eq_true, decide_eq_true_iff, List.all_eq_true] at h
  exact fun c hc => .inl (sign_sgn (letters_sign c (h.2 c hc)))
theorem name_thg {H : Hp} {z : Str} (h : nameT z = true) : Thg H (.str z) := .str z (by have := (name_len h).2; omega) (name_sgn h)
theorem name_of {z : Str} (h1 : 1 ≤ z.length) (h8 : z.length ≤ 8) (h : ∀ c ∈ z.cps.toList, c ∈ letters.cps.toList) : nameT z = true := by
  unfold nameT
  simp only [Bool.and_eq_true, decide_eq_true_iff, List.all_eq_true]
  exact ⟨⟨h1, h8⟩, h⟩
theorem cutS_lo {z : Str} {i : Int} (i0 : 0 ≤ i) : TL.tl (cutS z none (some i)) = (TL.tl z).take i.toNat := by
  obtain ⟨k, rfl⟩ := Int.eq_ofNat_of_zero_le i0
  show ((z.cps.toList.drop 0).take (HT.sIx z.length z.length (some (k : Int)) - 0)) = _
  rw [show HT.sIx z.length z.length (some (k : Int)) = min k z.length from HT.sIx_nat _ _ _, List.drop_zero, Nat.sub_zero, Int.toNat_natCast, List.take_eq_take_iff, ← len_is]
  omega
theorem cutS_hi {z : Str} {i : Int} (i0 : 0 ≤ i) : TL.tl (cutS z (some i) none) = (TL.tl z).drop i.toNat := by
  obtain ⟨k, rfl⟩ := Int.eq_ofNat_of_zero_le i0
  have e : z.length = (TL.tl z).length := TL.len_tl z
  show ((z.cps.toList.drop (HT.sIx z.length 0 (some (k : Int)))).take (z.length - HT.sIx z.length 0 (some (k : Int)))) = _
  rw [show HT.sIx z.length 0 (some (k : Int)) = min k z.length from HT.sIx_nat _ _ _, Int.toNat_natCast]
  show ((TL.tl z).drop (min k z.length)).take (z.length - min k z.length) = _
  rw [List.take_of_length_le (by rw [List.length_drop]; omega)]
  by_cases h : k ≤ z.length
  · rw [Nat.min_eq_left h]
  · rw [Nat.min_eq_right (by omega), List.drop_of_length_le (by omega), List.drop_of_length_le (by omega)]
end Pk
namespace Pk
open PySem L2
/-! ### calls with keywords, of defs with defaults -/
section
variable {K : PySem.W.Frag} {x qual : Str} {params : Arguments} {body : List Stmt} {scope : Scope} {dvs : List V} {f : Addr} {fd : FuncData} {ps : List Str}
theorem kbnD (F : FunD K x qual params body scope dvs [] f fd) (n : Nat) (ks : List Str) (g : {α : Type} → List α → List α → List α → List α) (hd : dvs ≠ [])
    (hrel : ∀ {vs ds zs : List V} {us its ws : List Value}, Vals vs us → Vals ds its → Vals zs ws → Vals (g vs ds zs) (g us its ws))
    (h : ∀ (T : Addr) (kV doc pm : Value) (an : Option Addr) (cdv ct : Value) (us its ws : List Value), us.length = n → its.length = dvs.length → ws.length = ks.length →
      ∃ k, bindArgs (PySem.W.fnOf x qual params body scope (.ref T) kV doc pm an cdv ct) ⟨us, ks.zip ws⟩ = seqItems? (.ref T) >>= k ∧ k (some its.toArray) = pure (ps.zip (g us its ws))) :
    ∃ its : List Value, KBn K fd ps n ks (fun us ws => g us its ws) (fun vs zs => g vs dvs zs) := by
  obtain ⟨oc, od, dV, kV, doc, pm, an, cdv, ct, osl, rfl, lk, hcd, hD, hK⟩ := F.ex
  rcases hD with ⟨e, _⟩ | ⟨_, T, o, its, m, rfl, lT, oT, rT⟩
  · exact absurd e hd
  · refine ⟨its, ⟨fun s us ws X l1 l2 => ?_, fun r1 r2 => hrel r1 rT r2⟩⟩
    obtain ⟨k, e1, e2⟩ := h T kV doc pm an cdv ct us its ws l1 rT.length.symm l2
    refine BindsTo.of_looks fun M => ?_
    rw [e1]
    exact looks_items X lT oT (.of_pure e2)
end
section
variable {X : Cx} {CX : CXT} {k : Nat} {f : Addr} {fd : FuncData} {ps ks : List Str} {sp : Sp} {E : XK} {x : Str} {p pos : Pos} {kws : List Keyword} {tk : TA} {g : List Value → List Value → List Value} {gV : List V → List V → List V}
theorem pe_callN0 (F : FnOk X.prog X.w X.K X.mg X.base CX k f fd ps sp) (hr : Room k X.A) (hg : Gl X x) (hm : X.mg x = some (.ref f)) (hk : PySem.W.keepIn X.K (.ref f) = true) (hb : KBn X.K fd ps 0 ks g gV) (hx : Passes CX X E)
    (hkw : PK X kws tk) (hall : (backToKw pos (keywordEach kws X.env)).all (·.1.isSome) = true := by rfl) (hks : (backToKw pos (keywordEach kws X.env)).filterMap (·.1) = ks := by rfl) (hdb : (x == ("__debug__" : Str)) = false := by decide)
    (hpl : ((backTo pos (starEach [] X.env)).any (·.1) || (backToKw pos (keywordEach kws X.env)).any (·.1.isNone)) = false := by rfl) :
    PE X (.Call (.Name x p) [] kws pos) (tCallN 0 ks.length sp gV E tNil tk) := by
  constructor
  intro pins s σ H Q I h
  refine wpAny_Call_Name_kw (ld_glob I hg hm ?_ hdb)
  refine PySem.W.callWith_KW0 (h₀ := X.base) I.ok.mod.kin hk hall (thn (hkw.run pos pins s σ H _ I h) ?_) hpl
  rintro ws s2 ⟨zs, H2, I2, rz, l1, l2, q2⟩
  refine ⟨I2.kIn, ?_⟩
  rw [hks]
  exact run_fnN (us := []) (vs := []) F hr hb hx I2 .nil rz l1 l2 q2
theorem pe_callK0 (F : FnOk X.prog X.w X.K X.mg X.base CX k f fd ps sp) (hr : Room k X.A) (hg : Gl X x) (hm : X.mg x = some (.ref f)) (hk : PySem.W.keepIn X.K (.ref f) = true) (hb : KBinds X.K fd ps ks g gV) (hx : Passes CX X E)
    (hkw : PK X kws tk) (hall : (backToKw pos (keywordEach kws X.env)).all (·.1.isSome) = true := by rfl) (hks : (backToKw pos (keywordEach kws X.env)).filterMap (·.1) = ks := by rfl) (hdb : (x == ("__debug__" : Str)) = false := by decide)
    (hpl : ((backTo pos (starEach [] X.env)).any (·.1) || (backToKw pos (keywordEach kws X.env)).any (·.1.isNone)) = false := by rfl) :
    PE X (.Call (.Name x p) [] kws pos) (tCallK sp gV E tNil tk) := by
  constructor
  intro pins s σ H Q I h
  refine wpAny_Call_Name_kw (ld_glob I hg hm ?_ hdb)
  refine PySem.W.callWith_KW0 (h₀ := X.base) I.ok.mod.kin hk hall (thn (hkw.run pos pins s σ H _ I h) ?_) hpl
  rintro ws s2 ⟨zs, H2, I2, rz, q2⟩
  refine ⟨I2.kIn, ?_⟩
  rw [hks]
  exact run_fnk (us := []) (vs := []) F hr hb hx I2 .nil rz q2
/-- a def of one parameter, called by its name or by place -/
theorem kbinds_one {K : PySem.W.Frag} {nm ql pr : Str} {st : Stmt} {f : Addr} {fd : FuncData} (F : Fun K nm ql st f fd)
    (h1 : ∀ (kV doc pm : Value) (an : Option Addr) (cdv ct u : Value), bindArgs (PySem.W.fnOf nm ql (defArgs st) (defBody st) (defScope st) .none kV doc pm an cdv ct) ⟨[], [(pr, u)]⟩ = pure [(pr, u)])
    (h2 : ∀ (kV doc pm : Value) (an : Option Addr) (cdv ct u : Value), bindArgs (PySem.W.fnOf nm ql (defArgs st) (defBody st) (defScope st) .none kV doc pm an cdv ct) ⟨[u], []⟩ = pure [(pr, u)]) :
    KBinds K fd [pr] [pr] (fun us ws => us ++ ws) (fun vs zs => vs ++ zs) := by
  obtain ⟨oc, od, kV, doc, pm, an, cdv, ct, osl, rfl, lk, hcd⟩ := F.ex
  exact ⟨fun s us ws _ hl => match us, ws, hl with
    | [], [u], _ => .of_eq (h1 kV doc pm an cdv ct u)
    | [u], [], _ => .of_eq (h2 kV doc pm an cdv ct u), fun r1 r2 => r1.append r2⟩
end
end Pk
namespace Pk
open PySem PySem.Spec L2
/-! ### own ==, whatever it tells -/
section
variable {X : Cx} {k : Nat} {C f : Addr} {fd : FuncData} {ps : List Str} {sp : Sp}
/-- x == y, x of the class C whose __eq__ is f, y of the type tb -/
def rEqO (K : PySem.W.Frag) (C : Addr) (sp : Sp) : R2 := fun x y H Q => ∃ (a dx : Addr) (fs : List (Str × V)) (tb : Value), x = .ref a ∧ H a = some (.ins C dx fs) ∧ TyX K H y tb ∧ PySem.W.notFirst K C tb = true ∧ sp [.ref a, y] H (fun v H' => (∃ b, v = .bl b) ∧ Q v H') E0
theorem op_eqO (F : FnOk X.prog X.w X.K X.mg X.base CX0 k f fd ["self", "other"] sp) (hr : Room k X.A) (hs : PySem.W.findIn X.K (.ref C) "__eq__" = some (some (.ref f))) (hf : PySem.W.isFn X.K (.ref f) = true) (hb : Binds X.K fd ["self", "other"] []) : OpR X (compareOp .Eq) (rEqO X.K C sp) := by
  rintro pins s σ H x y v u Q I rx ry ⟨a, dx, fs, tb, rfl, ha, ty, hn, h⟩
  cases (show v = Value.ref a from rx)
  show wpAny (model X.prog X.w) X.A (richCompare .Eq (.ref a) u) (EP X pins σ Q) X.xe s
  obtain ⟨mA, J, _⟩ := ins_get I.hok ha
  obtain ⟨od, J, _⟩ := J.look
  obtain ⟨m, hF⟩ := I.fr
  obtain ⟨Pz, Z, p, -⟩ := kit_of I ry ty
  refine PySem.W.cmp_K (op := .Eq) (tb := tb) hr.units0 hF I.ok.mod.kin J (Z.ty _ _ I.kIn p) hn hs hf ?_
  refine wpAny_call (codeAny_mono (F.run X.A X.stack s H ⟨[.ref a, u], []⟩ [.ref a, u] [.ref a, y] _ E0 hr I.env0 (hb s [.ref a, u] I.kIn rfl) (.cons rfl (.cons ry .nil)) h) fun r s' hq => ?_)
  match r, hq with
  | .error e, hq => exact hq.elim
  | .ok .next, hq => exact hq.elim
  | .ok .brk, hq => exact hq.elim
  | .ok .cont, hq => exact hq.elim
  | .ok (.ret z), hq =>
    obtain ⟨v, H2, I2, rv, ⟨b, rfl⟩, q2⟩ := I.after hq
    cases rv
    exact ⟨.bl b, H2, I2, rfl, q2⟩
end
namespace OwnNe
open PyProof.Rows PySem.SeqAt
section
variable {M : Model} {prog : Program} {w : World} {A : Around} {E : Value → Shared → Prop} {s : Shared} {K : PySem.W.Frag} {x C f : Addr} {ox : Obj} {od : Option Obj} {b tb : Value}
theorem ifBound_objNe {args : List Value} {Q : Option Value → Shared → Prop} (X : K.In s.heap) (I : PySem.W.InstAt s.heap x ox C od) (hs : PySem.W.findIn K (.ref C) "__ne__" = some (some (.builtin "object.__ne__")))
    (h : wpAny M A (call (.builtin "object.__ne__") (.ref x :: args)) (fun v => Q (some v)) E s) : wpAny M A (callSpecialIfBound? (.ref x) "__ne__" args) Q E s := by
  simp only [callSpecialIfBound?, bindSpecialIfBound?]
  refine wpAny_holding (wpAny_bind (wpAny_bind (wpAny_bind (I.type.here ((PySem.W.looks_findIn X hs).here ?_)))))
  refine wpAny_bind (wpAny_askSetting (wpAny_ite ?_))
  have fin : wpAny M A (call (.builtin "object.__ne__") ([.ref x] ++ args) >>= fun v => pure (some v)) Q E s := wpAny_bind (wpAny_mono h (fun v s' h' => wpAny_pure h') fun _ _ h' => h')
  split
  · exact wpAny_bind (wpAny_of_eq (F.cmp_object.ne.bind _) (wpAny_pure (by exact fin)))
  · exact wpAny_tryCatch (wpAny_bind (wpAny_of_eq (F.cmp_object.ne.bind _) (wpAny_pure (by exact fin))))
theorem entry_ne (X : K.In s.heap) (I : PySem.W.InstAt s.heap x ox C od) (he : PySem.W.findIn K (.ref C) "__eq__" = some (some (.ref f))) (hf : PySem.W.isFn K (.ref f) = true) (hu : A.units < cLine) {Q : Fin → Shared → Prop}
    (hcall : wpAny (model prog w) A (call (.ref f) [.ref x, b]) (fun v s' => ∃ r, v = .bool r ∧ Q (.done (.ret (.bool (!r)))) s') E s) : wpAny (model prog w) A (Builtin.«object.__ne__» ⟨[.ref x, b], []⟩) Q E s := by
  unfold Builtin.«object.__ne__»
  repeat (first
    | with_reducible refine wpAny_cRoomFor hu ?_
    | (refine wpAny_bind (m := callSpecialIfBound? (.ref x) (Str.ofString "__eq__") [b])
        (PySem.W.ifBound_K X I he hf (wpAny_mono hcall (fun r s' hr => by
          obtain ⟨b, rfl, hq⟩ := hr
          repeat (first | exact hq | exact wpAny_pure hq | exact wpAny_truthy_bool hq | (refine wpAny_bind (m := truthy (.bool _)) (wpAny_truthy_bool ?_)) | wp_step)) fun _ _ e => e)))
    | wp_step)
theorem rc_ne (X : K.In s.heap) (I : PySem.W.InstAt s.heap x ox C od) (hb : PySem.W.Looks (model prog w) s.heap (typeOf b) tb) (hn : PySem.W.notFirst K C tb = true) (hs : PySem.W.findIn K (.ref C) "__ne__" = some (some (.builtin "object.__ne__")))
    (hm : PySem.W.mroIn K C (.type "object") = some true) (he : PySem.W.findIn K (.ref C) "__eq__" = some (some (.ref f))) (hf : PySem.W.isFn K (.ref f) = true) (hu : A.units + 1 < cLine) {Q : Value → Shared → Prop}
    (hcall : wpAny (model prog w) A.in1 (call (.ref f) [.ref x, b]) (fun v s' => ∃ r, v = .bool r ∧ Q (.bool (!r)) s') E s) : wpAny (model prog w) A (richCompare .NotEq (.ref x) b) Q E s := by
  have one : wpAny (model prog w) A (tryCompare (.ref x) "__ne__" b) (fun r s' => ∃ v, r = some v ∧ Q v s') E s := by
    unfold tryCompare
    refine wpAny_bind (ifBound_objNe X I hs (wpAny_call (codeAny_call_builtin F.cmp_object.ne.plain F.cmpEntry_ne (PySem.W.check_slot F.cmpKind_ne F.cmpSplit_ne (I.type.andThen (PySem.W.looks_mroIn X hm)) (F.cmpArgs_ne _ _) (entry_ne (A := A.in1) X I he hf hu (wpAny_mono hcall (fun v s' hv => ?_) fun _ _ e => e))))))
    obtain ⟨r, rfl, hq⟩ := hv
    first | exact ⟨r, rfl, wpAny_pure ⟨_, rfl, hq⟩⟩ | exact ⟨r, rfl, ⟨_, rfl, hq⟩⟩
  unfold richCompare
  simp only [oneThing_ref]
  refine wpAny_holding (wpAny_bind (wpAny_cRoomFor (Nat.lt_of_succ_lt hu) ?_))
  refine wpAny_bind (I.type.here (wpAny_bind (hb.here ?_)))
  split
  · rename_i q
    have e : PySem.W.subIn K tb (.ref C) = some false := by
      rcases Bool.or_eq_true_iff.mp hn with e | e
      · rw [beq_iff_eq.mp e] at q; simp at q
      · exact beq_iff_eq.mp e
    refine wpAny_bind ((PySem.W.looks_subIn X e).here ?_)
    simp only [Bool.false_eq_true, if_false]
    refine wpAny_bind (wpAny_mono one (fun r s' z => ?_) fun _ _ e => e)
    obtain ⟨v, rfl, hq⟩ := z
    exact wpAny_pure hq
  · refine wpAny_bind (wpAny_pure ?_)
    simp only [Bool.false_eq_true, if_false]
    refine wpAny_bind (wpAny_mono one (fun r s' z => ?_) fun _ _ e => e)
    obtain ⟨v, rfl, hq⟩ := z
    exact wpAny_pure hq
end
end OwnNe
section
variable {X : Cx} {k : Nat} {C f : Addr} {fd : FuncData} {sp : Sp}
/-- x != y, x of the class C whose __eq__ is f, without an __ne__ of its own -/
def rNeO (K : PySem.W.Frag) (C : Addr) (sp : Sp) : R2 := fun x y H Q => ∃ (a dx : Addr) (fs : List (Str × V)) (tb : Value), x = .ref a ∧ H a = some (.ins C dx fs) ∧ TyX K H y tb ∧ PySem.W.notFirst K C tb = true ∧ sp [.ref a, y] H (fun v H' => ∃ b, v = .bl b ∧ Q (.bl (!b)) H') E0
theorem op_neO (F : FnOk X.prog X.w X.K X.mg X.base CX0 k f fd ["self", "other"] sp) (hr : Room (k + 1) X.A) (hs : PySem.W.findIn X.K (.ref C) "__eq__" = some (some (.ref f))) (hne : PySem.W.findIn X.K (.ref C) "__ne__" = some (some (.builtin "object.__ne__"))) (hm : PySem.W.mroIn X.K C (.type "object") = some true) (hf : PySem.W.isFn X.K (.ref f) = true) (hb : Binds X.K fd ["self", "other"] []) : OpR X (compareOp .NotEq) (rNeO X.K C sp) := by
  rintro pins s σ H x y v u Q I rx ry ⟨a, dx, fs, tb, rfl, ha, ty, hn, h⟩
  cases (show v = Value.ref a from rx)
  show wpAny (model X.prog X.w) X.A (richCompare .NotEq (.ref a) u) (EP X pins σ Q) X.xe s
  obtain ⟨mA, J, _⟩ := ins_get I.hok ha
  obtain ⟨od, J, _⟩ := J.look
  obtain ⟨Pz, Z, p, -⟩ := kit_of I ry ty
  have hu : X.A.units + 1 < cLine := hr.in1.units0
  refine OwnNe.rc_ne (tb := tb) I.kIn J (Z.ty _ _ I.kIn p) hn hne hm hs hf hu ?_
  refine wpAny_call (codeAny_mono (F.run X.A.in1 X.stack s H ⟨[.ref a, u], []⟩ [.ref a, u] [.ref a, y] _ E0 hr.in1 I.env0.in1 (hb s [.ref a, u] I.kIn rfl) (.cons rfl (.cons ry .nil)) h) fun r s' hq => ?_)
  match r, hq with
  | .error e, hq => exact hq.elim
  | .ok .next, hq => exact hq.elim
  | .ok .brk, hq => exact hq.elim
  | .ok .cont, hq => exact hq.elim
  | .ok (.ret z), hq =>
    obtain ⟨v, H2, I2, rv, b, rfl, q2⟩ := I.after hq
    cases rv
    exact ⟨b, rfl, .bl (!b), H2, I2, rfl, q2⟩
end
end Pk
/-! ### in, count, index of lists of instances, by an own == -/
namespace LQ
open PySem PySem.SeqAt GQ
open AutoSeq1 (wpAny_loadPart')
open MeetsSeq MeetsSeq2 MeetsSeq3 SeqRoads2
section
variable {prog : Program} {w : World} {A : Around} {R : Result → Shared → Prop}
/-- the list stands, and each of its items is told equal to x, or not, with the state as good as ahead -/
structure LstJ (prog : Program) (w : World) (A : Around) (E : Value → Shared → Prop) (l : Addr) (as : List Addr) (x : Value) (e : Addr → Bool) (J : Shared → Prop) : Prop where
  at_ : ∀ s, J s → ∃ (n : Nat) (dd : Option Addr) (sl : Array (Option Value)), s.heap.get? l = some { cls := .type "list", dict := dd, data := .seq (as.map Value.ref).toArray n, slots := sl }
  eq_ : ∀ a ∈ as, ∀ s, J s → wpAny (model prog w) A.in1 (eqBool (.ref a) x) (fun r s' => r = e a ∧ J s') E s
theorem count_loopJ (l : Addr) (as : List Addr) (x : Value) (e : Addr → Bool) (J : Shared → Prop) (hJ : LstJ prog w A (fun e s' => R (.error e) s') l as x e J) (k : Nat) :
    ∀ (i : Nat) (found : Int), as.length - i = k → ∀ s, J s → (∀ s', J s' → R (.ok (.ret (.int (found + ((as.drop i).countP e : Nat)) s'.toks))) { s' with toks := s'.toks + 1 }) →
      wpAny (model prog w) A.in1 (Builtin.«list.count.loop» ⟨[.ref l, x, rawInt i, rawInt found], []⟩) (FinOf prog w A R) (fun e s' => R (.error e) s') s := by
  induction k with
  | zero =>
    intro i found hk s h fin
    obtain ⟨n, dd, sl, hl⟩ := hJ.at_ s h
    have h := fin s h
    obtain ⟨hp, g, d, tk, os⟩ := s
    wp_walk using wpAny_loadPart' hl
    have hi : (as.map Value.ref).toArray[((i : Nat) : Int).toNat]? = none := by simp; omega
    have hd : as.drop i = [] := by simp; omega
    rw [hd] at h
    rw [hi]
    wp_walk
    simpa using h
  | succ k ih =>
    intro i found hk s h fin
    obtain ⟨n, dd, sl, hl⟩ := hJ.at_ s h
    have hlt : i < as.length := by omega
    have ht := hJ.eq_ as[i] (List.getElem_mem hlt) s h
    obtain ⟨hp, g, d, tk, os⟩ := s
    wp_walk using wpAny_loadPart' hl
    have hi : (as.map Value.ref).toArray[((i : Nat) : Int).toNat]? = some (Value.ref as[i]) := by simp [hlt]
    have hd : as.drop i = as[i] :: as.drop (i + 1) := List.drop_eq_getElem_cons hlt
    have hc : ((i : Int) + 1) = ((i + 1 : Nat) : Int) := by push_cast; rfl
    rw [hd, List.countP_cons] at fin
    rw [hi]
    refine wpAny_bind (wpAny_mono ht (fun r s2 h2 => ?_) fun _ _ x => x)
    obtain ⟨hr, h2⟩ := h2
    subst hr
    have hrec := ih (i + 1) (if e as[i] = true then found + 1 else found) (by omega) s2 h2 (fun s' h' => by
      have := fin s' h'
      cases hb : e as[i] with
      | false =>
        simp only [hb, Bool.false_eq_true, if_false, Nat.add_zero] at this ⊢
        exact this
      | true =>
        simp only [hb, if_true] at this ⊢
        have e1 : found + 1 + ((List.countP e (List.drop (i + 1) as) : Nat) : Int) = found + ((List.countP e (List.drop (i + 1) as) + 1 : Nat) : Int) := by push_cast; omega
        rw [e1]
        exact this)
    obtain ⟨hp2, g2, d2, tk2, os2⟩ := s2
    wp_walk
    rw [hc]
    exact ⟨plainId_quiet plain_count_loop _, codeAny_builtin entry_count_loop (by
      rw [Around.under_plainId plain_count_loop _]
      exact hrec)⟩
theorem list_countJ (l : Addr) (as : List Addr) (x : Value) (e : Addr → Bool) (J : Shared → Prop) (hJ : LstJ prog w A (fun e s' => R (.error e) s') l as x e J) {s : Shared} (h : J s) (fin : ∀ s', J s' → R (.ok (.ret (.int (as.countP e : Nat) s'.toks))) { s' with toks := s'.toks + 1 }) :
    wpAny (model prog w) A.in1 (Builtin.«list.count» ⟨[.ref l, x], []⟩) (FinOf prog w A R) (fun e s' => R (.error e) s') s := by
  have hrec := count_loopJ (A := A) (R := R) l as x e J hJ _ 0 0 rfl s h (fun s' h' => by simpa using fin s' h')
  obtain ⟨n, dd, sl, hl⟩ := hJ.at_ s h
  obtain ⟨hp, g, d, tk, os⟩ := s
  wp_walk using wpAny_loadPart' hl
  exact ⟨plainId_quiet plain_count_loop _, codeAny_builtin entry_count_loop (by
    rw [Around.under_plainId plain_count_loop _]
    exact hrec)⟩
theorem contains_loopJ (l : Addr) (as : List Addr) (x : Value) (e : Addr → Bool) (J : Shared → Prop) (hJ : LstJ prog w A (fun e s' => R (.error e) s') l as x e J) (k : Nat) :
    ∀ i : Nat, as.length - i = k → ∀ s, J s → (∀ s', J s' → R (.ok (.ret (.bool ((as.drop i).any e)))) s') →
      wpAny (model prog w) A.in1 (Builtin.«list.__contains__.loop» ⟨[.ref l, x, rawInt i], []⟩) (FinOf prog w A R) (fun e s' => R (.error e) s') s := by
  induction k with
  | zero =>
    intro i hk s h fin
    obtain ⟨n, dd, sl, hl⟩ := hJ.at_ s h
    have h := fin s h
    obtain ⟨hp, g, d, tk, os⟩ := s
    wp_walk using wpAny_loadPart' hl
    have hi : (as.map Value.ref).toArray[((i : Nat) : Int).toNat]? = none := by simp; omega
    have hd : as.drop i = [] := by simp; omega
    rw [hd] at h
    rw [hi]
    wp_walk
    exact h
  | succ k ih =>
    intro i hk s h fin
    obtain ⟨n, dd, sl, hl⟩ := hJ.at_ s h
    have hlt : i < as.length := by omega
    have ht := hJ.eq_ as[i] (List.getElem_mem hlt) s h
    obtain ⟨hp, g, d, tk, os⟩ := s
    wp_walk using wpAny_loadPart' hl
    have hi : (as.map Value.ref).toArray[((i : Nat) : Int).toNat]? = some (Value.ref as[i]) := by simp [hlt]
    have hd : as.drop i = as[i] :: as.drop (i + 1) := List.drop_eq_getElem_cons hlt
    have hc : ((i : Int) + 1) = ((i + 1 : Nat) : Int) := by push_cast; rfl
    rw [hd, List.any_cons] at fin
    rw [hi]
    refine wpAny_bind (wpAny_mono ht (fun r s2 h2 => ?_) fun _ _ x => x)
    obtain ⟨hr, h2⟩ := h2
    subst hr
    cases hb : e as[i] with
    | true =>
      rw [hb, Bool.true_or] at fin
      have h3 := fin s2 h2
      obtain ⟨hp2, g2, d2, tk2, os2⟩ := s2
      wp_walk
      exact h3
    | false =>
      rw [hb, Bool.false_or] at fin
      have hrec := ih (i + 1) (by omega) s2 h2 fin
      obtain ⟨hp2, g2, d2, tk2, os2⟩ := s2
      wp_walk
      rw [hc]
      exact ⟨plainId_quiet plain_contains_loop _, codeAny_builtin entry_contains_loop (by
        rw [Around.under_plainId plain_contains_loop _]
        exact hrec)⟩
theorem list_containsJ (l : Addr) (as : List Addr) (x : Value) (e : Addr → Bool) (J : Shared → Prop) (hJ : LstJ prog w A (fun e s' => R (.error e) s') l as x e J) {s : Shared} (h : J s) (fin : ∀ s', J s' → R (.ok (.ret (.bool (as.any e)))) s') :
    wpAny (model prog w) A.in1 (Builtin.«list.__contains__» ⟨[.ref l, x], []⟩) (FinOf prog w A R) (fun e s' => R (.error e) s') s := by
  have hrec := contains_loopJ (A := A) (R := R) l as x e J hJ _ 0 rfl s h (fun s' h' => by simpa using fin s' h')
  obtain ⟨n, dd, sl, hl⟩ := hJ.at_ s h
  obtain ⟨hp, g, d, tk, os⟩ := s
  wp_walk using wpAny_loadPart' hl
  exact ⟨plainId_quiet plain_contains_loop _, codeAny_builtin entry_contains_loop (by
    rw [Around.under_plainId plain_contains_loop _]
    exact hrec)⟩
theorem index_loopJ (l : Addr) (as : List Addr) (x : Value) (e : Addr → Bool) (J : Shared → Prop) (hJ : LstJ prog w A (fun e s' => R (.error e) s') l as x e J) (upto : Int) (j : Nat) (hj : j < as.length) (hupto : (j : Int) < upto) (hit : e as[j] = true)
    (fin : ∀ s', J s' → R (.ok (.ret (.int j s'.toks))) { s' with toks := s'.toks + 1 }) (k : Nat) :
    ∀ i : Nat, j - i = k → i ≤ j → (∀ m (hm : m < as.length), i ≤ m → m < j → e as[m] = false) → ∀ s, J s →
      wpAny (model prog w) A.in1 (Builtin.«list.index.loop» ⟨[.ref l, x, rawInt i, rawInt upto], []⟩) (FinOf prog w A R) (fun e s' => R (.error e) s') s := by
  induction k with
  | zero =>
    intro i hk hij hno s h
    obtain ⟨n, dd, sl, hl⟩ := hJ.at_ s h
    have hij' : i = j := by omega
    subst hij'
    have ht := hJ.eq_ as[i] (List.getElem_mem hj) s h
    obtain ⟨hp, g, d, tk, os⟩ := s
    wp_walk using wpAny_loadPart' hl
    have hi : (if (i : Int) < upto then (as.map Value.ref).toArray[((i : Nat) : Int).toNat]? else none) = some (Value.ref as[i]) := by simp [hupto, hj]
    rw [hi]
    refine wpAny_bind (wpAny_mono ht (fun r s2 h2 => ?_) fun _ _ x => x)
    obtain ⟨hr, h2⟩ := h2
    subst hr
    rw [hit]
    have h3 := fin s2 h2
    obtain ⟨hp2, g2, d2, tk2, os2⟩ := s2
    wp_walk
    exact h3
  | succ k ih =>
    intro i hk hij hno s h
    obtain ⟨n, dd, sl, hl⟩ := hJ.at_ s h
    have hlt : i < as.length := by omega
    have hst : (i : Int) < upto := by omega
    have ht := hJ.eq_ as[i] (List.getElem_mem hlt) s h
    obtain ⟨hp, g, d, tk, os⟩ := s
    wp_walk using wpAny_loadPart' hl
    have hi : (if (i : Int) < upto then (as.map Value.ref).toArray[((i : Nat) : Int).toNat]? else none) = some (Value.ref as[i]) := by simp [hst, hlt]
    have hc : ((i : Int) + 1) = ((i + 1 : Nat) : Int) := by push_cast; rfl
    rw [hi]
    refine wpAny_bind (wpAny_mono ht (fun r s2 h2 => ?_) fun _ _ x => x)
    obtain ⟨hr, h2⟩ := h2
    subst hr
    rw [hno i hlt (Nat.le_refl _) (by omega)]
    have hrec := ih (i + 1) (by omega) (by omega) (fun m hm h1 h2 => hno m hm (by omega) h2) s2 h2
    obtain ⟨hp2, g2, d2, tk2, os2⟩ := s2
    wp_walk
    rw [hc]
    exact ⟨plainId_quiet plain_index_loop _, codeAny_builtin entry_index_loop (by
      rw [Around.under_plainId plain_index_loop _]
      exact hrec)⟩
theorem list_indexJ (l : Addr) (as : List Addr) (x : Value) (e : Addr → Bool) (J : Shared → Prop) (hJ : LstJ prog w A (fun e s' => R (.error e) s') l as x e J) (j : Nat) (hj : j < as.length) (hsmall : (j : Int) < 2 ^ 63 - 1) (hit : e as[j] = true) (hno : ∀ m (hm : m < as.length), m < j → e as[m] = false)
    (fin : ∀ s', J s' → R (.ok (.ret (.int j s'.toks))) { s' with toks := s'.toks + 1 }) {s : Shared} (h : J s) :
    wpAny (model prog w) A.in1 (Builtin.«list.index» ⟨[.ref l, x], []⟩) (FinOf prog w A R) (fun e s' => R (.error e) s') s := by
  have hrec := index_loopJ (A := A) (R := R) l as x e J hJ (2 ^ 63 - 1) j hj hsmall hit fin _ 0 rfl (Nat.zero_le _) (fun m hm _ h2 => hno m hm h2) s h
  obtain ⟨n, dd, sl, hl⟩ := hJ.at_ s h
  obtain ⟨hp, g, d, tk, os⟩ := s
  wp_walk using wpAny_loadPart' hl
  have a1 : ((fun i : Int => if i < 0 then max 0 (i + ((as.map Value.ref).toArray.size : Int)) else i) ((none : Option Int).getD 0)) = ((0 : Nat) : Int) := by simp
  have a2 : ((fun i : Int => if i < 0 then max 0 (i + ((as.map Value.ref).toArray.size : Int)) else i) ((none : Option Int).getD (2 ^ 63 - 1))) = 2 ^ 63 - 1 := by simp
  rw [a1, a2]
  exact ⟨plainId_quiet plain_index_loop _, codeAny_builtin entry_index_loop (by
    rw [Around.under_plainId plain_index_loop _]
    exact hrec)⟩
end
end LQ
namespace Pk
open PySem PySem.Spec L2
open PyProof.Rows (room_in_shaped)
section
variable {X : Cx} {k : Nat} {C f : Addr} {fd : FuncData} {sp : Sp}
theorem refs_of : ∀ {as : List Addr} {its : List Value}, Vals (as.map V.ref) its → its = as.map Value.ref
  | [], [], _ => rfl
  | a :: as, _, .cons r rs => by
    cases r
    rw [refs_of rs]
    rfl
/-- what == tells of two instances of C: the same one, or by the promise of its __eq__ -/
def EqOf (C : Addr) (sp : Sp) (a c : Addr) (H : Hp) (b : Bool) : Prop := (a = c ∧ b = true) ∨ (a ≠ c ∧ (∃ dx fs, H a = some (.ins C dx fs)) ∧ (∃ dy gs, H c = some (.ins C dy gs)) ∧ sp [.ref a, .ref c] H (fun v H' => v = .bl b ∧ H' = H) E0)
theorem eqB_own (F : FnOk X.prog X.w X.K X.mg X.base CX0 k f fd ["self", "other"] sp) (hs : PySem.W.findIn X.K (.ref C) "__eq__" = some (some (.ref f))) (hf : PySem.W.isFn X.K (.ref f) = true) (hb : Binds X.K fd ["self", "other"] [])
    {A : Around} (sb : Sub X k A) {pins : List (Addr × Obj)} {s : Shared} {σ : St} {H : Hp} (I : Inv X pins σ H s) {a c : Addr} {b : Bool} (h : EqOf C sp a c H b) (E : Value → Shared → Prop) :
    wpAny (model X.prog X.w) A (eqBool (.ref a) (.ref c)) (fun r s' => r = b ∧ Inv X pins σ H s') E s := by
  rcases h with ⟨rfl, rfl⟩ | ⟨ne, ⟨dx, fs, ha⟩, ⟨dy, gs, hc⟩, h⟩
  · exact SeqAt.EqAt.same (A := A) (s := s) (.ref a) X.prog X.w E _ ⟨rfl, I⟩
  · refine GQ.eqBool_refG ne ?_
    obtain ⟨mA, J, _⟩ := ins_get I.hok ha
    obtain ⟨od, J, _⟩ := J.look
    obtain ⟨mB, J', _⟩ := ins_get I.hok hc
    obtain ⟨od', J', _⟩ := J'.look
    obtain ⟨m, hF⟩ := I.fr
    have hF' : A.frames = X.A.frames := sb.fr
    have e0 : Env0 X.prog X.w X.K X.mg X.base A X.stack s H := by
      have e := I.env0
      exact ⟨by rw [sb.fr]; exact e.frames, e.mod, e.bs, e.bsz, e.funs, e.frf, e.hok, e.bare⟩
    refine PySem.W.cmp_K (op := .Eq) (tb := .ref C) sb.room.units0 hF I.ok.mod.kin J J'.type (by simp [PySem.W.notFirst]) hs hf ?_
    refine wpAny_call (codeAny_mono (F.run A X.stack s H ⟨[.ref a, .ref c], []⟩ [.ref a, .ref c] [.ref a, .ref c] _ E0 sb.room e0 (hb s [.ref a, .ref c] I.kIn rfl) (.cons rfl (.cons rfl .nil)) h) fun r s' hq => ?_)
    match r, hq with
    | .error e, hq => exact hq.elim
    | .ok .next, hq => exact hq.elim
    | .ok .brk, hq => exact hq.elim
    | .ok .cont, hq => exact hq.elim
    | .ok (.ret z), hq =>
      obtain ⟨v, H2, I2, rv, rfl, rfl⟩ := I.after hq
      cases rv
      exact ⟨b, rfl, rfl, I2⟩
theorem lstJ (F : FnOk X.prog X.w X.K X.mg X.base CX0 k f fd ["self", "other"] sp) (hr : Room (k + 1) X.A) (hs : PySem.W.findIn X.K (.ref C) "__eq__" = some (some (.ref f))) (hf : PySem.W.isFn X.K (.ref f) = true) (hb : Binds X.K fd ["self", "other"] [])
    {pins : List (Addr × Obj)} {σ : St} {H : Hp} {l c : Addr} {as : List Addr} {e : Addr → Bool} (hl : SqL X.K H l (as.map V.ref)) (he : ∀ a ∈ as, EqOf C sp a c H (e a)) (E : Value → Shared → Prop) : LQ.LstJ X.prog X.w X.A E l as (.ref c) e (fun s => Inv X pins σ H s) where
  at_ := fun s I => by
    obtain ⟨its, rv, ⟨⟨cls, dd, data, sl⟩, n, ho, hc, hdn, hd⟩, hlen⟩ := I.list hl
    simp only at hc hd
    subst hc hd
    rw [refs_of rv] at ho
    exact ⟨n, dd, sl, ho⟩
  eq_ := fun a ha s I => eqB_own F hs hf hb (Sub.in1 ⟨hr, rfl⟩) I (he a ha) E
/-- x in l -/
def rInO (K : PySem.W.Frag) (C : Addr) (sp : Sp) : R2 := fun x y H Q => ∃ (c l : Addr) (as : List Addr) (e : Addr → Bool), x = .ref c ∧ y = .ref l ∧ SqL K H l (as.map V.ref) ∧ (∀ a ∈ as, EqOf C sp a c H (e a)) ∧ Q (.bl (as.any e)) H
theorem op_inO (F : FnOk X.prog X.w X.K X.mg X.base CX0 k f fd ["self", "other"] sp) (hr : Room (k + 1) X.A) (hs : PySem.W.findIn X.K (.ref C) "__eq__" = some (some (.ref f))) (hf : PySem.W.isFn X.K (.ref f) = true) (hb : Binds X.K fd ["self", "other"] []) : OpR X (compareOp .In) (rInO X.K C sp) := by
  rintro pins s σ H x y v u Q I rx ry ⟨c, l, as, e, rfl, rfl, hl, he, q⟩
  cases rx
  cases ry
  have J := lstJ F hr hs hf hb (pins := pins) (σ := σ) hl he X.xe
  obtain ⟨n, dd, sl, ho⟩ := J.at_ s I
  show wpAny _ X.A (do return Value.bool (← contains (.ref l) (.ref c))) _ _ s
  refine wpAny_bind (wpAny_contains_slot ⟨_, ho, rfl⟩ PySem.F.slot_list_contains (wpAny_mono (GQ.call_here (Q := fun v s' => ∃ b, v = .bool b ∧ b = as.any e ∧ Inv X pins σ H s') PySem.F.slot_list_contains ⟨_, ho, rfl⟩ PySem.F.entry_list_contains (PySem.F.args_list_contains_2 _ _) (LQ.list_containsJ (R := wants _ _) l as (.ref c) e _ J I (fun s' I' => ⟨_, rfl, rfl, I'⟩))) (fun v s' hv => ?_) fun _ _ e => e))
  obtain ⟨b, rfl, rfl, I'⟩ := hv
  exact wpAny_truthy_bool (wpAny_pure ⟨.bl _, H, I', rfl, q⟩)
/-- l.count(x) -/
def rCountO (K : PySem.W.Frag) (C : Addr) (sp : Sp) : V → List V → Hp → VK → Prop := fun x xs H Q => ∃ (c l : Addr) (as : List Addr) (e : Addr → Bool), x = .ref l ∧ xs = [.ref c] ∧ SqL K H l (as.map V.ref) ∧ (∀ a ∈ as, EqOf C sp a c H (e a)) ∧ Q (.int (as.countP e : Nat)) H
theorem mt_countO (F : FnOk X.prog X.w X.K X.mg X.base CX0 k f fd ["self", "other"] sp) (hr : Room (k + 1) X.A) (hs : PySem.W.findIn X.K (.ref C) "__eq__" = some (some (.ref f))) (hf : PySem.W.isFn X.K (.ref f) = true) (hb : Binds X.K fd ["self", "other"] []) : MtR X "list.count" (rCountO X.K C sp) := by
  rintro pins s σ H x xs v us Q I rx rxs ⟨c, l, as, e, rfl, rfl, hl, he, q⟩
  cases rx
  obtain ⟨u, rfl, ru⟩ := rxs.one
  cases ru
  have J := lstJ F hr hs hf hb (pins := pins) (σ := σ) hl he X.xe
  obtain ⟨n, dd, sl, ho⟩ := J.at_ s I
  exact GQ.call_here PySem.F.slot_list_count ⟨_, ho, rfl⟩ PySem.F.entry_list_count (PySem.F.args_list_count_2 _ _) (LQ.list_countJ (R := wants _ _) l as (.ref c) e _ J I (fun s' I' => ⟨.int (as.countP e : Nat), H, I'.tok _, ⟨s'.toks, rfl⟩, q⟩))
/-- l.index(x): the first place of an equal one -/
def rIndexO (K : PySem.W.Frag) (C : Addr) (sp : Sp) : V → List V → Hp → VK → Prop := fun x xs H Q => ∃ (c l : Addr) (as : List Addr) (e : Addr → Bool) (j a : Nat), x = .ref l ∧ xs = [.ref c] ∧ SqL K H l (as.map V.ref) ∧ (∀ a ∈ as, EqOf C sp a c H (e a)) ∧ as[j]? = some a ∧ e a = true ∧ (∀ m a', m < j → as[m]? = some a' → e a' = false) ∧ Q (.int (j : Nat)) H
theorem mt_indexO (F : FnOk X.prog X.w X.K X.mg X.base CX0 k f fd ["self", "other"] sp) (hr : Room (k + 1) X.A) (hs : PySem.W.findIn X.K (.ref C) "__eq__" = some (some (.ref f))) (hf : PySem.W.isFn X.K (.ref f) = true) (hb : Binds X.K fd ["self", "other"] []) : MtR X "list.index" (rIndexO X.K C sp) := by
  rintro pins s σ H x xs v us Q I rx rxs ⟨c, l, as, e, j, a, rfl, rfl, hl, he, hj, ea, hno, q⟩
  cases rx
  obtain ⟨u, rfl, ru⟩ := rxs.one
  cases ru
  have J := lstJ F hr hs hf hb (pins := pins) (σ := σ) hl he X.xe
  obtain ⟨n, dd, sl, ho⟩ := J.at_ s I
  obtain ⟨hj1, hj2⟩ := List.getElem?_eq_some_iff.mp hj
  have hz : as.length ≤ sizeLine := by
    obtain ⟨its, rv, _, hlen⟩ := I.list hl
    have := rv.length
    rw [List.length_map] at this hlen
    omega
  have hs1 := sizeLine_eq
  exact GQ.call_here PySem.F.slot_list_index ⟨_, ho, rfl⟩ PySem.F.entry_list_index (PySem.F.args_list_index_2 _ _) (LQ.list_indexJ (R := wants _ _) l as (.ref c) e _ J j hj1 (by omega) (by rw [hj2]; exact ea) (fun m hm h => hno m _ h (List.getElem?_eq_getElem hm)) (fun s' I' => ⟨.int (j : Nat), H, I'.tok _, ⟨s'.toks, rfl⟩, q⟩) I)
/-- l.count(x) of data -/
def rCountD (K : PySem.W.Frag) : V → List V → Hp → VK → Prop := fun x xs H Q => ∃ (a : Addr) (y : V) (d : PyData) (ds : List PyData), x = V.ref a ∧ xs = [y] ∧ Dp K H (V.ref a) (.list ds) ∧ Dp K H y d ∧ SeqAt.shaped (.list ds) = true ∧ SeqAt.shaped d = true ∧ Q (.int (ds.countP fun z => PyData.eqv z d : Nat)) H
theorem mt_countD (hu : X.A.units + 65 < cLine) : MtR X "list.count" (rCountD X.K) := by
  intro pins s σ H x xs v us Q I rx rxs h
  obtain ⟨a, y, d, ds, rfl, rfl, hl, hy, sl, sd, q⟩ := h
  cases rx
  cases rxs with
  | cons ry rt =>
    rename_i uy ut
    cases rt
    obtain ⟨bs, r1⟩ := Dp.reads I d y uy hy ry
    have hxs : PyData.canLayAll0 ds = true := SeqAt.canLay_of_shaped sl
    have hroom : X.A.units + 1 + min (PyData.depthAll ds) d.depth < cLine := room_in_shaped sd hu
    cases hl with
    | lst hs ha =>
      obtain ⟨its, rv, ⟨⟨cls, dd, data, sls⟩, n, ho, hc, hdn, hdt⟩, hlen⟩ := I.list hs
      simp only at hc hdt
      subst hc hdt
      obtain ⟨as, h4⟩ := Dp.readsAll I ds _ its ha rv
      have hmap : its.map (SeqAt.readOf s.heap) = ds := SeqAt.readsAll_map ds its as hxs h4
      refine call_meets PySem.F.slot_list_count ⟨_, ho, rfl⟩ PySem.F.entry_list_count (PySem.F.args_list_count_2 _ _)
        (SeqAt.list_countAt a its.toArray n dd sls uy (fun y => PyData.eqv (SeqAt.readOf s.heap y) d)) ⟨ho, SeqAt.items_eqAt h4 r1 hxs (SeqAt.canLay_of_shaped sd) hroom, ?_⟩
      have ec : its.toArray.toList.countP (fun y => PyData.eqv (SeqAt.readOf s.heap y) d) = ds.countP fun z => PyData.eqv z d := by
        rw [← hmap, List.countP_map]
        rfl
      refine ⟨.int (ds.countP fun z => PyData.eqv z d : Nat), H, I.tok _, ⟨s.toks, ?_⟩, q⟩
      show Value.int ((its.toArray.toList.countP (fun y => PyData.eqv (SeqAt.readOf s.heap y) d) : Nat) : Int) s.toks = _
      rw [ec]
end
end Pk
namespace Pk
open PySem PySem.Spec L2
section
variable {X : Cx}
/-- two lists of the same plain things, ==: yes -/
def rEqSame (K : PySem.W.Frag) : R2 := fun x y H Q => ∃ a b xs, x = .ref a ∧ y = .ref b ∧ SqL K H a xs ∧ SqL K H b xs ∧ (∀ v ∈ xs, flatB v = true) ∧ Q (.bl true) H
theorem same_atE {A : Around} {s : Shared} : ∀ {xs : List V} {us ws : List Value}, (∀ v ∈ xs, flatB v = true) → Vals xs us → Vals xs ws → ∀ j (h1 : j < us.length) (h2 : j < ws.length), SeqAt.EqAt A s us[j] ws[j] true
  | [], us, ws, _, r1, _, j, h1, _ => by
    cases r1
    exact absurd h1 (Nat.not_lt_zero j)
  | x :: xs, us, ws, hf, r1, r2, j, h1, h2 => by
    cases r1 with
    | cons a1 b1 =>
      cases r2 with
      | cons a2 b2 =>
        cases j with
        | zero => exact eqAt_same a1 a2 (hf x (List.mem_cons_self ..))
        | succ j => exact same_atE (fun v hv => hf v (List.mem_cons_of_mem _ hv)) b1 b2 j (Nat.lt_of_succ_lt_succ h1) (Nat.lt_of_succ_lt_succ h2)
theorem op_eqSame (hu : X.A.units < cLine) : OpR X (compareOp .Eq) (rEqSame X.K) := by
  rintro pins s σ H x y v u Q I rx ry ⟨a, b, xs, rfl, rfl, ha, hb, hf, q⟩
  cases (show v = Value.ref a from rx)
  cases (show u = Value.ref b from ry)
  obtain ⟨us, r1, p1, _⟩ := I.list ha
  obtain ⟨ws, r2, p2, _⟩ := I.list hb
  have hsz : us.toArray.size = ws.toArray.size := by
    rw [List.size_toArray, List.size_toArray, ← r1.length, ← r2.length]
  refine SeqAt.RcAt.lists (e := fun _ => true) p1.isList p2.isList hsz hu (fun j h1 h2 => ?_) X.prog X.w _ _ ?_
  · have k := same_atE (A := X.A.in1) (s := s) hf r1 r2 j (by simpa using h1) (by simpa using h2)
    simpa using k
  · rw [show ((List.range us.toArray.size).all fun _ => true) = true from List.all_eq_true.mpr fun _ _ => rfl]
    exact ⟨.bl true, H, I, rfl, q⟩
/-- two lists of the same plain things, !=: no -/
def rNeSameP (K : PySem.W.Frag) : R2 := fun x y H Q => ∃ a b xs, x = .ref a ∧ y = .ref b ∧ SqL K H a xs ∧ SqL K H b xs ∧ (∀ v ∈ xs, flatB v = true) ∧ Q (.bl false) H
theorem op_neSameP (hu : X.A.units < cLine) : OpR X (compareOp .NotEq) (rNeSameP X.K) := by
  rintro pins s σ H x y v u Q I rx ry ⟨a, b, xs, rfl, rfl, ha, hb, hf, q⟩
  cases (show v = Value.ref a from rx)
  cases (show u = Value.ref b from ry)
  obtain ⟨us, r1, p1, _⟩ := I.list ha
  obtain ⟨ws, r2, p2, _⟩ := I.list hb
  have hsz : us.toArray.size = ws.toArray.size := by
    rw [List.size_toArray, List.size_toArray, ← r1.length, ← r2.length]
  refine SeqAt.RcNeAt.lists (e := fun _ => true) p1.isList p2.isList hsz hu (fun j h1 h2 => ?_) X.prog X.w _ _ ?_
  · have k := same_atE (A := X.A.in1) (s := s) hf r1 r2 j (by simpa using h1) (by simpa using h2)
    simpa using k
  · rw [show ((List.range us.toArray.size).all fun _ => true) = true from List.all_eq_true.mpr fun _ _ => rfl]
    exact ⟨.bl false, H, I, rfl, q⟩
/-- two lists of the very same objects, !=: no -/
def rNeRefs (K : PySem.W.Frag) : R2 := fun x y H Q => ∃ (a b : Addr) (as : List Addr), x = .ref a ∧ y = .ref b ∧ SqL K H a (as.map V.ref) ∧ SqL K H b (as.map V.ref) ∧ Q (.bl false) H
theorem refs_ofS : ∀ {as : List Addr} {its : List Value}, Vals (as.map V.ref) its → its = as.map Value.ref
  | [], [], _ => rfl
  | a :: as, _, .cons r rs => by
    cases r
    rw [refs_ofS rs]
    rfl
theorem op_neRefs (hu : X.A.units < cLine) : OpR X (compareOp .NotEq) (rNeRefs X.K) := by
  rintro pins s σ H x y v u Q I rx ry ⟨a, b, as, rfl, rfl, ha, hb, q⟩
  cases (show v = Value.ref a from rx)
  cases (show u = Value.ref b from ry)
  obtain ⟨us, r1, p1, _⟩ := I.list ha
  obtain ⟨ws, r2, p2, _⟩ := I.list hb
  have e1 := refs_ofS r1
  have e2 := refs_ofS r2
  subst e1 e2
  refine SeqAt.RcNeAt.lists (e := fun _ => true) p1.isList p2.isList rfl hu (fun j h1 h2 => ?_) X.prog X.w _ _ ?_
  · exact SeqAt.EqAt.same _
  · rw [show ((List.range (as.map Value.ref).toArray.size).all fun _ => true) = true from List.all_eq_true.mpr fun _ _ => rfl]
    exact ⟨.bl false, H, I, rfl, q⟩
/-- a is b, of truths -/
theorem op_isBl : OpR X (compareOp .Is) (fun x y H Q => ∃ a b, x = .bl a ∧ y = .bl b ∧ Q (.bl (decide (a = b))) H) := by
  rintro pins s σ H x y v u Q I rx ry ⟨a, b, rfl, rfl, q⟩
  cases (show v = Value.bool a from rx)
  cases (show u = Value.bool b from ry)
  by_cases e : a = b
  · subst e
    exact wpAny_is_self rfl ⟨.bl true, H, I, rfl, by simpa using q⟩
  · exact wpAny_is_other rfl (fun z => e (Value.bool.inj z)) ⟨.bl false, H, I, rfl, by simpa [e] using q⟩
end
end Pk
namespace Pk
open PySem L2
/-! ### tuples of things, shown -/
structure ShowsL (K : PySem.W.Frag) (H : Hp) (L : List V) (ds : List PyData) (n k : Nat) : Prop where
  dp : DpAll K H L ds
  sh : PyData.showableAll ds = true
  de : PyData.depthAll ds ≤ k
  nd : PyData.hasDictAll ds = false
  sz : ((PyData.shownAll ds).map fun t => t.length + 2).sum ≤ n
section
variable {K : PySem.W.Frag} {H : Hp} {L : List V} {ds : List PyData} {n k : Nat}
theorem ShowsL.nil : ShowsL K H [] [] 0 k := ⟨.nil, by simp [PyData.showableAll], by simp [PyData.depthAll], by simp [PyData.hasDictAll], by simp [PyData.shownAll]⟩
theorem ShowsL.str {z : Str} (hl : z.length ≤ 100) (ho : Sgn z) (h : ShowsL K H L ds n k) : ShowsL K H (.str z :: L) (.str z :: ds) (n + 1004) k where
  dp := .cons (.str z) h.dp
  sh := by simp [PyData.showableAll, PyData.showable, h.sh]
  de := by
    have := h.de
    simp [PyData.depthAll, PyData.depth]
    omega
  nd := by simp [PyData.hasDictAll, PyData.hasDict, h.nd]
  sz := by
    have h1 := h.sz
    have h2 := repr_le hl ho
    simp [PyData.shownAll, PyData.shown]
    omega
theorem small_text {i : Int} (h0 : 0 ≤ i) (h9 : i ≤ 9) : (Str.ofString (toString i)).length ≤ 2 := by
  have : i = 0 ∨ i = 1 ∨ i = 2 ∨ i = 3 ∨ i = 4 ∨ i = 5 ∨ i = 6 ∨ i = 7 ∨ i = 8 ∨ i = 9 := by omega
  rcases this with rfl | rfl | rfl | rfl | rfl | rfl | rfl | rfl | rfl | rfl <;> decide +kernel
theorem small_log {i : Int} (h0 : 0 ≤ i) (h9 : i ≤ 9) : i.natAbs.log2 < 1920 := by
  have : i = 0 ∨ i = 1 ∨ i = 2 ∨ i = 3 ∨ i = 4 ∨ i = 5 ∨ i = 6 ∨ i = 7 ∨ i = 8 ∨ i = 9 := by omega
  rcases this with rfl | rfl | rfl | rfl | rfl | rfl | rfl | rfl | rfl | rfl <;> decide +kernel
theorem ShowsL.int {i : Int} (h0 : 0 ≤ i) (h9 : i ≤ 9) (h : ShowsL K H L ds n k) : ShowsL K H (.int i :: L) (.int i :: ds) (n + 4) k where
  dp := .cons (.int i) h.dp
  sh := by
    have e : PyData.showable (.int i) = true := decide_eq_true (small_log h0 h9)
    simp [PyData.showableAll, e, h.sh]
  de := by
    have := h.de
    simp [PyData.depthAll, PyData.depth]
    omega
  nd := by simp [PyData.hasDictAll, PyData.hasDict, h.nd]
  sz := by
    have h1 := h.sz
    have h2 := small_text h0 h9
    have e : (PyData.int i).shown = Str.ofString (toString i) := by simp [PyData.shown]
    have e2 : ((PyData.shownAll (.int i :: ds)).map fun t => t.length + 2).sum = ((PyData.int i).shown.length + 2) + ((PyData.shownAll ds).map fun t => t.length + 2).sum := by simp [PyData.shownAll]
    rw [e2, e]
    omega
theorem join_le : ∀ ts : List Str, (Str.join ", " ts).length ≤ (ts.map fun t => t.length + 2).sum
  | [] => Nat.zero_le _
  | [x] => by
    show x.length ≤ _
    simp
  | x :: y :: r => by
    have ih := join_le (y :: r)
    show (x ++ ", " ++ Str.join ", " (y :: r)).length ≤ _
    rw [app_len, app_len, show ((", " : String) : Str).length = 2 by decide +kernel, List.map_cons, List.sum_cons]
    omega
theorem tup_le (ts : List Str) : (tupleText ts).length ≤ 3 + (ts.map fun t => t.length + 2).sum := by
  unfold tupleText
  have h := join_le ts
  have h2 : (((if ts.length == 1 then ",)" else ")" : String) : Str)).length ≤ 2 := by split <;> decide +kernel
  rw [app_len, app_len, show (("(" : String) : Str).length = 1 by decide +kernel]
  omega
theorem ShowsL.tup {a : Addr} {L2 : List V} {ds2 : List PyData} {n2 k2 : Nat} (ha : H a = some (.tup L2)) (g : ShowsL K H L2 ds2 n2 k2) (hk : k2 + 1 ≤ k) (h : ShowsL K H L ds n k) : ShowsL K H (.ref a :: L) (.tuple ds2 :: ds) (n + n2 + 5) k where
  dp := .cons (.tup (SqT.of ha) g.dp) h.dp
  sh := by simp [PyData.showableAll, PyData.showable, g.sh, h.sh]
  de := by
    have := h.de
    have := g.de
    simp [PyData.depthAll, PyData.depth]
    omega
  nd := by simp [PyData.hasDictAll, PyData.hasDict, g.nd, h.nd]
  sz := by
    have h1 := h.sz
    have h2 := g.sz
    have h3 := tup_le (PyData.shownAll ds2)
    simp [PyData.shownAll, PyData.shown]
    omega
theorem ShowsL.all {t : Addr} (ht : H t = some (.tup L)) (h : ShowsL K H L ds n k) (hn : n ≤ 100000) (hk : k ≤ 60) : Shows K H (.ref t) (.tuple ds) where
  dq := .of (.tup (SqT.of ht) h.dp) (by simp [PyData.hasDict, h.nd])
  sh := by simp [PyData.showable, h.sh]
  dp := by
    have := h.de
    simp [PyData.depth]
    omega
  sz := by
    have h1 := h.sz
    have h3 := tup_le (PyData.shownAll ds)
    have e : (PyData.tuple ds).shown = tupleText (PyData.shownAll ds) := by simp [PyData.shown]
    rw [e, sizeLine_eq]
    omega
/-- texts -/
theorem ShowsL.texts (k : Nat) : ∀ L : List V, L.all textV = true → (∀ v ∈ L, Thg H v) → ∃ ds, ShowsL K H L ds (1004 * L.length) k
  | [], _, _ => ⟨[], .nil⟩
  | v :: L, h, ht => by
    rw [List.all_cons, Bool.and_eq_true] at h
    obtain ⟨ds, g⟩ := ShowsL.texts k L h.2 (fun u hu => ht u (List.mem_cons_of_mem _ hu))
    have hv := ht v List.mem_cons_self
    have h1 := h.1
    cases hv with
    | str z hl ho =>
      have hz : textT z = true := h1
      unfold textT at hz
      simp only [Bool.and_eq_true, decide_eq_true_iff] at hz
      refine ⟨.str z :: ds, ?_⟩
      have e := ShowsL.str (by omega) ho g
      rw [List.length_cons, show 1004 * (L.length + 1) = 1004 * L.length + 1004 by omega]
      exact e
    | _ => cases h1
end
end Pk
/-! ### of which class a thing is -/
namespace Pk
open PySem L2
def oddTys : List String := ["NoneType", "bool", "int", "str", "tuple", "list", "dict"]
def oddB (K : PySem.W.Frag) (C : Addr) : Bool := oddTys.all fun T => PySem.W.notFirst K C (.type T) && (PySem.W.kitOne K (.type T) (.ref C) == some false) && (PySem.W.subIn K (.ref C) (.type T) == some false)
theorem oddB_kit {K : PySem.W.Frag} {C : Addr} {T : String} (h : oddB K C = true) (o : T ∈ oddTys) : PySem.W.notFirst K C (.type T) = true ∧ PySem.W.kitOne K (.type T) (.ref C) = some false ∧ PySem.W.subIn K (.ref C) (.type T) = some false := by
  have h1 := List.all_eq_true.mp h T o
  rw [Bool.and_eq_true, Bool.and_eq_true] at h1
  exact ⟨h1.1.1, beq_iff_eq.mp h1.1.2, beq_iff_eq.mp h1.2⟩
theorem kit_two {K : PySem.W.Frag} {T : String} (h : T ∈ oddTys) : PySem.W.kitAny K (.type T) [.type "list", .type "tuple"] = some (decide (T = "list") || decide (T = "tuple")) := by
  simp only [oddTys, List.mem_cons, List.not_mem_nil, or_false] at h
  rcases h with rfl | rfl | rfl | rfl | rfl | rfl | rfl
  · exact kitAny_cons (kit_ty (by decide +kernel : kitB "NoneType" "list" = some false)) (fun _ => kitAny_cons (kit_ty (by decide +kernel : kitB "NoneType" "tuple" = some false)) (fun _ => rfl) (fun z => nomatch z)) (fun z => nomatch z)
  · exact kitAny_cons (kit_ty (by decide +kernel : kitB "bool" "list" = some false)) (fun _ => kitAny_cons (kit_ty (by decide +kernel : kitB "bool" "tuple" = some false)) (fun _ => rfl) (fun z => nomatch z)) (fun z => nomatch z)
  · exact kitAny_cons (kit_ty (by decide +kernel : kitB "int" "list" = some false)) (fun _ => kitAny_cons (kit_ty (by decide +kernel : kitB "int" "tuple" = some false)) (fun _ => rfl) (fun z => nomatch z)) (fun z => nomatch z)
  · exact kitAny_cons (kit_ty (by decide +kernel : kitB "str" "list" = some false)) (fun _ => kitAny_cons (kit_ty (by decide +kernel : kitB "str" "tuple" = some false)) (fun _ => rfl) (fun z => nomatch z)) (fun z => nomatch z)
  · exact kitAny_cons (kit_ty (by decide +kernel : kitB "tuple" "list" = some false)) (fun _ => kitAny_cons (kit_ty (by decide +kernel : kitB "tuple" "tuple" = some true)) (fun z => nomatch z) (fun _ => rfl)) (fun z => nomatch z)
  · exact kitAny_cons (kit_ty (by decide +kernel : kitB "list" "list" = some true)) (fun z => nomatch z) (fun _ => rfl)
  · exact kitAny_cons (kit_ty (by decide +kernel : kitB "dict" "list" = some false)) (fun _ => kitAny_cons (kit_ty (by decide +kernel : kitB "dict" "tuple" = some false)) (fun _ => rfl) (fun z => nomatch z)) (fun z => nomatch z)
/-- an own class, as isinstance asks for it -/
structure OTy (K : PySem.W.Frag) (C : Addr) : Prop where
  cls : Cls K C
  ha : PySem.W.findIn K (.ref C) "__class__" = some (some (.builtin "object.__class__"))
  hn : PySem.W.specialIn K (.builtin "object.__class__") "__get__" = some (some (.builtin "getset_descriptor.__get__"))
  ht : PySem.W.takesIn K (.builtin "object.__class__") = some true
  hm : PySem.W.mroIn K C (.type "object") = some true
  hk : PySem.W.kitOne K (.ref C) (.ref C) = some true
  hl : PySem.W.kitAny K (.ref C) [.type "list", .type "tuple"] = some false
  odd : oddB K C = true
theorem OTy.ty {K : PySem.W.Frag} {C a dx : Addr} {H : Hp} {fs : List (Str × V)} (T : OTy K C) (h : H a = some (.ins C dx fs)) : TyX K H (.ref a) (.ref C) := .base (.ins h T.cls T.ha T.hn T.ht T.hm)
end Pk
/-! ### questions: what serves every law that makes them, whatever its text -/
namespace Pk
open PySem L2
def spIsNumber : Sp := fun vs H Q _ => ∃ x, vs = [x] ∧ Thg H x ∧ Q (.bl (vInt x)) H
def spIsWhole : Sp := fun vs H Q _ => ∃ (x : V) (lo hi : Int), vs = [x, .int lo, .int hi] ∧ Thg H x ∧ Q (.bl (whole x lo hi)) H
def spIsName : Sp := fun vs H Q _ => ∃ x, vs = [x] ∧ Thg H x ∧ ∀ H', Same H H' → Q (.bl (nameV x)) H'
def spIsText : Sp := fun vs H Q _ => ∃ x, vs = [x] ∧ Thg H x ∧ ∀ H', Same H H' → Q (.bl (textV x)) H'
def spIsNameE : Sp := fun vs H Q _ => ∃ x, vs = [x] ∧ Thg H x ∧ ∀ H', Same H H' → Q (.bl (nameE x)) H'
def spAreAnswers : Sp := fun vs H Q _ => ∃ x, vs = [x] ∧ Thg H x ∧ (∀ ws, tupV H x = some ws → ∀ v ∈ ws, Thg H v) ∧ ∀ H', Same H H' → Q (.bl (answersV H x)) H'
def manyV (H : Hp) (an : V) : Int := (((tupV H an).getD []).length : Nat)
/-- the first part that can't be there -/
def wrongP (H : Hp) (nm mt an ri to ma ki : V) : Str :=
  if nameV nm = false then "name" else if nameV mt = false then "matter" else if answersV H an = false then "answers" else if whole ri 0 (manyV H an - 1) = false then "right" else if whole to 1 9 = false then "toil" else if whole ma 1 9 = false then "marks" else if nameE ki = false then "kin" else ""
def qFs (nm mt an ri to ma ki : V) : List (Str × V) := [("name", nm), ("matter", mt), ("answers", an), ("right", ri), ("toil", to), ("marks", ma), ("kin", ki)]
theorem qFs_put (nm mt an ri to ma ki : V) : putF "kin" ki (putF "marks" ma (putF "toil" to (putF "right" ri (putF "answers" an (putF "matter" mt (putF "name" nm [])))))) = qFs nm mt an ri to ma ki := by kernel_rfl
theorem put_le {f : Str} {v : V} {fs : List (Str × V)} {n : Nat} (h : fs.length ≤ n) : (putF f v fs).length ≤ n + 1 := by
  have := length_putF f v fs
  omega
/-- a thing, and, of a tuple, the things in it -/
def Thgs (H : Hp) (x : V) : Prop := Thg H x ∧ ∀ ws, tupV H x = some ws → ∀ v ∈ ws, Thg H v
theorem Thgs.same {H H' : Hp} {x : V} (h : Thgs H x) (s : Same H H') : Thgs H' x := ⟨h.1.same s, fun ws e v hv => (h.2 ws ((h.1.tupS s).symm.trans e) v hv).same s⟩
structure Parts (H : Hp) (nm mt an ri to ma ki : V) : Prop where
  nm : Thg H nm
  mt : Thg H mt
  an : Thgs H an
  ri : Thg H ri
  to : Thg H to
  ma : Thg H ma
  ki : Thg H ki
theorem Parts.same {H H' : Hp} {nm mt an ri to ma ki : V} (h : Parts H nm mt an ri to ma ki) (s : Same H H') : Parts H' nm mt an ri to ma ki := ⟨h.nm.same s, h.mt.same s, h.an.same s, h.ri.same s, h.to.same s, h.ma.same s, h.ki.same s⟩
theorem Parts.wrong {H H' : Hp} {nm mt an ri to ma ki : V} (h : Parts H nm mt an ri to ma ki) (s : Same H H') : wrongP H' nm mt an ri to ma ki = wrongP H nm mt an ri to ma ki := by
  have e := h.an.1.tupS s
  unfold wrongP answersV manyV
  rw [e]
def spQInit (CQ cE : Addr) : Sp := fun vs H Q E => ∃ (x dx : Addr) (nm mt an ri to ma ki : V), vs = [.ref x, nm, mt, an, ri, to, ma, ki] ∧ H x = some (.ins CQ dx []) ∧ Parts H nm mt an ri to ma ki ∧
  ∀ H', Same H H' → (wrongP H nm mt an ri to ma ki = "" → Q .non (upd H' x (.ins CQ dx (qFs nm mt an ri to ma ki)))) ∧
    (wrongP H nm mt an ri to ma ki ≠ "" → ∀ d, H' d = none → E (.ref cE) (some d) (upd H' d (.xd [(("part" : Str), .str (wrongP H nm mt an ri to ma ki))])))
abbrev VaLine : List Value := [.type "ValueError", .type "Exception", .type "BaseException", .type "object"]
abbrev psQ : List Str := ["self", "name", "matter", "answers", "right", "toil", "marks", "kin"]
abbrev dvQ : List V := [.int 0, .int 5, .int 1, .str ""]
structure QCls (K : PySem.W.Frag) (CQ : Addr) : Prop where
  cls : Cls K CQ
  no : ∀ f ∈ ["name", "matter", "answers", "right", "toil", "marks", "kin"], NoAttr K CQ f
theorem text_thg {H : Hp} {z : Str} (h : textT z = true) : Thg H (.str z) := by
  unfold textT at h
  simp only [Bool.and_eq_true, decide_eq_true_iff, List.all_eq_true] at h
  exact .str z (by omega) fun c hc => .inl (sign_sgn (h.2 c hc))
theorem thg_empty {H : Hp} : Thg H (.str "") := .str _ (by decide) fun c hc => by
  rw [show ("" : Str).cps.toList = [] from empty_tl] at hc
  cases hc
theorem made_fin {H : Hp} {CQ cE : Addr} {Q : VK} {E : XK} {nm mt an r t m k : V} (hp : Parts H nm mt an r t m k)
    (q1 : ∀ (x dx : Addr) (H' : Hp), Same H H' → wrongP H nm mt an r t m k = "" → H' x = some (.ins CQ dx (qFs nm mt an r t m k)) → Q (.ref x) H')
    (q2 : ∀ (d : Addr) (H' : Hp), Same H H' → wrongP H nm mt an r t m k ≠ "" → H' d = some (.xd [(("part" : Str), .str (wrongP H nm mt an r t m k))]) → E (.ref cE) (some d) H') :
    ∀ x dx, H x = none → H dx = none → dx ≠ x → spQInit CQ cE [.ref x, nm, mt, an, r, t, m, k] (upd (upd H dx (.own x)) x (.ins CQ dx [])) (fun v H2 => v = .non ∧ Q (.ref x) H2) E := fun x dx hx hdx ne => by
  have s0 : Same H (upd (upd H dx (.own x)) x (.ins CQ dx [])) := fun b o e => by
    rw [upd_ne (ne_of_none e hx), upd_ne (ne_of_none e hdx)]
    exact e
  have ew := hp.wrong s0
  refine ⟨x, dx, nm, mt, an, r, t, m, k, rfl, upd_same, hp.same s0, fun H' s' => ⟨fun e => ⟨rfl, ?_⟩, fun n d hd => ?_⟩⟩
  · rw [ew] at e
    exact q1 x dx _ (fun b o e => by rw [upd_ne (ne_of_none e hx)]; exact s' b o (s0 b o e)) e upd_same
  · rw [ew] at n ⊢
    refine q2 d _ (fun b o e => ?_) n upd_same
    have := s' b o (s0 b o e)
    rw [upd_ne (ne_of_none this hd)]
    exact this
theorem look_name (nm mt an r t m k : V) : (qFs nm mt an r t m k).lookup ("name" : Str) = some nm := by kernel_rfl
theorem look_matter (nm mt an r t m k : V) : (qFs nm mt an r t m k).lookup ("matter" : Str) = some mt := by kernel_rfl
theorem look_answers (nm mt an r t m k : V) : (qFs nm mt an r t m k).lookup ("answers" : Str) = some an := by kernel_rfl
theorem look_right (nm mt an r t m k : V) : (qFs nm mt an r t m k).lookup ("right" : Str) = some r := by kernel_rfl
theorem look_toil (nm mt an r t m k : V) : (qFs nm mt an r t m k).lookup ("toil" : Str) = some t := by kernel_rfl
theorem look_marks (nm mt an r t m k : V) : (qFs nm mt an r t m k).lookup ("marks" : Str) = some m := by kernel_rfl
theorem look_kin (nm mt an r t m k : V) : (qFs nm mt an r t m k).lookup ("kin" : Str) = some k := by kernel_rfl
theorem wrong_len (H : Hp) (nm mt an r t m k : V) : (wrongP H nm mt an r t m k).length ≤ 10 := by
  unfold wrongP
  repeat' split
  all_goals decide +kernel
section
variable {H H' : Hp} {nm mt an ri to ma ki : V}
structure Qok (H : Hp) (nm mt an ri to ma ki : V) : Prop where
  pa : Parts H nm mt an ri to ma ki
  ok : wrongP H nm mt an ri to ma ki = ""
theorem wr_all (hw : wrongP H nm mt an ri to ma ki = "") : nameV nm = true ∧ nameV mt = true ∧ answersV H an = true ∧ whole ri 0 (manyV H an - 1) = true ∧ whole to 1 9 = true ∧ whole ma 1 9 = true ∧ nameE ki = true := by
  unfold wrongP at hw
  cases h0 : nameV nm with
  | false => rw [h0, if_pos rfl] at hw; exact absurd hw (by decide)
  | true =>
  rw [h0, if_neg (by decide)] at hw
  cases h1 : nameV mt with
  | false => rw [h1, if_pos rfl] at hw; exact absurd hw (by decide)
  | true =>
  rw [h1, if_neg (by decide)] at hw
  cases h2 : answersV H an with
  | false => rw [h2, if_pos rfl] at hw; exact absurd hw (by decide)
  | true =>
  rw [h2, if_neg (by decide)] at hw
  cases h3 : whole ri 0 (manyV H an - 1) with
  | false => rw [h3, if_pos rfl] at hw; exact absurd hw (by decide)
  | true =>
  rw [h3, if_neg (by decide)] at hw
  cases h4 : whole to 1 9 with
  | false => rw [h4, if_pos rfl] at hw; exact absurd hw (by decide)
  | true =>
  rw [h4, if_neg (by decide)] at hw
  cases h5 : whole ma 1 9 with
  | false => rw [h5, if_pos rfl] at hw; exact absurd hw (by decide)
  | true =>
  rw [h5, if_neg (by decide)] at hw
  cases h6 : nameE ki with
  | false => rw [h6, if_pos rfl] at hw; exact absurd hw (by decide)
  | true => exact ⟨rfl, rfl, rfl, rfl, rfl, rfl, rfl⟩
theorem wr7 (h0 : nameV nm = true) (h1 : nameV mt = true) (h2 : answersV H an = true) (h3 : whole ri 0 (manyV H an - 1) = true) (h4 : whole to 1 9 = true) (h5 : whole ma 1 9 = true) (h6 : nameE ki = true) : wrongP H nm mt an ri to ma ki = "" := by
  unfold wrongP
  rw [h0, h1, h2, h3, h4, h5, h6]
  rfl
theorem whole_is {x : V} {lo hi : Int} (h : whole x lo hi = true) : ∃ i : Int, x = .int i ∧ lo ≤ i ∧ i ≤ hi := by
  cases x with
  | int i =>
    have h' : (decide (lo ≤ i) && decide (i ≤ hi)) = true := h
    rw [Bool.and_eq_true, decide_eq_true_iff, decide_eq_true_iff] at h'
    exact ⟨i, rfl, h'.1, h'.2⟩
  | _ => cases h
theorem whole_of {i lo hi : Int} (h1 : lo ≤ i) (h2 : i ≤ hi) : whole (.int i) lo hi = true := by
  show (decide (lo ≤ i) && decide (i ≤ hi)) = true
  rw [decide_eq_true h1, decide_eq_true h2]
  rfl
theorem Qok.same (q : Qok H nm mt an ri to ma ki) (s : Same H H') : Qok H' nm mt an ri to ma ki := ⟨q.pa.same s, (q.pa.wrong s).trans q.ok⟩
theorem manyV_at {a : Addr} {ws : List V} (h : H a = some (.tup ws)) : manyV H (.ref a) = (ws.length : Int) := by
  unfold manyV
  rw [tupV_at h]
  rfl
theorem answersV_at {a : Addr} {ws : List V} (h : H a = some (.tup ws)) : answersV H (.ref a) = answersL ws := by
  unfold answersV
  rw [tupV_at h]
/-- its answers and its right one -/
theorem Qok.ans (q : Qok H nm mt an ri to ma ki) : ∃ (a : Addr) (ws : List V) (r : Int), an = .ref a ∧ H a = some (.tup ws) ∧ answersL ws = true ∧ ri = .int r ∧ 0 ≤ r ∧ r < ws.length := by
  obtain ⟨_, _, h2, h3, _⟩ := wr_all q.ok
  obtain ⟨ws, hws⟩ : ∃ ws, tupV H an = some ws := by
    unfold answersV at h2
    cases e : tupV H an with
    | none => rw [e] at h2; cases h2
    | some ws => exact ⟨ws, rfl⟩
  obtain ⟨a, rfl, ha⟩ := tupV_of hws
  rw [answersV_at ha] at h2
  rw [manyV_at ha] at h3
  obtain ⟨r, rfl, r0, r1⟩ := whole_is h3
  exact ⟨a, ws, r, rfl, ha, h2, rfl, r0, by omega⟩
end
/-- a question's parts, as data -/
structure QD where
  nm : Str
  mt : Str
  ws : List Str
  ri : Int
  tl : Int
  ma : Int
  ki : Str
deriving DecidableEq
def QI (CQ : Addr) (H : Hp) (x : Addr) (q : QD) : Prop := ∃ dx a, H x = some (.ins CQ dx (qFs (.str q.nm) (.str q.mt) (.ref a) (.int q.ri) (.int q.tl) (.int q.ma) (.str q.ki))) ∧ H a = some (.tup (q.ws.map V.str)) ∧ q.ws.all PyData.strOk = true
theorem strs_dpA {K : PySem.W.Frag} {H : Hp} : ∀ ws : List Str, DpAll K H (ws.map V.str) (ws.map .str)
  | [] => .nil
  | z :: r => .cons (.str z) (strs_dpA r)
theorem strs_eqvA : ∀ ws vs : List Str, PyData.eqvAll (ws.map .str) (vs.map .str) = decide (ws = vs)
  | [], [] => by simp [PyData.eqvAll]
  | [], _ :: _ => by simp [PyData.eqvAll]
  | _ :: _, [] => by simp [PyData.eqvAll]
  | w :: ws, v :: vs => by
    have ih := strs_eqvA ws vs
    simp only [List.map_cons, PyData.eqvAll, PyData.eqv, ih, List.cons.injEq, Bool.decide_and]
    congr 1
theorem strs_depthA : ∀ ws : List Str, PyData.depthAll (ws.map .str) = 0
  | [] => by simp [PyData.depthAll]
  | z :: r => by simp [PyData.depthAll, PyData.depth, strs_depthA r]
theorem strs_shapedT {ws : List Str} (h : ws.all PyData.strOk = true) : SeqAt.shaped (.tuple (ws.map .str)) = true := by
  have e := PyProof.Rows.canLayAll_strs' ws
  rw [h] at e
  simp [SeqAt.shaped, PyData.canLay0, PyData.depth, e, strs_depthA]
def spQEq (K : PySem.W.Frag) (CQ : Addr) : Sp := fun vs H Q _ => ∃ (x : Addr) (y : V) (q1 : QD), vs = [.ref x, y] ∧ QI CQ H x q1 ∧ ((∃ z q2, y = .ref z ∧ QI CQ H z q2 ∧ Q (.bl (decide (q1 = q2))) H) ∨ ∃ tb, TyX K H y tb ∧ PySem.W.kitOne K tb (.ref CQ) = some false ∧ Q (.bl false) H)
def spQLen (CQ : Addr) : Sp := fun vs H Q _ => ∃ (x : Addr) (q1 : QD), vs = [.ref x] ∧ QI CQ H x q1 ∧ Q (.int q1.ws.length) H
structure QTy (K : PySem.W.Frag) (CQ : Addr) : Prop where
  ha : PySem.W.findIn K (.ref CQ) "__class__" = some (some (.builtin "object.__class__"))
  hn : PySem.W.specialIn K (.builtin "object.__class__") "__get__" = some (some (.builtin "getset_descriptor.__get__"))
  ht : PySem.W.takesIn K (.builtin "object.__class__") = some true
  hm : PySem.W.mroIn K CQ (.type "object") = some true
  hk : PySem.W.kitOne K (.ref CQ) (.ref CQ) = some true
def qRow (q : QD) (a : Addr) : List V := [.str q.nm, .str q.mt, .ref a, .int q.ri, .int q.tl, .int q.ma, .str q.ki]
def RowAt (H : Hp) (p : Addr) (q : QD) : Prop := ∃ a, H p = some (.tup (qRow q a)) ∧ H a = some (.tup (q.ws.map V.str))
/-- all can be there, but perhaps alike answers -/
structure QV (q : QD) : Prop where
  nm : nameT q.nm = true
  mt : nameT q.mt = true
  w2 : 2 ≤ q.ws.length
  w6 : q.ws.length ≤ 6
  wt : ∀ w ∈ q.ws, textT w = true
  r0 : 0 ≤ q.ri
  r1 : q.ri < q.ws.length
  t1 : 1 ≤ q.tl
  t9 : q.tl ≤ 9
  m1 : 1 ≤ q.ma
  m9 : q.ma ≤ 9
  ki : nameE (.str q.ki) = true
section
variable {K : PySem.W.Frag} {H H' : Hp} {CQ x y p s : Addr} {q q' q2 : QD} {t : Int}
theorem RowAt.same (h : RowAt H p q) (k : Same H H') : RowAt H' p q := by
  obtain ⟨a, h1, h2⟩ := h
  exact ⟨a, k _ _ h1, k _ _ h2⟩
theorem row_qok (h : RowAt H p q) (v : QV q) (u : unlike q.ws q.ws.length = q.ws.length) : ∃ a, H p = some (.tup (qRow q a)) ∧ H a = some (.tup (q.ws.map V.str)) ∧ Qok H (.str q.nm) (.str q.mt) (.ref a) (.int q.ri) (.int q.tl) (.int q.ma) (.str q.ki) := by
  obtain ⟨a, h1, h2⟩ := h
  have tv : tupV H (.ref a) = some (q.ws.map V.str) := tupV_at h2
  have sm : (q.ws.map V.str).map strV = q.ws := by
    rw [List.map_map]
    exact List.map_id'' (fun _ => rfl) q.ws
  refine ⟨a, h1, h2, ⟨name_thg v.nm, name_thg v.mt, ⟨.tup h2, fun ws e x hx => ?_⟩, .int _, .int _, .int _, ?_⟩, wr7 v.nm v.mt ?_ ?_ (whole_of v.t1 v.t9) (whole_of v.m1 v.m9) v.ki⟩
  · rw [tv] at e
    cases e
    obtain ⟨w, hw, rfl⟩ := List.mem_map.mp hx
    exact text_thg (v.wt w hw)
  · have := v.ki
    unfold nameE at this
    rcases Bool.or_eq_true_iff.mp this with h | h
    · exact name_thg h
    · rw [of_decide_eq_true h]
      exact thg_empty
  · unfold answersV
    rw [tv]
    show answersL (q.ws.map V.str) = true
    unfold answersL
    rw [sm, List.length_map, u]
    simp only [Bool.and_eq_true, decide_eq_true_iff, List.all_eq_true]
    refine ⟨⟨⟨v.w2, v.w6⟩, fun x hx => ?_⟩, by trivial⟩
    obtain ⟨w, hw, rfl⟩ := List.mem_map.mp hx
    exact v.wt w hw
  · refine whole_of v.r0 ?_
    unfold manyV
    rw [tv]
    show q.ri ≤ (((q.ws.map V.str).length : Nat) : Int) - 1
    rw [List.length_map]
    have := v.r1
    omega
theorem QI.same (h : QI CQ H x q) (k : Same H H') : QI CQ H' x q := by
  obtain ⟨dx, a, h1, h2, h3⟩ := h
  exact ⟨dx, a, k _ _ h1, k _ _ h2, h3⟩
theorem strs_inj : ∀ {a b : List Str}, a.map V.str = b.map V.str → a = b
  | [], [], _ => rfl
  | [], _ :: _, h => by cases h
  | _ :: _, [], h => by cases h
  | x :: a, y :: b, h => by
    rw [List.map_cons, List.map_cons] at h
    obtain ⟨h1, h2⟩ := List.cons.inj h
    rw [V.str.inj h1, strs_inj h2]
theorem QI.uniq (h : QI CQ H x q) (k : QI CQ H x q') : q = q' := by
  obtain ⟨dx, a, h1, h2, _⟩ := h
  obtain ⟨dy, b, k1, k2, _⟩ := k
  rw [h1] at k1
  have e := Option.some.inj k1
  injection e with e1 e2 e3
  unfold qFs at e3
  simp only [List.cons.injEq, Prod.mk.injEq, V.str.injEq, V.int.injEq, V.ref.injEq, true_and, and_true] at e3
  obtain ⟨n1, n2, n3, n4, n5, n6, n7⟩ := e3
  subst n3
  rw [h2] at k2
  have ew := strs_inj (HO.tup.inj (Option.some.inj k2))
  cases q
  cases q'
  dsimp only at n1 n2 n4 n5 n6 n7 ew
  subst n1 n2 n4 n5 n6 n7 ew
  rfl
theorem text_strOk {w : Str} (h : textT w = true) : PyData.strOk w = true := by
  have e := text_thg (H := fun _ => none) h
  cases e with
  | str z hl ho => exact (sok_iff _).mpr ho.ok
theorem room1 {k : Nat} {A : Around} (hr : Room k A) : A.units < cLine := by
  have := room_show hr
  omega
def qData (q : QD) : PyData := .tuple [.str q.nm, .str q.mt, .tuple (q.ws.map .str), .int q.ri, .int q.tl, .int q.ma, .str q.ki]
theorem row_dp (h : RowAt H p q) : Dp K H (.ref p) (qData q) := by
  obtain ⟨a, hp, ha⟩ := h
  exact .tup (SqT.of hp) (.cons (.str _) (.cons (.str _) (.cons (.tup (SqT.of ha) (strs_dpA _)) (.cons (.int _) (.cons (.int _) (.cons (.int _) (.cons (.str _) .nil)))))))
theorem row_eqv (q q' : QD) : PyData.eqv (qData q) (qData q') = decide (q = q') := by
  have e := strs_eqvA q.ws q'.ws
  unfold qData
  simp only [PyData.eqv, PyData.eqvAll, e, Bool.and_true]
  obtain ⟨a1, a2, a3, a4, a5, a6, a7⟩ := q
  obtain ⟨b1, b2, b3, b4, b5, b6, b7⟩ := q'
  rw [Bool.eq_iff_iff]
  simp only [Bool.and_eq_true, decide_eq_true_iff, beq_iff_eq, QD.mk.injEq]
theorem name_strOk {z : Str} (h : nameT z = true) : PyData.strOk z = true := by
  have e := name_thg (H := fun _ => none) h
  cases e with
  | str z hl ho => exact (sok_iff _).mpr ho.ok
theorem kin_strOk {z : Str} (h : nameE (.str z) = true) : PyData.strOk z = true := by
  unfold nameE at h
  rcases Bool.or_eq_true_iff.mp h with h | h
  · exact name_strOk h
  · rw [V.str.inj (of_decide_eq_true h)]
    decide +kernel
theorem ws_strOk (v : QV q) : q.ws.all PyData.strOk = true := List.all_eq_true.mpr fun w hw => text_strOk (v.wt w hw)
theorem row_canLay (v : QV q) : (qData q).canLay0 = true := by
  have e := PyProof.Rows.canLayAll_strs' q.ws
  rw [ws_strOk v] at e
  simp [qData, PyData.canLay0, PyData.canLayAll0, name_strOk v.nm, name_strOk v.mt, kin_strOk v.ki, e]
theorem row_depth : (qData q).depth = 2 := by
  simp [qData, PyData.depth, PyData.depthAll, strs_depthA]
theorem row_shaped (v : QV q) : SeqAt.shaped (qData q) = true := by
  have e := row_canLay v
  have d := row_depth (q := q)
  simp [SeqAt.shaped, e, d]
theorem QI.ty (C : QCls K CQ) (CT : QTy K CQ) (h : QI CQ H x q) : TyX K H (.ref x) (.ref CQ) := by
  obtain ⟨dx, a, h1, _⟩ := h
  exact .base (.ins h1 C.cls CT.ha CT.hn CT.ht CT.hm)
theorem QI.eqOf (h : QI CQ H x q) (k : QI CQ H y q2) : EqOf CQ (spQEq K CQ) x y H (decide (q = q2)) := by
  by_cases e : x = y
  · subst e
    exact .inl ⟨rfl, decide_eq_true (h.uniq k)⟩
  · obtain ⟨dx, a, h1, _⟩ := id h
    obtain ⟨dy, b, k1, _⟩ := id k
    exact .inr ⟨e, ⟨_, _, h1⟩, ⟨_, _, k1⟩, x, .ref y, q, rfl, h, .inl ⟨y, q2, rfl, k, rfl, rfl⟩⟩
end
end Pk
namespace Pk
open PySem L2
/-! ### signs of names and texts, by str's own looks -/
theorem low_alpha : ∀ c < 128, (Unicode.isAlpha c && !(Unicode.isUpper c || Unicode.isTitle c)) = decide (c ∈ letters.cps.toList) := by decide +kernel
theorem low_lower : ∀ c < 128, decide (c ∈ letters.cps.toList) = Unicode.isLower c := by decide +kernel
theorem low_print : ∀ c < 128, (Unicode.isPrintable c && !decide (c = 37)) = signOk c := by decide +kernel
theorem letters_low : ∀ c ∈ letters.cps.toList, c < 128 := by decide +kernel
theorem name_signs (z : Str) (h : 1 ≤ z.length) : (Txt.isascii z && (Txt.isalpha z && Txt.islower z)) = z.cps.toList.all fun c => decide (c ∈ letters.cps.toList) := by
  unfold Txt.isascii Txt.isalpha Txt.islower
  rw [← Array.all_toList, ← Array.all_toList, ← Array.any_toList, ← Array.any_toList]
  have hl : z.cps.toList.length = z.length := rfl
  rw [show decide (z.length > 0) = true from decide_eq_true h, Bool.true_and]
  generalize z.cps.toList = l at hl ⊢
  rw [← hl] at h
  rw [Bool.eq_iff_iff]
  simp only [Bool.and_eq_true, List.all_eq_true, List.any_eq_true, Bool.not_eq_true', decide_eq_true_eq]
  constructor
  · rintro ⟨h1, h2, _, h4⟩ c hc
    have e := low_alpha c (h1 c hc)
    rw [h2 c hc, Bool.true_and] at e
    have n : (Unicode.isUpper c || Unicode.isTitle c) = false := by
      cases hh : (Unicode.isUpper c || Unicode.isTitle c) with
      | false => rfl
      | true => exact absurd (List.any_eq_true.mpr ⟨c, hc, hh⟩) (by rw [h4]; exact Bool.false_ne_true)
    rw [n] at e
    exact of_decide_eq_true e.symm
  · intro hh
    have lo : ∀ c ∈ l, c < 128 := fun c hc => letters_low c (hh c hc)
    have e : ∀ c ∈ l, (Unicode.isAlpha c && !(Unicode.isUpper c || Unicode.isTitle c)) = true := fun c hc => (low_alpha c (lo c hc)).trans (decide_eq_true (hh c hc))
    refine ⟨lo, fun c hc => (Bool.and_eq_true_iff.mp (e c hc)).1, ?_, ?_⟩
    · cases l with
      | nil => exact absurd h (by decide)
      | cons c r => exact ⟨c, List.mem_cons_self, (low_lower c (lo c List.mem_cons_self)).symm.trans (decide_eq_true (hh c List.mem_cons_self))⟩
    · rw [Bool.eq_false_iff]
      intro a
      obtain ⟨c, hc, a⟩ := List.any_eq_true.mp a
      have := (Bool.and_eq_true_iff.mp (e c hc)).2
      rw [a] at this
      exact absurd this (by decide)
theorem text_signs (z : Str) : (Txt.isascii z && (Txt.isprintable z && z.cps.toList.all fun c => !decide (c = 37))) = z.cps.toList.all signOk := by
  unfold Txt.isascii Txt.isprintable
  rw [← Array.all_toList, ← Array.all_toList]
  generalize z.cps.toList = l
  rw [Bool.eq_iff_iff]
  simp only [Bool.and_eq_true, List.all_eq_true, decide_eq_true_eq]
  constructor
  · rintro ⟨h1, h2, h3⟩ c hc
    rw [← low_print c (h1 c hc), h2 c hc, h3 c hc]
    rfl
  · intro hh
    have lo : ∀ c ∈ l, c < 128 := fun c hc => by
      have := hh c hc
      unfold signOk at this
      rw [Bool.and_eq_true, Bool.and_eq_true] at this
      have := of_decide_eq_true this.1.2
      omega
    have e : ∀ c ∈ l, (Unicode.isPrintable c && !decide (c = 37)) = true := fun c hc => (low_print c (lo c hc)).trans (hh c hc)
    exact ⟨lo, fun c hc => (Bool.and_eq_true_iff.mp (e c hc)).1, fun c hc => (Bool.and_eq_true_iff.mp (e c hc)).2⟩
end Pk
namespace Pk
open PySem L2
/-! ### words.py -/
section
variable {P : Program} {w : World} {K : PySem.W.Frag} {mg : Str → Option Value} {base : Heap}
theorem isb {X : Cx} {i : Nat} {v : Str} {y : Str} {T : String} {p p1 p2 pos : Pos} (mi : X.mg "isinstance" = none) (my : X.mg y = none) (by_ : bootBuiltins y = some (.type T)) (hi : Gl X "isinstance" := by rfl) (hg : Gl X y := by rfl) (hN : X.N[i]? = some v := by rfl) (hv : Vis X.env.scope v := by first | exact Or.inl rfl | exact Or.inr (Or.inl rfl)) (hd : (y == ("__debug__" : Str)) = false := by decide) (hd2 : (v == ("__debug__" : Str)) = false := by decide) (hd3 : (v == ("__classdict__" : Str)) = false := by decide) (hn : y ≠ "__name__" := by decide) :
    PE X (.Call (.Name "isinstance" p) [.Name v p1, .Name y p2] [] pos) (tCB (rIsi X.K) (tCons (tVar i) (tCons (tC (.ty T)) tNil))) :=
  pe_callB call_isi hi mi (by decide +kernel) (pa_cons (pe_var hN hv hd2 hd3) (pa_cons (pe_bltn (v := .ty T) hg my by_ rfl hn hd) pa_nil))
theorem scIsNumber : FnScope ["thing"] ["thing"] (defScope sIsNumber) := ⟨rfl, rfl, rfl, by decide +kernel, rfl, by decide +kernel, by decide +kernel⟩
theorem ok_isNumber {f : Addr} {fd : FuncData} (F : Fun K "is_number" "is_number" sIsNumber f fd) (mi : mg "isinstance" = none) (mn : mg "int" = none) (mb : mg "bool" = none) : FnOk P w K mg base CX0 1 f fd ["thing"] spIsNumber := by
  refine F.ok scIsNumber (fun vs H Q E h => ?_) (fun cdv A outer s H vs Q E hr h => ?_)
  · obtain ⟨x, rfl, _⟩ := h
    rfl
  · obtain ⟨x, rfl, hx, q⟩ := h
    obtain ⟨t, ty, k1, k2, _, _⟩ := hx.ty (K := K)
    refine ⟨_, pss_one (ps_ret (pe_and (isb (i := 0) mi mn PyProof.Rows.boot_int) (pe_one (pe_not (isb (i := 0) (T := "bool") mi mb (by decide +kernel)))))), ?_⟩
    refine ⟨_, rfl, _, _, _, _, _, rfl, .ty "int", ty, kit_ty k1, _, rfl, ?_⟩
    cases hv : vInt x with
    | true =>
      rw [hv] at q
      refine iteT ⟨_, rfl, _, _, _, _, _, rfl, .ty "bool", ty, kit_ty k2, _, rfl, ?_⟩
      have : vBool x = false := by
        cases x <;> first | rfl | cases hv
      rw [this]
      exact q
    | false =>
      rw [hv] at q
      cases hb : vBool x with
      | true =>
        rw [hb] at k2
        exact iteT ⟨_, rfl, _, _, _, _, _, rfl, .ty "bool", ty, kit_ty k2, _, rfl, q⟩
      | false => exact iteF q
theorem scIsWhole : FnScope ["thing", "least", "most"] ["thing", "least", "most"] (defScope sIsWhole) := ⟨rfl, rfl, rfl, by decide +kernel, rfl, by decide +kernel, by decide +kernel⟩
abbrev FunDf (K : PySem.W.Frag) (x : Str) (st : Stmt) (dvs : List V) (f : Addr) (fd : FuncData) : Prop := FunD K x x (defArgs st) (defBody st) (defScope st) dvs [] f fd
theorem ok_isWhole {f fN : Addr} {fd fdN : FuncData} (F : FunDf K "is_whole" sIsWhole [.int 0, .int 9999] f fd) (FN : Fun K "is_number" "is_number" sIsNumber fN fdN) (bN : Binds K fdN ["thing"] []) (gN : mg "is_number" = some (.ref fN))
    (mi : mg "isinstance" = none) (mn : mg "int" = none) (mb : mg "bool" = none) : FnOk P w K mg base CX0 2 f fd ["thing", "least", "most"] spIsWhole := by
  have GN : FnOk P w K mg base CX0 1 fN fdN ["thing"] spIsNumber := ok_isNumber FN mi mn mb
  refine F.ok scIsWhole (fun vs H Q E h => ?_) (fun cdv A outer s H vs Q E hr h => ?_)
  · obtain ⟨x, lo, hi, rfl, _⟩ := h
    rfl
  · obtain ⟨x, lo, hi, rfl, hx, q⟩ := h
    refine ⟨_, pss_one (ps_ret (pe_and (pe_call GN hr (by rfl) gN FN.kp bN .nil pass0 (pa_cons (pv 0) pa_nil)) (pe_one (pe_chain op_le op_le (pv 1) (pv 0) (pv 2))))), ?_⟩
    refine ⟨_, rfl, x, rfl, hx, _, rfl, ?_⟩
    cases hx with
    | int i =>
      have q' : Q (.bl (decide (lo ≤ i) && decide (i ≤ hi))) H := q
      refine iteT ⟨_, rfl, _, rfl, _, _, rfl, rfl, _, rfl, ?_⟩
      cases hd : decide (lo ≤ i) with
      | true =>
        rw [hd, Bool.true_and] at q'
        exact iteT ⟨_, rfl, _, _, rfl, rfl, q'⟩
      | false =>
        rw [hd, Bool.false_and] at q'
        exact iteF q'
    | non => exact iteF q
    | bl b => exact iteF q
    | str z hl ho => exact iteF q
    | lst h => exact iteF q
    | tup h => exact iteF q
    | dct h => exact iteF q
theorem scIsName : FnScope ["thing"] ["thing"] (defScope sIsName) := ⟨rfl, rfl, rfl, by decide +kernel, rfl, by decide +kernel, by decide +kernel⟩
theorem ok_isName {f : Addr} {fd : FuncData} (F : Fun K "is_name" "is_name" sIsName f fd) (mi : mg "isinstance" = none) (ms : mg "str" = none) (ml : mg "len" = none) (gM : ∃ t, mg "MOST_LETTERS" = some (.int 8 t)) :
    FnOk P w K mg base CX0 1 f fd ["thing"] spIsName := by
  obtain ⟨tM, gM⟩ := gM
  refine F.ok scIsName (fun vs H Q E h => ?_) (fun cdv A outer s H vs Q E hr h => ?_)
  · obtain ⟨x, rfl, _⟩ := h
    rfl
  · obtain ⟨x, rfl, hx, q⟩ := h
    obtain ⟨t, ty, _, _, k3, _⟩ := hx.ty (K := K)
    refine ⟨_, pss_cons (ps_if (PW.pt (pw_or (pt_not (pt_val (isb (i := 0) mi ms PyProof.Rows.boot_str))) (pw_or1 (pt_not (pt_chain op_le op_le pe_int (pe_callB call_len_str (by rfl) ml PySem.boot_len (pa_cons (pv 0) pa_nil)) (pe_glob (v := .int 8) (by rfl) gM ⟨_, rfl⟩)))))) (pss_one (ps_ret pe_bl)) pss_nil)
      (pss_one (ps_ret (pe_and (pe_m0 PySem.F.slot_str_isascii PySem.F.type_str_isascii mt_isascii (pv 0)) (pe_and (pe_m0 PySem.F.slot_str_isalpha PySem.F.type_str_isalpha mt_isalpha (pv 0)) (pe_one (pe_m0 PySem.F.slot_str_islower PySem.F.type_str_islower mt_islower (pv 0))))))), ?_⟩
    refine ⟨_, rfl, _, _, _, _, _, rfl, .ty "str", ty, kit_ty k3, _, rfl, ?_⟩
    have q := q H (Same.refl H)
    cases hx with
    | non => exact iteT q
    | bl b => exact iteT q
    | int i => exact iteT q
    | lst h => exact iteT q
    | tup h => exact iteT q
    | dct h => exact iteT q
    | str z hl ho =>
      refine iteF ⟨_, rfl, z, rfl, by rw [sizeLine_eq]; omega, _, _, rfl, rfl, _, rfl, ?_⟩
      have q' : Q (.bl (decide (1 ≤ z.length) && decide (z.length ≤ 8) && z.cps.toList.all fun c => decide (c ∈ letters.cps.toList))) H := q
      cases h1 : decide (1 ≤ z.length) with
      | false =>
        rw [h1, Bool.false_and, Bool.false_and] at q'
        have e1 : decide ((1 : Int) ≤ z.length) = false := by
          have := of_decide_eq_false h1
          exact decide_eq_false (by omega)
        rw [e1]
        exact iteF ⟨_, rfl, iteT q'⟩
      | true =>
        have e1 : decide ((1 : Int) ≤ z.length) = true := by
          have := of_decide_eq_true h1
          exact decide_eq_true (by omega)
        rw [e1]
        refine iteT ⟨_, _, rfl, rfl, _, rfl, ?_⟩
        cases h2 : decide (z.length ≤ 8) with
        | false =>
          rw [h1, h2, Bool.and_false, Bool.false_and] at q'
          have e2 : decide ((z.length : Int) ≤ 8) = false := by
            have := of_decide_eq_false h2
            exact decide_eq_false (by omega)
          rw [e2]
          exact iteT q'
        | true =>
          rw [h1, h2, Bool.and_true, Bool.true_and, ← name_signs z (of_decide_eq_true h1)] at q'
          have e2 : decide ((z.length : Int) ≤ 8) = true := by
            have := of_decide_eq_true h2
            exact decide_eq_true (by omega)
          rw [e2]
          refine iteF ⟨_, rfl, ⟨z, rfl⟩, z, rfl, rfl, trivial, _, rfl, ?_⟩
          cases h3 : Txt.isascii z with
          | false =>
            rw [h3, Bool.false_and] at q'
            exact iteF q'
          | true =>
            rw [h3, Bool.true_and] at q'
            refine iteT ⟨_, rfl, ⟨z, rfl⟩, z, rfl, rfl, trivial, _, rfl, ?_⟩
            cases h4 : Txt.isalpha z with
            | false =>
              rw [h4, Bool.false_and] at q'
              exact iteF q'
            | true =>
              rw [h4, Bool.true_and] at q'
              exact iteT ⟨_, rfl, ⟨z, rfl⟩, z, rfl, rfl, trivial, q'⟩
theorem at_last {l : List Nat} (h : l ≠ []) : atI l (-1) = some (l.getLast h) :=
  (congrArg (fun x => atI x (-1)) (List.dropLast_concat_getLast h).symm).trans (atI_last _ _)
theorem scIsText : FnScope ["thing", "sign"] ["thing"] (defScope sIsText) := ⟨rfl, rfl, rfl, by decide +kernel, rfl, by decide +kernel, by decide +kernel⟩
theorem ok_isText {f : Addr} {fd : FuncData} (F : Fun K "is_text" "is_text" sIsText f fd) (mi : mg "isinstance" = none) (ms : mg "str" = none) (ml : mg "len" = none) (ma : mg "all" = none) (mo : mg "ord" = none)
    (gP : ∃ t, mg "PERCENT" = some (.int 37 t)) (gM : ∃ t, mg "MOST_SIGNS" = some (.int 30 t)) : FnOk P w K mg base CX0 2 f fd ["thing"] spIsText := by
  obtain ⟨tP, gP⟩ := gP
  obtain ⟨tM, gM⟩ := gM
  refine F.ok scIsText (fun vs H Q E h => ?_) (fun cdv A outer s H vs Q E hr h => ?_)
  · obtain ⟨x, rfl, _⟩ := h
    rfl
  · obtain ⟨x, rfl, hx, q⟩ := h
    obtain ⟨t, ty, _, _, k3, _⟩ := hx.ty (K := K)
    refine ⟨_, pss_cons (ps_if (PW.pt (pw_or (pt_not (pt_val (isb (i := 0) mi ms PyProof.Rows.boot_str))) (pw_or1 (pt_not (pt_chain op_le op_le pe_int (pe_callB call_len_str (by rfl) ml PySem.boot_len (pa_cons (pv 0) pa_nil)) (pe_glob (v := .int 30) (by rfl) gM ⟨_, rfl⟩)))))) (pss_one (ps_ret pe_bl)) pss_nil)
      (pss_cons (ps_if (PW.pt (pw_or (pt_cmpR op_eq (pe_ix ix_str (pv 0) pe_int (fun _ _ => rfl)) pe_str (nomark _)) (pw_or1 (pt_cmpR op_eq (pe_ix ix_str (pv 0) (pe_un un_neg pe_int) (fun _ _ => rfl)) pe_str (nomark _))))) (pss_one (ps_ret pe_bl)) pss_nil)
      (pss_one (ps_ret (pe_and (pe_m0 PySem.F.slot_str_isascii PySem.F.type_str_isascii mt_isascii (pv 0)) (pe_and (pe_m0 PySem.F.slot_str_isprintable PySem.F.type_str_isprintable mt_isprintable (pv 0)) (pe_one (pe_callB (cr_all rfl) (by rfl) ma (by decide +kernel) (pa_cons (pe_lc (own := [("sign", 1)]) (g := gName 1) rfl scIsText.nd (pi_str (pv 0)) (blkOk_by (N := ["thing", "sign"]) (sc := defScope sIsText) (by decide +kernel))
        (fun _ _ _ _ _ => pg_name (i := 1) scIsText.nd rfl (Or.inl rfl)) (fun _ _ _ _ _ => pts_nil) (fun _ _ _ _ _ => pe_cmpR op_ne (pe_callB call_ord (by rfl) mo (by decide +kernel) (pa_cons (pv 1) pa_nil)) (pe_glob (v := .int 37) (by rfl) gP ⟨_, rfl⟩) (nomark _))) pa_nil)))))))), ?_⟩
    refine ⟨_, rfl, _, _, _, _, _, rfl, .ty "str", ty, kit_ty k3, _, rfl, ?_⟩
    cases hx with
    | non => exact iteT (q H (Same.refl H))
    | bl b => exact iteT (q H (Same.refl H))
    | int i => exact iteT (q H (Same.refl H))
    | lst h => exact iteT (q H (Same.refl H))
    | tup h => exact iteT (q H (Same.refl H))
    | dct h => exact iteT (q H (Same.refl H))
    | str z hl ho =>
      refine iteF ⟨_, rfl, z, rfl, by rw [sizeLine_eq]; omega, _, _, rfl, rfl, _, rfl, ?_⟩
      have q' : ∀ H', Same H H' → Q (.bl (decide (1 ≤ z.length) && decide (z.length ≤ 30) && !decide (z.cps.toList[0]? = some 32) && !decide (z.cps.toList.getLast? = some 32) && z.cps.toList.all signOk)) H' := q
      cases h1 : decide (1 ≤ z.length) with
      | false =>
        rw [h1, Bool.false_and, Bool.false_and, Bool.false_and, Bool.false_and] at q'
        have e1 : decide ((1 : Int) ≤ z.length) = false := by
          have := of_decide_eq_false h1
          exact decide_eq_false (by omega)
        rw [e1]
        exact iteF ⟨_, rfl, iteT (q' H (Same.refl H))⟩
      | true =>
        have p1 : 1 ≤ z.length := of_decide_eq_true h1
        have e1 : decide ((1 : Int) ≤ z.length) = true := decide_eq_true (by omega)
        rw [e1]
        refine iteT ⟨_, _, rfl, rfl, _, rfl, ?_⟩
        cases h2 : decide (z.length ≤ 30) with
        | false =>
          rw [h1, h2, Bool.and_false, Bool.false_and, Bool.false_and, Bool.false_and] at q'
          have e2 : decide ((z.length : Int) ≤ 30) = false := by
            have := of_decide_eq_false h2
            exact decide_eq_false (by omega)
          rw [e2]
          exact iteT (q' H (Same.refl H))
        | true =>
          rw [h1, h2, Bool.and_true, Bool.true_and] at q'
          have e2 : decide ((z.length : Int) ≤ 30) = true := by
            have := of_decide_eq_true h2
            exact decide_eq_true (by omega)
          rw [e2]
          refine iteF ?_
          -- the first and the last sign
          have ln : z.cps.toList.length = z.length := (len_is z).symm
          have g0 : z.cps.toList[0]? = some (z.cps.toList[0]'(by omega)) := List.getElem?_eq_getElem (by omega)
          have hne : z.cps.toList ≠ [] := fun e => by rw [e] at ln; simp at ln; omega
          have gl : z.cps.toList.getLast? = some (z.cps.toList.getLast hne) := List.getLast?_eq_getLast hne
          generalize hc0 : z.cps.toList[0]'(by omega) = c0 at g0
          generalize hcl : z.cps.toList.getLast hne = cl at gl
          have al : atI z.cps.toList (-1) = some cl := by
            rw [← hcl]
            exact at_last hne
          have one_eq : ∀ c : Nat, decide (V.str ⟨#[c]⟩ = V.str " ") = decide (c = 32) := fun c => decide_eq_decide.mpr ⟨fun z => by
            have e := congrArg TL.tl (V.str.inj z)
            rw [blank_tl] at e
            exact (List.cons.inj e).1, fun z => by rw [z]; exact congrArg V.str (by decide +kernel)⟩
          refine ⟨_, rfl, z, 0, c0, rfl, rfl, by rw [sizeLine_eq]; omega, atI_nat (j := 0) g0, rfl, _, rfl, ?_⟩
          rw [one_eq]
          cases h3 : decide (c0 = 32) with
          | true =>
            have e3 : decide (z.cps.toList[0]? = some 32) = true := decide_eq_true (by rw [g0, of_decide_eq_true h3])
            rw [e3, Bool.not_true, Bool.false_and, Bool.false_and] at q'
            exact iteT (q' H (Same.refl H))
          | false =>
            have e3 : decide (z.cps.toList[0]? = some 32) = false := decide_eq_false (by rw [g0]; exact fun e => of_decide_eq_false h3 (Option.some.inj e))
            rw [e3, Bool.not_false, Bool.true_and] at q'
            refine iteF ⟨_, rfl, _, rfl, z, _, cl, rfl, rfl, by rw [sizeLine_eq]; omega, al, rfl, _, rfl, ?_⟩
            rw [one_eq]
            cases h4 : decide (cl = 32) with
            | true =>
              have e4 : decide (z.cps.toList.getLast? = some 32) = true := decide_eq_true (by rw [gl, of_decide_eq_true h4])
              rw [e4, Bool.not_true, Bool.false_and] at q'
              exact iteT (q' H (Same.refl H))
            | false =>
              have e4 : decide (z.cps.toList.getLast? = some 32) = false := decide_eq_false (by rw [gl]; exact fun e => of_decide_eq_false h4 (Option.some.inj e))
              rw [e4, Bool.not_false, Bool.true_and] at q'
              rw [← text_signs z] at q'
              refine iteF ⟨_, rfl, ⟨z, rfl⟩, z, rfl, rfl, trivial, _, rfl, ?_⟩
              cases h5 : Txt.isascii z with
              | false =>
                rw [h5, Bool.false_and] at q'
                exact iteF (q' H (Same.refl H))
              | true =>
                rw [h5, Bool.true_and] at q'
                refine iteT ⟨_, rfl, ⟨z, rfl⟩, z, rfl, rfl, trivial, _, rfl, ?_⟩
                cases h6 : Txt.isprintable z with
                | false =>
                  rw [h6, Bool.false_and] at q'
                  exact iteF (q' H (Same.refl H))
                | true =>
                  rw [h6, Bool.true_and] at q'
                  refine iteT ⟨_, rfl, z, rfl, fun D hD => ?_⟩
                  refine lc_it walk_str (fun i H' => (∀ b o, b ≠ D → H b = some o → H' b = some o) ∧ H' D = some (.lst (((z.cps.toList.take i).map fun c => !decide (c = 37)).map V.bl))) ⟨fun b o n e => ?_, upd_same⟩ (fun _ _ _ _ => trivial) ?_ ?_
                  · rw [upd_ne n]
                    exact e
                  · rintro i x H1 H2 hi ⟨k, hd⟩ ⟨rfl, c, hc, rfl⟩
                    have hc' : z.cps.toList[i]? = some c := by rw [Array.getElem?_toList]; exact hc
                    have e3 : decide (V.int ((⟨#[c]⟩ : Str).cps.getD 0 0 : Nat) = V.int 37) = decide (c = 37) := decide_eq_decide.mpr ⟨fun z => by
                      have := V.int.inj z
                      have e : ((⟨#[c]⟩ : Str).cps.getD 0 0) = c := rfl
                      rw [e] at this
                      omega, fun z => by rw [z]; rfl⟩
                    refine ⟨rfl, _, rfl, _, rfl, rfl, rfl, _, hd, ?_, fun b o n e => ?_, ?_⟩
                    · rw [List.length_map, List.length_map, List.length_take, sizeLine_eq, ← len_is]
                      omega
                    · rw [upd_ne n]
                      exact k b o n e
                    · rw [upd_same, List.take_add_one, hc', List.map_append, List.map_append]
                      show some (HO.lst (_ ++ [V.bl (!decide (V.int ((⟨#[c]⟩ : Str).cps.getD 0 0 : Nat) = V.int 37))])) = _
                      rw [e3]
                      rfl
                  · rintro H1 ⟨k, hd⟩
                    rw [List.take_of_length_le (by rw [Array.length_toList]; exact Nat.le_refl _)] at hd
                    refine ⟨D, _, rfl, SqL.of hd, ?_⟩
                    have e5 : ((z.cps.toList.map fun c => !decide (c = 37)).all id) = z.cps.toList.all fun c => !decide (c = 37) := by
                      rw [List.all_map]
                      rfl
                    rw [e5]
                    exact q' H1 fun b o e => k b o (fun z => by rw [z, hD] at e; cases e) e
theorem scIsNameE : FnScope ["thing"] ["thing"] (defScope sIsNameE) := ⟨rfl, rfl, rfl, by decide +kernel, rfl, by decide +kernel, by decide +kernel⟩
theorem ok_isNameE {f fN : Addr} {fd fdN : FuncData} (F : Fun K "is_name_or_empty" "is_name_or_empty" sIsNameE f fd) (FN : Fun K "is_name" "is_name" sIsName fN fdN) (bN : Binds K fdN ["thing"] []) (gN : mg "is_name" = some (.ref fN))
    (mi : mg "isinstance" = none) (ms : mg "str" = none) (ml : mg "len" = none) (gM : ∃ t, mg "MOST_LETTERS" = some (.int 8 t)) : FnOk P w K mg base CX0 2 f fd ["thing"] spIsNameE := by
  have GN : FnOk P w K mg base CX0 1 fN fdN ["thing"] spIsName := ok_isName FN mi ms ml gM
  refine F.ok scIsNameE (fun vs H Q E h => ?_) (fun cdv A outer s H vs Q E hr h => ?_)
  · obtain ⟨x, rfl, _⟩ := h
    rfl
  · obtain ⟨x, rfl, hx, q⟩ := h
    refine ⟨_, pss_one (ps_ret (pe_or (pe_call GN hr (by rfl) gN FN.kp bN .nil pass0 (pa_cons (pv 0) pa_nil)) (pe_one (pe_and (isb (i := 0) mi ms PyProof.Rows.boot_str) (pe_one (pe_cmpR op_eq (pv 0) pe_str (nomark _))))))), ?_⟩
    refine ⟨_, rfl, x, rfl, hx, fun H1 s1 => ⟨_, rfl, ?_⟩⟩
    obtain ⟨t, ty, _, _, k3, _⟩ := (hx.same s1).ty (K := K)
    have q1 := q H1 s1
    unfold nameE at q1
    cases hn : nameV x with
    | true =>
      rw [hn, Bool.true_or] at q1
      exact iteT q1
    | false =>
      rw [hn, Bool.false_or] at q1
      refine iteF ⟨_, rfl, _, _, _, _, _, rfl, .ty "str", ty, kit_ty k3, _, rfl, ?_⟩
      cases hx with
      | str z hl ho => exact iteT ⟨_, rfl, rfl, q1⟩
      | _ => exact iteF q1
theorem scAreAnswers : FnScope ["thing", "each"] ["thing"] (defScope sAreAnswers) := ⟨rfl, rfl, rfl, by decide +kernel, rfl, by decide +kernel, by decide +kernel⟩
theorem ok_areAnswers {f fT : Addr} {fd fdT : FuncData} (F : Fun K "are_answers" "are_answers" sAreAnswers f fd) (GT : FnOk P w K mg base CX0 2 fT fdT ["thing"] spIsText) (kT : PySem.W.keepIn K (.ref fT) = true) (bT : Binds K fdT ["thing"] []) (gT : mg "is_text" = some (.ref fT))
    (mi : mg "isinstance" = none) (mt : mg "tuple" = none) (ml : mg "len" = none) (ma : mg "all" = none) (mst : mg "set" = none) (g2 : ∃ t, mg "LEAST_ANSWERS" = some (.int 2 t)) (g6 : ∃ t, mg "MOST_ANSWERS" = some (.int 6 t)) : FnOk P w K mg base CX0 3 f fd ["thing"] spAreAnswers := by
  obtain ⟨t2, g2⟩ := g2
  obtain ⟨t6, g6⟩ := g6
  refine F.ok scAreAnswers (fun vs H Q E h => ?_) (fun cdv A outer s H vs Q E hr h => ?_)
  · obtain ⟨x, rfl, _⟩ := h
    rfl
  · obtain ⟨x, rfl, hx, hw, q⟩ := h
    obtain ⟨t, ty, _, _, _, k4⟩ := hx.ty (K := K)
    refine ⟨_, pss_cons (ps_if (PW.pt (pw_or (pt_not (pt_val (isb (i := 0) mi mt PyProof.Rows.boot_tuple))) (pw_or1 (pt_not (pt_chain op_le op_le (pe_glob (v := .int 2) (by rfl) g2 ⟨_, rfl⟩) (pe_callB call_len_seq (by rfl) ml PySem.boot_len (pa_cons (pv 0) pa_nil)) (pe_glob (v := .int 6) (by rfl) g6 ⟨_, rfl⟩)))))) (pss_one (ps_ret pe_bl)) pss_nil)
      (pss_one (ps_ret (pe_and (pe_callB (cr_all rfl) (by rfl) ma (by decide +kernel) (pa_cons (pe_lc (own := [("each", 1)]) (g := gName 1) rfl scAreAnswers.nd (pi_tup (pv 0)) (blkOk_by (N := ["thing", "each"]) (sc := defScope sAreAnswers) (by decide +kernel))
        (fun _ _ _ _ _ => pg_name (i := 1) scAreAnswers.nd rfl (Or.inl rfl)) (fun _ _ _ _ _ => pts_nil) (fun _ _ _ _ _ => pe_call GT hr (by rfl) gT kT bT .nil pass0 (pa_cons (pv 1) pa_nil))) pa_nil))
        (pe_one (pe_cmpR op_eq (pe_lenTexts (by rfl) ml (by rfl) mst (pv 0)) (pe_callB call_len_seq (by rfl) ml PySem.boot_len (pa_cons (pv 0) pa_nil)) (nomark _)))))), ?_⟩
    refine ⟨_, rfl, _, _, _, _, _, rfl, .ty "tuple", ty, kit_ty k4, _, rfl, ?_⟩
    unfold answersV at q
    cases ht : tupV H x with
    | none =>
      rw [ht] at q
      exact iteT (q H (Same.refl H))
    | some ws =>
      rw [ht] at q
      obtain ⟨a, rfl, ha⟩ := tupV_of ht
      have hw' := hw ws ht
      refine iteF ⟨_, rfl, a, ws, rfl, .inr (SqT.of ha), _, _, rfl, rfl, _, rfl, ?_⟩
      have q' : ∀ H', Same H H' → Q (.bl (decide (2 ≤ ws.length) && decide (ws.length ≤ 6) && ws.all textV && decide (unlike (ws.map strV) ws.length = ws.length))) H' := q
      cases h1 : decide (2 ≤ ws.length) with
      | false =>
        rw [h1, Bool.false_and, Bool.false_and, Bool.false_and] at q'
        have e1 : decide ((2 : Int) ≤ ws.length) = false := by
          have := of_decide_eq_false h1
          exact decide_eq_false (by omega)
        rw [e1]
        exact iteF ⟨_, rfl, iteT (q' H (Same.refl H))⟩
      | true =>
        have e1 : decide ((2 : Int) ≤ ws.length) = true := by
          have := of_decide_eq_true h1
          exact decide_eq_true (by omega)
        rw [e1]
        refine iteT ⟨_, _, rfl, rfl, _, rfl, ?_⟩
        cases h2 : decide (ws.length ≤ 6) with
        | false =>
          rw [h1, h2, Bool.and_false, Bool.false_and, Bool.false_and] at q'
          have e2 : decide ((ws.length : Int) ≤ 6) = false := by
            have := of_decide_eq_false h2
            exact decide_eq_false (by omega)
          rw [e2]
          exact iteT (q' H (Same.refl H))
        | true =>
          rw [h1, h2, Bool.and_true, Bool.true_and] at q'
          have l6 : ws.length ≤ 6 := of_decide_eq_true h2
          have e2 : decide ((ws.length : Int) ≤ 6) = true := decide_eq_true (by omega)
          rw [e2]
          refine iteF ⟨_, rfl, a, rfl, ⟨ws, SqT.of ha⟩, fun D hD => ?_⟩
          refine lc_it (walk_tup (xs := ws)) (fun i H' => (∀ b o, b ≠ D → H b = some o → H' b = some o) ∧ H' D = some (.lst (((ws.take i).map textV).map V.bl))) ⟨fun b o n e => ?_, upd_same⟩ (fun i H' _ h => SqT.of (h.1 a _ (fun z => by rw [z, hD] at ha; cases ha) ha)) ?_ ?_
          · rw [upd_ne n]
            exact e
          · rintro i x H1 H2 hi ⟨k, hd⟩ ⟨rfl, hc⟩
            have aD : ∀ {b : Addr} {o : HO}, H b = some o → b ≠ D := fun {b o} e z => by rw [z, hD] at e; cases e
            have sm : Same H H2 := fun b o e => k b o (aD e) e
            refine ⟨rfl, _, rfl, x, rfl, (hw' x (List.mem_of_getElem? hc)).same sm, fun H3 s3 => ⟨_, s3 _ _ hd, ?_, fun b o n e => ?_, ?_⟩⟩
            · rw [List.length_map, List.length_map, List.length_take, sizeLine_eq]
              omega
            · rw [upd_ne n]
              exact s3 _ _ (k b o n e)
            · rw [upd_same, List.take_add_one, hc, List.map_append, List.map_append]
              rfl
          · rintro H1 ⟨k, hd⟩
            have sm : Same H H1 := fun b o e => k b o (fun z => by rw [z, hD] at e; cases e) e
            rw [List.take_of_length_le (Nat.le_refl _)] at hd
            refine ⟨D, _, rfl, SqL.of hd, _, rfl, ?_⟩
            have e5 : ((ws.map textV).all id) = ws.all textV := by
              rw [List.all_map]
              rfl
            rw [e5]
            cases h3 : ws.all textV with
            | false =>
              rw [h3, Bool.false_and] at q'
              exact iteF (q' H1 sm)
            | true =>
              rw [h3, Bool.true_and] at q'
              have ha1 := sm _ _ ha
              refine iteT ⟨_, rfl, a, ws.map strV, rfl, ?_, by rw [List.length_map]; omega, _, rfl, a, ws, rfl, .inr (SqT.of ha1), rfl, ?_⟩
              · rw [← strs_of h3]
                exact SqT.of ha1
              · have e6 : decide (V.int ((unlike (ws.map strV) (ws.map strV).length : Nat) : Int) = V.int ((ws.length : Nat) : Int)) = decide (unlike (ws.map strV) ws.length = ws.length) := by
                  rw [List.length_map]
                  exact decide_eq_decide.mpr ⟨fun z => Int.ofNat.inj (V.int.inj z), fun z => by rw [z]⟩
                rw [e6]
                exact q' H1 sm
end
end Pk
/-! ### texts in their order -/
namespace Pk
open PySem L2 PyProof.Rows PySem.Spec
def leS (a b : Str) : Prop := a.cps.toList ≤ b.cps.toList
instance (a b : Str) : Decidable (leS a b) := inferInstanceAs (Decidable (a.cps.toList ≤ b.cps.toList))
theorem leS_trans {a b c : Str} (h : leS a b) (k : leS b c) : leS a c := List.le_trans h k
theorem leS_anti {a b : Str} (h : leS a b) (k : leS b a) : a = b := by
  have e := List.le_antisymm h k
  obtain ⟨⟨a⟩⟩ := a
  obtain ⟨⟨b⟩⟩ := b
  have e' : a = b := e
  rw [e']
theorem leS_total (a b : Str) : leS a b ∨ leS b a := List.le_total _ _
theorem leS_iff (a b : Str) : leS a b ↔ ltCps b.cps.toList a.cps.toList = false := by
  rw [ltCps_eq]
  unfold leS
  rw [decide_eq_false_iff_not]
  exact List.not_lt.symm
theorem rising_pair : ∀ (l : List Str) (p : Str), risingS p l = true → (p :: l).Pairwise leS
  | [], p, _ => List.pairwise_singleton _ _
  | x :: r, p, h => by
    unfold risingS at h
    rw [Bool.and_eq_true, Bool.not_eq_true'] at h
    have h1 : leS p x := (leS_iff p x).mpr h.1
    have ih := rising_pair r x h.2
    refine List.pairwise_cons.mpr ⟨fun y hy => ?_, ih⟩
    rcases List.mem_cons.mp hy with e | e
    · rw [e]; exact h1
    · exact leS_trans h1 ((List.pairwise_cons.mp ih).1 y e)
theorem sorted_pair {l : List Str} (h : sortedS l = true) : l.Pairwise leS := by
  cases l with
  | nil => exact .nil
  | cons x r => exact rising_pair r x h
theorem perm_eq : ∀ {a b : List Str}, a.Perm b → a.Pairwise leS → b.Pairwise leS → a = b
  | [], b, p, _, _ => (List.nil_perm.mp p).symm
  | x :: a, [], p, _, _ => absurd p.length_eq (by simp)
  | x :: a, y :: b, p, ha, hb => by
    obtain ⟨h1, h2⟩ := List.pairwise_cons.mp ha
    obtain ⟨k1, k2⟩ := List.pairwise_cons.mp hb
    have exy : x = y := by
      rcases List.mem_cons.mp (p.mem_iff.mp (List.mem_cons_self (a := x))) with e | e
      · exact e
      · rcases List.mem_cons.mp (p.mem_iff.mpr (List.mem_cons_self (a := y))) with e' | e'
        · exact e'.symm
        · exact leS_anti (h1 y e') (k1 x e)
    subst exy
    rw [perm_eq (List.Perm.cons_inv p) h2 k2]
def insS (x : Str) : List Str → List Str
  | [] => [x]
  | y :: r => if leS x y then x :: y :: r else y :: insS x r
def srt : List Str → List Str
  | [] => []
  | x :: r => insS x (srt r)
theorem ins_perm (x : Str) : ∀ l, (insS x l).Perm (x :: l)
  | [] => List.Perm.refl _
  | y :: r => by
    unfold insS
    split
    · exact List.Perm.refl _
    · exact ((ins_perm x r).cons y).trans (List.Perm.swap x y r)
theorem srt_perm : ∀ l, (srt l).Perm l
  | [] => List.Perm.refl _
  | x :: r => (ins_perm x (srt r)).trans ((srt_perm r).cons x)
theorem ins_pair {x : Str} : ∀ {l : List Str}, l.Pairwise leS → (insS x l).Pairwise leS
  | [], _ => List.pairwise_singleton _ _
  | y :: r, h => by
    obtain ⟨h1, h2⟩ := List.pairwise_cons.mp h
    unfold insS
    split
    case isTrue c =>
      refine List.pairwise_cons.mpr ⟨fun z hz => ?_, h⟩
      rcases List.mem_cons.mp hz with e | e
      · rw [e]; exact c
      · exact leS_trans c (h1 z e)
    case isFalse c =>
      refine List.pairwise_cons.mpr ⟨fun z hz => ?_, ins_pair h2⟩
      rcases List.mem_cons.mp ((ins_perm x r).mem_iff.mp hz) with e | e
      · rw [e]
        exact (leS_total x y).resolve_left c
      · exact h1 z e
theorem srt_pair : ∀ l, (srt l).Pairwise leS
  | [] => .nil
  | x :: r => ins_pair (srt_pair r)
theorem srt_of {ys ns : List Str} (p : ys.Perm ns) (h : sortedS ys = true) : ys = srt ns := perm_eq (p.trans (srt_perm ns).symm) (sorted_pair h) (srt_pair ns)
theorem srt_mem {ns : List Str} {x : Str} : x ∈ srt ns ↔ x ∈ ns := (srt_perm ns).mem_iff
theorem srt_len (ns : List Str) : (srt ns).length = ns.length := (srt_perm ns).length_eq
theorem srt_nd {ns : List Str} (h : ns.Nodup) : (srt ns).Nodup := (srt_perm ns).nodup_iff.mpr h
theorem srt_congr {ns ms : List Str} (p : ns.Perm ms) : srt ns = srt ms := perm_eq ((srt_perm ns).trans (p.trans (srt_perm ms).symm)) (srt_pair ns) (srt_pair ms)
theorem srt_self {ns : List Str} (h : ns.Pairwise leS) : srt ns = ns := perm_eq (srt_perm ns) (srt_pair ns) h
/-- numbers in their order -/
def insZ (x : Int) : List Int → List Int
  | [] => [x]
  | y :: r => if x ≤ y then x :: y :: r else y :: insZ x r
def srtZ : List Int → List Int
  | [] => []
  | x :: r => insZ x (srtZ r)
theorem insZ_perm (x : Int) : ∀ l, (insZ x l).Perm (x :: l)
  | [] => List.Perm.refl _
  | y :: r => by
    unfold insZ
    split
    · exact List.Perm.refl _
    · exact ((insZ_perm x r).cons y).trans (List.Perm.swap x y r)
theorem srtZ_perm : ∀ l, (srtZ l).Perm l
  | [] => List.Perm.refl _
  | x :: r => (insZ_perm x (srtZ r)).trans ((srtZ_perm r).cons x)
theorem insZ_pair {x : Int} : ∀ {l : List Int}, l.Pairwise (· ≤ ·) → (insZ x l).Pairwise (· ≤ ·)
  | [], _ => List.pairwise_singleton _ _
  | y :: r, h => by
    obtain ⟨h1, h2⟩ := List.pairwise_cons.mp h
    unfold insZ
    split
    case isTrue c =>
      refine List.pairwise_cons.mpr ⟨fun z hz => ?_, h⟩
      rcases List.mem_cons.mp hz with e | e
      · rw [e]; exact c
      · exact Int.le_trans c (h1 z e)
    case isFalse c =>
      refine List.pairwise_cons.mpr ⟨fun z hz => ?_, insZ_pair h2⟩
      rcases List.mem_cons.mp ((insZ_perm x r).mem_iff.mp hz) with e | e
      · rw [e]; omega
      · exact h1 z e
theorem srtZ_pair : ∀ l, (srtZ l).Pairwise (· ≤ ·)
  | [] => .nil
  | x :: r => insZ_pair (srtZ_pair r)
theorem permZ_eq : ∀ {a b : List Int}, a.Perm b → a.Pairwise (· ≤ ·) → b.Pairwise (· ≤ ·) → a = b
  | [], b, p, _, _ => (List.nil_perm.mp p).symm
  | x :: a, [], p, _, _ => absurd p.length_eq (by simp)
  | x :: a, y :: b, p, ha, hb => by
    obtain ⟨h1, h2⟩ := List.pairwise_cons.mp ha
    obtain ⟨k1, k2⟩ := List.pairwise_cons.mp hb
    have exy : x = y := by
      rcases List.mem_cons.mp (p.mem_iff.mp (List.mem_cons_self (a := x))) with e | e
      · exact e
      · rcases List.mem_cons.mp (p.mem_iff.mpr (List.mem_cons_self (a := y))) with e' | e'
        · exact e'.symm
        · exact Int.le_antisymm (h1 y e') (k1 x e)
    subst exy
    rw [permZ_eq (List.Perm.cons_inv p) h2 k2]
theorem srtZ_of {ys ns : List Int} (p : ys.Perm ns) (h : ys.Pairwise (· ≤ ·)) : ys = srtZ ns := permZ_eq (p.trans (srtZ_perm ns).symm) h (srtZ_pair ns)
theorem srtZ_congr {ns ms : List Int} (p : ns.Perm ms) : srtZ ns = srtZ ms := permZ_eq ((srtZ_perm ns).trans (p.trans (srtZ_perm ms).symm)) (srtZ_pair ns) (srtZ_pair ms)
end Pk
/-! ### what own errors say of themselves: str(e), and {x!s} -/
namespace Pk
open PySem PySem.Spec L2
section
variable {X : Cx}
/-- {x!s} of a text -/
def tFmtS (te : TE) : TE := fun σ H Q => te σ H fun x H1 => ∃ y : Str, x = .str y ∧ y.length ≤ sizeLine ∧ Q (.str y) H1
theorem pe_fmtS {e : Expr} {te : TE} {pos : Pos} (he : PE X e te) : PE X (.FormattedValue e 115 none pos) (tFmtS te) := by
  constructor
  intro pins s σ H Q I h
  refine wpAny_FormattedValue_s (thn (he.run pins s σ H _ I h) ?_)
  rintro v s1 ⟨x, H1, I1, r1, y, rfl, hz, q⟩
  obtain ⟨t, rfl⟩ := r1
  have fin : ∀ (t' : Tok) (tk : Nat), wpAny (model X.prog X.w) X.A (formatField (.str y t') Str.empty) (EP X pins σ Q) X.xe { s1 with toks := tk } := fun t' tk =>
    wpAny_formatField_str (s := { s1 with toks := tk }) ⟨.str y, H1, I1.tok _, ⟨_, rfl⟩, q⟩ ⟨.str y, H1, I1.tok _, ⟨_, rfl⟩, q⟩ hz
  refine wpAny_habitSame_str (fin t s1.toks) (fin _ _)
variable {k : Nat} {f C : Addr} {fd : FuncData} {sp : Sp} {e : Expr} {te : TE} {p pos : Pos}
/-- str(e), e a kept error whose class says how it is told -/
def tStrErr (C : Addr) (sp : Sp) (te : TE) : TE := fun σ H Q => te σ H fun x H1 => ∃ (a : Addr) (d : Option Addr), x = .ref a ∧ H1 a = some (ExH (.ref C) d a) ∧ DictOk H1 d ∧ sp [.ref a] H1 (fun v H2 => (∃ z, v = .str z) ∧ Q v H2) E0
theorem pe_strErr (F : FnOk X.prog X.w X.K X.mg X.base CX0 k f fd ["self"] sp) (hr : Room (k + 2) X.A) (hs : PySem.W.findIn X.K (.ref C) "__str__" = some (some (.ref f))) (hf : PySem.W.isFn X.K (.ref f) = true) (hb : Binds X.K fd ["self"] []) (hg : Gl X "str") (hm : X.mg "str" = none) (he : PE X e te)
    (na : starEach [e] X.env = (false, eval e X.env) :: starEach [] X.env := by rfl) : PE X (.Call (.Name "str" p) [e] [] pos) (tStrErr C sp te) := by
  constructor
  intro pins s σ H Q I h
  refine PyProof.Rows.Call_ (ld_blt I hg hm PyProof.Rows.boot_str ?_)
  refine PyProof.Rows.callWith_type1 (PyProof.Rows.args_cons (thn (he.run pins s σ H _ I h) ?_) na) na rfl
  rintro v s1 ⟨x, H1, I1, r1, a, d, rfl, ha, hd, q⟩
  cases (show v = Value.ref a from r1)
  obtain ⟨oe, od, J, -⟩ := held_at I1 ha hd
  refine PyProof.Rows.args_nil (PySem.W.kso_call (by have := hr.un; show X.A.in1.in1.units < cLine; have e1 := (hr.in1.in1).un; omega) I1.kIn J hs hf ?_)
  refine wpAny_call (codeAny_mono (F.run _ X.stack s1 H1 ⟨[.ref a], []⟩ [.ref a] [.ref a] _ E0 hr.in1.in1 I1.env0.in1.in1 (hb s1 [.ref a] I1.kIn rfl) (.cons rfl .nil) q) fun r s' hq => ?_)
  cases r with
  | error e => exact hq.elim
  | ok fl =>
    cases fl with
    | ret u =>
      obtain ⟨v, H2, I2, rv, ⟨z, rfl⟩, q2⟩ := I1.after hq
      obtain ⟨t, rfl⟩ := rv
      exact ⟨.str z, H2, I2, ⟨t, rfl⟩, q2⟩
    | next => exact False.elim hq
    | brk => exact False.elim hq
    | cont => exact False.elim hq
end
end Pk
/-! Own errors whose built-in base makes its objects by another one's making (KeyError by LookupError's). -/
namespace Pk
open PySem PySem.Spec PySem.W PySem.Calls PyProof.Rows PySem.HandSPX
open Builtin Builtin.ObjectAttr
abbrev KyLine : List Value := [.type "KeyError", .type "LookupError", .type "Exception", .type "BaseException", .type "object"]
/-- what the making asks of a line of ancestors -/
structure MkLine (B : String) (line : List Value) : Prop where
  hb : line.contains (.type B) = true
  ha : line.contains (.type "AttributeError") = false
  hn : line.contains (.type "NameError") = false
section
variable {P : Program} {w : World} {M : Model} {Ar : Around} {Ex : Value → Shared → Prop} {Rs : Result → Shared → Prop} {hp : Heap} {gs : Array GenState} {dr : Drawn} {tk : Nat} {oo : OsState}
variable {c1 c2 : Str} {C ns : Addr} {bases line lineB : List Value} {dct : Bool} {slots : List Str} {subs : List Value} {abs : Bool} {coll : Option Bool} {del : Option Addr} {a0 a1 a2 a3 a5 : Option Value} {B newB iniB : String}
theorem mk_check (F : ExcBaseFacts B newB iniB lineB) (L : MkLine B line) {args : List Value} {Q : Unit → Shared → Prop} (cl : hp.get? C = some (excClassObj c1 c2 C ns bases line dct slots subs abs coll del a0 a1 a2 a3 a5 newB)) (q : Q () ⟨hp, gs, dr, tk, oo⟩) :
    wpAny M Ar (checkBuiltinCall newB ⟨.ref C :: args, []⟩) Q Ex ⟨hp, gs, dr, tk, oo⟩ := by
  have in_ : (Value.ref C :: line).contains (.type B) = true := by
    rw [List.contains_cons, L.hb]
    exact Bool.or_true _
  have star := F.noStar
  simp only [checkBuiltinCall, F.newRow, F.newKind, F.newSplit]
  repeat (first
    | refine wpAny_loadPart_at cl ?_
    | (refine wpAny_isSubtype_exc cl ?_; rw [in_])
    | refine wpAny_staticBase_exc cl ?_
    | refine wpAny_madeBy_exc cl ?_
    | simp only [bne_self_eq_false, if_false, Bool.false_eq_true]
    | wp_step)
  exact q
theorem mk_new (F : ExcBaseFacts B newB iniB lineB) (L : MkLine B line) {args : List Value} (cl : hp.get? C = some (excClassObj c1 c2 C ns bases line dct slots subs abs coll del a0 a1 a2 a3 a5 newB)) (size : args.length ≤ sizeLine)
    (q : Rs (.ok (.ret (.ref (hp.objs.size + 1)))) ⟨(hp.push (kdv_tup args)).push (excO C hp.objs.size), gs, dr, tk, oo⟩) : codeAny (model P w) Ar (.builtin newB ⟨.ref C :: args, []⟩) Rs ⟨hp, gs, dr, tk, oo⟩ := by
  have en := F.ends
  have iB : (Value.ref C :: line).contains (.type B) = true := by
    rw [List.contains_cons, L.hb]
    exact Bool.or_true _
  have iA : (Value.ref C :: line).contains (.type "AttributeError") = false := by
    rw [List.contains_cons, L.ha]
    rfl
  have iN : (Value.ref C :: line).contains (.type "NameError") = false := by
    rw [List.contains_cons, L.hn]
    rfl
  refine codeAny_builtinAt F.entry ?_
  unfold Builtin.«BaseException.__new__»
  refine PySem.wpAt_bind ?_
  show PySem.wpAt _ _ _ (stack >>= _) _ _ _
  refine PySem.wpAt_bind (PySem.wpAt_stack fun p below => PySem.wpAt_of_wpAny ?_)
  wp_walk
  refine PySem.wpAt_of_wpAny ?_
  rw [F.owner]
  repeat (first
    | with_reducible refine wpAny_madeHere_exc F.canon cl ?_
    | with_reducible refine wpAny_loadPart_at cl ?_
    | (with_reducible refine wpAny_isSubtype_exc cl ?_; first | rw [iB] | rw [iA] | rw [iN])
    | wp_step)
  show Rs _ _
  rw [Heap.size_push]
  exact q
theorem mk_type (F : ExcBaseFacts B newB iniB lineB) (L : MkLine B line) {args : List Value} {fn : Addr} {Q : Fin → Shared → Prop} (cl : hp.get? C = some (excClassObj c1 c2 C ns bases line dct slots subs abs coll del a0 a1 a2 a3 a5 newB))
    (li : Looks (model P w) hp (typeLookup (.ref C) "__init__") (some (.ref fn))) (lb : ∀ self, Looks (model P w) hp (bindSpecial (.ref fn) self) (.ref fn, [self])) (size : args.length ≤ sizeLine)
    (q : codeAny (model P w) Ar (.call (.ref fn) ⟨.ref (hp.objs.size + 1) :: args, []⟩) (fun r s' => match r with | .ok (.ret v) => v = .none ∧ Q (.done (.ret (.ref (hp.objs.size + 1)))) s' | .ok _ => False | .error e => Ex e s') ⟨(hp.push (kdv_tup args)).push (excO C hp.objs.size), gs, dr, tk, oo⟩) :
    wpAny (model P w) Ar (Builtin.«type.__call__» ⟨.ref C :: args, []⟩) Q Ex ⟨hp, gs, dr, tk, oo⟩ := by
  repeat (first
    | with_reducible refine wpAny_loadPart_at cl ?_
    | with_reducible refine wpAny_madeBy_exc cl ?_
    | wp_step)
  refine codeAny_call_builtin_code (Code.quiet_builtin _ F.quiet) (mk_check F L cl (mk_new F L cl size ?_))
  show wpAny _ _ _ _ _ _
  have kp : ∀ b o, hp.get? b = some o → ((hp.push (kdv_tup args)).push (excO C hp.objs.size)).get? b = some o := fun b o e => Heap.get?_push_of_some _ (Heap.get?_push_of_some _ e)
  have cl1 := kp _ _ cl
  have at_ : ((hp.push (kdv_tup args)).push (excO C hp.objs.size)).get? (hp.objs.size + 1) = some (excO C hp.objs.size) := by heap_get
  have own : (Value.ref C :: line).contains (.ref C) = true := by simp
  have li1 := li.keeps kp
  have lb1 := (lb (.ref (hp.objs.size + 1))).keeps kp
  unfold isInstance
  repeat (first
    | with_reducible refine wpAny_loadPart_at at_ ?_
    | (with_reducible refine wpAny_isSubtype_exc cl1 ?_; rw [own])
    | wp_step)
  show wpAny _ _ (typeLookup (.ref C) _) _ _ _
  refine li1.at (wpAny_holding (wpAny_bind (lb1.at (wpAny_bind (wpAny_call (codeAny_mono q fun r s' z => ?_))))))
  rcases r with e | (v | _ | _ | _) <;> first | exact z | exact z.elim | skip
  obtain ⟨rfl, z⟩ := z
  first
    | exact wpAny_pure (wpAny_pure z)
    | (wp_walk; exact z)
theorem mk_call (F : ExcBaseFacts B newB iniB lineB) (L : MkLine B line) {args : List Value} {fn : Addr} (cl : hp.get? C = some (excClassObj c1 c2 C ns bases line dct slots subs abs coll del a0 a1 a2 a3 a5 newB))
    (li : Looks (model P w) hp (typeLookup (.ref C) "__init__") (some (.ref fn))) (lb : ∀ self, Looks (model P w) hp (bindSpecial (.ref fn) self) (.ref fn, [self])) (size : args.length ≤ sizeLine)
    (q : codeAny (model P w) (Ar.under (.builtin "type.__call__" ⟨.ref C :: args, []⟩)) (.call (.ref fn) ⟨.ref (hp.objs.size + 1) :: args, []⟩) (InitBack (hp.objs.size + 1) Rs) ⟨(hp.push (kdv_tup args)).push (excO C hp.objs.size), gs, dr, tk, oo⟩) :
    codeAny (model P w) Ar (.call (.ref C) ⟨args, []⟩) Rs ⟨hp, gs, dr, tk, oo⟩ := by
  have t1 := tc_lookup
  have t2 := tc_bind (.ref C)
  have ty : (⟨hp, gs, dr, tk, oo⟩ : Shared).TypeIs (.ref C) "type" := ⟨_, cl, rfl⟩
  refine codeAny_of_tree (show wpAny _ _ (callAny (.ref C) _) _ _ _ from ?_)
  repeat (any_goals (first
    | assumption
    | with_reducible refine wpAny_loadPart_at cl ?_
    | wp_step))
  refine ⟨rfl, ?_⟩
  refine codeAny_call_builtin_at (Code.quiet_builtin _ (by decide +kernel)) entry_typeCall (wpAny_check_type_call_sub cl (mk_type F L cl li lb size ?_))
  refine codeAny_mono q fun r s' z => ?_
  rcases r with e | (v | _ | _ | _) <;> exact z
end
theorem ky_line : MkLine "LookupError" KyLine := ⟨by decide +kernel, by decide +kernel, by decide +kernel⟩
theorem MkLine.own {B : String} {line : List Value} {c : Addr} (l : MkLine B line) : MkLine B (.ref c :: line) := ⟨by rw [List.contains_cons, l.hb]; exact Bool.or_true _, by rw [List.contains_cons, l.ha]; rfl, by rw [List.contains_cons, l.hn]; rfl⟩
end Pk
namespace Pk
open PySem PySem.Spec PySem.W PySem.Calls PyProof.Rows PySem.HandSPX
open Builtin Builtin.ObjectAttr
/-- what a class's line of ancestors must bear: that its errors are made, and their fields stored -/
structure ErrLine (B : String) (line : List Value) : Prop where
  mkl : MkLine B line
  pass : ∀ self : Value, refuseLoop self "__setattr__" line = pure ()
  obj : line.contains (.type "object") = true
theorem ErrLine.own {B : String} {line : List Value} {c : Addr} (l : ErrLine B line) : ErrLine B (.ref c :: line) where
  mkl := l.mkl.own
  pass := fun self => by
    rw [refuseLoop_ref]
    exact l.pass self
  obj := by
    rw [List.contains_cons, l.obj]
    exact Bool.or_true _
section
variable {prog : Program} {w : World} {A : Around} {E : Value → Shared → Prop} {R : Result → Shared → Prop} {hp : Heap} {g : Array GenState} {d : Drawn} {t : Nat} {os : OsState}
/-- the first field of an error -/
theorem err_first {K : Frag} {name : Str} {tk : Tok} {v : Value} {x C : Addr} {fv : Array Value} {cd : ClassData} (X : K.In hp) (hx : hp.get? x = some { cls := .ref C, data := .fields fv }) (hcd : clsIn K C = some cd) (hob : cd.mro.contains (.type "object") = true) (pass : ∀ self : Value, refuseLoop self "__setattr__" cd.mro = pure ()) (ne : cd.mro.isEmpty = false)
    (hh : cd.hasDict = true) (ha : findIn K (.ref C) name = some none)
    (hq : ∀ h' tk' dx, (∀ b o, b ≠ x → hp.get? b = some o → h'.get? b = some o) → hp.objs.size ≤ dx → dx ≠ x → h'.get? x = some { cls := .ref C, dict := some dx, data := .fields fv } → h'.Ns1 dx (fun y => if y = name then some v else none) → R (.ok (.ret .none)) ⟨h', g, d, tk', os⟩) :
    codeAny (model prog w) A (.call (.builtin "object.__setattr__") ⟨[.ref x, .str name tk, v], []⟩) R ⟨hp, g, d, t, os⟩ := by
  have I : InstAt hp x { cls := .ref C, data := .fields fv } C none := ⟨hx, rfl, rfl, trivial⟩
  have hxs : x ≠ hp.objs.size := Nat.ne_of_lt (Heap.lt_size hx)
  have mro_ : mroIn K C (.type "object") = some true := by
    unfold mroIn
    rw [hcd, Option.bind_some, if_neg (by rw [ne]; exact Bool.false_ne_true), hob]
  have isObj : Looks (model prog w) hp (isInstance (.ref x) (.type "object")) true := I.type.andThen (looks_mroIn X mro_)
  refine codeAny_call_builtin F.store_object.slot.plain F.store_object.entry (@check_slot (model prog w) _ _ ⟨hp, g, d, t, os⟩ "object.__setattr__" "object" "__setattr__" (.ref x) [.str name tk, v] [] _ F.store_object.kind F.store_object.split isObj (F.store_object.args (.ref x) (.str name tk) v) ?_)
  have Lm : Looks (model prog w) hp (mroOf (.ref C)) cd.mro := (looks_clsIn X hcd).andThen .now
  have Lt : Looks (model prog w) hp (storeTaker? none) none := .now
  have Lc : Looks (model prog w) hp (classData C) cd := looks_clsIn X hcd
  rw [osa_eq, refuse_eq]
  refine wpAny_bind (wpAny_bind (I.type.at (wpAny_bind (Lm.at ?_))))
  rw [pass]
  refine wpAny_pure (wpAny_bind (I.type.at (wpAny_bind ((looks_findIn X ha).at (wpAny_bind (Lt.at ?_))))))
  show wpAny _ _ (storeInOwnDict (.ref x) (.ref C) (.str name tk) name v false) _ _ _
  obtain ⟨nm, bs, mro, ns, qn, hd, sn, sb, ab, col, del⟩ := cd
  dsimp only at hh
  subst hh
  unfold storeInOwnDict ownDictForStores
  repeat (first | with_reducible refine store_in_new ?_ ?_ | with_reducible refine wpAny_loadPart_at hx ?_ | with_reducible refine Lc.at ?_ | wp_step)
  · exact ⟨_, #[], _, (Heap.get?_update_ne _ _ _ _ hxs.symm).trans (Heap.get?_push_at rfl rfl), rfl, fun e he => absurd he (by simp), fun _ => rfl⟩
  · intro h' tk' hn' hs
    refine hq h' tk' hp.objs.size ?_ (Nat.le_refl _) hxs.symm ?_ hn'
    · intro b o hb ho
      exact (hs.2 b (Nat.ne_of_lt (Heap.lt_size ho))).trans ((Heap.get?_update_ne _ _ _ _ hb).trans (Heap.get?_push_of_some _ ho))
    · exact (hs.2 x hxs).trans (Heap.get?_update_self _ (Heap.get?_push_of_some _ hx) rfl)
/-- a further field -/
theorem err_next {K : Frag} {name : Str} {tk : Tok} {v : Value} {x C dx : Addr} {fv : Array Value} {cd : ClassData} {m0 : Str → Option Value} {nl : List Str} (X : K.In hp) (hx : hp.get? x = some { cls := .ref C, dict := some dx, data := .fields fv }) (hns : hp.Ns1 dx m0) (hw : Within m0 nl) (hz : nl.length ≤ 1000)
    (hcd : clsIn K C = some cd) (hob : cd.mro.contains (.type "object") = true) (pass : ∀ self : Value, refuseLoop self "__setattr__" cd.mro = pure ()) (ne : cd.mro.isEmpty = false) (hh : cd.hasDict = true) (ha : findIn K (.ref C) name = some none)
    (hq : ∀ h' tk', (∀ b o, b ≠ dx → hp.get? b = some o → h'.get? b = some o) → h'.Ns1 dx (fun y => if y = name then some v else m0 y) → R (.ok (.ret .none)) ⟨h', g, d, tk', os⟩) :
    codeAny (model prog w) A (.call (.builtin "object.__setattr__") ⟨[.ref x, .str name tk, v], []⟩) R ⟨hp, g, d, t, os⟩ := by
  obtain ⟨oD, eD, pD, gD, _, _⟩ := hns.count hw
  have I : InstAt hp x { cls := .ref C, dict := some dx, data := .fields fv } C (some oD) := ⟨hx, rfl, rfl, gD⟩
  have mro_ : mroIn K C (.type "object") = some true := by
    unfold mroIn
    rw [hcd, Option.bind_some, if_neg (by rw [ne]; exact Bool.false_ne_true), hob]
  have isObj : Looks (model prog w) hp (isInstance (.ref x) (.type "object")) true := I.type.andThen (looks_mroIn X mro_)
  refine codeAny_call_builtin F.store_object.slot.plain F.store_object.entry (@check_slot (model prog w) _ _ ⟨hp, g, d, t, os⟩ "object.__setattr__" "object" "__setattr__" (.ref x) [.str name tk, v] [] _ F.store_object.kind F.store_object.split isObj (F.store_object.args (.ref x) (.str name tk) v) ?_)
  have Lm : Looks (model prog w) hp (mroOf (.ref C)) cd.mro := (looks_clsIn X hcd).andThen .now
  have Lt : Looks (model prog w) hp (storeTaker? none) none := .now
  have Lc : Looks (model prog w) hp (classData C) cd := looks_clsIn X hcd
  rw [osa_eq, refuse_eq]
  refine wpAny_bind (wpAny_bind (I.type.at (wpAny_bind (Lm.at ?_))))
  rw [pass]
  refine wpAny_pure (wpAny_bind (I.type.at (wpAny_bind ((looks_findIn X ha).at (wpAny_bind (Lt.at ?_))))))
  show wpAny _ _ (storeInOwnDict (.ref x) (.ref C) (.str name tk) name v false) _ _ _
  obtain ⟨nm, bs, mro, ns, qn, hd, sn, sb, ab, col, del⟩ := cd
  dsimp only at hh
  subst hh
  unfold storeInOwnDict ownDictForStores
  repeat (first | with_reducible refine PySem.OEX.store_in_old hns hw hz ?_ | with_reducible refine wpAny_loadPart_at hx ?_ | with_reducible refine Lc.at ?_ | wp_step)
  intro h' tk' hn' hs
  exact hq h' tk' (fun b o hb ho => (hs.2 b hb).trans ho) hn'
end
end Pk
namespace Pk
open PySem PySem.Spec PyProof.Rows L2
/-! ### errors of the field part, over any base -/
namespace Er_part
open PySem.W PySem.Calls PySem.HandSPX
/-- the class called nm, at C, and its __init__, at fI, as the top has left them -/
structure Tx (K : Frag) (mg : Str → Option Value) (nm ql : Str) (C fI : Addr) (B newId initId : String) (bmB : List Value) : Prop where
  base : ExcBaseFacts B newId initId bmB
  gC : mg nm = some (.ref C)
  cls : ∃ n1 q N bs bm sn sub ab col dd k0 k1 k2 k3 k5, K.lookup C = some (excClassObj n1 q C N bs bm true sn sub ab col dd k0 k1 k2 k3 k5 newId) ∧ ErrLine B bm
  sa : findIn K (.ref C) "__setattr__" = some (some (.builtin "object.__setattr__"))
  ex : ExcC K C
  noN : findIn K (.ref C) "part" = some none
  iC : findIn K (.ref C) "__init__" = some (some (.ref fI))
  tC : typeIn K (.ref fI) = some (.type "function")
  kC : keepIn K (.ref C) = true
  tyC : typeIn K (.ref C) = some (.type "type")
  fn : ∃ (oc : Value) (od : Option Addr) (doc pm : Value) (an : Option Addr) (cdv ct : Value) (osl : Array (Option Value)) (p1 p2 q1 q2 q3 q4 : Pos),
    K.lookup fI = some ⟨oc, od, .func (fnOf "__init__" ql (Of_part.iA p1 p2) (Of_part.iB q1 q2 q3 q4) Of_part.iS .none .none doc pm an cdv ct), osl⟩ ∧ codeIn K cdv ql = true
section
variable {prog : Program} {w : World} {A : Around} {E : Value → Shared → Prop} {R : Result → Shared → Prop} {s : Shared} {K : Frag} {mg : Str → Option Value} {nm ql : Str} {C fI : Addr} {B newId initId : String} {bmB : List Value}
theorem made (T : Tx K mg nm ql C fI B newId initId bmB) {v : Value} (X : K.In s.heap) (hlim : s.heap.NoLimit) (hroom : A.depth + 1 < recursionLimit) (hq : ∀ h' tk e d, Of_part.Made s.heap h' e C d v → R (.ok (.ret (.ref e))) { s with heap := h', toks := tk }) :
    codeAny (model prog w) A (.call (.ref C) ⟨[v], []⟩) R s := by
  obtain ⟨n1, q, N, bs, bm, sn, sub, ab, col, dd, k0, k1, k2, k3, k5, hC, ln⟩ := T.cls
  obtain ⟨oc, od, doc, pm, an, cdv, ct, osl, p1, p2, q1, q2, q3, q4, ho, hcd⟩ := T.fn
  have hcl : clsIn K C = some { name := n1, bases := bs, mro := .ref C :: bm, ns := N, qualname := q, hasDict := true, slotNames := sn, subclasses := sub, abstract := ab, collection := col, hasDel := false } := by
    unfold clsIn
    rw [hC]
  obtain ⟨hp, g, dr, tk, os⟩ := s
  have k : ∀ b o, hp.get? b = some o → ((hp.push (kdv_tup [v])).push (excO C hp.objs.size)).get? b = some o := fun b o e => Heap.get?_push_of_some _ (Heap.get?_push_of_some _ e)
  have hx : ((hp.push (kdv_tup [v])).push (excO C hp.objs.size)).get? (hp.objs.size + 1) = some (excO C hp.objs.size) := by heap_get
  refine mk_call T.base ln.mkl (X _ _ hC) (looks_findIn X T.iC) (fun self => bind_fn X self T.tC) (one_size v) ?_
  have X1 := X.keeps k
  have lim1 : ((hp.push (kdv_tup [v])).push (excO C hp.objs.size)).NoLimit := hlim.keeps k
  have size1 : ((hp.push (kdv_tup [v])).push (excO C hp.objs.size)).objs.size = hp.objs.size + 1 + 1 := by rw [Heap.size_push, Heap.size_push]
  generalize (hp.push (kdv_tup [v])).push (excO C hp.objs.size) = h1 at k hx X1 lim1 size1 ⊢
  refine Att.call_fn (binds := [("self", .ref (hp.objs.size + 1)), ("part", v)]) X1 lim1 ho hcd hroom (BindsTo.of_eq (by first | rfl | with_unfolding_all rfl)) (by first | rfl | decide | with_unfolding_all rfl) (fun s₁ IC => ?_) rfl rfl rfl
  obtain ⟨h₁, tk₁, rfl⟩ := IC.toInCall.same
  have k1' : ∀ b o, h1.get? b = some o → h₁.get? b = some o := IC.toInCall.keep
  have hn := IC.toInCall.ns
  show wpAny _ _ (execs _ _) _ _ _
  refine wpAny_execs_cons (plainObj_wpAny_Assign_Attribute ?_)
  refine ldC (v := v) hn (by first | rfl | with_unfolding_all rfl | kernel_rfl) (ldC (v := .ref (hp.objs.size + 1)) hn (by first | rfl | with_unfolding_all rfl | kernel_rfl) ?_)
  refine set_plain (X1.keeps k1') (ox := excO C hp.objs.size) (od := none) ⟨k1' _ _ hx, rfl, rfl, trivial⟩ T.sa ?_
  refine err_first (X1.keeps k1') (k1' _ _ hx) hcl ln.own.obj ln.own.pass rfl rfl T.noN (fun h₃ tk₃ dx k₃ dn dne hx₃ hn₃ => ?_)
  show wpAny _ _ (execs _ _) _ _ _
  have z : h1.objs.size < h₁.objs.size := hn.lt
  have lt_ : ∀ {b : Addr} {o : Obj}, hp.get? b = some o → b ≠ hp.objs.size + 1 := fun {b o} e => Nat.ne_of_lt (Nat.lt_succ_of_lt (Heap.lt_size e))
  refine wpAny_execs_nil ⟨rfl, hq h₃ tk₃ (hp.objs.size + 1) dx ⟨fun b o e => k₃ b o (lt_ e) (k1' b o (k b o e)), Nat.le_succ _, ⟨_, _, hx₃, rfl, rfl, rfl, rfl⟩, ?_, dne, hn₃⟩⟩
  have dn' : h₁.objs.size ≤ dx := dn
  show hp.objs.size ≤ dx
  omega
end
end Er_part
section
variable {X : Cx} {nm ql : Str} {C fI : Addr} {B newId initId : String} {bmB : List Value}
/-- raise nm(e) -/
theorem pmkE_part {a : Expr} {ta : TA} {p pos : Pos} {k : Nat} (T : Er_part.Tx X.K X.mg nm ql C fI B newId initId bmB) (hr : Room k X.A) (ha : PA X [a] ta) (hg : Gl X nm := by rfl) (hdb : (nm == ("__debug__" : Str)) = false := by decide)
    (he : starEach (a :: []) X.env = (false, eval a X.env) :: starEach [] X.env := by rfl) (hpl : (backTo pos (starEach [] X.env)).any (·.1) = false := by rfl) :
    PMk X (.Call (.Name nm p) [a] [] pos) (tMk_part C ta) := by
  intro pins s σ H Q I h
  refine wpAny_Call_Name_kw (ld_glob I hg T.gC ?_ hdb)
  refine PySem.W.callWith_K (h₀ := X.base) I.ok.mod.kin T.kC (thn (ha.run pos pins s σ H _ I h) fun us s1 hh => ?_) he hpl
  obtain ⟨vs, H1, I1, r1, v, ev, q1⟩ := hh
  subst ev
  refine ⟨I1.kIn, ?_⟩
  cases r1 with
  | cons rv rn =>
    rename_i v' us'
    cases rn
    show wpAny _ _ (call (.ref C) [v']) _ _ _
    have hlim := I1.nolimit
    obtain ⟨hp, g, dr, tk, os⟩ := s1
    refine wpAny_call (Er_part.made T I1.kIn hlim (by have := hr.dp; omega) fun h' tk' e d M => ?_)
    show MkP X pins σ Q (.ref e) ⟨h', g, dr, tk', os⟩
    obtain ⟨oe, fv, hoe, hc, hd, hdat, h1⟩ := M.obj
    have hns := M.ns
    obtain ⟨G', g1, g2⟩ := restrict h' fun b => decide (b ≠ e)
    have gk : ∀ b, b ≠ e → G'.get? b = h'.get? b := fun b hb => g1 b (decide_eq_true hb)
    have ge : G'.get? e = none := g2 e (by simp)
    have old : ∀ b o, hp.get? b = some o → G'.get? b = some o := fun b o q => (gk b (Nat.ne_of_lt (Nat.lt_of_lt_of_le (Heap.lt_size q) M.new))).trans (M.keep b o q)
    have ob : ObjOk X.prog X.w (upd H1 d (.xd [(("part" : Str), v)])) G' d (.xd [(("part" : Str), v)]) :=
      ⟨_, hns.at (fun o q => (gk d M.dne).trans q), fun f => relO_part rv f⟩
    have J : L2.Inv X pins σ (upd H1 d (.xd [(("part" : Str), v)])) ⟨G', g, dr, tk', os⟩ := I1.laid (t' := tk') old M.dbig ob
    refine ⟨e, oe, fv, ⟨G', g, dr, tk', os⟩, _, .ref C, some d, rfl, J, fun b o q => ?_, ge, hoe, ⟨hc, hd⟩, hdat, h1, ?_, rfl, I1.bare, raises_own T.ex.hs T.tyC, q1 d (I1.hok.fresh M.dbig)⟩
    · by_cases hb : b = e
      · have q' : G'.get? b = some o := q
        rw [hb, ge] at q'
        cases q'
      · exact (gk b hb).symm.trans q
    · rw [upd_ne (Ne.symm M.dne)]
      exact I1.hok.fresh M.new
theorem ps_raiseE_part {a : Expr} {ta : TA} {W : WX} {p pos pos2 : Pos} {k : Nat} (hc : X.calm = true) (T : Er_part.Tx X.K X.mg nm ql C fI B newId initId bmB) (hr : Room k X.A) (tk : Takes X W) (ha : PA X [a] ta) (hg : Gl X nm := by rfl) (hdb : (nm == ("__debug__" : Str)) = false := by decide)
    (he : starEach (a :: []) X.env = (false, eval a X.env) :: starEach [] X.env := by rfl) (hpl : (backTo pos (starEach [] X.env)).any (·.1) = false := by rfl) :
    PS X (.Raise (some (.Call (.Name nm p) [a] [] pos)) none pos2) (tRaise_part C W ta) := ps_raise hc tk (pmkE_part T hr ha hg hdb he hpl)
/-- nm(e) as a value -/
def tVal_part (C : Addr) (ta : TA) : TE := fun σ H Q => ta σ H fun vs H1 => ∃ v, vs = [v] ∧ ∀ e d, H1 e = none → H1 d = none → d ≠ e → Q (.ref e) (upd (upd H1 d (.xd [(("part" : Str), v)])) e (ExH (.ref C) (some d) e))
theorem pe_val_part {a : Expr} {ta : TA} {p pos : Pos} {k : Nat} (T : Er_part.Tx X.K X.mg nm ql C fI B newId initId bmB) (hr : Room k X.A) (ha : PA X [a] ta) (hg : Gl X nm := by rfl) (hdb : (nm == ("__debug__" : Str)) = false := by decide)
    (he : starEach (a :: []) X.env = (false, eval a X.env) :: starEach [] X.env := by rfl) (hpl : (backTo pos (starEach [] X.env)).any (·.1) = false := by rfl) :
    PE X (.Call (.Name nm p) [a] [] pos) (tVal_part C ta) := by
  constructor
  intro pins s σ H Q I h
  refine wpAny_Call_Name_kw (ld_glob I hg T.gC ?_ hdb)
  refine PySem.W.callWith_K (h₀ := X.base) I.ok.mod.kin T.kC (thn (ha.run pos pins s σ H _ I h) fun us s1 hh => ?_) he hpl
  obtain ⟨vs, H1, I1, r1, v, ev, q1⟩ := hh
  subst ev
  refine ⟨I1.kIn, ?_⟩
  cases r1 with
  | cons rv rn =>
    rename_i v' us'
    cases rn
    show wpAny _ _ (call (.ref C) [v']) _ _ _
    have hlim := I1.nolimit
    obtain ⟨hp, g, dr, tk, os⟩ := s1
    refine wpAny_call (Er_part.made T I1.kIn hlim (by have := hr.dp; omega) fun h' tk' e d M => ?_)
    obtain ⟨oe, fv, hoe, hc, hd, hdat, h1⟩ := M.obj
    have hns := M.ns
    obtain ⟨G', g1, g2⟩ := restrict h' fun b => decide (b ≠ e)
    have gk : ∀ b, b ≠ e → G'.get? b = h'.get? b := fun b hb => g1 b (decide_eq_true hb)
    have ge : G'.get? e = none := g2 e (by simp)
    have old : ∀ b o, hp.get? b = some o → G'.get? b = some o := fun b o q => (gk b (Nat.ne_of_lt (Nat.lt_of_lt_of_le (Heap.lt_size q) M.new))).trans (M.keep b o q)
    have ob : ObjOk X.prog X.w (upd H1 d (.xd [(("part" : Str), v)])) G' d (.xd [(("part" : Str), v)]) :=
      ⟨_, hns.at (fun o q => (gk d M.dne).trans q), fun f => relO_part rv f⟩
    have J : L2.Inv X pins σ (upd H1 d (.xd [(("part" : Str), v)])) ⟨G', g, dr, tk', os⟩ := I1.laid (t' := tk') old M.dbig ob
    have fe : H1 e = none := I1.hok.fresh M.new
    have fd : H1 d = none := I1.hok.fresh M.dbig
    have J2 : L2.Inv X pins σ (upd (upd H1 d (.xd [(("part" : Str), v)])) e (ExH (.ref C) (some d) e)) ⟨h', g, dr, tk', os⟩ := J.laidN (h' := h') (t' := tk') (fun b u q => by
      by_cases hb : b = e
      · have q' : G'.get? b = some u := q
        rw [hb, ge] at q'
        cases q'
      · exact (gk b hb).symm.trans q) ge (by rw [upd_ne (Ne.symm M.dne)]; exact fe) (held_ok hoe ⟨hc, hd⟩ hdat)
    exact ⟨.ref e, _, J2, rfl, q1 e d fe fd M.dne⟩
end
/-! ### errors of the field wanted, over any base -/
namespace Er_wanted
open PySem.W PySem.Calls PySem.HandSPX
/-- the class called nm, at C, and its __init__, at fI, as the top has left them -/
structure Tx (K : Frag) (mg : Str → Option Value) (nm ql : Str) (C fI : Addr) (B newId initId : String) (bmB : List Value) : Prop where
  base : ExcBaseFacts B newId initId bmB
  gC : mg nm = some (.ref C)
  cls : ∃ n1 q N bs bm sn sub ab col dd k0 k1 k2 k3 k5, K.lookup C = some (excClassObj n1 q C N bs bm true sn sub ab col dd k0 k1 k2 k3 k5 newId) ∧ ErrLine B bm
  sa : findIn K (.ref C) "__setattr__" = some (some (.builtin "object.__setattr__"))
  ex : ExcC K C
  noN : findIn K (.ref C) "wanted" = some none
  iC : findIn K (.ref C) "__init__" = some (some (.ref fI))
  tC : typeIn K (.ref fI) = some (.type "function")
  kC : keepIn K (.ref C) = true
  tyC : typeIn K (.ref C) = some (.type "type")
  fn : ∃ (oc : Value) (od : Option Addr) (doc pm : Value) (an : Option Addr) (cdv ct : Value) (osl : Array (Option Value)) (p1 p2 q1 q2 q3 q4 : Pos),
    K.lookup fI = some ⟨oc, od, .func (fnOf "__init__" ql (Of_wanted.iA p1 p2) (Of_wanted.iB q1 q2 q3 q4) Of_wanted.iS .none .none doc pm an cdv ct), osl⟩ ∧ codeIn K cdv ql = true
section
variable {prog : Program} {w : World} {A : Around} {E : Value → Shared → Prop} {R : Result → Shared → Prop} {s : Shared} {K : Frag} {mg : Str → Option Value} {nm ql : Str} {C fI : Addr} {B newId initId : String} {bmB : List Value}
theorem made (T : Tx K mg nm ql C fI B newId initId bmB) {v : Value} (X : K.In s.heap) (hlim : s.heap.NoLimit) (hroom : A.depth + 1 < recursionLimit) (hq : ∀ h' tk e d, Of_wanted.Made s.heap h' e C d v → R (.ok (.ret (.ref e))) { s with heap := h', toks := tk }) :
    codeAny (model prog w) A (.call (.ref C) ⟨[v], []⟩) R s := by
  obtain ⟨n1, q, N, bs, bm, sn, sub, ab, col, dd, k0, k1, k2, k3, k5, hC, ln⟩ := T.cls
  obtain ⟨oc, od, doc, pm, an, cdv, ct, osl, p1, p2, q1, q2, q3, q4, ho, hcd⟩ := T.fn
  have hcl : clsIn K C = some { name := n1, bases := bs, mro := .ref C :: bm, ns := N, qualname := q, hasDict := true, slotNames := sn, subclasses := sub, abstract := ab, collection := col, hasDel := false } := by
    unfold clsIn
    rw [hC]
  obtain ⟨hp, g, dr, tk, os⟩ := s
  have k : ∀ b o, hp.get? b = some o → ((hp.push (kdv_tup [v])).push (excO C hp.objs.size)).get? b = some o := fun b o e => Heap.get?_push_of_some _ (Heap.get?_push_of_some _ e)
  have hx : ((hp.push (kdv_tup [v])).push (excO C hp.objs.size)).get? (hp.objs.size + 1) = some (excO C hp.objs.size) := by heap_get
  refine mk_call T.base ln.mkl (X _ _ hC) (looks_findIn X T.iC) (fun self => bind_fn X self T.tC) (one_size v) ?_
  have X1 := X.keeps k
  have lim1 : ((hp.push (kdv_tup [v])).push (excO C hp.objs.size)).NoLimit := hlim.keeps k
  have size1 : ((hp.push (kdv_tup [v])).push (excO C hp.objs.size)).objs.size = hp.objs.size + 1 + 1 := by rw [Heap.size_push, Heap.size_push]
  generalize (hp.push (kdv_tup [v])).push (excO C hp.objs.size) = h1 at k hx X1 lim1 size1 ⊢
  refine Att.call_fn (binds := [("self", .ref (hp.objs.size + 1)), ("wanted", v)]) X1 lim1 ho hcd hroom (BindsTo.of_eq (by first | rfl | with_unfolding_all rfl)) (by first | rfl | decide | with_unfolding_all rfl) (fun s₁ IC => ?_) rfl rfl rfl
  obtain ⟨h₁, tk₁, rfl⟩ := IC.toInCall.same
  have k1' : ∀ b o, h1.get? b = some o → h₁.get? b = some o := IC.toInCall.keep
  have hn := IC.toInCall.ns
  show wpAny _ _ (execs _ _) _ _ _
  refine wpAny_execs_cons (plainObj_wpAny_Assign_Attribute ?_)
  refine ldC (v := v) hn (by first | rfl | with_unfolding_all rfl | kernel_rfl) (ldC (v := .ref (hp.objs.size + 1)) hn (by first | rfl | with_unfolding_all rfl | kernel_rfl) ?_)
  refine set_plain (X1.keeps k1') (ox := excO C hp.objs.size) (od := none) ⟨k1' _ _ hx, rfl, rfl, trivial⟩ T.sa ?_
  refine err_first (X1.keeps k1') (k1' _ _ hx) hcl ln.own.obj ln.own.pass rfl rfl T.noN (fun h₃ tk₃ dx k₃ dn dne hx₃ hn₃ => ?_)
  show wpAny _ _ (execs _ _) _ _ _
  have z : h1.objs.size < h₁.objs.size := hn.lt
  have lt_ : ∀ {b : Addr} {o : Obj}, hp.get? b = some o → b ≠ hp.objs.size + 1 := fun {b o} e => Nat.ne_of_lt (Nat.lt_succ_of_lt (Heap.lt_size e))
  refine wpAny_execs_nil ⟨rfl, hq h₃ tk₃ (hp.objs.size + 1) dx ⟨fun b o e => k₃ b o (lt_ e) (k1' b o (k b o e)), Nat.le_succ _, ⟨_, _, hx₃, rfl, rfl, rfl, rfl⟩, ?_, dne, hn₃⟩⟩
  have dn' : h₁.objs.size ≤ dx := dn
  show hp.objs.size ≤ dx
  omega
end
end Er_wanted
section
variable {X : Cx} {nm ql : Str} {C fI : Addr} {B newId initId : String} {bmB : List Value}
/-- raise nm(e) -/
theorem pmkE_wanted {a : Expr} {ta : TA} {p pos : Pos} {k : Nat} (T : Er_wanted.Tx X.K X.mg nm ql C fI B newId initId bmB) (hr : Room k X.A) (ha : PA X [a] ta) (hg : Gl X nm := by rfl) (hdb : (nm == ("__debug__" : Str)) = false := by decide)
    (he : starEach (a :: []) X.env = (false, eval a X.env) :: starEach [] X.env := by rfl) (hpl : (backTo pos (starEach [] X.env)).any (·.1) = false := by rfl) :
    PMk X (.Call (.Name nm p) [a] [] pos) (tMk_wanted C ta) := by
  intro pins s σ H Q I h
  refine wpAny_Call_Name_kw (ld_glob I hg T.gC ?_ hdb)
  refine PySem.W.callWith_K (h₀ := X.base) I.ok.mod.kin T.kC (thn (ha.run pos pins s σ H _ I h) fun us s1 hh => ?_) he hpl
  obtain ⟨vs, H1, I1, r1, v, ev, q1⟩ := hh
  subst ev
  refine ⟨I1.kIn, ?_⟩
  cases r1 with
  | cons rv rn =>
    rename_i v' us'
    cases rn
    show wpAny _ _ (call (.ref C) [v']) _ _ _
    have hlim := I1.nolimit
    obtain ⟨hp, g, dr, tk, os⟩ := s1
    refine wpAny_call (Er_wanted.made T I1.kIn hlim (by have := hr.dp; omega) fun h' tk' e d M => ?_)
    show MkP X pins σ Q (.ref e) ⟨h', g, dr, tk', os⟩
    obtain ⟨oe, fv, hoe, hc, hd, hdat, h1⟩ := M.obj
    have hns := M.ns
    obtain ⟨G', g1, g2⟩ := restrict h' fun b => decide (b ≠ e)
    have gk : ∀ b, b ≠ e → G'.get? b = h'.get? b := fun b hb => g1 b (decide_eq_true hb)
    have ge : G'.get? e = none := g2 e (by simp)
    have old : ∀ b o, hp.get? b = some o → G'.get? b = some o := fun b o q => (gk b (Nat.ne_of_lt (Nat.lt_of_lt_of_le (Heap.lt_size q) M.new))).trans (M.keep b o q)
    have ob : ObjOk X.prog X.w (upd H1 d (.xd [(("wanted" : Str), v)])) G' d (.xd [(("wanted" : Str), v)]) :=
      ⟨_, hns.at (fun o q => (gk d M.dne).trans q), fun f => relO_wanted rv f⟩
    have J : L2.Inv X pins σ (upd H1 d (.xd [(("wanted" : Str), v)])) ⟨G', g, dr, tk', os⟩ := I1.laid (t' := tk') old M.dbig ob
    refine ⟨e, oe, fv, ⟨G', g, dr, tk', os⟩, _, .ref C, some d, rfl, J, fun b o q => ?_, ge, hoe, ⟨hc, hd⟩, hdat, h1, ?_, rfl, I1.bare, raises_own T.ex.hs T.tyC, q1 d (I1.hok.fresh M.dbig)⟩
    · by_cases hb : b = e
      · have q' : G'.get? b = some o := q
        rw [hb, ge] at q'
        cases q'
      · exact (gk b hb).symm.trans q
    · rw [upd_ne (Ne.symm M.dne)]
      exact I1.hok.fresh M.new
theorem ps_raiseE_wanted {a : Expr} {ta : TA} {W : WX} {p pos pos2 : Pos} {k : Nat} (hc : X.calm = true) (T : Er_wanted.Tx X.K X.mg nm ql C fI B newId initId bmB) (hr : Room k X.A) (tk : Takes X W) (ha : PA X [a] ta) (hg : Gl X nm := by rfl) (hdb : (nm == ("__debug__" : Str)) = false := by decide)
    (he : starEach (a :: []) X.env = (false, eval a X.env) :: starEach [] X.env := by rfl) (hpl : (backTo pos (starEach [] X.env)).any (·.1) = false := by rfl) :
    PS X (.Raise (some (.Call (.Name nm p) [a] [] pos)) none pos2) (tRaise_wanted C W ta) := ps_raise hc tk (pmkE_wanted T hr ha hg hdb he hpl)
/-- nm(e) as a value -/
def tVal_wanted (C : Addr) (ta : TA) : TE := fun σ H Q => ta σ H fun vs H1 => ∃ v, vs = [v] ∧ ∀ e d, H1 e = none → H1 d = none → d ≠ e → Q (.ref e) (upd (upd H1 d (.xd [(("wanted" : Str), v)])) e (ExH (.ref C) (some d) e))
theorem pe_val_wanted {a : Expr} {ta : TA} {p pos : Pos} {k : Nat} (T : Er_wanted.Tx X.K X.mg nm ql C fI B newId initId bmB) (hr : Room k X.A) (ha : PA X [a] ta) (hg : Gl X nm := by rfl) (hdb : (nm == ("__debug__" : Str)) = false := by decide)
    (he : starEach (a :: []) X.env = (false, eval a X.env) :: starEach [] X.env := by rfl) (hpl : (backTo pos (starEach [] X.env)).any (·.1) = false := by rfl) :
    PE X (.Call (.Name nm p) [a] [] pos) (tVal_wanted C ta) := by
  constructor
  intro pins s σ H Q I h
  refine wpAny_Call_Name_kw (ld_glob I hg T.gC ?_ hdb)
  refine PySem.W.callWith_K (h₀ := X.base) I.ok.mod.kin T.kC (thn (ha.run pos pins s σ H _ I h) fun us s1 hh => ?_) he hpl
  obtain ⟨vs, H1, I1, r1, v, ev, q1⟩ := hh
  subst ev
  refine ⟨I1.kIn, ?_⟩
  cases r1 with
  | cons rv rn =>
    rename_i v' us'
    cases rn
    show wpAny _ _ (call (.ref C) [v']) _ _ _
    have hlim := I1.nolimit
    obtain ⟨hp, g, dr, tk, os⟩ := s1
    refine wpAny_call (Er_wanted.made T I1.kIn hlim (by have := hr.dp; omega) fun h' tk' e d M => ?_)
    obtain ⟨oe, fv, hoe, hc, hd, hdat, h1⟩ := M.obj
    have hns := M.ns
    obtain ⟨G', g1, g2⟩ := restrict h' fun b => decide (b ≠ e)
    have gk : ∀ b, b ≠ e → G'.get? b = h'.get? b := fun b hb => g1 b (decide_eq_true hb)
    have ge : G'.get? e = none := g2 e (by simp)
    have old : ∀ b o, hp.get? b = some o → G'.get? b = some o := fun b o q => (gk b (Nat.ne_of_lt (Nat.lt_of_lt_of_le (Heap.lt_size q) M.new))).trans (M.keep b o q)
    have ob : ObjOk X.prog X.w (upd H1 d (.xd [(("wanted" : Str), v)])) G' d (.xd [(("wanted" : Str), v)]) :=
      ⟨_, hns.at (fun o q => (gk d M.dne).trans q), fun f => relO_wanted rv f⟩
    have J : L2.Inv X pins σ (upd H1 d (.xd [(("wanted" : Str), v)])) ⟨G', g, dr, tk', os⟩ := I1.laid (t' := tk') old M.dbig ob
    have fe : H1 e = none := I1.hok.fresh M.new
    have fd : H1 d = none := I1.hok.fresh M.dbig
    have J2 : L2.Inv X pins σ (upd (upd H1 d (.xd [(("wanted" : Str), v)])) e (ExH (.ref C) (some d) e)) ⟨h', g, dr, tk', os⟩ := J.laidN (h' := h') (t' := tk') (fun b u q => by
      by_cases hb : b = e
      · have q' : G'.get? b = some u := q
        rw [hb, ge] at q'
        cases q'
      · exact (gk b hb).symm.trans q) ge (by rw [upd_ne (Ne.symm M.dne)]; exact fe) (held_ok hoe ⟨hc, hd⟩ hdat)
    exact ⟨.ref e, _, J2, rfl, q1 e d fe fd M.dne⟩
end
/-! ### errors of the field at, over any base -/
namespace Er_at
open PySem.W PySem.Calls PySem.HandSPX
/-- the class called nm, at C, and its __init__, at fI, as the top has left them -/
structure Tx (K : Frag) (mg : Str → Option Value) (nm ql : Str) (C fI : Addr) (B newId initId : String) (bmB : List Value) : Prop where
  base : ExcBaseFacts B newId initId bmB
  gC : mg nm = some (.ref C)
  cls : ∃ n1 q N bs bm sn sub ab col dd k0 k1 k2 k3 k5, K.lookup C = some (excClassObj n1 q C N bs bm true sn sub ab col dd k0 k1 k2 k3 k5 newId) ∧ ErrLine B bm
  sa : findIn K (.ref C) "__setattr__" = some (some (.builtin "object.__setattr__"))
  ex : ExcC K C
  noN : findIn K (.ref C) "at" = some none
  iC : findIn K (.ref C) "__init__" = some (some (.ref fI))
  tC : typeIn K (.ref fI) = some (.type "function")
  kC : keepIn K (.ref C) = true
  tyC : typeIn K (.ref C) = some (.type "type")
  fn : ∃ (oc : Value) (od : Option Addr) (doc pm : Value) (an : Option Addr) (cdv ct : Value) (osl : Array (Option Value)) (p1 p2 q1 q2 q3 q4 : Pos),
    K.lookup fI = some ⟨oc, od, .func (fnOf "__init__" ql (Of_at.iA p1 p2) (Of_at.iB q1 q2 q3 q4) Of_at.iS .none .none doc pm an cdv ct), osl⟩ ∧ codeIn K cdv ql = true
section
variable {prog : Program} {w : World} {A : Around} {E : Value → Shared → Prop} {R : Result → Shared → Prop} {s : Shared} {K : Frag} {mg : Str → Option Value} {nm ql : Str} {C fI : Addr} {B newId initId : String} {bmB : List Value}
theorem made (T : Tx K mg nm ql C fI B newId initId bmB) {v : Value} (X : K.In s.heap) (hlim : s.heap.NoLimit) (hroom : A.depth + 1 < recursionLimit) (hq : ∀ h' tk e d, Of_at.Made s.heap h' e C d v → R (.ok (.ret (.ref e))) { s with heap := h', toks := tk }) :
    codeAny (model prog w) A (.call (.ref C) ⟨[v], []⟩) R s := by
  obtain ⟨n1, q, N, bs, bm, sn, sub, ab, col, dd, k0, k1, k2, k3, k5, hC, ln⟩ := T.cls
  obtain ⟨oc, od, doc, pm, an, cdv, ct, osl, p1, p2, q1, q2, q3, q4, ho, hcd⟩ := T.fn
  have hcl : clsIn K C = some { name := n1, bases := bs, mro := .ref C :: bm, ns := N, qualname := q, hasDict := true, slotNames := sn, subclasses := sub, abstract := ab, collection := col, hasDel := false } := by
    unfold clsIn
    rw [hC]
  obtain ⟨hp, g, dr, tk, os⟩ := s
  have k : ∀ b o, hp.get? b = some o → ((hp.push (kdv_tup [v])).push (excO C hp.objs.size)).get? b = some o := fun b o e => Heap.get?_push_of_some _ (Heap.get?_push_of_some _ e)
  have hx : ((hp.push (kdv_tup [v])).push (excO C hp.objs.size)).get? (hp.objs.size + 1) = some (excO C hp.objs.size) := by heap_get
  refine mk_call T.base ln.mkl (X _ _ hC) (looks_findIn X T.iC) (fun self => bind_fn X self T.tC) (one_size v) ?_
  have X1 := X.keeps k
  have lim1 : ((hp.push (kdv_tup [v])).push (excO C hp.objs.size)).NoLimit := hlim.keeps k
  have size1 : ((hp.push (kdv_tup [v])).push (excO C hp.objs.size)).objs.size = hp.objs.size + 1 + 1 := by rw [Heap.size_push, Heap.size_push]
  generalize (hp.push (kdv_tup [v])).push (excO C hp.objs.size) = h1 at k hx X1 lim1 size1 ⊢
  refine Att.call_fn (binds := [("self", .ref (hp.objs.size + 1)), ("at", v)]) X1 lim1 ho hcd hroom (BindsTo.of_eq (by first | rfl | with_unfolding_all rfl)) (by first | rfl | decide | with_unfolding_all rfl) (fun s₁ IC => ?_) rfl rfl rfl
  obtain ⟨h₁, tk₁, rfl⟩ := IC.toInCall.same
  have k1' : ∀ b o, h1.get? b = some o → h₁.get? b = some o := IC.toInCall.keep
  have hn := IC.toInCall.ns
  show wpAny _ _ (execs _ _) _ _ _
  refine wpAny_execs_cons (plainObj_wpAny_Assign_Attribute ?_)
  refine ldC (v := v) hn (by first | rfl | with_unfolding_all rfl | kernel_rfl) (ldC (v := .ref (hp.objs.size + 1)) hn (by first | rfl | with_unfolding_all rfl | kernel_rfl) ?_)
  refine set_plain (X1.keeps k1') (ox := excO C hp.objs.size) (od := none) ⟨k1' _ _ hx, rfl, rfl, trivial⟩ T.sa ?_
  refine err_first (X1.keeps k1') (k1' _ _ hx) hcl ln.own.obj ln.own.pass rfl rfl T.noN (fun h₃ tk₃ dx k₃ dn dne hx₃ hn₃ => ?_)
  show wpAny _ _ (execs _ _) _ _ _
  have z : h1.objs.size < h₁.objs.size := hn.lt
  have lt_ : ∀ {b : Addr} {o : Obj}, hp.get? b = some o → b ≠ hp.objs.size + 1 := fun {b o} e => Nat.ne_of_lt (Nat.lt_succ_of_lt (Heap.lt_size e))
  refine wpAny_execs_nil ⟨rfl, hq h₃ tk₃ (hp.objs.size + 1) dx ⟨fun b o e => k₃ b o (lt_ e) (k1' b o (k b o e)), Nat.le_succ _, ⟨_, _, hx₃, rfl, rfl, rfl, rfl⟩, ?_, dne, hn₃⟩⟩
  have dn' : h₁.objs.size ≤ dx := dn
  show hp.objs.size ≤ dx
  omega
end
end Er_at
section
variable {X : Cx} {nm ql : Str} {C fI : Addr} {B newId initId : String} {bmB : List Value}
/-- raise nm(e) -/
theorem pmkE_at {a : Expr} {ta : TA} {p pos : Pos} {k : Nat} (T : Er_at.Tx X.K X.mg nm ql C fI B newId initId bmB) (hr : Room k X.A) (ha : PA X [a] ta) (hg : Gl X nm := by rfl) (hdb : (nm == ("__debug__" : Str)) = false := by decide)
    (he : starEach (a :: []) X.env = (false, eval a X.env) :: starEach [] X.env := by rfl) (hpl : (backTo pos (starEach [] X.env)).any (·.1) = false := by rfl) :
    PMk X (.Call (.Name nm p) [a] [] pos) (tMk_at C ta) := by
  intro pins s σ H Q I h
  refine wpAny_Call_Name_kw (ld_glob I hg T.gC ?_ hdb)
  refine PySem.W.callWith_K (h₀ := X.base) I.ok.mod.kin T.kC (thn (ha.run pos pins s σ H _ I h) fun us s1 hh => ?_) he hpl
  obtain ⟨vs, H1, I1, r1, v, ev, q1⟩ := hh
  subst ev
  refine ⟨I1.kIn, ?_⟩
  cases r1 with
  | cons rv rn =>
    rename_i v' us'
    cases rn
    show wpAny _ _ (call (.ref C) [v']) _ _ _
    have hlim := I1.nolimit
    obtain ⟨hp, g, dr, tk, os⟩ := s1
    refine wpAny_call (Er_at.made T I1.kIn hlim (by have := hr.dp; omega) fun h' tk' e d M => ?_)
    show MkP X pins σ Q (.ref e) ⟨h', g, dr, tk', os⟩
    obtain ⟨oe, fv, hoe, hc, hd, hdat, h1⟩ := M.obj
    have hns := M.ns
    obtain ⟨G', g1, g2⟩ := restrict h' fun b => decide (b ≠ e)
    have gk : ∀ b, b ≠ e → G'.get? b = h'.get? b := fun b hb => g1 b (decide_eq_true hb)
    have ge : G'.get? e = none := g2 e (by simp)
    have old : ∀ b o, hp.get? b = some o → G'.get? b = some o := fun b o q => (gk b (Nat.ne_of_lt (Nat.lt_of_lt_of_le (Heap.lt_size q) M.new))).trans (M.keep b o q)
    have ob : ObjOk X.prog X.w (upd H1 d (.xd [(("at" : Str), v)])) G' d (.xd [(("at" : Str), v)]) :=
      ⟨_, hns.at (fun o q => (gk d M.dne).trans q), fun f => relO_at rv f⟩
    have J : L2.Inv X pins σ (upd H1 d (.xd [(("at" : Str), v)])) ⟨G', g, dr, tk', os⟩ := I1.laid (t' := tk') old M.dbig ob
    refine ⟨e, oe, fv, ⟨G', g, dr, tk', os⟩, _, .ref C, some d, rfl, J, fun b o q => ?_, ge, hoe, ⟨hc, hd⟩, hdat, h1, ?_, rfl, I1.bare, raises_own T.ex.hs T.tyC, q1 d (I1.hok.fresh M.dbig)⟩
    · by_cases hb : b = e
      · have q' : G'.get? b = some o := q
        rw [hb, ge] at q'
        cases q'
      · exact (gk b hb).symm.trans q
    · rw [upd_ne (Ne.symm M.dne)]
      exact I1.hok.fresh M.new
theorem ps_raiseE_at {a : Expr} {ta : TA} {W : WX} {p pos pos2 : Pos} {k : Nat} (hc : X.calm = true) (T : Er_at.Tx X.K X.mg nm ql C fI B newId initId bmB) (hr : Room k X.A) (tk : Takes X W) (ha : PA X [a] ta) (hg : Gl X nm := by rfl) (hdb : (nm == ("__debug__" : Str)) = false := by decide)
    (he : starEach (a :: []) X.env = (false, eval a X.env) :: starEach [] X.env := by rfl) (hpl : (backTo pos (starEach [] X.env)).any (·.1) = false := by rfl) :
    PS X (.Raise (some (.Call (.Name nm p) [a] [] pos)) none pos2) (tRaise_at C W ta) := ps_raise hc tk (pmkE_at T hr ha hg hdb he hpl)
/-- nm(e) as a value -/
def tVal_at (C : Addr) (ta : TA) : TE := fun σ H Q => ta σ H fun vs H1 => ∃ v, vs = [v] ∧ ∀ e d, H1 e = none → H1 d = none → d ≠ e → Q (.ref e) (upd (upd H1 d (.xd [(("at" : Str), v)])) e (ExH (.ref C) (some d) e))
theorem pe_val_at {a : Expr} {ta : TA} {p pos : Pos} {k : Nat} (T : Er_at.Tx X.K X.mg nm ql C fI B newId initId bmB) (hr : Room k X.A) (ha : PA X [a] ta) (hg : Gl X nm := by rfl) (hdb : (nm == ("__debug__" : Str)) = false := by decide)
    (he : starEach (a :: []) X.env = (false, eval a X.env) :: starEach [] X.env := by rfl) (hpl : (backTo pos (starEach [] X.env)).any (·.1) = false := by rfl) :
    PE X (.Call (.Name nm p) [a] [] pos) (tVal_at C ta) := by
  constructor
  intro pins s σ H Q I h
  refine wpAny_Call_Name_kw (ld_glob I hg T.gC ?_ hdb)
  refine PySem.W.callWith_K (h₀ := X.base) I.ok.mod.kin T.kC (thn (ha.run pos pins s σ H _ I h) fun us s1 hh => ?_) he hpl
  obtain ⟨vs, H1, I1, r1, v, ev, q1⟩ := hh
  subst ev
  refine ⟨I1.kIn, ?_⟩
  cases r1 with
  | cons rv rn =>
    rename_i v' us'
    cases rn
    show wpAny _ _ (call (.ref C) [v']) _ _ _
    have hlim := I1.nolimit
    obtain ⟨hp, g, dr, tk, os⟩ := s1
    refine wpAny_call (Er_at.made T I1.kIn hlim (by have := hr.dp; omega) fun h' tk' e d M => ?_)
    obtain ⟨oe, fv, hoe, hc, hd, hdat, h1⟩ := M.obj
    have hns := M.ns
    obtain ⟨G', g1, g2⟩ := restrict h' fun b => decide (b ≠ e)
    have gk : ∀ b, b ≠ e → G'.get? b = h'.get? b := fun b hb => g1 b (decide_eq_true hb)
    have ge : G'.get? e = none := g2 e (by simp)
    have old : ∀ b o, hp.get? b = some o → G'.get? b = some o := fun b o q => (gk b (Nat.ne_of_lt (Nat.lt_of_lt_of_le (Heap.lt_size q) M.new))).trans (M.keep b o q)
    have ob : ObjOk X.prog X.w (upd H1 d (.xd [(("at" : Str), v)])) G' d (.xd [(("at" : Str), v)]) :=
      ⟨_, hns.at (fun o q => (gk d M.dne).trans q), fun f => relO_at rv f⟩
    have J : L2.Inv X pins σ (upd H1 d (.xd [(("at" : Str), v)])) ⟨G', g, dr, tk', os⟩ := I1.laid (t' := tk') old M.dbig ob
    have fe : H1 e = none := I1.hok.fresh M.new
    have fd : H1 d = none := I1.hok.fresh M.dbig
    have J2 : L2.Inv X pins σ (upd (upd H1 d (.xd [(("at" : Str), v)])) e (ExH (.ref C) (some d) e)) ⟨h', g, dr, tk', os⟩ := J.laidN (h' := h') (t' := tk') (fun b u q => by
      by_cases hb : b = e
      · have q' : G'.get? b = some u := q
        rw [hb, ge] at q'
        cases q'
      · exact (gk b hb).symm.trans q) ge (by rw [upd_ne (Ne.symm M.dne)]; exact fe) (held_ok hoe ⟨hc, hd⟩ hdat)
    exact ⟨.ref e, _, J2, rfl, q1 e d fe fd M.dne⟩
end
/-! ### errors of the field name, over any base -/
namespace Er_name
open PySem.W PySem.Calls PySem.HandSPX
/-- the class called nm, at C, and its __init__, at fI, as the top has left them -/
structure Tx (K : Frag) (mg : Str → Option Value) (nm ql : Str) (C fI : Addr) (B newId initId : String) (bmB : List Value) : Prop where
  base : ExcBaseFacts B newId initId bmB
  gC : mg nm = some (.ref C)
  cls : ∃ n1 q N bs bm sn sub ab col dd k0 k1 k2 k3 k5, K.lookup C = some (excClassObj n1 q C N bs bm true sn sub ab col dd k0 k1 k2 k3 k5 newId) ∧ ErrLine B bm
  sa : findIn K (.ref C) "__setattr__" = some (some (.builtin "object.__setattr__"))
  ex : ExcC K C
  noN : findIn K (.ref C) "name" = some none
  iC : findIn K (.ref C) "__init__" = some (some (.ref fI))
  tC : typeIn K (.ref fI) = some (.type "function")
  kC : keepIn K (.ref C) = true
  tyC : typeIn K (.ref C) = some (.type "type")
  fn : ∃ (oc : Value) (od : Option Addr) (doc pm : Value) (an : Option Addr) (cdv ct : Value) (osl : Array (Option Value)) (p1 p2 q1 q2 q3 q4 : Pos),
    K.lookup fI = some ⟨oc, od, .func (fnOf "__init__" ql (Of_name.iA p1 p2) (Of_name.iB q1 q2 q3 q4) Of_name.iS .none .none doc pm an cdv ct), osl⟩ ∧ codeIn K cdv ql = true
section
variable {prog : Program} {w : World} {A : Around} {E : Value → Shared → Prop} {R : Result → Shared → Prop} {s : Shared} {K : Frag} {mg : Str → Option Value} {nm ql : Str} {C fI : Addr} {B newId initId : String} {bmB : List Value}
theorem made (T : Tx K mg nm ql C fI B newId initId bmB) {v : Value} (X : K.In s.heap) (hlim : s.heap.NoLimit) (hroom : A.depth + 1 < recursionLimit) (hq : ∀ h' tk e d, Of_name.Made s.heap h' e C d v → R (.ok (.ret (.ref e))) { s with heap := h', toks := tk }) :
    codeAny (model prog w) A (.call (.ref C) ⟨[v], []⟩) R s := by
  obtain ⟨n1, q, N, bs, bm, sn, sub, ab, col, dd, k0, k1, k2, k3, k5, hC, ln⟩ := T.cls
  obtain ⟨oc, od, doc, pm, an, cdv, ct, osl, p1, p2, q1, q2, q3, q4, ho, hcd⟩ := T.fn
  have hcl : clsIn K C = some { name := n1, bases := bs, mro := .ref C :: bm, ns := N, qualname := q, hasDict := true, slotNames := sn, subclasses := sub, abstract := ab, collection := col, hasDel := false } := by
    unfold clsIn
    rw [hC]
  obtain ⟨hp, g, dr, tk, os⟩ := s
  have k : ∀ b o, hp.get? b = some o → ((hp.push (kdv_tup [v])).push (excO C hp.objs.size)).get? b = some o := fun b o e => Heap.get?_push_of_some _ (Heap.get?_push_of_some _ e)
  have hx : ((hp.push (kdv_tup [v])).push (excO C hp.objs.size)).get? (hp.objs.size + 1) = some (excO C hp.objs.size) := by heap_get
  refine mk_call T.base ln.mkl (X _ _ hC) (looks_findIn X T.iC) (fun self => bind_fn X self T.tC) (one_size v) ?_
  have X1 := X.keeps k
  have lim1 : ((hp.push (kdv_tup [v])).push (excO C hp.objs.size)).NoLimit := hlim.keeps k
  have size1 : ((hp.push (kdv_tup [v])).push (excO C hp.objs.size)).objs.size = hp.objs.size + 1 + 1 := by rw [Heap.size_push, Heap.size_push]
  generalize (hp.push (kdv_tup [v])).push (excO C hp.objs.size) = h1 at k hx X1 lim1 size1 ⊢
  refine Att.call_fn (binds := [("self", .ref (hp.objs.size + 1)), ("name", v)]) X1 lim1 ho hcd hroom (BindsTo.of_eq (by first | rfl | with_unfolding_all rfl)) (by first | rfl | decide | with_unfolding_all rfl) (fun s₁ IC => ?_) rfl rfl rfl
  obtain ⟨h₁, tk₁, rfl⟩ := IC.toInCall.same
  have k1' : ∀ b o, h1.get? b = some o → h₁.get? b = some o := IC.toInCall.keep
  have hn := IC.toInCall.ns
  show wpAny _ _ (execs _ _) _ _ _
  refine wpAny_execs_cons (plainObj_wpAny_Assign_Attribute ?_)
  refine ldC (v := v) hn (by first | rfl | with_unfolding_all rfl | kernel_rfl) (ldC (v := .ref (hp.objs.size + 1)) hn (by first | rfl | with_unfolding_all rfl | kernel_rfl) ?_)
  refine set_plain (X1.keeps k1') (ox := excO C hp.objs.size) (od := none) ⟨k1' _ _ hx, rfl, rfl, trivial⟩ T.sa ?_
  refine err_first (X1.keeps k1') (k1' _ _ hx) hcl ln.own.obj ln.own.pass rfl rfl T.noN (fun h₃ tk₃ dx k₃ dn dne hx₃ hn₃ => ?_)
  show wpAny _ _ (execs _ _) _ _ _
  have z : h1.objs.size < h₁.objs.size := hn.lt
  have lt_ : ∀ {b : Addr} {o : Obj}, hp.get? b = some o → b ≠ hp.objs.size + 1 := fun {b o} e => Nat.ne_of_lt (Nat.lt_succ_of_lt (Heap.lt_size e))
  refine wpAny_execs_nil ⟨rfl, hq h₃ tk₃ (hp.objs.size + 1) dx ⟨fun b o e => k₃ b o (lt_ e) (k1' b o (k b o e)), Nat.le_succ _, ⟨_, _, hx₃, rfl, rfl, rfl, rfl⟩, ?_, dne, hn₃⟩⟩
  have dn' : h₁.objs.size ≤ dx := dn
  show hp.objs.size ≤ dx
  omega
end
end Er_name
section
variable {X : Cx} {nm ql : Str} {C fI : Addr} {B newId initId : String} {bmB : List Value}
/-- raise nm(e) -/
theorem pmkE_name {a : Expr} {ta : TA} {p pos : Pos} {k : Nat} (T : Er_name.Tx X.K X.mg nm ql C fI B newId initId bmB) (hr : Room k X.A) (ha : PA X [a] ta) (hg : Gl X nm := by rfl) (hdb : (nm == ("__debug__" : Str)) = false := by decide)
    (he : starEach (a :: []) X.env = (false, eval a X.env) :: starEach [] X.env := by rfl) (hpl : (backTo pos (starEach [] X.env)).any (·.1) = false := by rfl) :
    PMk X (.Call (.Name nm p) [a] [] pos) (tMk_name C ta) := by
  intro pins s σ H Q I h
  refine wpAny_Call_Name_kw (ld_glob I hg T.gC ?_ hdb)
  refine PySem.W.callWith_K (h₀ := X.base) I.ok.mod.kin T.kC (thn (ha.run pos pins s σ H _ I h) fun us s1 hh => ?_) he hpl
  obtain ⟨vs, H1, I1, r1, v, ev, q1⟩ := hh
  subst ev
  refine ⟨I1.kIn, ?_⟩
  cases r1 with
  | cons rv rn =>
    rename_i v' us'
    cases rn
    show wpAny _ _ (call (.ref C) [v']) _ _ _
    have hlim := I1.nolimit
    obtain ⟨hp, g, dr, tk, os⟩ := s1
    refine wpAny_call (Er_name.made T I1.kIn hlim (by have := hr.dp; omega) fun h' tk' e d M => ?_)
    show MkP X pins σ Q (.ref e) ⟨h', g, dr, tk', os⟩
    obtain ⟨oe, fv, hoe, hc, hd, hdat, h1⟩ := M.obj
    have hns := M.ns
    obtain ⟨G', g1, g2⟩ := restrict h' fun b => decide (b ≠ e)
    have gk : ∀ b, b ≠ e → G'.get? b = h'.get? b := fun b hb => g1 b (decide_eq_true hb)
    have ge : G'.get? e = none := g2 e (by simp)
    have old : ∀ b o, hp.get? b = some o → G'.get? b = some o := fun b o q => (gk b (Nat.ne_of_lt (Nat.lt_of_lt_of_le (Heap.lt_size q) M.new))).trans (M.keep b o q)
    have ob : ObjOk X.prog X.w (upd H1 d (.xd [(("name" : Str), v)])) G' d (.xd [(("name" : Str), v)]) :=
      ⟨_, hns.at (fun o q => (gk d M.dne).trans q), fun f => relO_name rv f⟩
    have J : L2.Inv X pins σ (upd H1 d (.xd [(("name" : Str), v)])) ⟨G', g, dr, tk', os⟩ := I1.laid (t' := tk') old M.dbig ob
    refine ⟨e, oe, fv, ⟨G', g, dr, tk', os⟩, _, .ref C, some d, rfl, J, fun b o q => ?_, ge, hoe, ⟨hc, hd⟩, hdat, h1, ?_, rfl, I1.bare, raises_own T.ex.hs T.tyC, q1 d (I1.hok.fresh M.dbig)⟩
    · by_cases hb : b = e
      · have q' : G'.get? b = some o := q
        rw [hb, ge] at q'
        cases q'
      · exact (gk b hb).symm.trans q
    · rw [upd_ne (Ne.symm M.dne)]
      exact I1.hok.fresh M.new
theorem ps_raiseE_name {a : Expr} {ta : TA} {W : WX} {p pos pos2 : Pos} {k : Nat} (hc : X.calm = true) (T : Er_name.Tx X.K X.mg nm ql C fI B newId initId bmB) (hr : Room k X.A) (tk : Takes X W) (ha : PA X [a] ta) (hg : Gl X nm := by rfl) (hdb : (nm == ("__debug__" : Str)) = false := by decide)
    (he : starEach (a :: []) X.env = (false, eval a X.env) :: starEach [] X.env := by rfl) (hpl : (backTo pos (starEach [] X.env)).any (·.1) = false := by rfl) :
    PS X (.Raise (some (.Call (.Name nm p) [a] [] pos)) none pos2) (tRaise_name C W ta) := ps_raise hc tk (pmkE_name T hr ha hg hdb he hpl)
/-- nm(e) as a value -/
def tVal_name (C : Addr) (ta : TA) : TE := fun σ H Q => ta σ H fun vs H1 => ∃ v, vs = [v] ∧ ∀ e d, H1 e = none → H1 d = none → d ≠ e → Q (.ref e) (upd (upd H1 d (.xd [(("name" : Str), v)])) e (ExH (.ref C) (some d) e))
theorem pe_val_name {a : Expr} {ta : TA} {p pos : Pos} {k : Nat} (T : Er_name.Tx X.K X.mg nm ql C fI B newId initId bmB) (hr : Room k X.A) (ha : PA X [a] ta) (hg : Gl X nm := by rfl) (hdb : (nm == ("__debug__" : Str)) = false := by decide)
    (he : starEach (a :: []) X.env = (false, eval a X.env) :: starEach [] X.env := by rfl) (hpl : (backTo pos (starEach [] X.env)).any (·.1) = false := by rfl) :
    PE X (.Call (.Name nm p) [a] [] pos) (tVal_name C ta) := by
  constructor
  intro pins s σ H Q I h
  refine wpAny_Call_Name_kw (ld_glob I hg T.gC ?_ hdb)
  refine PySem.W.callWith_K (h₀ := X.base) I.ok.mod.kin T.kC (thn (ha.run pos pins s σ H _ I h) fun us s1 hh => ?_) he hpl
  obtain ⟨vs, H1, I1, r1, v, ev, q1⟩ := hh
  subst ev
  refine ⟨I1.kIn, ?_⟩
  cases r1 with
  | cons rv rn =>
    rename_i v' us'
    cases rn
    show wpAny _ _ (call (.ref C) [v']) _ _ _
    have hlim := I1.nolimit
    obtain ⟨hp, g, dr, tk, os⟩ := s1
    refine wpAny_call (Er_name.made T I1.kIn hlim (by have := hr.dp; omega) fun h' tk' e d M => ?_)
    obtain ⟨oe, fv, hoe, hc, hd, hdat, h1⟩ := M.obj
    have hns := M.ns
    obtain ⟨G', g1, g2⟩ := restrict h' fun b => decide (b ≠ e)
    have gk : ∀ b, b ≠ e → G'.get? b = h'.get? b := fun b hb => g1 b (decide_eq_true hb)
    have ge : G'.get? e = none := g2 e (by simp)
    have old : ∀ b o, hp.get? b = some o → G'.get? b = some o := fun b o q => (gk b (Nat.ne_of_lt (Nat.lt_of_lt_of_le (Heap.lt_size q) M.new))).trans (M.keep b o q)
    have ob : ObjOk X.prog X.w (upd H1 d (.xd [(("name" : Str), v)])) G' d (.xd [(("name" : Str), v)]) :=
      ⟨_, hns.at (fun o q => (gk d M.dne).trans q), fun f => relO_name rv f⟩
    have J : L2.Inv X pins σ (upd H1 d (.xd [(("name" : Str), v)])) ⟨G', g, dr, tk', os⟩ := I1.laid (t' := tk') old M.dbig ob
    have fe : H1 e = none := I1.hok.fresh M.new
    have fd : H1 d = none := I1.hok.fresh M.dbig
    have J2 : L2.Inv X pins σ (upd (upd H1 d (.xd [(("name" : Str), v)])) e (ExH (.ref C) (some d) e)) ⟨h', g, dr, tk', os⟩ := J.laidN (h' := h') (t' := tk') (fun b u q => by
      by_cases hb : b = e
      · have q' : G'.get? b = some u := q
        rw [hb, ge] at q'
        cases q'
      · exact (gk b hb).symm.trans q) ge (by rw [upd_ne (Ne.symm M.dne)]; exact fe) (held_ok hoe ⟨hc, hd⟩ hdat)
    exact ⟨.ref e, _, J2, rfl, q1 e d fe fd M.dne⟩
end
/-! ### errors of the field most, over any base -/
namespace Er_most
open PySem.W PySem.Calls PySem.HandSPX
/-- the class called nm, at C, and its __init__, at fI, as the top has left them -/
structure Tx (K : Frag) (mg : Str → Option Value) (nm ql : Str) (C fI : Addr) (B newId initId : String) (bmB : List Value) : Prop where
  base : ExcBaseFacts B newId initId bmB
  gC : mg nm = some (.ref C)
  cls : ∃ n1 q N bs bm sn sub ab col dd k0 k1 k2 k3 k5, K.lookup C = some (excClassObj n1 q C N bs bm true sn sub ab col dd k0 k1 k2 k3 k5 newId) ∧ ErrLine B bm
  sa : findIn K (.ref C) "__setattr__" = some (some (.builtin "object.__setattr__"))
  ex : ExcC K C
  noN : findIn K (.ref C) "most" = some none
  iC : findIn K (.ref C) "__init__" = some (some (.ref fI))
  tC : typeIn K (.ref fI) = some (.type "function")
  kC : keepIn K (.ref C) = true
  tyC : typeIn K (.ref C) = some (.type "type")
  fn : ∃ (oc : Value) (od : Option Addr) (doc pm : Value) (an : Option Addr) (cdv ct : Value) (osl : Array (Option Value)) (p1 p2 q1 q2 q3 q4 : Pos),
    K.lookup fI = some ⟨oc, od, .func (fnOf "__init__" ql (Of_most.iA p1 p2) (Of_most.iB q1 q2 q3 q4) Of_most.iS .none .none doc pm an cdv ct), osl⟩ ∧ codeIn K cdv ql = true
section
variable {prog : Program} {w : World} {A : Around} {E : Value → Shared → Prop} {R : Result → Shared → Prop} {s : Shared} {K : Frag} {mg : Str → Option Value} {nm ql : Str} {C fI : Addr} {B newId initId : String} {bmB : List Value}
theorem made (T : Tx K mg nm ql C fI B newId initId bmB) {v : Value} (X : K.In s.heap) (hlim : s.heap.NoLimit) (hroom : A.depth + 1 < recursionLimit) (hq : ∀ h' tk e d, Of_most.Made s.heap h' e C d v → R (.ok (.ret (.ref e))) { s with heap := h', toks := tk }) :
    codeAny (model prog w) A (.call (.ref C) ⟨[v], []⟩) R s := by
  obtain ⟨n1, q, N, bs, bm, sn, sub, ab, col, dd, k0, k1, k2, k3, k5, hC, ln⟩ := T.cls
  obtain ⟨oc, od, doc, pm, an, cdv, ct, osl, p1, p2, q1, q2, q3, q4, ho, hcd⟩ := T.fn
  have hcl : clsIn K C = some { name := n1, bases := bs, mro := .ref C :: bm, ns := N, qualname := q, hasDict := true, slotNames := sn, subclasses := sub, abstract := ab, collection := col, hasDel := false } := by
    unfold clsIn
    rw [hC]
  obtain ⟨hp, g, dr, tk, os⟩ := s
  have k : ∀ b o, hp.get? b = some o → ((hp.push (kdv_tup [v])).push (excO C hp.objs.size)).get? b = some o := fun b o e => Heap.get?_push_of_some _ (Heap.get?_push_of_some _ e)
  have hx : ((hp.push (kdv_tup [v])).push (excO C hp.objs.size)).get? (hp.objs.size + 1) = some (excO C hp.objs.size) := by heap_get
  refine mk_call T.base ln.mkl (X _ _ hC) (looks_findIn X T.iC) (fun self => bind_fn X self T.tC) (one_size v) ?_
  have X1 := X.keeps k
  have lim1 : ((hp.push (kdv_tup [v])).push (excO C hp.objs.size)).NoLimit := hlim.keeps k
  have size1 : ((hp.push (kdv_tup [v])).push (excO C hp.objs.size)).objs.size = hp.objs.size + 1 + 1 := by rw [Heap.size_push, Heap.size_push]
  generalize (hp.push (kdv_tup [v])).push (excO C hp.objs.size) = h1 at k hx X1 lim1 size1 ⊢
  refine Att.call_fn (binds := [("self", .ref (hp.objs.size + 1)), ("most", v)]) X1 lim1 ho hcd hroom (BindsTo.of_eq (by first | rfl | with_unfolding_all rfl)) (by first | rfl | decide | with_unfolding_all rfl) (fun s₁ IC => ?_) rfl rfl rfl
  obtain ⟨h₁, tk₁, rfl⟩ := IC.toInCall.same
  have k1' : ∀ b o, h1.get? b = some o → h₁.get? b = some o := IC.toInCall.keep
  have hn := IC.toInCall.ns
  show wpAny _ _ (execs _ _) _ _ _
  refine wpAny_execs_cons (plainObj_wpAny_Assign_Attribute ?_)
  refine ldC (v := v) hn (by first | rfl | with_unfolding_all rfl | kernel_rfl) (ldC (v := .ref (hp.objs.size + 1)) hn (by first | rfl | with_unfolding_all rfl | kernel_rfl) ?_)
  refine set_plain (X1.keeps k1') (ox := excO C hp.objs.size) (od := none) ⟨k1' _ _ hx, rfl, rfl, trivial⟩ T.sa ?_
  refine err_first (X1.keeps k1') (k1' _ _ hx) hcl ln.own.obj ln.own.pass rfl rfl T.noN (fun h₃ tk₃ dx k₃ dn dne hx₃ hn₃ => ?_)
  show wpAny _ _ (execs _ _) _ _ _
  have z : h1.objs.size < h₁.objs.size := hn.lt
  have lt_ : ∀ {b : Addr} {o : Obj}, hp.get? b = some o → b ≠ hp.objs.size + 1 := fun {b o} e => Nat.ne_of_lt (Nat.lt_succ_of_lt (Heap.lt_size e))
  refine wpAny_execs_nil ⟨rfl, hq h₃ tk₃ (hp.objs.size + 1) dx ⟨fun b o e => k₃ b o (lt_ e) (k1' b o (k b o e)), Nat.le_succ _, ⟨_, _, hx₃, rfl, rfl, rfl, rfl⟩, ?_, dne, hn₃⟩⟩
  have dn' : h₁.objs.size ≤ dx := dn
  show hp.objs.size ≤ dx
  omega
end
end Er_most
section
variable {X : Cx} {nm ql : Str} {C fI : Addr} {B newId initId : String} {bmB : List Value}
/-- raise nm(e) -/
theorem pmkE_most {a : Expr} {ta : TA} {p pos : Pos} {k : Nat} (T : Er_most.Tx X.K X.mg nm ql C fI B newId initId bmB) (hr : Room k X.A) (ha : PA X [a] ta) (hg : Gl X nm := by rfl) (hdb : (nm == ("__debug__" : Str)) = false := by decide)
    (he : starEach (a :: []) X.env = (false, eval a X.env) :: starEach [] X.env := by rfl) (hpl : (backTo pos (starEach [] X.env)).any (·.1) = false := by rfl) :
    PMk X (.Call (.Name nm p) [a] [] pos) (tMk_most C ta) := by
  intro pins s σ H Q I h
  refine wpAny_Call_Name_kw (ld_glob I hg T.gC ?_ hdb)
  refine PySem.W.callWith_K (h₀ := X.base) I.ok.mod.kin T.kC (thn (ha.run pos pins s σ H _ I h) fun us s1 hh => ?_) he hpl
  obtain ⟨vs, H1, I1, r1, v, ev, q1⟩ := hh
  subst ev
  refine ⟨I1.kIn, ?_⟩
  cases r1 with
  | cons rv rn =>
    rename_i v' us'
    cases rn
    show wpAny _ _ (call (.ref C) [v']) _ _ _
    have hlim := I1.nolimit
    obtain ⟨hp, g, dr, tk, os⟩ := s1
    refine wpAny_call (Er_most.made T I1.kIn hlim (by have := hr.dp; omega) fun h' tk' e d M => ?_)
    show MkP X pins σ Q (.ref e) ⟨h', g, dr, tk', os⟩
    obtain ⟨oe, fv, hoe, hc, hd, hdat, h1⟩ := M.obj
    have hns := M.ns
    obtain ⟨G', g1, g2⟩ := restrict h' fun b => decide (b ≠ e)
    have gk : ∀ b, b ≠ e → G'.get? b = h'.get? b := fun b hb => g1 b (decide_eq_true hb)
    have ge : G'.get? e = none := g2 e (by simp)
    have old : ∀ b o, hp.get? b = some o → G'.get? b = some o := fun b o q => (gk b (Nat.ne_of_lt (Nat.lt_of_lt_of_le (Heap.lt_size q) M.new))).trans (M.keep b o q)
    have ob : ObjOk X.prog X.w (upd H1 d (.xd [(("most" : Str), v)])) G' d (.xd [(("most" : Str), v)]) :=
      ⟨_, hns.at (fun o q => (gk d M.dne).trans q), fun f => relO_most rv f⟩
    have J : L2.Inv X pins σ (upd H1 d (.xd [(("most" : Str), v)])) ⟨G', g, dr, tk', os⟩ := I1.laid (t' := tk') old M.dbig ob
    refine ⟨e, oe, fv, ⟨G', g, dr, tk', os⟩, _, .ref C, some d, rfl, J, fun b o q => ?_, ge, hoe, ⟨hc, hd⟩, hdat, h1, ?_, rfl, I1.bare, raises_own T.ex.hs T.tyC, q1 d (I1.hok.fresh M.dbig)⟩
    · by_cases hb : b = e
      · have q' : G'.get? b = some o := q
        rw [hb, ge] at q'
        cases q'
      · exact (gk b hb).symm.trans q
    · rw [upd_ne (Ne.symm M.dne)]
      exact I1.hok.fresh M.new
theorem ps_raiseE_most {a : Expr} {ta : TA} {W : WX} {p pos pos2 : Pos} {k : Nat} (hc : X.calm = true) (T : Er_most.Tx X.K X.mg nm ql C fI B newId initId bmB) (hr : Room k X.A) (tk : Takes X W) (ha : PA X [a] ta) (hg : Gl X nm := by rfl) (hdb : (nm == ("__debug__" : Str)) = false := by decide)
    (he : starEach (a :: []) X.env = (false, eval a X.env) :: starEach [] X.env := by rfl) (hpl : (backTo pos (starEach [] X.env)).any (·.1) = false := by rfl) :
    PS X (.Raise (some (.Call (.Name nm p) [a] [] pos)) none pos2) (tRaise_most C W ta) := ps_raise hc tk (pmkE_most T hr ha hg hdb he hpl)
/-- nm(e) as a value -/
def tVal_most (C : Addr) (ta : TA) : TE := fun σ H Q => ta σ H fun vs H1 => ∃ v, vs = [v] ∧ ∀ e d, H1 e = none → H1 d = none → d ≠ e → Q (.ref e) (upd (upd H1 d (.xd [(("most" : Str), v)])) e (ExH (.ref C) (some d) e))
theorem pe_val_most {a : Expr} {ta : TA} {p pos : Pos} {k : Nat} (T : Er_most.Tx X.K X.mg nm ql C fI B newId initId bmB) (hr : Room k X.A) (ha : PA X [a] ta) (hg : Gl X nm := by rfl) (hdb : (nm == ("__debug__" : Str)) = false := by decide)
    (he : starEach (a :: []) X.env = (false, eval a X.env) :: starEach [] X.env := by rfl) (hpl : (backTo pos (starEach [] X.env)).any (·.1) = false := by rfl) :
    PE X (.Call (.Name nm p) [a] [] pos) (tVal_most C ta) := by
  constructor
  intro pins s σ H Q I h
  refine wpAny_Call_Name_kw (ld_glob I hg T.gC ?_ hdb)
  refine PySem.W.callWith_K (h₀ := X.base) I.ok.mod.kin T.kC (thn (ha.run pos pins s σ H _ I h) fun us s1 hh => ?_) he hpl
  obtain ⟨vs, H1, I1, r1, v, ev, q1⟩ := hh
  subst ev
  refine ⟨I1.kIn, ?_⟩
  cases r1 with
  | cons rv rn =>
    rename_i v' us'
    cases rn
    show wpAny _ _ (call (.ref C) [v']) _ _ _
    have hlim := I1.nolimit
    obtain ⟨hp, g, dr, tk, os⟩ := s1
    refine wpAny_call (Er_most.made T I1.kIn hlim (by have := hr.dp; omega) fun h' tk' e d M => ?_)
    obtain ⟨oe, fv, hoe, hc, hd, hdat, h1⟩ := M.obj
    have hns := M.ns
    obtain ⟨G', g1, g2⟩ := restrict h' fun b => decide (b ≠ e)
    have gk : ∀ b, b ≠ e → G'.get? b = h'.get? b := fun b hb => g1 b (decide_eq_true hb)
    have ge : G'.get? e = none := g2 e (by simp)
    have old : ∀ b o, hp.get? b = some o → G'.get? b = some o := fun b o q => (gk b (Nat.ne_of_lt (Nat.lt_of_lt_of_le (Heap.lt_size q) M.new))).trans (M.keep b o q)
    have ob : ObjOk X.prog X.w (upd H1 d (.xd [(("most" : Str), v)])) G' d (.xd [(("most" : Str), v)]) :=
      ⟨_, hns.at (fun o q => (gk d M.dne).trans q), fun f => relO_most rv f⟩
    have J : L2.Inv X pins σ (upd H1 d (.xd [(("most" : Str), v)])) ⟨G', g, dr, tk', os⟩ := I1.laid (t' := tk') old M.dbig ob
    have fe : H1 e = none := I1.hok.fresh M.new
    have fd : H1 d = none := I1.hok.fresh M.dbig
    have J2 : L2.Inv X pins σ (upd (upd H1 d (.xd [(("most" : Str), v)])) e (ExH (.ref C) (some d) e)) ⟨h', g, dr, tk', os⟩ := J.laidN (h' := h') (t' := tk') (fun b u q => by
      by_cases hb : b = e
      · have q' : G'.get? b = some u := q
        rw [hb, ge] at q'
        cases q'
      · exact (gk b hb).symm.trans q) ge (by rw [upd_ne (Ne.symm M.dne)]; exact fe) (held_ok hoe ⟨hc, hd⟩ hdat)
    exact ⟨.ref e, _, J2, rfl, q1 e d fe fd M.dne⟩
end
/-! ### errors of the fields row and word, over any base -/
namespace Er_row_word
open PySem.W PySem.Calls PySem.HandSPX
def iA (p1 p2 p3 : Pos) : Arguments := { posonlyargs := [], args := [{ arg := "self", annotation := none, pos := p1 }, { arg := "row", annotation := none, pos := p2 }, { arg := "word", annotation := none, pos := p3 }], vararg := none, kwonlyargs := [], kw_defaults := [], kwarg := none, defaults := [] }
def iB (q1 q2 q3 q4 q5 q6 q7 q8 : Pos) : List Stmt := [.Assign [.Attribute (.Name "self" q1) "row" q2] (.Name "row" q3) q4, .Assign [.Attribute (.Name "self" q5) "word" q6] (.Name "word" q7) q8]
def iS : Scope := { kind := .function, names := [(PySem.Str.ofString "self", .local), (PySem.Str.ofString "row", .local), (PySem.Str.ofString "word", .local)], isGenerator := false, isCoroutine := false, more := [] }
structure Tx (K : Frag) (mg : Str → Option Value) (nm ql : Str) (C fI : Addr) (B newId initId : String) (bmB : List Value) : Prop where
  base : ExcBaseFacts B newId initId bmB
  gC : mg nm = some (.ref C)
  cls : ∃ n1 q N bs bm sn sub ab col dd k0 k1 k2 k3 k5, K.lookup C = some (excClassObj n1 q C N bs bm true sn sub ab col dd k0 k1 k2 k3 k5 newId) ∧ ErrLine B bm
  sa : findIn K (.ref C) "__setattr__" = some (some (.builtin "object.__setattr__"))
  ex : ExcC K C
  noA : findIn K (.ref C) "row" = some none
  noB : findIn K (.ref C) "word" = some none
  iC : findIn K (.ref C) "__init__" = some (some (.ref fI))
  tC : typeIn K (.ref fI) = some (.type "function")
  kC : keepIn K (.ref C) = true
  tyC : typeIn K (.ref C) = some (.type "type")
  fn : ∃ (oc : Value) (od : Option Addr) (doc pm : Value) (an : Option Addr) (cdv ct : Value) (osl : Array (Option Value)) (p1 p2 p3 q1 q2 q3 q4 q5 q6 q7 q8 : Pos),
    K.lookup fI = some ⟨oc, od, .func (fnOf "__init__" ql (iA p1 p2 p3) (iB q1 q2 q3 q4 q5 q6 q7 q8) iS .none .none doc pm an cdv ct), osl⟩ ∧ codeIn K cdv ql = true
structure Made (h h' : Heap) (e C d : Addr) (v u : Value) : Prop where
  keep : ∀ b o, h.get? b = some o → h'.get? b = some o
  new : h.objs.size ≤ e
  obj : ∃ oe vs, h'.get? e = some oe ∧ oe.cls = .ref C ∧ oe.dict = some d ∧ oe.data = .fields vs ∧ vs[1]? = some .none
  dbig : h.objs.size ≤ d
  dne : d ≠ e
  ns : h'.Ns1 d (fun y => if y = "word" then some u else if y = "row" then some v else none)
section
variable {prog : Program} {w : World} {A : Around} {E : Value → Shared → Prop} {R : Result → Shared → Prop} {s : Shared} {K : Frag} {mg : Str → Option Value} {nm ql : Str} {C fI : Addr} {B newId initId : String} {bmB : List Value}
theorem made (T : Tx K mg nm ql C fI B newId initId bmB) {v u : Value} (X : K.In s.heap) (hlim : s.heap.NoLimit) (hroom : A.depth + 1 < recursionLimit) (hq : ∀ h' tk e d, Made s.heap h' e C d v u → R (.ok (.ret (.ref e))) { s with heap := h', toks := tk }) :
    codeAny (model prog w) A (.call (.ref C) ⟨[v, u], []⟩) R s := by
  obtain ⟨n1, q, N, bs, bm, sn, sub, ab, col, dd, k0, k1, k2, k3, k5, hC, ln⟩ := T.cls
  obtain ⟨oc, od, doc, pm, an, cdv, ct, osl, p1, p2, p3, q1, q2, q3, q4, q5, q6, q7, q8, ho, hcd⟩ := T.fn
  have hcl : clsIn K C = some { name := n1, bases := bs, mro := .ref C :: bm, ns := N, qualname := q, hasDict := true, slotNames := sn, subclasses := sub, abstract := ab, collection := col, hasDel := false } := by
    unfold clsIn
    rw [hC]
  obtain ⟨hp, g, dr, tk, os⟩ := s
  have k : ∀ b o, hp.get? b = some o → ((hp.push (kdv_tup [v, u])).push (excO C hp.objs.size)).get? b = some o := fun b o e => Heap.get?_push_of_some _ (Heap.get?_push_of_some _ e)
  have hx : ((hp.push (kdv_tup [v, u])).push (excO C hp.objs.size)).get? (hp.objs.size + 1) = some (excO C hp.objs.size) := by heap_get
  refine mk_call T.base ln.mkl (X _ _ hC) (looks_findIn X T.iC) (fun self => bind_fn X self T.tC) (by rw [sizeLine_eq]; exact (by decide : 2 ≤ 16777216)) ?_
  have X1 := X.keeps k
  have lim1 : ((hp.push (kdv_tup [v, u])).push (excO C hp.objs.size)).NoLimit := hlim.keeps k
  have size1 : ((hp.push (kdv_tup [v, u])).push (excO C hp.objs.size)).objs.size = hp.objs.size + 1 + 1 := by rw [Heap.size_push, Heap.size_push]
  generalize (hp.push (kdv_tup [v, u])).push (excO C hp.objs.size) = h1 at k hx X1 lim1 size1 ⊢
  refine Att.call_fn (binds := [("self", .ref (hp.objs.size + 1)), ("row", v), ("word", u)]) X1 lim1 ho hcd hroom (BindsTo.of_eq (by first | rfl | with_unfolding_all rfl)) (by first | rfl | decide | with_unfolding_all rfl) (fun s₁ IC => ?_) rfl rfl rfl
  obtain ⟨h₁, tk₁, rfl⟩ := IC.toInCall.same
  have k1' : ∀ b o, h1.get? b = some o → h₁.get? b = some o := IC.toInCall.keep
  have hn := IC.toInCall.ns
  show wpAny _ _ (execs _ _) _ _ _
  refine wpAny_execs_cons (plainObj_wpAny_Assign_Attribute ?_)
  refine ldC (v := v) hn (by first | rfl | with_unfolding_all rfl | kernel_rfl) (ldC (v := .ref (hp.objs.size + 1)) hn (by first | rfl | with_unfolding_all rfl | kernel_rfl) ?_)
  refine set_plain (X1.keeps k1') (ox := excO C hp.objs.size) (od := none) ⟨k1' _ _ hx, rfl, rfl, trivial⟩ T.sa ?_
  refine err_first (X1.keeps k1') (k1' _ _ hx) hcl ln.own.obj ln.own.pass rfl rfl T.noA (fun h₃ tk₃ dx k₃ dn dne hx₃ hn₃ => ?_)
  show wpAny _ _ (execs _ _) _ _ _
  have z : h1.objs.size < h₁.objs.size := hn.lt
  have lt_ : ∀ {b : Addr} {o : Obj}, hp.get? b = some o → b ≠ hp.objs.size + 1 := fun {b o} e => Nat.ne_of_lt (Nat.lt_succ_of_lt (Heap.lt_size e))
  have X3 : K.In h₃ := fun a o e => k₃ a o (lt_ (X a o e)) (X1.keeps k1' a o e)
  have stay : ∀ {L : Addr} {m : Str → Option Value}, h₁.Ns L m → h₃.Ns L m := fun {L m} ns => by
    obtain ⟨o, es, n, e, dd, r⟩ := ns
    refine ⟨o, es, n, k₃ _ _ (fun z => ?_) e, dd, r⟩
    rw [z, k1' _ _ hx] at e
    cases e
    cases dd
  have hn3 := stay hn
  have hw : Within (fun y => if y = ("row" : Str) then some v else none) ["row"] := fun y hy => by
    by_cases e : y = "row"
    · rw [e]
      exact List.mem_cons_self
    · exact absurd (if_neg e) hy
  obtain ⟨oD, eD, pD, gD, _, _⟩ := hn₃.count hw
  refine wpAny_execs_cons (plainObj_wpAny_Assign_Attribute ?_)
  refine ldC (v := u) hn3 (by first | rfl | with_unfolding_all rfl | kernel_rfl) (ldC (v := .ref (hp.objs.size + 1)) hn3 (by first | rfl | with_unfolding_all rfl | kernel_rfl) ?_)
  refine set_plain X3 (ox := { cls := .ref C, dict := some dx, data := .fields #[.ref hp.objs.size, .none, .none, .none, .bool false, .none] }) (od := some oD) ⟨hx₃, rfl, rfl, gD⟩ T.sa ?_
  refine err_next X3 hx₃ hn₃ hw (by decide) hcl ln.own.obj ln.own.pass rfl rfl T.noB (fun h₄ tk₄ k₄ hn₄ => ?_)
  show wpAny _ _ (execs _ _) _ _ _
  have dn' : h₁.objs.size ≤ dx := dn
  have dn2 : hp.objs.size ≤ dx := by
    show hp.objs.size ≤ dx
    omega
  refine wpAny_execs_nil ⟨rfl, hq h₄ tk₄ (hp.objs.size + 1) dx ⟨fun b o e => k₄ b o (Nat.ne_of_lt (Nat.lt_of_lt_of_le (Heap.lt_size e) dn2)) (k₃ b o (lt_ e) (k1' b o (k b o e))), Nat.le_succ _, ⟨_, _, k₄ _ _ (Ne.symm dne) hx₃, rfl, rfl, rfl, rfl⟩, dn2, dne, hn₄⟩⟩
end
end Er_row_word
section
variable {X : Cx} {nm ql : Str} {C fI : Addr} {B newId initId : String} {bmB : List Value}
theorem relO_row_word {v u : V} {v' u' : Value} (r : RelV v v') (r2 : RelV u u') (f : Str) : RelO (List.lookup f [(("word" : Str), u), (("row" : Str), v)]) (if f = "word" then some u' else if f = "row" then some v' else none) := by
  by_cases h1 : f = "word"
  · subst h1
    rw [if_pos rfl]
    have q : List.lookup ("word" : Str) [(("word" : Str), u), (("row" : Str), v)] = some u := by simp [List.lookup]
    rw [q]
    exact r2
  · rw [if_neg h1]
    have q1 : (f == ("word" : Str)) = false := by simpa using h1
    by_cases h2 : f = "row"
    · subst h2
      rw [if_pos rfl]
      have q : List.lookup ("row" : Str) [(("word" : Str), u), (("row" : Str), v)] = some v := by simp [List.lookup, q1]
      rw [q]
      exact r
    · rw [if_neg h2]
      have q2 : (f == ("row" : Str)) = false := by simpa using h2
      have q : List.lookup f [(("word" : Str), u), (("row" : Str), v)] = none := by simp [List.lookup, q1, q2]
      rw [q]
      trivial
/-- nm(e, f) as a value -/
def tVal_row_word (C : Addr) (ta : TA) : TE := fun σ H Q => ta σ H fun vs H1 => ∃ v u, vs = [v, u] ∧ ∀ e d, H1 e = none → H1 d = none → d ≠ e → Q (.ref e) (upd (upd H1 d (.xd [(("word" : Str), u), (("row" : Str), v)])) e (ExH (.ref C) (some d) e))
theorem pe_val_row_word {a b : Expr} {ta : TA} {p pos : Pos} {k : Nat} (T : Er_row_word.Tx X.K X.mg nm ql C fI B newId initId bmB) (hr : Room k X.A) (ha : PA X [a, b] ta) (hg : Gl X nm := by rfl) (hdb : (nm == ("__debug__" : Str)) = false := by decide)
    (he : starEach (a :: [b]) X.env = (false, eval a X.env) :: starEach [b] X.env := by rfl) (hpl : (backTo pos (starEach [b] X.env)).any (·.1) = false := by rfl) :
    PE X (.Call (.Name nm p) [a, b] [] pos) (tVal_row_word C ta) := by
  constructor
  intro pins s σ H Q I h
  refine wpAny_Call_Name_kw (ld_glob I hg T.gC ?_ hdb)
  refine PySem.W.callWith_K (h₀ := X.base) I.ok.mod.kin T.kC (thn (ha.run pos pins s σ H _ I h) fun us s1 hh => ?_) he hpl
  obtain ⟨vs, H1, I1, r1, v, u, ev, q1⟩ := hh
  subst ev
  refine ⟨I1.kIn, ?_⟩
  obtain ⟨v', u', rfl, rv, ru⟩ := vals2 r1
  show wpAny _ _ (call (.ref C) [v', u']) _ _ _
  have hlim := I1.nolimit
  obtain ⟨hp, g, dr, tk, os⟩ := s1
  refine wpAny_call (Er_row_word.made T I1.kIn hlim (by have := hr.dp; omega) fun h' tk' e d M => ?_)
  obtain ⟨oe, fv, hoe, hc, hd, hdat, h1⟩ := M.obj
  have hns := M.ns
  obtain ⟨G', g1, g2⟩ := restrict h' fun b => decide (b ≠ e)
  have gk : ∀ b, b ≠ e → G'.get? b = h'.get? b := fun b hb => g1 b (decide_eq_true hb)
  have ge : G'.get? e = none := g2 e (by simp)
  have old : ∀ b o, hp.get? b = some o → G'.get? b = some o := fun b o q => (gk b (Nat.ne_of_lt (Nat.lt_of_lt_of_le (Heap.lt_size q) M.new))).trans (M.keep b o q)
  have ob : ObjOk X.prog X.w (upd H1 d (.xd [(("word" : Str), u), (("row" : Str), v)])) G' d (.xd [(("word" : Str), u), (("row" : Str), v)]) :=
    ⟨_, hns.at (fun o q => (gk d M.dne).trans q), fun f => relO_row_word rv ru f⟩
  have J : L2.Inv X pins σ (upd H1 d (.xd [(("word" : Str), u), (("row" : Str), v)])) ⟨G', g, dr, tk', os⟩ := I1.laid (t' := tk') old M.dbig ob
  have fe : H1 e = none := I1.hok.fresh M.new
  have fd : H1 d = none := I1.hok.fresh M.dbig
  have J2 : L2.Inv X pins σ (upd (upd H1 d (.xd [(("word" : Str), u), (("row" : Str), v)])) e (ExH (.ref C) (some d) e)) ⟨h', g, dr, tk', os⟩ := J.laidN (h' := h') (t' := tk') (fun b u q => by
    by_cases hb : b = e
    · have q' : G'.get? b = some u := q
      rw [hb, ge] at q'
      cases q'
    · exact (gk b hb).symm.trans q) ge (by rw [upd_ne (Ne.symm M.dne)]; exact fe) (held_ok hoe ⟨hc, hd⟩ hdat)
  exact ⟨.ref e, _, J2, rfl, q1 e d fe fd M.dne⟩
end
/-! ### errors of the fields lot and sums, over any base -/
namespace Er_lot_sums
open PySem.W PySem.Calls PySem.HandSPX
def iA (p1 p2 p3 : Pos) : Arguments := { posonlyargs := [], args := [{ arg := "self", annotation := none, pos := p1 }, { arg := "lot", annotation := none, pos := p2 }, { arg := "sums", annotation := none, pos := p3 }], vararg := none, kwonlyargs := [], kw_defaults := [], kwarg := none, defaults := [] }
def iB (q1 q2 q3 q4 q5 q6 q7 q8 : Pos) : List Stmt := [.Assign [.Attribute (.Name "self" q1) "lot" q2] (.Name "lot" q3) q4, .Assign [.Attribute (.Name "self" q5) "sums" q6] (.Name "sums" q7) q8]
def iS : Scope := { kind := .function, names := [(PySem.Str.ofString "self", .local), (PySem.Str.ofString "lot", .local), (PySem.Str.ofString "sums", .local)], isGenerator := false, isCoroutine := false, more := [] }
structure Tx (K : Frag) (mg : Str → Option Value) (nm ql : Str) (C fI : Addr) (B newId initId : String) (bmB : List Value) : Prop where
  base : ExcBaseFacts B newId initId bmB
  gC : mg nm = some (.ref C)
  cls : ∃ n1 q N bs bm sn sub ab col dd k0 k1 k2 k3 k5, K.lookup C = some (excClassObj n1 q C N bs bm true sn sub ab col dd k0 k1 k2 k3 k5 newId) ∧ ErrLine B bm
  sa : findIn K (.ref C) "__setattr__" = some (some (.builtin "object.__setattr__"))
  ex : ExcC K C
  noA : findIn K (.ref C) "lot" = some none
  noB : findIn K (.ref C) "sums" = some none
  iC : findIn K (.ref C) "__init__" = some (some (.ref fI))
  tC : typeIn K (.ref fI) = some (.type "function")
  kC : keepIn K (.ref C) = true
  tyC : typeIn K (.ref C) = some (.type "type")
  fn : ∃ (oc : Value) (od : Option Addr) (doc pm : Value) (an : Option Addr) (cdv ct : Value) (osl : Array (Option Value)) (p1 p2 p3 q1 q2 q3 q4 q5 q6 q7 q8 : Pos),
    K.lookup fI = some ⟨oc, od, .func (fnOf "__init__" ql (iA p1 p2 p3) (iB q1 q2 q3 q4 q5 q6 q7 q8) iS .none .none doc pm an cdv ct), osl⟩ ∧ codeIn K cdv ql = true
structure Made (h h' : Heap) (e C d : Addr) (v u : Value) : Prop where
  keep : ∀ b o, h.get? b = some o → h'.get? b = some o
  new : h.objs.size ≤ e
  obj : ∃ oe vs, h'.get? e = some oe ∧ oe.cls = .ref C ∧ oe.dict = some d ∧ oe.data = .fields vs ∧ vs[1]? = some .none
  dbig : h.objs.size ≤ d
  dne : d ≠ e
  ns : h'.Ns1 d (fun y => if y = "sums" then some u else if y = "lot" then some v else none)
section
variable {prog : Program} {w : World} {A : Around} {E : Value → Shared → Prop} {R : Result → Shared → Prop} {s : Shared} {K : Frag} {mg : Str → Option Value} {nm ql : Str} {C fI : Addr} {B newId initId : String} {bmB : List Value}
theorem made (T : Tx K mg nm ql C fI B newId initId bmB) {v u : Value} (X : K.In s.heap) (hlim : s.heap.NoLimit) (hroom : A.depth + 1 < recursionLimit) (hq : ∀ h' tk e d, Made s.heap h' e C d v u → R (.ok (.ret (.ref e))) { s with heap := h', toks := tk }) :
    codeAny (model prog w) A (.call (.ref C) ⟨[v, u], []⟩) R s := by
  obtain ⟨n1, q, N, bs, bm, sn, sub, ab, col, dd, k0, k1, k2, k3, k5, hC, ln⟩ := T.cls
  obtain ⟨oc, od, doc, pm, an, cdv, ct, osl, p1, p2, p3, q1, q2, q3, q4, q5, q6, q7, q8, ho, hcd⟩ := T.fn
  have hcl : clsIn K C = some { name := n1, bases := bs, mro := .ref C :: bm, ns := N, qualname := q, hasDict := true, slotNames := sn, subclasses := sub, abstract := ab, collection := col, hasDel := false } := by
    unfold clsIn
    rw [hC]
  obtain ⟨hp, g, dr, tk, os⟩ := s
  have k : ∀ b o, hp.get? b = some o → ((hp.push (kdv_tup [v, u])).push (excO C hp.objs.size)).get? b = some o := fun b o e => Heap.get?_push_of_some _ (Heap.get?_push_of_some _ e)
  have hx : ((hp.push (kdv_tup [v, u])).push (excO C hp.objs.size)).get? (hp.objs.size + 1) = some (excO C hp.objs.size) := by heap_get
  refine mk_call T.base ln.mkl (X _ _ hC) (looks_findIn X T.iC) (fun self => bind_fn X self T.tC) (by rw [sizeLine_eq]; exact (by decide : 2 ≤ 16777216)) ?_
  have X1 := X.keeps k
  have lim1 : ((hp.push (kdv_tup [v, u])).push (excO C hp.objs.size)).NoLimit := hlim.keeps k
  have size1 : ((hp.push (kdv_tup [v, u])).push (excO C hp.objs.size)).objs.size = hp.objs.size + 1 + 1 := by rw [Heap.size_push, Heap.size_push]
  generalize (hp.push (kdv_tup [v, u])).push (excO C hp.objs.size) = h1 at k hx X1 lim1 size1 ⊢
  refine Att.call_fn (binds := [("self", .ref (hp.objs.size + 1)), ("lot", v), ("sums", u)]) X1 lim1 ho hcd hroom (BindsTo.of_eq (by first | rfl | with_unfolding_all rfl)) (by first | rfl | decide | with_unfolding_all rfl) (fun s₁ IC => ?_) rfl rfl rfl
  obtain ⟨h₁, tk₁, rfl⟩ := IC.toInCall.same
  have k1' : ∀ b o, h1.get? b = some o → h₁.get? b = some o := IC.toInCall.keep
  have hn := IC.toInCall.ns
  show wpAny _ _ (execs _ _) _ _ _
  refine wpAny_execs_cons (plainObj_wpAny_Assign_Attribute ?_)
  refine ldC (v := v) hn (by first | rfl | with_unfolding_all rfl | kernel_rfl) (ldC (v := .ref (hp.objs.size + 1)) hn (by first | rfl | with_unfolding_all rfl | kernel_rfl) ?_)
  refine set_plain (X1.keeps k1') (ox := excO C hp.objs.size) (od := none) ⟨k1' _ _ hx, rfl, rfl, trivial⟩ T.sa ?_
  refine err_first (X1.keeps k1') (k1' _ _ hx) hcl ln.own.obj ln.own.pass rfl rfl T.noA (fun h₃ tk₃ dx k₃ dn dne hx₃ hn₃ => ?_)
  show wpAny _ _ (execs _ _) _ _ _
  have z : h1.objs.size < h₁.objs.size := hn.lt
  have lt_ : ∀ {b : Addr} {o : Obj}, hp.get? b = some o → b ≠ hp.objs.size + 1 := fun {b o} e => Nat.ne_of_lt (Nat.lt_succ_of_lt (Heap.lt_size e))
  have X3 : K.In h₃ := fun a o e => k₃ a o (lt_ (X a o e)) (X1.keeps k1' a o e)
  have stay : ∀ {L : Addr} {m : Str → Option Value}, h₁.Ns L m → h₃.Ns L m := fun {L m} ns => by
    obtain ⟨o, es, n, e, dd, r⟩ := ns
    refine ⟨o, es, n, k₃ _ _ (fun z => ?_) e, dd, r⟩
    rw [z, k1' _ _ hx] at e
    cases e
    cases dd
  have hn3 := stay hn
  have hw : Within (fun y => if y = ("lot" : Str) then some v else none) ["lot"] := fun y hy => by
    by_cases e : y = "lot"
    · rw [e]
      exact List.mem_cons_self
    · exact absurd (if_neg e) hy
  obtain ⟨oD, eD, pD, gD, _, _⟩ := hn₃.count hw
  refine wpAny_execs_cons (plainObj_wpAny_Assign_Attribute ?_)
  refine ldC (v := u) hn3 (by first | rfl | with_unfolding_all rfl | kernel_rfl) (ldC (v := .ref (hp.objs.size + 1)) hn3 (by first | rfl | with_unfolding_all rfl | kernel_rfl) ?_)
  refine set_plain X3 (ox := { cls := .ref C, dict := some dx, data := .fields #[.ref hp.objs.size, .none, .none, .none, .bool false, .none] }) (od := some oD) ⟨hx₃, rfl, rfl, gD⟩ T.sa ?_
  refine err_next X3 hx₃ hn₃ hw (by decide) hcl ln.own.obj ln.own.pass rfl rfl T.noB (fun h₄ tk₄ k₄ hn₄ => ?_)
  show wpAny _ _ (execs _ _) _ _ _
  have dn' : h₁.objs.size ≤ dx := dn
  have dn2 : hp.objs.size ≤ dx := by
    show hp.objs.size ≤ dx
    omega
  refine wpAny_execs_nil ⟨rfl, hq h₄ tk₄ (hp.objs.size + 1) dx ⟨fun b o e => k₄ b o (Nat.ne_of_lt (Nat.lt_of_lt_of_le (Heap.lt_size e) dn2)) (k₃ b o (lt_ e) (k1' b o (k b o e))), Nat.le_succ _, ⟨_, _, k₄ _ _ (Ne.symm dne) hx₃, rfl, rfl, rfl, rfl⟩, dn2, dne, hn₄⟩⟩
end
end Er_lot_sums
section
variable {X : Cx} {nm ql : Str} {C fI : Addr} {B newId initId : String} {bmB : List Value}
theorem relO_lot_sums {v u : V} {v' u' : Value} (r : RelV v v') (r2 : RelV u u') (f : Str) : RelO (List.lookup f [(("sums" : Str), u), (("lot" : Str), v)]) (if f = "sums" then some u' else if f = "lot" then some v' else none) := by
  by_cases h1 : f = "sums"
  · subst h1
    rw [if_pos rfl]
    have q : List.lookup ("sums" : Str) [(("sums" : Str), u), (("lot" : Str), v)] = some u := by simp [List.lookup]
    rw [q]
    exact r2
  · rw [if_neg h1]
    have q1 : (f == ("sums" : Str)) = false := by simpa using h1
    by_cases h2 : f = "lot"
    · subst h2
      rw [if_pos rfl]
      have q : List.lookup ("lot" : Str) [(("sums" : Str), u), (("lot" : Str), v)] = some v := by simp [List.lookup, q1]
      rw [q]
      exact r
    · rw [if_neg h2]
      have q2 : (f == ("lot" : Str)) = false := by simpa using h2
      have q : List.lookup f [(("sums" : Str), u), (("lot" : Str), v)] = none := by simp [List.lookup, q1, q2]
      rw [q]
      trivial
/-- nm(e, f) as a value -/
def tVal_lot_sums (C : Addr) (ta : TA) : TE := fun σ H Q => ta σ H fun vs H1 => ∃ v u, vs = [v, u] ∧ ∀ e d, H1 e = none → H1 d = none → d ≠ e → Q (.ref e) (upd (upd H1 d (.xd [(("sums" : Str), u), (("lot" : Str), v)])) e (ExH (.ref C) (some d) e))
theorem pe_val_lot_sums {a b : Expr} {ta : TA} {p pos : Pos} {k : Nat} (T : Er_lot_sums.Tx X.K X.mg nm ql C fI B newId initId bmB) (hr : Room k X.A) (ha : PA X [a, b] ta) (hg : Gl X nm := by rfl) (hdb : (nm == ("__debug__" : Str)) = false := by decide)
    (he : starEach (a :: [b]) X.env = (false, eval a X.env) :: starEach [b] X.env := by rfl) (hpl : (backTo pos (starEach [b] X.env)).any (·.1) = false := by rfl) :
    PE X (.Call (.Name nm p) [a, b] [] pos) (tVal_lot_sums C ta) := by
  constructor
  intro pins s σ H Q I h
  refine wpAny_Call_Name_kw (ld_glob I hg T.gC ?_ hdb)
  refine PySem.W.callWith_K (h₀ := X.base) I.ok.mod.kin T.kC (thn (ha.run pos pins s σ H _ I h) fun us s1 hh => ?_) he hpl
  obtain ⟨vs, H1, I1, r1, v, u, ev, q1⟩ := hh
  subst ev
  refine ⟨I1.kIn, ?_⟩
  obtain ⟨v', u', rfl, rv, ru⟩ := vals2 r1
  show wpAny _ _ (call (.ref C) [v', u']) _ _ _
  have hlim := I1.nolimit
  obtain ⟨hp, g, dr, tk, os⟩ := s1
  refine wpAny_call (Er_lot_sums.made T I1.kIn hlim (by have := hr.dp; omega) fun h' tk' e d M => ?_)
  obtain ⟨oe, fv, hoe, hc, hd, hdat, h1⟩ := M.obj
  have hns := M.ns
  obtain ⟨G', g1, g2⟩ := restrict h' fun b => decide (b ≠ e)
  have gk : ∀ b, b ≠ e → G'.get? b = h'.get? b := fun b hb => g1 b (decide_eq_true hb)
  have ge : G'.get? e = none := g2 e (by simp)
  have old : ∀ b o, hp.get? b = some o → G'.get? b = some o := fun b o q => (gk b (Nat.ne_of_lt (Nat.lt_of_lt_of_le (Heap.lt_size q) M.new))).trans (M.keep b o q)
  have ob : ObjOk X.prog X.w (upd H1 d (.xd [(("sums" : Str), u), (("lot" : Str), v)])) G' d (.xd [(("sums" : Str), u), (("lot" : Str), v)]) :=
    ⟨_, hns.at (fun o q => (gk d M.dne).trans q), fun f => relO_lot_sums rv ru f⟩
  have J : L2.Inv X pins σ (upd H1 d (.xd [(("sums" : Str), u), (("lot" : Str), v)])) ⟨G', g, dr, tk', os⟩ := I1.laid (t' := tk') old M.dbig ob
  have fe : H1 e = none := I1.hok.fresh M.new
  have fd : H1 d = none := I1.hok.fresh M.dbig
  have J2 : L2.Inv X pins σ (upd (upd H1 d (.xd [(("sums" : Str), u), (("lot" : Str), v)])) e (ExH (.ref C) (some d) e)) ⟨h', g, dr, tk', os⟩ := J.laidN (h' := h') (t' := tk') (fun b u q => by
    by_cases hb : b = e
    · have q' : G'.get? b = some u := q
      rw [hb, ge] at q'
      cases q'
    · exact (gk b hb).symm.trans q) ge (by rw [upd_ne (Ne.symm M.dne)]; exact fe) (held_ok hoe ⟨hc, hd⟩ hdat)
  exact ⟨.ref e, _, J2, rfl, q1 e d fe fd M.dne⟩
end
end Pk
namespace Pk
open PySem PySem.Spec L2
/-! ### data as texts: str(x), repr(x), {x!s}, {x!r} -/
def dStr : PyData → Str
  | .str z => z
  | d => d.shown
/-- data that can be told -/
structure Told (K : PySem.W.Frag) (H : Hp) (x : V) (d : PyData) : Prop where
  dp : Dp K H x d
  nd : d.hasDict = false
  sh : d.showable = true
  de : d.depth ≤ 60
  sz : d.shown.length ≤ 100000
  st : (dStr d).length ≤ 100000
section
variable {X : Cx} {e : Expr} {te : TE} {pos : Pos}
theorem le_line {n : Nat} (h : n ≤ 100000) : n ≤ sizeLine := by
  rw [sizeLine_eq]
  omega
theorem fmt_fin {pins : List (Addr × Obj)} {σ : L2.St} {H : Hp} {s : Shared} {Q : VK} {z : Str} (I : L2.Inv X pins σ H s) (hz : z.length ≤ sizeLine) (q : Q (.str z) H) (t : Tok) : wpAny (model X.prog X.w) X.A (formatField (.str z t) Str.empty) (EP X pins σ Q) X.xe s :=
  wpAny_formatField_str ⟨.str z, H, I, ⟨_, rfl⟩, q⟩ ⟨.str z, H, I.tok _, ⟨_, rfl⟩, q⟩ hz
def tTellS (K : PySem.W.Frag) (te : TE) : TE := fun σ H Q => te σ H fun x H1 => ∃ d, Told K H1 x d ∧ Q (.str (dStr d)) H1
def tTellR (K : PySem.W.Frag) (te : TE) : TE := fun σ H Q => te σ H fun x H1 => ∃ d, Told K H1 x d ∧ Q (.str d.shown) H1
/-- {x!s} -/
theorem pe_fmtSD (calm : Calm X.A) (hu : X.A.units + 70 < cLine) (he : PE X e te) : PE X (.FormattedValue e 115 none pos) (tTellS X.K te) := by
  constructor
  intro pins s σ H Q I h
  refine wpAny_FormattedValue_s (thn (he.run pins s σ H _ I h) ?_)
  rintro v s1 ⟨x, H1, I1, r1, d, T, q⟩
  have hz := le_line T.st
  obtain ⟨as, rd⟩ := Dp.reads I1 d x v T.dp r1
  have big : ∀ {a : Addr}, v = .ref a → dStr d = d.shown → wpAny (model X.prog X.w) X.A (convS v) (fun r s₂ => wpAny (model X.prog X.w) X.A (formatField r Str.empty) (EP X pins σ Q) X.xe s₂) X.xe s1 := fun {a} e e2 => by
    subst e
    refine convS_of_reads rd T.sh (fun z => by rw [T.nd] at z; cases z) calm (by have := T.de; omega) (fun _ _ z => z) (fun h' u tk keep => ?_) (le_line T.sz)
    refine fmt_fin (H := H1) (I1.kept keep) (le_line T.sz) ?_ u
    rw [← e2]
    exact q
  cases hd : T.dp with
  | non =>
    cases r1
    exact pyStrObj_none (fmt_fin (I1.tok _) hz q _)
  | bl b =>
    cases r1
    exact pyStrObj_bool (fmt_fin (I1.tok _) hz q _)
  | int i =>
    obtain ⟨t, rfl⟩ := r1
    exact pyStrObj_int (of_decide_eq_true T.sh) (fmt_fin (I1.tok _) hz q _)
  | str y =>
    obtain ⟨t, rfl⟩ := r1
    exact wpAny_habitSame_str (fmt_fin I1 hz q _) (fmt_fin (I1.tok _) hz q _)
  | lst h1 h2 =>
    cases r1
    exact big rfl rfl
  | tup h1 h2 =>
    cases r1
    exact big rfl rfl
/-- {x!r} -/
theorem pe_fmtRD (calm : Calm X.A) (hu : X.A.units + 70 < cLine) (he : PE X e te) : PE X (.FormattedValue e 114 none pos) (tTellR X.K te) := by
  constructor
  intro pins s σ H Q I h
  refine wpAny_FormattedValue_repr (thn (he.run pins s σ H _ I h) ?_)
  rintro v s1 ⟨x, H1, I1, r1, d, T, q⟩
  have hz := le_line T.sz
  obtain ⟨as, rd⟩ := Dp.reads I1 d x v T.dp r1
  have big : ∀ {a : Addr}, v = .ref a → wpAny (model X.prog X.w) X.A (pyReprObj v) (fun r s₂ => wpAny (model X.prog X.w) X.A (formatField r Str.empty) (EP X pins σ Q) X.xe s₂) X.xe s1 := fun {a} e => by
    subst e
    exact pyReprObj_of_reads rd T.sh (fun z => by rw [T.nd] at z; cases z) calm (by have := T.de; omega) (fun _ _ z => z) (fun h' u tk keep => fmt_fin (H := H1) (I1.kept keep) hz q u) hz
  cases hd : T.dp with
  | non =>
    cases r1
    exact wpAny_pyReprObj_gives (typeIs_none _) F.slot_NoneType_repr F.entry_NoneType_repr (F.args_NoneType_repr_1 _) gives_none_repr (fmt_fin (I1.tok _) hz q _)
  | bl b =>
    cases r1
    exact wpAny_pyReprObj_gives (typeIs_bool _ b) F.slot_bool_repr F.entry_bool_repr (F.args_bool_repr_1 _) (gives_bool_repr b) (fmt_fin (I1.tok _) hz q _)
  | int i =>
    obtain ⟨t, rfl⟩ := r1
    exact pyReprObj_int (of_decide_eq_true T.sh) (fmt_fin (I1.tok _) hz q _)
  | str y =>
    obtain ⟨t, rfl⟩ := r1
    exact wpAny_pyReprObj_str (fmt_fin (I1.tok _) hz q _) hz
  | lst h1 h2 =>
    cases r1
    exact big rfl
  | tup h1 h2 =>
    cases r1
    exact big rfl
/-- str(x) -/
def rStrD (K : PySem.W.Frag) : List V → Hp → VK → Prop := fun xs H Q => ∃ x d, xs = [x] ∧ Told K H x d ∧ Q (.str (dStr d)) H
theorem call_strD (calm : Calm X.A) (hu : X.A.units + 70 < cLine) : CallR X (.type "str") (rStrD X.K) := by
  rintro pins s σ H xs us Q I r ⟨x, d, rfl, T, q⟩
  obtain ⟨u, rfl, rx⟩ := vals1 r
  obtain ⟨as, rd⟩ := Dp.reads I d x u T.dp rx
  have big : ∀ {a : Addr}, u = .ref a → dStr d = d.shown → wpAny (model X.prog X.w) X.A (call (.type "str") [u]) (EP X pins σ Q) X.xe s := fun {a} e e2 => by
    subst e
    refine str_of_reads rd T.sh (fun z => by rw [T.nd] at z; cases z) calm (by have := T.de; omega) (fun _ _ z => z) (fun h' u tk keep => ⟨.str d.shown, H, I.kept keep, ⟨_, rfl⟩, ?_⟩) (le_line T.sz)
    rw [← e2]
    exact q
  cases hd : T.dp with
  | non =>
    cases rx
    exact P.str_of_none ⟨.str "None", H, I.tok _, ⟨_, rfl⟩, q⟩
  | bl b =>
    cases rx
    exact P.str_of_bool ⟨.str (if b then "True" else "False"), H, I.tok _, ⟨_, rfl⟩, q⟩
  | int i =>
    obtain ⟨t, rfl⟩ := rx
    exact P.str_of_int (of_decide_eq_true T.sh) ⟨.str (toString i), H, I.tok _, ⟨_, rfl⟩, q⟩
  | str y =>
    obtain ⟨t, rfl⟩ := rx
    exact P.str_of_str ⟨.str y, H, I, ⟨_, rfl⟩, q⟩
  | lst h1 h2 =>
    cases rx
    exact big rfl rfl
  | tup h1 h2 =>
    cases rx
    exact big rfl rfl
/-- an error without a field of its own, as a value -/
theorem pe_plainErr {C : Addr} {bmB : List Value} {B newId initId : String} {x : Str} {e : Expr} {ta : TE} {p pos : Pos} (F : ExcBaseFacts B newId initId bmB) (q : PySem.W.excIn X.K C bmB newId = true) (gC : X.mg x = some (.ref C)) (kC : PySem.W.keepIn X.K (.ref C) = true) (hg : Gl X x)
    (he : PE X e ta) (hs : starEach [e] X.env = (false, eval e X.env) :: starEach [] X.env := by rfl) (hdb : (x == ("__debug__" : Str)) = false := by decide) :
    PE X (.Call (.Name x p) [e] [] pos) (fun σ H Q => ta σ H fun _ H1 => ∀ a, H1 a = none → Q (.ref a) (upd H1 a (ExH (.ref C) none a))) := by
  constructor
  intro pins s σ H Q I h
  refine wpAny_Call_Name_kw (ld_glob I hg gC (PySem.W.callWith_K (h₀ := X.base) I.ok.mod.kin kC ?_ hs (by rfl)) hdb)
  rw [hs]
  show wpAny _ _ (spliced ((false, eval e X.env) :: backTo pos (starEach [] X.env))) _ _ s
  refine Calls.spliced_cons (thn (he.run pins s σ H _ I h) ?_)
  rintro u s1 ⟨v, H1, I1, r1, q1⟩
  refine Calls.spliced_nil ⟨I1.kIn, ?_⟩
  show wpAny _ _ (call (.ref C) [u]) _ _ _
  obtain ⟨bm, N, nm, qn, bs, hdct, sn, sub, ab, col, dd, k0, k1, k2, k3, k5, mN, hC, hN, hni, T⟩ := exc_obj I1.kIn q
  refine wpAny_call_exc_subT F T hC hN hni (fun h' a hm => ?_) (by rw [sizeLine_eq]; show 1 ≤ 16777216; decide)
  have hn : H1 a = none := I1.hok.gone hm.new
  obtain ⟨t, ht, _, _⟩ := hm.there
  exact ⟨.ref a, _, I1.laidN hm.keeps hm.new hn (held_ok ht ⟨rfl, rfl⟩ rfl), rfl, q1 a hn⟩
end
section
variable {X : Cx} {k : Nat} {f C : Addr} {fd : FuncData} {sp : Sp} {e : Expr} {te : TE} {p pos : Pos}
/-- str(e), e a kept error whose class says how it is told, by a def that may show -/
theorem pe_strErrG (F : FnG X.prog X.w X.K X.mg X.base CX0 k f fd ["self"] sp) (calm : Calm X.A) (hr : Room (k + 2) X.A) (hs : PySem.W.findIn X.K (.ref C) "__str__" = some (some (.ref f))) (hf : PySem.W.isFn X.K (.ref f) = true) (hb : Binds X.K fd ["self"] []) (hg : Gl X "str") (hm : X.mg "str" = none) (he : PE X e te)
    (na : starEach [e] X.env = (false, eval e X.env) :: starEach [] X.env := by rfl) : PE X (.Call (.Name "str" p) [e] [] pos) (tStrErr C sp te) := by
  constructor
  intro pins s σ H Q I h
  refine PyProof.Rows.Call_ (ld_blt I hg hm PyProof.Rows.boot_str ?_)
  refine PyProof.Rows.callWith_type1 (PyProof.Rows.args_cons (thn (he.run pins s σ H _ I h) ?_) na) na rfl
  rintro v s1 ⟨x, H1, I1, r1, a, d, rfl, ha, hd, q⟩
  cases (show v = Value.ref a from r1)
  obtain ⟨oe, od, J, -⟩ := held_at I1 ha hd
  refine PyProof.Rows.args_nil (PySem.W.kso_call (by have := hr.un; show X.A.in1.in1.units < cLine; have e1 := (hr.in1.in1).un; omega) I1.kIn J hs hf ?_)
  refine wpAny_call (codeAny_mono (F.go X.A.in1.in1 (show Calm X.A.in1.in1 from calm) hr.in1.in1 X.stack s1 H1 ⟨[.ref a], []⟩ [.ref a] [.ref a] _ E0 I1.env0.in1.in1 (hb s1 [.ref a] I1.kIn rfl) (.cons rfl .nil) q) fun r s' hq => ?_)
  match r, hq with
  | .error e, hq => exact hq.elim
  | .ok .next, hq => exact hq.elim
  | .ok .brk, hq => exact hq.elim
  | .ok .cont, hq => exact hq.elim
  | .ok (.ret u), hq =>
    obtain ⟨v, H2, I2, rv, ⟨z, rfl⟩, q2⟩ := I1.after hq
    obtain ⟨t, rfl⟩ := rv
    exact ⟨.str z, H2, I2, ⟨t, rfl⟩, q2⟩
end
end Pk
namespace Pk
open PySem L2
theorem ShowsL.intW {K : PySem.W.Frag} {H : Hp} {L : List V} {ds : List PyData} {n k : Nat} {i : Int} (hl : i.natAbs.log2 < 1920) (h : ShowsL K H L ds n k) : ShowsL K H (.int i :: L) (.int i :: ds) (n + 1923) k where
  dp := .cons (.int i) h.dp
  sh := by
    have e : PyData.showable (.int i) = true := decide_eq_true hl
    simp [PyData.showableAll, e, h.sh]
  de := by
    have := h.de
    simp [PyData.depthAll, PyData.depth]
    omega
  nd := by simp [PyData.hasDictAll, PyData.hasDict, h.nd]
  sz := by
    have h1 := h.sz
    have h2 := int_text_length_le (k := 1920) (by decide) hl
    have e : (PyData.int i).shown = Str.ofString (toString i) := by simp [PyData.shown]
    have e2 : ((PyData.shownAll (.int i :: ds)).map fun t => t.length + 2).sum = ((PyData.int i).shown.length + 2) + ((PyData.shownAll ds).map fun t => t.length + 2).sum := by simp [PyData.shownAll]
    rw [e2, e, ofString_length]
    omega
theorem ShowsL.allL {K : PySem.W.Frag} {H : Hp} {L : List V} {ds : List PyData} {n k : Nat} {t : Addr} (h : ShowsL K H L ds n k) (ht : H t = some (.lst L)) (hn : n ≤ 100000) (hk : k ≤ 60) : Shows K H (.ref t) (.list ds) where
  dq := .of (.lst (SqL.of ht) h.dp) (by simp [PyData.hasDict, h.nd])
  sh := by simp [PyData.showable, h.sh]
  dp := by
    have := h.de
    simp [PyData.depth]
    omega
  sz := by
    have h1 := h.sz
    have h3 := list_le (PyData.shownAll ds)
    have e : (PyData.list ds).shown = listText (PyData.shownAll ds) := by simp [PyData.shown]
    rw [e, sizeLine_eq]
    omega
/-- numbers up to 999 as texts -/
theorem mid_ne {i : Int} (h0 : 0 ≤ i) (h9 : i ≤ 999) : Str.ofString (toString i) ≠ "" := by
  obtain ⟨n, rfl⟩ := Int.eq_ofNat_of_zero_le h0
  have h : ∀ n : Fin 1000, Str.ofString (toString ((n : Nat) : Int)) ≠ "" := by decide +kernel
  exact h ⟨n, by omega⟩
theorem told_int {K : PySem.W.Frag} {H : Hp} {i : Int} (h0 : 0 ≤ i) (h9 : i ≤ 999) : Told K H (.int i) (.int i) := by
  have hl : i.natAbs.log2 < 1920 := Nat.lt_of_le_of_lt (Nat.log2_le_self _) (by omega)
  have h2 := int_text_length_le (k := 1920) (by decide) hl
  have e : (PyData.int i).shown = Str.ofString (toString i) := by simp [PyData.shown]
  refine ⟨.int i, by simp [PyData.hasDict], decide_eq_true hl, by simp [PyData.depth], ?_, ?_⟩
  · rw [e, ofString_length]
    omega
  · show (PyData.int i).shown.length ≤ 100000
    rw [e, ofString_length]
    omega
end Pk
/-! ### how lists in lists, and dicts of texts and numbers, are shown -/
namespace Pk
open PySem L2
section
variable {K : PySem.W.Frag} {H : Hp} {L : List V} {ds : List PyData} {n k : Nat}
theorem ShowsL.lst {a : Addr} {L2 : List V} {ds2 : List PyData} {n2 k2 : Nat} (ha : H a = some (.lst L2)) (g : ShowsL K H L2 ds2 n2 k2) (hk : k2 + 1 ≤ k) (h : ShowsL K H L ds n k) : ShowsL K H (.ref a :: L) (.list ds2 :: ds) (n + n2 + 5) k where
  dp := .cons (.lst (SqL.of ha) g.dp) h.dp
  sh := by simp [PyData.showableAll, PyData.showable, g.sh, h.sh]
  de := by
    have := h.de
    have := g.de
    simp [PyData.depthAll, PyData.depth]
    omega
  nd := by simp [PyData.hasDictAll, PyData.hasDict, g.nd, h.nd]
  sz := by
    have h1 := h.sz
    have h2 := g.sz
    have h3 := list_le (PyData.shownAll ds2)
    simp [PyData.shownAll, PyData.shown]
    omega
theorem ShowsL.non (h : ShowsL K H L ds n k) : ShowsL K H (.non :: L) (.none :: ds) (n + 6) k where
  dp := .cons .non h.dp
  sh := by simp [PyData.showableAll, PyData.showable, h.sh]
  de := by
    have := h.de
    simp [PyData.depthAll, PyData.depth]
    omega
  nd := by simp [PyData.hasDictAll, PyData.hasDict, h.nd]
  sz := by
    have h1 := h.sz
    have h2 : (PyData.none).shown.length = 4 := by decide +kernel
    have e2 : ((PyData.shownAll (.none :: ds)).map fun t => t.length + 2).sum = ((PyData.none).shown.length + 2) + ((PyData.shownAll ds).map fun t => t.length + 2).sum := by simp [PyData.shownAll]
    rw [e2, h2]
    omega
theorem ShowsL.allX {t : Addr} (h : ShowsL K H L ds n k) (ht : H t = some (.lst L)) (hn : n ≤ 10000000) (hk : k ≤ 60) : Shows K H (.ref t) (.list ds) where
  dq := .of (.lst (SqL.of ht) h.dp) (by simp [PyData.hasDict, h.nd])
  sh := by simp [PyData.showable, h.sh]
  dp := by
    have := h.de
    simp [PyData.depth]
    omega
  sz := by
    have h1 := h.sz
    have h3 := list_le (PyData.shownAll ds)
    have e : (PyData.list ds).shown = listText (PyData.shownAll ds) := by simp [PyData.shown]
    rw [e, sizeLine_eq]
    omega
theorem ShowsL.allT {t : Addr} (h : ShowsL K H L ds n k) (ht : H t = some (.tup L)) (hn : n ≤ 10000000) (hk : k ≤ 60) : Shows K H (.ref t) (.tuple ds) where
  dq := .of (.tup (SqT.of ht) h.dp) (by simp [PyData.hasDict, h.nd])
  sh := by simp [PyData.showable, h.sh]
  dp := by
    have := h.de
    simp [PyData.depth]
    omega
  sz := by
    have h1 := h.sz
    have h3 := tup_le (PyData.shownAll ds)
    have e : (PyData.tuple ds).shown = tupleText (PyData.shownAll ds) := by simp [PyData.shown]
    rw [e, sizeLine_eq]
    omega
theorem ShowsL.strs : ∀ {zs : List Str}, (∀ z ∈ zs, z.length ≤ 100 ∧ Sgn z) → ShowsL K H (zs.map V.str) (zs.map .str) (1004 * zs.length) k
  | [], _ => .nil
  | z :: r, h => by
    have ih := ShowsL.strs (zs := r) fun y hy => h y (List.mem_cons_of_mem _ hy)
    have e : 1004 * (z :: r).length = 1004 * r.length + 1004 := by rw [List.length_cons]; omega
    rw [e]
    exact ShowsL.str (h z List.mem_cons_self).1 (h z List.mem_cons_self).2 ih
theorem ShowsL.ints : ∀ {ns : List Int}, (∀ i ∈ ns, i.natAbs.log2 < 1920) → ShowsL K H (ns.map V.int) (ns.map .int) (1923 * ns.length) k
  | [], _ => .nil
  | z :: r, h => by
    have ih := ShowsL.ints (ns := r) fun y hy => h y (List.mem_cons_of_mem _ hy)
    have e : 1923 * (z :: r).length = 1923 * r.length + 1923 := by rw [List.length_cons]; omega
    rw [e]
    exact ShowsL.intW (h z List.mem_cons_self) ih
end
/-! ### dicts of texts and numbers -/
def tiKv (ps : List (Str × Int)) : List (Key × V) := ps.map fun p => (.inr p.1, .int p.2)
def tiD (ps : List (Str × Int)) : PyData := .dict (ps.map fun p => (.str p.1, .int p.2))
section
variable {X : Cx}
theorem ti_reads {P : Program} {w : World} {h : Heap} : ∀ {ps : List (Str × Int)} {vs : List (Key × Value)} {es : List DictEntry}, KV (tiKv ps) vs → Pairs (mixKind P w) es vs →
    ReadsAll h (es.map (·.key)) ((ps.map fun p => ((.str p.1, .int p.2) : PyData × PyData)).map (·.1)) [] ∧ ReadsAll h (es.map (·.val)) ((ps.map fun p => ((.str p.1, .int p.2) : PyData × PyData)).map (·.2)) []
  | [], vs, es, r, q => by
    cases r
    cases q
    exact ⟨.nil, .nil⟩
  | p :: ps, vs, es, r, q => by
    cases r with
    | cons h1 t =>
      cases q with
      | cons k1 k2 k3 =>
        rename_i y ys e es'
        obtain ⟨a1, a2⟩ := ti_reads t k3
        obtain ⟨h11, h12⟩ := h1
        have hk : y.1 = Sum.inr p.1 := h11.symm
        rw [hk] at k1
        rcases keyIs_shape (show keyIs (Sum.inr p.1) e.key = true from k1) with ⟨i, t, z, _⟩ | ⟨x, t, z, e1⟩
        · cases z
        · cases z
          obtain ⟨t2, h12⟩ := (show RelV (.int p.2) y.2 from h12)
          refine ⟨?_, ?_⟩
          · show ReadsAll h (e.key :: _) _ ([] ++ [])
            rw [e1]
            exact .cons (.str _ _) a1
          · show ReadsAll h (e.val :: _) _ ([] ++ [])
            rw [k2, h12]
            exact .cons (.int _ _) a2
theorem ti_show : ∀ ps : List (Str × Int), (∀ p ∈ ps, p.2.natAbs.log2 < 1920) → PyData.showableKv (ps.map fun p => ((.str p.1, .int p.2) : PyData × PyData)) = true
  | [], _ => by simp [PyData.showableKv]
  | p :: r, h => by
    have e : PyData.showable (.int p.2) = true := decide_eq_true (h p List.mem_cons_self)
    simp [PyData.showableKv, PyData.showable, ti_show r fun y hy => h y (List.mem_cons_of_mem _ hy), h p List.mem_cons_self]
theorem ti_depth : ∀ ps : List (Str × Int), PyData.depthKv (ps.map fun p => ((.str p.1, .int p.2) : PyData × PyData)) = 0
  | [] => by simp [PyData.depthKv]
  | p :: r => by simp [PyData.depthKv, PyData.depth, ti_depth r]
theorem ti_sum : ∀ ps : List (Str × Int), (∀ p ∈ ps, p.1.length ≤ 100 ∧ Sgn p.1 ∧ p.2.natAbs.log2 < 1920) → ((PyData.shownKv (ps.map fun p => ((.str p.1, .int p.2) : PyData × PyData))).map fun t => t.length + 2).sum ≤ 3000 * ps.length
  | [], _ => by simp [PyData.shownKv]
  | p :: r, h => by
    have ih := ti_sum r fun y hy => h y (List.mem_cons_of_mem _ hy)
    obtain ⟨h1, h2, h3⟩ := h p List.mem_cons_self
    have a1 := repr_le h1 h2
    have a2 := int_text_length_le (k := 1920) (by decide) h3
    have e : (PyData.int p.2).shown = Str.ofString (toString p.2) := by simp [PyData.shown]
    have e2 : (PyData.str p.1).shown = reprText p.1 := by simp [PyData.shown]
    have e3 : ((PyData.shownKv ((p :: r).map fun p => ((.str p.1, .int p.2) : PyData × PyData))).map fun t => t.length + 2).sum = (((PyData.str p.1).shown ++ ": " ++ (PyData.int p.2).shown).length + 2) + ((PyData.shownKv (r.map fun p => ((.str p.1, .int p.2) : PyData × PyData))).map fun t => t.length + 2).sum := by simp [PyData.shownKv]
    rw [e3, e, e2, app_len, app_len, show ((": " : String) : Str).length = 2 by decide +kernel, ofString_length, List.length_cons]
    omega
/-- repr(d) -/
def rShowT : List V → Hp → VK → Prop := fun xs H Q => ∃ (a : Addr) (ps : List (Str × Int)), xs = [.ref a] ∧ H a = some (.dK (tiKv ps)) ∧ (∀ p ∈ ps, p.1.length ≤ 100 ∧ Sgn p.1 ∧ p.2.natAbs.log2 < 1920) ∧ ps.length ≤ 1000 ∧ Q (.str (tiD ps).shown) H
theorem call_showT (calm : Calm X.A) (hu : X.A.units + 70 < cLine) : CallR X (.builtin "repr") rShowT := by
  rintro pins s σ H xs us Q I r ⟨a, ps, rfl, ha, hb, hl, q⟩
  obtain ⟨u, rfl, rx⟩ := vals1 r
  cases rx
  obtain ⟨_, ns, vs, kv, o, es, ep, h1, h2, h3, h4, h5, h6⟩ := I.hok a _ ha
  obtain ⟨r1, r2⟩ := ti_reads (h := s.heap) kv h5
  have rd : Reads s.heap (.ref a) (tiD ps) (a :: [] ++ []) := .dict h1 h2.1 h3 r1 r2
  have hsz : (tiD ps).shown.length ≤ sizeLine := by
    have e : (tiD ps).shown = dictText (PyData.shownKv (ps.map fun p => ((.str p.1, .int p.2) : PyData × PyData))) := by simp [tiD, PyData.shown]
    have j := join_le (PyData.shownKv (ps.map fun p => ((.str p.1, .int p.2) : PyData × PyData)))
    have t := ti_sum ps hb
    rw [e]
    unfold dictText
    rw [app_len, app_len, show (("{" : String) : Str).length = 1 by decide +kernel, show (("}" : String) : Str).length = 1 by decide +kernel, sizeLine_eq]
    omega
  have hd : (tiD ps).depth ≤ 1 := by
    have := ti_depth ps
    simp [tiD, PyData.depth]
    omega
  refine repr_of_reads' rd (by simp only [tiD, PyData.showable]; exact ti_show ps fun p hp => (hb p hp).2.2) (fun _ hm => ?_) calm (by omega) (fun _ _ z => z) (fun h' t tk keep => ⟨.str (tiD ps).shown, H, I.kept keep, ⟨_, rfl⟩, q⟩) hsz
  rw [List.append_nil, List.mem_singleton] at hm
  rw [hm, beq_self_eq_true] at ns
  cases ns
end
end Pk
/-! ### two dicts compared, whose values are compared by an own ==, or as data -/
namespace DQ
open PySem PySem.W PyProof.Rows PySem.Spec
section
variable {prog : Program} {w : World} {K : Type} [DecidableEq K] {knd : KeyKind prog w K} {A : Around} {E : Value → Shared → Prop} {s : Shared}
def good (kb : List (K × Value)) (e : K → Bool) (p : K × Value) : Bool := (valueAt kb p.1).isSome && e p.1
/-- the two dicts stand as they are while what is J holds, and each two values are told equal, or not -/
structure TwoJ (prog : Program) (w : World) (A : Around) (E : Value → Shared → Prop) (a b : Addr) (oa ob : Obj) (ka kb : List (K × Value)) (e : K → Bool) (J : Shared → Prop) : Prop where
  a_ : ∀ s, J s → s.heap.get? a = some oa
  b_ : ∀ s, J s → s.heap.get? b = some ob
  eq_ : ∀ k v y, (k, v) ∈ ka → valueAt kb k = some y → ∀ s, J s → wpAny (model prog w) A (eqBool v y) (fun r s' => r = e k ∧ J s') E s
theorem samePairsJ {nm : String} {a b : Addr} {oa ob : Obj} {ka kb : List (K × Value)} {e : K → Bool} {J : Shared → Prop} {Q : Bool → Shared → Prop} (ha : (a == sysModules) = false) (hb : (b == sysModules) = false)
    (T : TwoJ prog w A E a b oa ob ka kb e J) (hs : J s) (da : s.heap.DictOf knd a ka) (db : s.heap.DictOf knd b kb) (h : ∀ s', J s' → Q (ka.length == kb.length && ka.all (good kb e)) s') :
    wpAny (model prog w) A (Builtin.Dict.samePairs nm a b) Q E s := by
  obtain ⟨oa', es, ep, hoa', _, hda, hka, hpa, _⟩ := da
  obtain ⟨ob', es', ep', hob', _, hdb, hkb, hpb, _⟩ := db
  have ea : oa' = oa := Option.some.inj (hoa'.symm.trans (T.a_ s hs))
  have eb : ob' = ob := Option.some.inj (hob'.symm.trans (T.b_ s hs))
  subst ea eb
  have hla : ka.length = es.size := by rw [← hpa.length]; exact Array.length_toList
  have hlb : kb.length = es'.size := by rw [← hpb.length]; exact Array.length_toList
  have hfind : ∀ k, findBy knd.is es' k = valueAt kb k := fun k => by
    rw [← hpb.find k]
    clear hlb hpb hkb hdb hob'
    obtain ⟨l⟩ := es'
    simp [findBy]
  rw [hla, hlb] at h
  unfold Builtin.Dict.samePairs Builtin.Dict.showsAll
  rw [if_neg (show ¬ (a == sysModules) = true by rw [ha]; exact Bool.false_ne_true), if_neg (show ¬ (b == sysModules) = true by rw [hb]; exact Bool.false_ne_true)]
  refine wpAny_bind (wpAny_pure (wpAny_bind (wpAny_pure ?_)))
  refine wpAny_bind (wpAny_dictEntries hoa' hda ?_)
  dsimp only
  refine wpAny_bind (wpAny_dictEntries hob' hdb ?_)
  by_cases hsz : es.size = es'.size
  case neg =>
    rw [if_pos (by simpa using hsz)]
    have hbf : (es.size == es'.size) = false := by simpa using hsz
    have h0 := h s hs
    rw [hbf, Bool.false_and] at h0
    exact wpAny_bind (wpAny_rule (wpAny_pure h0))
  case pos =>
    have h' : ∀ s', J s' → Q (ka.all (good kb e)) s' := fun s' j => by simpa [hsz] using h s' j
    rw [if_neg (by rw [hsz]; simp)]
    refine wpAny_bind (wpAny_dictEpoch hoa' hda ?_)
    refine wpAny_bind ?_
    rw [Std.Legacy.Range.forIn_eq_forIn_range']
    simp only [Std.Legacy.Range.size, Nat.sub_zero, Nat.add_sub_cancel, Nat.div_one]
    refine wpAny_forIn_list _
      (fun rest q s' => J s' ∧ q = (none, ()) ∧ ∃ i, rest = List.range' i (es.size - i) ∧ i ≤ es.size ∧ ka.all (good kb e) = (ka.drop i).all (good kb e))
      _ ?_ ?_ _ _ ⟨hs, rfl, 0, by simp, Nat.zero_le _, by simp⟩
    · rintro x rest q s' ⟨js, rfl, i, hr, hi, hpre⟩
      have hlt : i < es.size := by
        rcases Nat.lt_or_ge i es.size with h | h
        · exact h
        · rw [Nat.sub_eq_zero_of_le h] at hr; simp at hr
      obtain ⟨rfl, hrest⟩ : x = i ∧ rest = List.range' (i + 1) (es.size - (i + 1)) := by
        have e : es.size - i = (es.size - (i + 1)) + 1 := by omega
        rw [e, List.range'_succ] at hr
        injection hr with h1 h2
        exact ⟨h1, h2⟩
      refine wpAny_bind (wpAny_dictEntries (T.a_ s' js) hda ?_)
      rw [Array.getElem?_eq_getElem hlt]
      have hlt' : x < ka.length := by rw [hla]; exact hlt
      obtain ⟨k, v, hkv⟩ : ∃ k v, ka[x] = (k, v) := ⟨_, _, rfl⟩
      have hmem : (k, v) ∈ ka := by rw [← hkv]; exact List.getElem_mem hlt'
      have hdrop : ka.drop x = (k, v) :: ka.drop (x + 1) := by rw [← hkv]; exact List.drop_eq_getElem_cons hlt'
      obtain ⟨hkey, hval⟩ := hpa.get? (i := x) (e := es[x]) (k := k) (v := v) (by rw [Array.getElem?_toList]; exact Array.getElem?_eq_getElem hlt) (by rw [List.getElem?_eq_getElem hlt', hkv])
      obtain ⟨k', hk', hh⟩ := hka es[x] (Array.getElem_mem hlt)
      have ekk : k' = k := knd.inj _ _ _ hk' hkey
      rw [ekk] at hh
      rw [hdrop, List.all_cons] at hpre
      show wpAny _ _ (holding [es[x].key, es[x].val] _ >>= _) _ _ _
      rw [hh]
      refine wpAny_bind (wpAny_holding (wpAny_bind (wpAny_dictFind_of hkey (T.b_ s' js) hdb hkb ?_)))
      cases hj : es'.findIdx? fun e => knd.is k e.key with
      | none =>
        have hn : valueAt kb k = none := by rw [← hfind k, findBy_of_findIdx?, hj]
        have hg : good kb e (k, v) = false := by unfold good; rw [hn]; rfl
        rw [hg, Bool.false_and] at hpre
        refine wpAny_pure ?_
        show wpAny _ _ (if (!false) = true then _ else _) _ _ _
        rw [if_pos (by decide)]
        have z := h' s' js
        rw [hpre] at z
        exact wpAny_pure (wpAny_pure z)
      | some j =>
        obtain ⟨hjlt, _, _⟩ := Array.findIdx?_eq_some_iff_getElem.mp hj
        have hv' : valueAt kb k = some es'[j].val := by
          rw [← hfind k, findBy_of_findIdx?, hj]
          simp [Array.getElem?_eq_getElem hjlt]
        refine wpAny_bind (wpAny_dictEntries (T.b_ s' js) hdb ?_)
        rw [Array.getElem?_eq_getElem hjlt]
        have he := T.eq_ k v _ hmem hv' s' js
        rw [← hval] at he
        refine wpAny_holding (wpAny_mono he (fun r s2 hr2 => ?_) fun _ _ x => x)
        obtain ⟨rfl, j2⟩ := hr2
        have hg : good kb e (k, v) = e k := by unfold good; rw [hv']; rfl
        rw [hg] at hpre
        cases hek : e k with
        | false =>
          rw [hek, Bool.false_and] at hpre
          show wpAny _ _ (if (!false) = true then _ else _) _ _ _
          rw [if_pos (by decide)]
          have z := h' s2 j2
          rw [hpre] at z
          exact wpAny_pure (wpAny_pure z)
        | true =>
          rw [hek, Bool.true_and] at hpre
          show wpAny _ _ (if (!true) = true then _ else _) _ _ _
          rw [if_neg (by decide)]
          refine wpAny_bind (wpAny_dictEpoch (T.a_ s2 j2) hda ?_)
          rw [if_neg (by simp)]
          exact wpAny_pure ⟨j2, rfl, x + 1, hrest, hlt, hpre⟩
    · rintro q s' ⟨js, rfl, i, hr, hi, hpre⟩
      have hin : i = es.size := by
        rcases Nat.lt_or_ge i es.size with h | h
        · have e : es.size - i = (es.size - (i + 1)) + 1 := by omega
          rw [e, List.range'_succ] at hr; exact nomatch hr
        · exact Nat.le_antisymm hi h
      refine wpAny_pure ?_
      rw [hin, ← hla, List.drop_length] at hpre
      have z := h' s' js
      rw [hpre] at z
      exact z
theorem eqJ {a b : Addr} {oa ob : Obj} {ka kb : List (K × Value)} {e : K → Bool} {J : Shared → Prop} {Q : Value → Shared → Prop} (ha : (a == sysModules) = false) (hb : (b == sysModules) = false)
    (T : TwoJ prog w A.in1 E a b oa ob ka kb e J) (hs : J s) (da : s.heap.DictOf knd a ka) (db : s.heap.DictOf knd b kb) (hu : A.units < cLine) (h : ∀ s', J s' → Q (.bool (ka.length == kb.length && ka.all (good kb e))) s') :
    wpAny (model prog w) A (compareOp .Eq (.ref a) (.ref b)) Q E s := by
  refine wpAny_richCompare_same_room (op := .Eq) da.typeIs db.typeIs PySem.F.slot_dict_eq (wpAny_call_entry PySem.F.slot_dict_eq da.typeIs PySem.F.entry_dict_eq ?_ (PySem.F.args_dict_eq_2 _ _)) hu
  show wpAny _ _ (Builtin.Dict.dictSlotArgs "__eq__" ⟨[.ref a, .ref b], []⟩ >>= _) _ _ s
  refine wpAny_bind ?_
  unfold Builtin.Dict.dictSlotArgs
  refine wpAny_bind (wpAny_notOrdered_dict da.typeIs ?_)
  show wpAny _ _ (pure (Value.ref a, Value.ref b)) _ _ s
  refine wpAny_pure ?_
  refine wpAny_bind (wpAny_isInstance (T := "dict") db.typeIs PySem.F.sub_dict_dict ?_)
  simp only [Bool.not_true, Bool.false_eq_true, if_false]
  refine wpAny_bind (wpAny_pure (wpAny_bind (wpAny_pure ?_)))
  refine wpAny_bind (samePairsJ ha hb T hs da db fun s' js => ?_)
  refine wpAny_pure ⟨_, rfl, ?_, ?_⟩
  · exact fun x => nomatch x
  · simpa using h s' js
end
end DQ
namespace Pk
open PySem PySem.Spec L2
section
variable {X : Cx}
/-- two values are told equal, or not, with the heap G as it is -/
def EqV (X : Cx) (G : Hp) (x y : V) (e : Bool) : Prop := ∀ (pins : List (Addr × Obj)) (s : Shared) (σ : L2.St) (u v : Value), L2.Inv X pins σ G s → RelV x u → RelV y v → wpAny (model X.prog X.w) X.A.in1 (eqBool u v) (fun r s' => r = e ∧ L2.Inv X pins σ G s') X.xe s
theorem EqV.own {k : Nat} {C f x y : Addr} {fd : FuncData} {sp : Sp} {G : Hp} {e : Bool} (F : FnOk X.prog X.w X.K X.mg X.base CX0 k f fd ["self", "other"] sp) (hr : Room (k + 1) X.A) (hs : PySem.W.findIn X.K (.ref C) "__eq__" = some (some (.ref f))) (hf : PySem.W.isFn X.K (.ref f) = true) (hb : Binds X.K fd ["self", "other"] [])
    (h : EqOf C sp x y G e) : EqV X G (.ref x) (.ref y) e := fun pins s σ u v I ru rv => by
  cases ru
  cases rv
  exact eqB_own F hs hf hb (Sub.in1 ⟨hr, rfl⟩) I h X.xe
theorem EqV.str (G : Hp) (x y : Str) : EqV X G (.str x) (.str y) (decide (x = y)) := fun pins s σ u v I ru rv => by
  obtain ⟨t, rfl⟩ := ru
  obtain ⟨t', rfl⟩ := rv
  have z := SeqAt.EqAt.str_str (A := X.A.in1) (s := s) x t y t' X.prog X.w X.xe (fun r s' => r = decide (x = y) ∧ L2.Inv X pins σ G s')
  refine z ⟨?_, I⟩
  first
    | rfl
    | simp [PyData.eqv]
    | (rw [Bool.eq_iff_iff]; simp)
theorem EqV.data {G : Hp} {x y : V} {d e : PyData} (hu : X.A.units + 65 < cLine) (hx : Dp X.K G x d) (hy : Dp X.K G y e) (sd : SeqAt.shaped d = true) (se : SeqAt.shaped e = true) : EqV X G x y (PyData.eqv d e) := fun pins s σ u v I ru rv => by
  obtain ⟨as, ra⟩ := Dp.reads I d x u hx ru
  obtain ⟨bs, rb⟩ := Dp.reads I e y v hy rv
  exact PySem.W.keq_at (A := X.A) ra rb sd se (by show X.A.units + 1 + 64 < cLine; omega) X.prog X.w X.xe _ ⟨rfl, I⟩
/-- a == b of two dicts -/
def rEqDO (X : Cx) : R2 := fun x y H Q => ∃ (a b : Addr) (ks ls : List (Key × V)) (e : Key → Bool), x = .ref a ∧ y = .ref b ∧ a ≠ b ∧ H a = some (.dK ks) ∧ H b = some (.dK ls) ∧
  (∀ p ∈ ks, ∀ z, valV ls p.1 = some z → ∀ G : Hp, (∀ c o, c ≠ a → c ≠ b → H c = some o → G c = some o) → EqV X G p.2 z (e p.1)) ∧ Q (.bl (ks.length == ls.length && ks.all fun p => (valV ls p.1).isSome && e p.1)) H
theorem kv_all {ks : List (Key × V)} {va : List (Key × Value)} (ra : KV ks va) (g : Key → Bool) : va.all (fun p => g p.1) = ks.all fun p => g p.1 := by
  unfold KV at ra
  induction ra with
  | nil => rfl
  | @cons p q ps qs h t ih =>
    rw [List.all_cons, List.all_cons, ih, h.1]
theorem kv_mem {ks : List (Key × V)} {va : List (Key × Value)} (ra : KV ks va) {k : Key} {v : Value} (h : (k, v) ∈ va) : ∃ x, (k, x) ∈ ks ∧ RelV x v := by
  unfold KV at ra
  induction ra with
  | nil => cases h
  | @cons p q ps qs h0 t ih =>
    rcases List.mem_cons.mp h with e | e
    · subst e
      refine ⟨p.2, ?_, h0.2⟩
      rw [← show p.1 = k from h0.1]
      exact List.mem_cons_self
    · obtain ⟨x, h1, h2⟩ := ih e
      exact ⟨x, List.mem_cons_of_mem _ h1, h2⟩
theorem kv_at {ks : List (Key × V)} {va : List (Key × Value)} (ra : KV ks va) (k : Key) : (valueAt va k = none ∧ valV ks k = none) ∨ ∃ v x, valueAt va k = some v ∧ valV ks k = some x ∧ RelV x v := by
  unfold KV at ra
  induction ra with
  | nil => exact .inl ⟨rfl, rfl⟩
  | @cons p q ps qs h0 t ih =>
    by_cases e : p.1 = k
    · have e' : q.1 = k := h0.1.symm.trans e
      exact .inr ⟨q.2, p.2, by unfold valueAt; simp [e'], valV_pos e, h0.2⟩
    · have e' : ¬ q.1 = k := fun z => e (h0.1.trans z)
      rw [valV_neg e]
      have z : valueAt (q :: qs) k = valueAt qs k := by unfold valueAt; simp [e']
      rw [z]
      exact ih
theorem op_eqDO (hu : X.A.units < cLine) : OpR X (compareOp .Eq) (rEqDO X) := by
  rintro pins s σ H x y v u Q I rx ry ⟨a, b, ks, ls, e, rfl, rfl, nab, ea, eb, hp, q⟩
  cases (show v = Value.ref a from rx)
  cases (show u = Value.ref b from ry)
  obtain ⟨oa, I1⟩ := I.lock ea trivial
  have eb1 : upd H a (.frz oa (.dK ks)) b = some (.dK ls) := by rw [upd_ne (Ne.symm nab)]; exact eb
  obtain ⟨ob, I2⟩ := I1.lock eb1 trivial
  generalize hG : upd (upd H a (.frz oa (.dK ks))) b (.frz ob (.dK ls)) = G at I2
  have ga : G a = some (.frz oa (.dK ks)) := by rw [← hG, upd_ne nab, upd_same]
  have gb : G b = some (.frz ob (.dK ls)) := by rw [← hG, upd_same]
  have gc : ∀ c o, c ≠ a → c ≠ b → H c = some o → G c = some o := fun c o n1 n2 h => by rw [← hG, upd_ne n2, upd_ne n1]; exact h
  have at_ : ∀ (s' : Shared), L2.Inv X pins σ G s' → s'.heap.get? a = some oa ∧ s'.heap.get? b = some ob := fun s' I' => ⟨(I'.hok a _ ga).1, (I'.hok b _ gb).1⟩
  obtain ⟨_, ya, va, ra, da⟩ := dk_rd I2.hok (.inr ⟨oa, ga⟩)
  obtain ⟨_, yb, vb, rb, db⟩ := dk_rd I2.hok (.inr ⟨ob, gb⟩)
  have T : DQ.TwoJ X.prog X.w X.A.in1 X.xe a b oa ob va vb e (fun s' => L2.Inv X pins σ G s') := by
    refine ⟨fun s' I' => (at_ s' I').1, fun s' I' => (at_ s' I').2, fun k v y hm hy s' I' => ?_⟩
    obtain ⟨x1, hx1, rx1⟩ := kv_mem ra hm
    rcases kv_at rb k with ⟨z, _⟩ | ⟨v2, x2, z1, z2, rx2⟩
    · rw [z] at hy; cases hy
    · rw [z1] at hy
      cases hy
      exact hp (k, x1) hx1 x2 z2 G gc pins s' σ v y I' rx1 rx2
  refine DQ.eqJ (knd := mixKind X.prog X.w) ya yb T I2 da db hu fun s' I' => ?_
  have I3 := I'.unlock gb (I1.nofrz eb1 trivial)
  have I4 := I3.unlock (d := a) (od := oa) (u := .dK ks) (by rw [upd_ne nab]; exact ga) (I.nofrz ea trivial)
  have eH : upd (upd G b (.dK ls)) a (.dK ks) = H := by
    funext c
    by_cases h1 : c = a
    · subst h1
      rw [upd_same, ea]
    · rw [upd_ne h1]
      by_cases h2 : c = b
      · subst h2
        rw [upd_same, eb]
      · rw [upd_ne h2, ← hG, upd_ne h2, upd_ne h1]
  rw [eH] at I4
  refine fin_bl I4 q ?_
  rw [show va.length = ks.length from ra.length.symm, show vb.length = ls.length from rb.length.symm]
  congr 1
  have e1 : va.all (DQ.good vb e) = va.all (fun p => (fun k => (valV ls k).isSome && e k) p.1) := by
    congr 1
    funext p
    unfold DQ.good
    congr 1
    rcases kv_at rb p.1 with ⟨z1, z2⟩ | ⟨v2, x2, z1, z2, _⟩
    · rw [z1, z2]
      rfl
    · rw [z1, z2]
      rfl
  rw [e1]
  exact (kv_all ra (fun k => (valV ls k).isSome && e k)).symm
end
end Pk
/-! ### banks: what stands in one, whatever the law's text -/
namespace Pk
open PySem L2
/-! ### what stays -/
/-- all but what stands at some places is as it was -/
def Bt (L : List Addr) (H H' : Hp) : Prop := ∀ q o, q ∉ L → H q = some o → H' q = some o
theorem Bt.refl {L : List Addr} {H : Hp} : Bt L H H := fun _ _ _ h => h
theorem Bt.same {L : List Addr} {H H' : Hp} (s : Same H H') : Bt L H H' := fun q o _ h => s q o h
theorem Bt.trans {L : List Addr} {H H1 H2 : Hp} (a : Bt L H H1) (b : Bt L H1 H2) : Bt L H H2 := fun q o n h => b q o n (a q o n h)
theorem Bt.mono {L M : List Addr} {H H' : Hp} (a : Bt L H H') (s : ∀ x ∈ L, x ∈ M) : Bt M H H' := fun q o n h => a q o (fun z => n (s q z)) h
theorem Bt.put {L : List Addr} {H : Hp} {p : Addr} {o : HO} (h : p ∈ L) : Bt L H (upd H p o) := fun q u n e => by
  rw [upd_ne (fun z => n (by rw [z]; exact h))]
  exact e
theorem Bt.toSame {H H' : Hp} (a : Bt [] H H') : Same H H' := fun q o h => a q o (fun z => nomatch z) h
/-- what is changed at places that are new is as good as nothing changed -/
theorem Bt.fresh {L : List Addr} {H0 H H' : Hp} (s : Same H0 H) (a : Bt L H H') (n : ∀ p ∈ L, H0 p = none) : Same H0 H' := fun q o h => a q o (fun z => by rw [n q z] at h; cases h) (s q o h)
theorem Bt.one {p : Addr} {H H' : Hp} (a : ∀ q o, q ≠ p → H q = some o → H' q = some o) : Bt [p] H H' := fun q o n h => a q o (fun z => n (by rw [z]; exact List.mem_cons_self)) h
theorem Bt.at {p : Addr} {H H' : Hp} (a : Bt [p] H H') {q : Addr} {o : HO} (n : q ≠ p) (h : H q = some o) : H' q = some o := a q o (fun z => n (List.mem_singleton.mp z)) h
/-! ### a dict by texts -/
def TbK (kvs : List (Key × V)) (ns : List Str) (R : Str → V → Prop) : Prop := kvs.map (·.1) = ns.map Sum.inr ∧ ∀ n ∈ ns, ∃ v, valV kvs (.inr n) = some v ∧ R n v
def TbAt (H : Hp) (a : Addr) (ns : List Str) (R : Str → V → Prop) : Prop := ∃ kvs, H a = some (.dK kvs) ∧ TbK kvs ns R
section
variable {kvs : List (Key × V)} {ns : List Str} {R R' : Str → V → Prop} {n : Str} {v : V} {H H' : Hp} {a : Addr}
theorem TbK.no (h : TbK kvs ns R) (hn : n ∉ ns) : valV kvs (.inr n) = none := by
  cases e : valV kvs (.inr n) with
  | none => rfl
  | some v =>
    have z := valV_in e
    rw [h.1] at z
    obtain ⟨m, hm, e2⟩ := List.mem_map.mp z
    cases e2
    exact absurd hm hn
theorem TbK.len (h : TbK kvs ns R) : kvs.length = ns.length := by
  have := congrArg List.length h.1
  simpa using this
theorem TbK.mono (h : TbK kvs ns R) (k : ∀ m ∈ ns, ∀ v, R m v → R' m v) : TbK kvs ns R' := ⟨h.1, fun m hm => by
  obtain ⟨v, e, r⟩ := h.2 m hm
  exact ⟨v, e, k m hm v r⟩⟩
theorem TbK.nil : TbK [] [] R := ⟨rfl, fun _ h => nomatch h⟩
/-- where a name is put: in its place, or at the end -/
def putN (ns : List Str) (n : Str) : List Str := if n ∈ ns then ns else ns ++ [n]
theorem putN_new (h : n ∉ ns) : putN ns n = ns ++ [n] := if_neg h
theorem putN_old (h : n ∈ ns) : putN ns n = ns := if_pos h
theorem TbK.put (h : TbK kvs ns R) (k : ∀ m ∈ ns, m ≠ n → ∀ v, R m v → R' m v) (r : R' n v) : TbK (putK kvs (.inr n) v) (putN ns n) R' := by
  constructor
  · by_cases hn : n ∈ ns
    · obtain ⟨u, e, _⟩ := h.2 n hn
      rw [putN_old hn]
      unfold putK
      rw [valV_any, e]
      show (kvs.map _).map _ = _
      rw [List.map_map, ← h.1]
      refine List.map_congr_left fun p hp => ?_
      show (if p.1 = Sum.inr n then (p.1, v) else p).1 = p.1
      split <;> rfl
    · rw [putN_new hn, putK_new _ (h.no hn), List.map_append, List.map_append, h.1]
      rfl
  · intro m hm
    rw [valV_put]
    by_cases e : m = n
    · subst e
      exact ⟨v, by rw [if_pos rfl], r⟩
    · have hm' : m ∈ ns := by
        unfold putN at hm
        split at hm
        · exact hm
        · rcases List.mem_append.mp hm with z | z
          · exact z
          · exact absurd (List.mem_singleton.mp z) e
      obtain ⟨u, e1, r1⟩ := h.2 m hm'
      exact ⟨u, by rw [if_neg (fun z => e (Sum.inr.inj z))]; exact e1, k m hm' e u r1⟩
/-- without a name -/
def dropN (ns : List Str) (n : Str) : List Str := ns.filter fun m => decide (m ≠ n)
theorem valV_drop {j k : Key} (h : j ≠ k) : ∀ kvs : List (Key × V), valV (dropK kvs k) j = valV kvs j
  | [] => rfl
  | p :: r => by
    by_cases e : p.1 = k
    · rw [dropK_pos e, valV_neg (fun z => h (z.symm.trans e)), valV_drop h r]
    · rw [dropK_neg e]
      by_cases e2 : p.1 = j
      · rw [valV_pos e2, valV_pos e2]
      · rw [valV_neg e2, valV_neg e2, valV_drop h r]
theorem TbK.drop (h : TbK kvs ns R) : TbK (dropK kvs (.inr n)) (dropN ns n) R := by
  constructor
  · have e := h.1
    unfold dropK dropN
    clear h
    induction kvs generalizing ns with
    | nil =>
      cases ns with
      | nil => rfl
      | cons m r => cases e
    | cons p r ih =>
      cases ns with
      | nil => cases e
      | cons m ms =>
        obtain ⟨e1, e2⟩ := List.cons.inj e
        have e1 : p.1 = Sum.inr m := e1
        have i := ih e2
        by_cases z : m = n
        · rw [List.filter_cons, if_neg (by simp [e1, z]), List.filter_cons, if_neg (by simp [z])]
          exact i
        · rw [List.filter_cons, if_pos (by simp [e1, z]), List.filter_cons, if_pos (by simp [z]), List.map_cons, List.map_cons, i, e1]
  · intro m hm
    obtain ⟨h1, h2⟩ := List.mem_filter.mp hm
    obtain ⟨v, e, r⟩ := h.2 m h1
    exact ⟨v, by rw [valV_drop (fun z => (of_decide_eq_true h2) (Sum.inr.inj z))]; exact e, r⟩
theorem TbAt.get (h : TbAt H a ns R) (hn : n ∈ ns) : ∃ v, DGet H a (.str n) (some v) ∧ R n v := by
  obtain ⟨kvs, e, k⟩ := h
  obtain ⟨v, e1, r⟩ := k.2 n hn
  have z := DGet.k (k := .inr n) e
  rw [e1] at z
  exact ⟨v, z, r⟩
theorem TbAt.none (h : TbAt H a ns R) (hn : n ∉ ns) : DGet H a (.str n) none := by
  obtain ⟨kvs, e, k⟩ := h
  have z := DGet.k (k := .inr n) e
  rw [k.no hn] at z
  exact z
/-- whether a name is in -/
theorem TbAt.has (h : TbAt H a ns R) (n : Str) : ∃ o, DGet H a (.str n) o ∧ o.isSome = decide (n ∈ ns) := by
  by_cases hn : n ∈ ns
  · obtain ⟨v, g, _⟩ := h.get hn
    exact ⟨_, g, by rw [decide_eq_true hn]; rfl⟩
  · exact ⟨_, h.none hn, by rw [decide_eq_false hn]; rfl⟩
theorem TbAt.mono (h : TbAt H a ns R) (e : ∀ kvs, H a = some (.dK kvs) → H' a = some (.dK kvs)) (k : ∀ m ∈ ns, ∀ v, R m v → R' m v) : TbAt H' a ns R' := by
  obtain ⟨kvs, h1, h2⟩ := h
  exact ⟨kvs, e kvs h1, h2.mono k⟩
end
/-! ### banks -/
structure BD where
  ns : List Str
  f : Str → QD
  os : List Str
  g : Str → Str
  h : Str → List Int
def upF {α : Type} (f : Str → α) (n : Str) (v : α) : Str → α := fun m => if m = n then v else f m
theorem upF_at {α : Type} (f : Str → α) (n : Str) (v : α) : upF f n v n = v := if_pos rfl
theorem upF_ne {α : Type} {f : Str → α} {n m : Str} {v : α} (h : m ≠ n) : upF f n v m = f m := if_neg h
structure GoodB (B : BD) : Prop where
  nd : B.ns.Nodup
  le : B.ns.length ≤ 60
  nm : ∀ n ∈ B.ns, QV (B.f n) ∧ (B.f n).nm = n
  od : B.os.Nodup
  os : ∀ n ∈ B.os, n ∈ B.ns
  tx : ∀ n ∈ B.os, textT (B.g n) = true
  dy : ∀ n ∈ B.ns, (B.h n).Pairwise (· < ·) ∧ (∀ i ∈ B.h n, 0 ≤ i ∧ i ≤ 9999) ∧ (B.h n).length ≤ 500
def B0 : BD := ⟨[], fun _ => ⟨"", "", [], 0, 0, 0, ""⟩, [], fun _ => "", fun _ => []⟩
theorem good0 : GoodB B0 := ⟨List.nodup_nil, Nat.zero_le _, (fun _ h => nomatch h), List.nodup_nil, (fun _ h => nomatch h), (fun _ h => nomatch h), (fun _ h => nomatch h)⟩
def BD.add (B : BD) (q : QD) : BD := { B with ns := B.ns ++ [q.nm], f := upF B.f q.nm q, h := upF B.h q.nm [] }
def BD.put (B : BD) (q : QD) : BD := { B with f := upF B.f q.nm q }
def BD.out (B : BD) (n z : Str) : BD := { B with os := putN B.os n, g := upF B.g n z }
def BD.back (B : BD) (n : Str) : BD := { B with os := dropN B.os n }
def BD.drop (B : BD) (n : Str) : BD := { B with ns := dropN B.ns n, os := dropN B.os n }
def BD.day (B : BD) (n : Str) (ds : List Int) : BD := { B with h := upF B.h n ds }
theorem GoodB.add {B : BD} {q : QD} (g : GoodB B) (v : QV q) (h : q.nm ∉ B.ns) (l : B.ns.length < 60) : GoodB (B.add q) where
  nd := nd_snoc g.nd h
  le := by show (B.ns ++ [q.nm]).length ≤ 60; rw [List.length_append, List.length_singleton]; omega
  nm := fun n hn => by
    show QV (upF B.f q.nm q n) ∧ (upF B.f q.nm q n).nm = n
    by_cases e : n = q.nm
    · subst e
      rw [upF_at]
      exact ⟨v, rfl⟩
    · rw [upF_ne e]
      exact g.nm n ((List.mem_append.mp hn).resolve_right fun z => e (List.mem_singleton.mp z))
  od := g.od
  os := fun n hn => List.mem_append_left _ (g.os n hn)
  tx := g.tx
  dy := fun n hn => by
    show (upF B.h q.nm [] n).Pairwise (· < ·) ∧ (∀ i ∈ upF B.h q.nm [] n, 0 ≤ i ∧ i ≤ 9999) ∧ (upF B.h q.nm [] n).length ≤ 500
    by_cases e : n = q.nm
    · subst e
      rw [upF_at]
      exact ⟨.nil, fun _ h => (nomatch h), Nat.zero_le _⟩
    · rw [upF_ne e]
      exact g.dy n ((List.mem_append.mp hn).resolve_right fun z => e (List.mem_singleton.mp z))
theorem GoodB.put {B : BD} {q : QD} (g : GoodB B) (v : QV q) : GoodB (B.put q) := ⟨g.nd, g.le, fun n hn => by
    show QV (upF B.f q.nm q n) ∧ (upF B.f q.nm q n).nm = n
    by_cases e : n = q.nm
    · subst e
      rw [upF_at]
      exact ⟨v, rfl⟩
    · rw [upF_ne e]
      exact g.nm n hn, g.od, g.os, g.tx, g.dy⟩
theorem putN_mem {ns : List Str} {n m : Str} : m ∈ putN ns n ↔ m ∈ ns ∨ m = n := by
  unfold putN
  split
  case isTrue h => exact ⟨.inl, fun z => z.elim id fun e => e ▸ h⟩
  case isFalse h => rw [List.mem_append, List.mem_singleton]
theorem putN_nd {ns : List Str} {n : Str} (h : ns.Nodup) : (putN ns n).Nodup := by
  unfold putN
  split
  case isTrue _ => exact h
  case isFalse k => exact nd_snoc h k
theorem dropN_mem {ns : List Str} {n m : Str} : m ∈ dropN ns n ↔ m ∈ ns ∧ m ≠ n := by
  unfold dropN
  rw [List.mem_filter]
  simp
theorem GoodB.out {B : BD} {n z : Str} (g : GoodB B) (hn : n ∈ B.ns) (ht : textT z = true) : GoodB (B.out n z) := ⟨g.nd, g.le, g.nm, putN_nd g.od, fun m hm => (putN_mem.mp hm).elim (g.os m) (fun e => e ▸ hn), fun m hm => by
  show textT (upF B.g n z m) = true
  by_cases e : m = n
  · subst e
    rw [upF_at]
    exact ht
  · rw [upF_ne e]
    exact g.tx m ((putN_mem.mp hm).resolve_right e), g.dy⟩
theorem GoodB.back {B : BD} {n : Str} (g : GoodB B) : GoodB (B.back n) := ⟨g.nd, g.le, g.nm, g.od.filter _, fun m hm => g.os m (dropN_mem.mp hm).1, fun m hm => g.tx m (dropN_mem.mp hm).1, g.dy⟩
theorem GoodB.drop {B : BD} {n : Str} (g : GoodB B) : GoodB (B.drop n) := ⟨g.nd.filter _, Nat.le_trans (List.length_filter_le _ _) g.le, fun m hm => g.nm m (dropN_mem.mp hm).1, g.od.filter _, fun m hm => dropN_mem.mpr ⟨g.os m (dropN_mem.mp hm).1, (dropN_mem.mp hm).2⟩, fun m hm => g.tx m (dropN_mem.mp hm).1, fun m hm => g.dy m (dropN_mem.mp hm).1⟩
def bFs (k r d : Addr) : List (Str × V) := [("kept", .ref k), ("reasons", .ref r), ("days", .ref d)]
theorem bFs_put (k r d : Addr) : putF "days" (.ref d) (putF "reasons" (.ref r) (putF "kept" (.ref k) [])) = bFs k r d := by kernel_rfl
theorem lb_kept (k r d : Addr) : (bFs k r d).lookup ("kept" : Str) = some (.ref k) := by kernel_rfl
theorem lb_reasons (k r d : Addr) : (bFs k r d).lookup ("reasons" : Str) = some (.ref r) := by kernel_rfl
theorem lb_days (k r d : Addr) : (bFs k r d).lookup ("days" : Str) = some (.ref d) := by kernel_rfl
abbrev bMeths : List Str := ["need_known", "added", "put", "taken_out", "put_back", "dropped", "used_on", "used_on_all", "unused_on", "names", "names_in", "is_in", "was_used", "outs", "question", "questions_by", "days_of", "last_day", "matters", "found", "twin"]
theorem lb_meth {m : Str} (h : m ∈ bMeths) (k r d : Addr) : (bFs k r d).lookup m = none := by
  have z : ∀ m ∈ bMeths, m ≠ ("kept" : Str) ∧ m ≠ ("reasons" : Str) ∧ m ≠ ("days" : Str) := by decide +kernel
  obtain ⟨h1, h2, h3⟩ := z m h
  unfold bFs
  simp [List.lookup, beq_eq_false_iff_ne.mpr h1, beq_eq_false_iff_ne.mpr h2, beq_eq_false_iff_ne.mpr h3]
structure BCls (K : PySem.W.Frag) (CB : Addr) : Prop where
  cls : Cls K CB
  no : ∀ f ∈ ["kept", "reasons", "days"], NoAttr K CB f
def RKept (CQ : Addr) (H : Hp) (f : Str → QD) : Str → V → Prop := fun n v => ∃ x, v = .ref x ∧ QI CQ H x (f n)
def RDays (H : Hp) (h : Str → List Int) : Str → V → Prop := fun n v => ∃ l, v = .ref l ∧ H l = some (.lst ((h n).map .int))
def ROuts (g : Str → Str) : Str → V → Prop := fun n v => v = .str (g n)
structure BankAt (CB CQ : Addr) (H : Hp) (b k r d : Addr) (B : BD) : Prop where
  at_ : ∃ dx, H b = some (.ins CB dx (bFs k r d))
  kept : TbAt H k B.ns (RKept CQ H B.f)
  outs : TbAt H r B.os (ROuts B.g)
  days : TbAt H d B.ns (RDays H B.h)
  kr : k ≠ r
  kd : k ≠ d
  rd : r ≠ d
section
variable {CB CQ : Addr} {H H' : Hp} {b k r d : Addr} {B : BD}
theorem QI.by {x : Addr} {q : QD} (h : QI CQ H x q) (s : ∀ a o, (∀ kvs, o ≠ .dK kvs) → (∀ L, o ≠ .lst L) → H a = some o → H' a = some o) : QI CQ H' x q := by
  obtain ⟨dx, a, h1, h2, h3⟩ := h
  exact ⟨dx, a, s _ _ (fun _ z => nomatch z) (fun _ z => nomatch z) h1, s _ _ (fun _ z => nomatch z) (fun _ z => nomatch z) h2, h3⟩
/-- a bank stands where all that it is made of stays -/
theorem BankAt.by (h : BankAt CB CQ H b k r d B) (s : ∀ a o, a ≠ k → a ≠ r → a ≠ d → (∀ kvs, o ≠ .dK kvs) → H a = some o → H' a = some o) (sk : ∀ kvs, H k = some (.dK kvs) → H' k = some (.dK kvs)) (sr : ∀ kvs, H r = some (.dK kvs) → H' r = some (.dK kvs)) (sd : ∀ kvs, H d = some (.dK kvs) → H' d = some (.dK kvs)) : BankAt CB CQ H' b k r d B := by
  have off : ∀ {a : Addr} {o : HO}, (∀ kvs, o ≠ .dK kvs) → H a = some o → a ≠ k ∧ a ≠ r ∧ a ≠ d := fun {a o} n e => by
    obtain ⟨kk, e1, _⟩ := h.kept
    obtain ⟨kr, e2, _⟩ := h.outs
    obtain ⟨kd, e3, _⟩ := h.days
    refine ⟨fun z => ?_, fun z => ?_, fun z => ?_⟩ <;> subst z
    · rw [e1] at e; cases e; exact n _ rfl
    · rw [e2] at e; cases e; exact n _ rfl
    · rw [e3] at e; cases e; exact n _ rfl
  have s' : ∀ a o, (∀ kvs, o ≠ .dK kvs) → H a = some o → H' a = some o := fun a o n e => by
    obtain ⟨o1, o2, o3⟩ := off n e
    exact s a o o1 o2 o3 n e
  obtain ⟨dx, hb⟩ := h.at_
  exact ⟨⟨dx, s' _ _ (fun _ z => nomatch z) hb⟩, h.kept.mono sk fun m _ v ⟨x, e, q⟩ => ⟨x, e, q.by fun a o n _ e => s' a o n e⟩, h.outs.mono sr fun _ _ _ e => e, h.days.mono sd fun m _ v ⟨l, e, q⟩ => ⟨l, e, s' _ _ (fun _ z => nomatch z) q⟩, h.kr, h.kd, h.rd⟩
theorem BankAt.same (h : BankAt CB CQ H b k r d B) (s : Same H H') : BankAt CB CQ H' b k r d B := h.by (fun a o _ _ _ _ e => s a o e) (fun _ e => s _ _ e) (fun _ e => s _ _ e) (fun _ e => s _ _ e)
theorem BankAt.ins (h : BankAt CB CQ H b k r d B) : ∃ dx, H b = some (.ins CB dx (bFs k r d)) := h.at_
theorem BankAt.isB (h : BankAt CB CQ H b k r d B) : (∃ kvs, H k = some (.dK kvs)) ∧ (∃ kvs, H r = some (.dK kvs)) ∧ ∃ kvs, H d = some (.dK kvs) := by
  obtain ⟨kk, e1, _⟩ := h.kept
  obtain ⟨kr, e2, _⟩ := h.outs
  obtain ⟨kd, e3, _⟩ := h.days
  exact ⟨⟨_, e1⟩, ⟨_, e2⟩, ⟨_, e3⟩⟩
end
/-! ### what the methods promise -/
def Err1 (C : Addr) (fl : Str) (v : V) (H : Hp) (E : XK) : Prop := ∀ (d : Addr) (H' : Hp), Same H H' → H' d = some (.xd [(fl, v)]) → E (.ref C) (some d) H'
def spNeedQ (K : PySem.W.Frag) (CQ cK : Addr) : Sp := fun vs H Q E => ∃ y : V, vs = [y] ∧ ((∃ x q, y = .ref x ∧ QI CQ H x q ∧ Q .non H) ∨ ∃ tb, TyX K H y tb ∧ PySem.W.kitOne K tb (.ref CQ) = some false ∧ Err1 cK "wanted" (.str "Question") H E)
/-- a name that is known, or a thing that is none -/
def KnownV (H : Hp) (B : BD) (y : V) (C : Addr) (good : Str → Prop) (E : XK) : Prop := (∃ n ∈ B.ns, y = .str n ∧ good n) ∨ ((∀ n ∈ B.ns, y ≠ .str n) ∧ Thg H y ∧ Err1 C "name" y H E)
def spKnown (CB CQ cN : Addr) : Sp := fun vs H Q E => ∃ (b k r d : Addr) (B : BD) (y : V), vs = [.ref b, y] ∧ BankAt CB CQ H b k r d B ∧ KnownV H B y cN (fun _ => Q .non H) E
def spAddedB (K : PySem.W.Frag) (CB CQ cK cT cM : Addr) : Sp := fun vs H Q E => ∃ (b k r d : Addr) (B : BD) (y : V), vs = [.ref b, y] ∧ BankAt CB CQ H b k r d B ∧
  ((∃ x q, y = .ref x ∧ QI CQ H x q ∧ (q.nm ∈ B.ns → Err1 cT "name" (.str q.nm) H E) ∧ (q.nm ∉ B.ns → 60 ≤ B.ns.length → Err1 cM "most" (.int 60) H E) ∧
      (q.nm ∉ B.ns → B.ns.length < 60 → ∀ H', Bt [k, d] H H' → BankAt CB CQ H' b k r d (B.add q) → Q .non H')) ∨
    ∃ tb, TyX K H y tb ∧ PySem.W.kitOne K tb (.ref CQ) = some false ∧ Err1 cK "wanted" (.str "Question") H E)
def spPutB (K : PySem.W.Frag) (CB CQ cK cN : Addr) : Sp := fun vs H Q E => ∃ (b k r d : Addr) (B : BD) (y : V), vs = [.ref b, y] ∧ BankAt CB CQ H b k r d B ∧ B.ns.length ≤ 1000 ∧
  ((∃ x q, y = .ref x ∧ QI CQ H x q ∧ Thg H (.str q.nm) ∧ (q.nm ∉ B.ns → Err1 cN "name" (.str q.nm) H E) ∧
      (q.nm ∈ B.ns → ∀ H', Bt [k] H H' → BankAt CB CQ H' b k r d (B.put q) → Q .non H')) ∨
    ∃ tb, TyX K H y tb ∧ PySem.W.kitOne K tb (.ref CQ) = some false ∧ Err1 cK "wanted" (.str "Question") H E)
def spOutB (CB CQ cN cX : Addr) : Sp := fun vs H Q E => ∃ (b k r d : Addr) (B : BD) (y z : V), vs = [.ref b, y, z] ∧ BankAt CB CQ H b k r d B ∧ B.os.length ≤ 1000 ∧ Thg H z ∧
  KnownV H B y cN (fun n => (∀ t, z = .str t → textT t = true → ∀ H', Bt [r] H H' → BankAt CB CQ H' b k r d (B.out n t) → Q .non H') ∧ (textV z = false → ∀ H', Same H H' → E (.ref cX) none H')) E
def spDroppedB (CB CQ cN : Addr) : Sp := fun vs H Q E => ∃ (b k r d : Addr) (B : BD) (y : V), vs = [.ref b, y] ∧ BankAt CB CQ H b k r d B ∧ (∀ n ∈ B.os, n ∈ B.ns) ∧
  KnownV H B y cN (fun n => ∀ H', Bt [k, r, d] H H' → BankAt CB CQ H' b k r d (B.drop n) → Q .non H') E
def spNamesB (CB CQ : Addr) : Sp := fun vs H Q _ => ∃ (b k r d : Addr) (B : BD), vs = [.ref b] ∧ BankAt CB CQ H b k r d B ∧ B.ns.length < 64 ∧ ∀ (p : Addr) (H' : Hp), Same H H' → H p = none → H' p = some (.lst ((srt B.ns).map V.str)) → Q (.ref p) H'
/-- those that are in -/
def BD.ins (B : BD) : List Str := (srt B.ns).filter fun n => !decide (n ∈ B.os)
def spNamesInB (CB CQ : Addr) : Sp := fun vs H Q _ => ∃ (b k r d : Addr) (B : BD), vs = [.ref b] ∧ BankAt CB CQ H b k r d B ∧ B.ns.length < 64 ∧ ∀ (p : Addr) (H' : Hp), Same H H' → H p = none → H' p = some (.lst (B.ins.map V.str)) → Q (.ref p) H'
def spLenB (CB CQ : Addr) : Sp := fun vs H Q _ => ∃ (b k r d : Addr) (B : BD), vs = [.ref b] ∧ BankAt CB CQ H b k r d B ∧ B.ns.length < 64 ∧ ∀ H', Same H H' → Q (.int B.ins.length) H'
/-- a list of pairs of texts -/
def PairsAt (H : Hp) (p : Addr) (ps : List (Str × Str)) : Prop := ∃ as : List Addr, H p = some (.lst (as.map V.ref)) ∧ as.length = ps.length ∧ ∀ (i : Nat) (a : Addr) (q : Str × Str), as[i]? = some a → ps[i]? = some q → H a = some (.tup [.str q.1, .str q.2])
def spOutsB (CB CQ : Addr) : Sp := fun vs H Q _ => ∃ (b k r d : Addr) (B : BD), vs = [.ref b] ∧ BankAt CB CQ H b k r d B ∧ B.os.length < 64 ∧ ∀ (p : Addr) (H' : Hp), Same H H' → H p = none → PairsAt H' p ((srt B.os).map fun n => (n, B.g n)) → Q (.ref p) H'
def spQuestionB (CB CQ cN : Addr) : Sp := fun vs H Q E => ∃ (b k r d : Addr) (B : BD) (y : V), vs = [.ref b, y] ∧ BankAt CB CQ H b k r d B ∧ KnownV H B y cN (fun n => ∀ x, QI CQ H x (B.f n) → Q (.ref x) H) E
def spDaysOfB (CB CQ cN : Addr) : Sp := fun vs H Q E => ∃ (b k r d : Addr) (B : BD) (y : V), vs = [.ref b, y] ∧ BankAt CB CQ H b k r d B ∧ KnownV H B y cN (fun n => ∀ (p : Addr) (H' : Hp), Same H H' → H p = none → H' p = some (.lst ((B.h n).map .int)) → Q (.ref p) H') E
/-- what stands first of each -/
def firsts : List Str → List Str
  | [] => []
  | x :: r => x :: (firsts r).filter fun y => decide (y ≠ x)
def counted (ms : List Str) : List (Str × Int) := (firsts ms).map fun m => (m, (ms.count m : Int))
def BD.ms (B : BD) : List Str := srt (B.ins.map fun n => (B.f n).mt)
def spMattersB (CB CQ : Addr) : Sp := fun vs H Q _ => ∃ (b k r d : Addr) (B : BD), vs = [.ref b] ∧ BankAt CB CQ H b k r d B ∧ GoodB B ∧ ∀ (p : Addr) (H' : Hp), Same H H' → H p = none → H' p = some (.dK (tiKv (counted B.ms))) → Q (.ref p) H'
/-! ### things handed in -/
inductive Bad where
  | kind | many | twice (n : Str)
def BadE (cK cT cM : Addr) (H : Hp) (E : XK) : Bad → Prop
  | .kind => Err1 cK "wanted" (.str "Question") H E
  | .many => Err1 cM "most" (.int 60) H E
  | .twice n => Err1 cT "name" (.str n) H E
def runB (B : BD) : List (Option QD) → BD ⊕ Bad
  | [] => .inl B
  | none :: _ => .inr .kind
  | some q :: r => if q.nm ∈ B.ns then .inr (.twice q.nm) else if 60 ≤ B.ns.length then .inr .many else runB (B.add q) r
/-- a thing is a question, or is none, whatever else comes -/
def ThB (K : PySem.W.Frag) (CQ : Addr) (H : Hp) (v : V) : Option QD → Prop
  | some q => ∃ x, v = .ref x ∧ QI CQ H x q
  | none => ∃ tb, (∀ G, Same H G → TyX K G v tb) ∧ PySem.W.kitOne K tb (.ref CQ) = some false
theorem ThB.same {K : PySem.W.Frag} {CQ : Addr} {H H' : Hp} {v : V} {t : Option QD} (h : ThB K CQ H v t) (s : Same H H') : ThB K CQ H' v t := by
  cases t with
  | some q =>
    obtain ⟨x, e, q⟩ := h
    exact ⟨x, e, q.same s⟩
  | none =>
    obtain ⟨tb, h1, h2⟩ := h
    exact ⟨tb, fun G k => h1 G (s.trans k), h2⟩
def ListV (K : PySem.W.Frag) (CQ : Addr) (H : Hp) (y : V) (ts : List (Option QD)) : Prop := (y = .non ∧ ts = []) ∨ ∃ (a : Addr) (vs : List V), y = .ref a ∧ ((∃ (T : String), TyX K H y (.type T) ∧ T = "list" ∧ SqL K H a vs) ∨ (∃ (T : String), TyX K H y (.type T) ∧ T = "tuple" ∧ SqT K H a vs)) ∧ vs.length = ts.length ∧ ∀ (i : Nat) (v : V) (t : Option QD), vs[i]? = some v → ts[i]? = some t → ThB K CQ H v t
end Pk
namespace Pk
open PySem L2
/-! ### questions.py -/
section
variable {P : Program} {w : World} {K : PySem.W.Frag} {mg : Str → Option Value} {base : Heap}
theorem scQInit : FnScope psQ psQ (defScope sQInit) := ⟨rfl, rfl, rfl, by decide +kernel, rfl, by decide +kernel, by decide +kernel⟩
theorem ok_qInit {f fN fW fA fE CQ cE fI : Addr} {fd fdN fdW fdA fdE : FuncData} (F : FunD K "__init__" "Question.__init__" (defArgs sQInit) (defBody sQInit) (defScope sQInit) dvQ [] f fd)
    (T : Of_part.Tx K mg "BadQuestion" "BadQuestion.__init__" cE fI "ValueError" "ValueError.__new__" "ValueError.__init__" VaLine) (C : QCls K CQ)
    (GN : FnOk P w K mg base CX0 1 fN fdN ["thing"] spIsName) (kN : PySem.W.keepIn K (.ref fN) = true) (bN : Binds K fdN ["thing"] []) (gN : mg "is_name" = some (.ref fN))
    (GA : FnOk P w K mg base CX0 3 fA fdA ["thing"] spAreAnswers) (kA : PySem.W.keepIn K (.ref fA) = true) (bA : Binds K fdA ["thing"] []) (gA : mg "are_answers" = some (.ref fA))
    (GW : FnOk P w K mg base CX0 2 fW fdW ["thing", "least", "most"] spIsWhole) (kW : PySem.W.keepIn K (.ref fW) = true) (bW : ∃ ds, Vals ([] : List V) ds ∧ Binds K fdW ["thing", "least", "most"] ds) (gW : mg "is_whole" = some (.ref fW))
    (GE : FnOk P w K mg base CX0 2 fE fdE ["thing"] spIsNameE) (kE : PySem.W.keepIn K (.ref fE) = true) (bE : Binds K fdE ["thing"] []) (gE : mg "is_name_or_empty" = some (.ref fE))
    (ml : mg "len" = none) (mt : mg "tuple" = none) : FnOk P w K mg base (L2.CX P w) 5 f fd psQ (spQInit CQ cE) := by
  obtain ⟨ds, hds, bW⟩ := bW
  refine F.ok scQInit (fun vs H Q E h => ?_) (fun cdv A outer s H vs Q E hr h => ?_)
  · obtain ⟨x, dx, nm, mt, an, ri, to, ma, ki, rfl, _⟩ := h
    rfl
  · obtain ⟨x, dx, nm, mtr, an, ri, to, ma, ki, rfl, hx, hp, q⟩ := h
    have r1 : Room 1 _ := hr.mono (by decide)
    have r2 : Room 2 _ := hr.mono (by decide)
    have r3 : Room 3 _ := hr.mono (by decide)
    refine ⟨_, pss_cons (ps_if (pt_not (pt_val (pe_call GN r1 (by rfl) gN kN bN .nil pass0 (pa_cons (pv 1) pa_nil)))) (pss_one (ps_raise_part rfl T hr (takes_of rfl rfl rfl rfl) (by exact (pa_cons pe_str pa_nil)))) pss_nil)
      (pss_cons (ps_if (pt_not (pt_val (pe_call GN r1 (by rfl) gN kN bN .nil pass0 (pa_cons (pv 2) pa_nil)))) (pss_one (ps_raise_part rfl T hr (takes_of rfl rfl rfl rfl) (by exact (pa_cons pe_str pa_nil)))) pss_nil)
      (pss_cons (ps_if (pt_not (pt_val (pe_call GA r3 (by rfl) gA kA bA .nil pass0 (pa_cons (pv 3) pa_nil)))) (pss_one (ps_raise_part rfl T hr (takes_of rfl rfl rfl rfl) (by exact (pa_cons pe_str pa_nil)))) pss_nil)
      (pss_cons (ps_if (pt_not (pt_val (pe_call GW r2 (by rfl) gW kW bW hds pass0 (pa_cons (pv 4) (pa_cons pe_int (pa_cons (pe_op op_sub (pe_callB call_len_seq (by rfl) ml PySem.boot_len (pa_cons (pv 3) pa_nil)) pe_int) pa_nil)))))) (pss_one (ps_raise_part rfl T hr (takes_of rfl rfl rfl rfl) (by exact (pa_cons pe_str pa_nil)))) pss_nil)
      (pss_cons (ps_if (pt_not (pt_val (pe_call GW r2 (by rfl) gW kW bW hds pass0 (pa_cons (pv 5) (pa_cons pe_int (pa_cons pe_int pa_nil)))))) (pss_one (ps_raise_part rfl T hr (takes_of rfl rfl rfl rfl) (by exact (pa_cons pe_str pa_nil)))) pss_nil)
      (pss_cons (ps_if (pt_not (pt_val (pe_call GW r2 (by rfl) gW kW bW hds pass0 (pa_cons (pv 6) (pa_cons pe_int (pa_cons pe_int pa_nil)))))) (pss_one (ps_raise_part rfl T hr (takes_of rfl rfl rfl rfl) (by exact (pa_cons pe_str pa_nil)))) pss_nil)
      (pss_cons (ps_if (pt_not (pt_val (pe_call GE r2 (by rfl) gE kE bE .nil pass0 (pa_cons (pv 7) pa_nil)))) (pss_one (ps_raise_part rfl T hr (takes_of rfl rfl rfl rfl) (by exact (pa_cons pe_str pa_nil)))) pss_nil)
      (pss_cons (ps_fld (pv 0) (pv 1) rfl)
      (pss_cons (ps_fld (pv 0) (pv 2) rfl)
      (pss_cons (ps_fld (pv 0) (pe_callTy call_tupleT (by rfl) mt PyProof.Rows.boot_tuple (pa_cons (pv 3) pa_nil)) rfl)
      (pss_cons (ps_fld (pv 0) (pv 4) rfl)
      (pss_cons (ps_fld (pv 0) (pv 5) rfl)
      (pss_cons (ps_fld (pv 0) (pv 6) rfl)
      (pss_one (ps_fld (pv 0) (pv 7) rfl)))))))))))))), ?_⟩
    have bad : ∀ {wd : Str}, wrongP H nm mtr an ri to ma ki = wd → wd ≠ "" → ∀ {H' : Hp}, Same H H' → ∀ d, H' d = none → E (.ref cE) (some d) (upd H' d (.xd [(("part" : Str), .str wd)])) := fun {wd} e n {H'} s' d hd => by
      have := (q H' s').2 (by rw [e]; exact n) d hd
      rw [e] at this
      exact this
    refine ⟨_, rfl, nm, rfl, hp.nm, fun H1 s1 => ⟨_, rfl, ?_⟩⟩
    cases h1 : nameV nm with
    | false => exact iteT ⟨_, rfl, fun d hd => bad (by unfold wrongP; rw [if_pos h1]) (by decide) s1 d hd⟩
    | true =>
    refine iteF ⟨_, rfl, mtr, rfl, hp.mt.same s1, fun H2 s2 => ⟨_, rfl, ?_⟩⟩
    have s12 : Same H H2 := s1.trans s2
    cases h2 : nameV mtr with
    | false => exact iteT ⟨_, rfl, fun d hd => bad (by unfold wrongP; rw [if_neg (by rw [h1]; decide), if_pos h2]) (by decide) s12 d hd⟩
    | true =>
    refine iteF ⟨_, rfl, an, rfl, (hp.an.same s12).1, (hp.an.same s12).2, fun H3 s3 => ⟨_, rfl, ?_⟩⟩
    have s13 : Same H H3 := s12.trans s3
    have e3 : answersV H2 an = answersV H an := by
      unfold answersV
      rw [hp.an.1.tupS s12]
    rw [e3]
    cases h3 : answersV H an with
    | false => exact iteT ⟨_, rfl, fun d hd => bad (by unfold wrongP; rw [if_neg (by rw [h1]; decide), if_neg (by rw [h2]; decide), if_pos h3]) (by decide) s13 d hd⟩
    | true =>
    have ht : ∃ ws, tupV H an = some ws := by
      unfold answersV at h3
      cases e : tupV H an with
      | none => rw [e] at h3; cases h3
      | some ws => exact ⟨ws, rfl⟩
    obtain ⟨ws, ht⟩ := ht
    obtain ⟨a, rfl, ha⟩ := tupV_of ht
    have hm : manyV H (.ref a) = (ws.length : Int) := by
      unfold manyV
      rw [ht]
      rfl
    refine iteF ⟨_, rfl, _, rfl, a, ws, rfl, .inr (SqT.of (s13 _ _ ha)), _, _, rfl, rfl, ri, 0, _, rfl, hp.ri.same s13, _, rfl, ?_⟩
    cases h4 : whole ri 0 (manyV H (.ref a) - 1) with
    | false =>
      rw [hm] at h4
      rw [h4]
      exact iteT ⟨_, rfl, fun d hd => bad (by unfold wrongP; rw [if_neg (by rw [h1]; decide), if_neg (by rw [h2]; decide), if_neg (by rw [h3]; decide), if_pos (by rw [hm]; exact h4)]) (by decide) s13 d hd⟩
    | true =>
    have h4' := h4
    rw [hm] at h4'
    rw [h4']
    refine iteF ⟨_, rfl, to, 1, 9, rfl, hp.to.same s13, _, rfl, ?_⟩
    cases h5 : whole to 1 9 with
    | false => exact iteT ⟨_, rfl, fun d hd => bad (by unfold wrongP; rw [if_neg (by rw [h1]; decide), if_neg (by rw [h2]; decide), if_neg (by rw [h3]; decide), if_neg (by rw [h4]; decide), if_pos h5]) (by decide) s13 d hd⟩
    | true =>
    refine iteF ⟨_, rfl, ma, 1, 9, rfl, hp.ma.same s13, _, rfl, ?_⟩
    cases h6 : whole ma 1 9 with
    | false => exact iteT ⟨_, rfl, fun d hd => bad (by unfold wrongP; rw [if_neg (by rw [h1]; decide), if_neg (by rw [h2]; decide), if_neg (by rw [h3]; decide), if_neg (by rw [h4]; decide), if_neg (by rw [h5]; decide), if_pos h6]) (by decide) s13 d hd⟩
    | true =>
    refine iteF ⟨_, rfl, ki, rfl, hp.ki.same s13, fun H4 s4 => ⟨_, rfl, ?_⟩⟩
    have s14 : Same H H4 := s13.trans s4
    cases h7 : nameE ki with
    | false => exact iteT ⟨_, rfl, fun d hd => bad (by unfold wrongP; rw [if_neg (by rw [h1]; decide), if_neg (by rw [h2]; decide), if_neg (by rw [h3]; decide), if_neg (by rw [h4]; decide), if_neg (by rw [h5]; decide), if_neg (by rw [h6]; decide), if_pos h7]) (by decide) s14 d hd⟩
    | true =>
    have good := (q H4 s14).1 (by unfold wrongP; rw [if_neg (by rw [h1]; decide), if_neg (by rw [h2]; decide), if_neg (by rw [h3]; decide), if_neg (by rw [h4]; decide), if_neg (by rw [h5]; decide), if_neg (by rw [h6]; decide), if_neg (by rw [h7]; decide)])
    have ax : a ≠ x := fun e => by
      rw [e, hx] at ha
      cases ha
    have ha4 := s14 _ _ ha
    rw [← qFs_put] at good
    refine iteF ⟨_, rfl, _, rfl, x, CQ, dx, _, rfl, s14 _ _ hx, C.cls, C.no _ (by decide), by decide, ?_⟩
    refine ⟨_, rfl, _, rfl, x, CQ, dx, _, rfl, upd_same, C.cls, C.no _ (by decide), Nat.lt_of_le_of_lt (put_le (Nat.le_refl 0)) (by decide), ?_⟩
    refine ⟨_, rfl, a, ws, rfl, ?_, _, rfl, x, CQ, dx, _, rfl, upd_same, C.cls, C.no _ (by decide), Nat.lt_of_le_of_lt (put_le (put_le (Nat.le_refl 0))) (by decide), ?_⟩
    · exact SqT.of (by rw [upd_ne ax, upd_ne ax]; exact ha4)
    refine ⟨_, rfl, _, rfl, x, CQ, dx, _, rfl, upd_same, C.cls, C.no _ (by decide), Nat.lt_of_le_of_lt (put_le (put_le (put_le (Nat.le_refl 0)))) (by decide), ?_⟩
    refine ⟨_, rfl, _, rfl, x, CQ, dx, _, rfl, upd_same, C.cls, C.no _ (by decide), Nat.lt_of_le_of_lt (put_le (put_le (put_le (put_le (Nat.le_refl 0))))) (by decide), ?_⟩
    refine ⟨_, rfl, _, rfl, x, CQ, dx, _, rfl, upd_same, C.cls, C.no _ (by decide), Nat.lt_of_le_of_lt (put_le (put_le (put_le (put_le (put_le (Nat.le_refl 0)))))) (by decide), ?_⟩
    refine ⟨_, rfl, _, rfl, x, CQ, dx, _, rfl, upd_same, C.cls, C.no _ (by decide), Nat.lt_of_le_of_lt (put_le (put_le (put_le (put_le (put_le (put_le (Nat.le_refl 0))))))) (by decide), ?_⟩
    rw [upd_upd, upd_upd, upd_upd, upd_upd, upd_upd, upd_upd]
    exact good
theorem scQEq : FnScope ["self", "other"] ["self", "other"] (defScope sQEq) := ⟨rfl, rfl, rfl, by decide +kernel, rfl, by decide +kernel, by decide +kernel⟩
theorem ok_qEq {f CQ : Addr} {fd : FuncData} (F : Fun K "__eq__" "Question.__eq__" sQEq f fd) (C : QCls K CQ) (CT : QTy K CQ) (mi : mg "isinstance" = none) (gQ : mg "Question" = some (.ref CQ)) : FnOk P w K mg base CX0 2 f fd ["self", "other"] (spQEq K CQ) := by
  refine F.ok scQEq (fun vs H Q E h => ?_) (fun cdv A outer s H vs Q E hr h => ?_)
  · obtain ⟨x, y, q1, rfl, _⟩ := h
    rfl
  · obtain ⟨x, y, q1, rfl, ⟨dx, a, hx, ha, oa⟩, h⟩ := h
    have hu : _ + 64 < cLine := Nat.lt_of_le_of_lt (Nat.add_le_add_left (by decide) _) (room_show hr)
    refine ⟨_, pss_one (ps_ret (pe_and (pe_callB call_isi (by rfl) mi (by decide +kernel) (pa_cons (pv 1) (pa_cons (pe_glob (v := .ref CQ) (by rfl) gQ rfl (by decide)) pa_nil)))
      (pe_and (pe_cmpR op_eq (pe_fld (pv 0) rfl) (pe_fld (pv 1) rfl) (nomark _)) (pe_and (pe_cmpR op_eq (pe_fld (pv 0) rfl) (pe_fld (pv 1) rfl) (nomark _)) (pe_and (pe_cmpR (op_eqD hu) (pe_fld (pv 0) rfl) (pe_fld (pv 1) rfl) (by rfl))
      (pe_and (pe_cmpR op_eq (pe_fld (pv 0) rfl) (pe_fld (pv 1) rfl) (nomark _)) (pe_and (pe_cmpR op_eq (pe_fld (pv 0) rfl) (pe_fld (pv 1) rfl) (nomark _)) (pe_and (pe_cmpR op_eq (pe_fld (pv 0) rfl) (pe_fld (pv 1) rfl) (nomark _)) (pe_one (pe_cmpR op_eq (pe_fld (pv 0) rfl) (pe_fld (pv 1) rfl) (nomark _))))))))))), ?_⟩
    rcases h with ⟨z, q2, rfl, ⟨dz, b, hz, hb, ob⟩, q⟩ | ⟨tb, ty, kt, q⟩
    · refine ⟨_, rfl, _, _, _, _, true, rfl, .own _, .base (.ins hz C.cls CT.ha CT.hn CT.ht CT.hm), CT.hk, _, rfl, iteT ?_⟩
      have no : ∀ {α : Type} (g : QD → α), g q1 ≠ g q2 → Q (.bl false) H := fun g hg => by
        rw [decide_eq_false (fun e => hg (by rw [e]))] at q
        exact q
      refine ⟨_, rfl, x, CQ, dx, _, _, rfl, hx, C.cls, C.no _ (by decide), look_name _ _ _ _ _ _ _, _, rfl, z, CQ, dz, _, _, rfl, hz, C.cls, C.no _ (by decide), look_name _ _ _ _ _ _ _, rfl, _, rfl, ?_⟩
      by_cases h0 : q1.nm = q2.nm
      case neg => exact iteF' (by simpa using h0) (no QD.nm h0)
      refine iteT' (by simp [h0]) ?_
      refine ⟨_, rfl, x, CQ, dx, _, _, rfl, hx, C.cls, C.no _ (by decide), look_matter _ _ _ _ _ _ _, _, rfl, z, CQ, dz, _, _, rfl, hz, C.cls, C.no _ (by decide), look_matter _ _ _ _ _ _ _, rfl, _, rfl, ?_⟩
      by_cases h1 : q1.mt = q2.mt
      case neg => exact iteF' (by simpa using h1) (no QD.mt h1)
      refine iteT' (by simp [h1]) ?_
      refine ⟨_, rfl, x, CQ, dx, _, _, rfl, hx, C.cls, C.no _ (by decide), look_answers _ _ _ _ _ _ _, _, rfl, z, CQ, dz, _, _, rfl, hz, C.cls, C.no _ (by decide), look_answers _ _ _ _ _ _ _, .tuple (q1.ws.map .str), .tuple (q2.ws.map .str), .tup (SqT.of ha) (strs_dpA _), .tup (SqT.of hb) (strs_dpA _), strs_shapedT oa, strs_shapedT ob, _, rfl, ?_⟩
      have ev : PyData.eqv (.tuple (q1.ws.map .str)) (.tuple (q2.ws.map .str)) = decide (q1.ws = q2.ws) := by
        rw [← strs_eqvA]
        simp [PyData.eqv]
      rw [ev]
      by_cases h2 : q1.ws = q2.ws
      case neg => exact iteF' (by simpa using h2) (no QD.ws h2)
      refine iteT' (by simp [h2]) ?_
      refine ⟨_, rfl, x, CQ, dx, _, _, rfl, hx, C.cls, C.no _ (by decide), look_right _ _ _ _ _ _ _, _, rfl, z, CQ, dz, _, _, rfl, hz, C.cls, C.no _ (by decide), look_right _ _ _ _ _ _ _, rfl, _, rfl, ?_⟩
      by_cases h3 : q1.ri = q2.ri
      case neg => exact iteF' (by simpa using h3) (no QD.ri h3)
      refine iteT' (by simp [h3]) ?_
      refine ⟨_, rfl, x, CQ, dx, _, _, rfl, hx, C.cls, C.no _ (by decide), look_toil _ _ _ _ _ _ _, _, rfl, z, CQ, dz, _, _, rfl, hz, C.cls, C.no _ (by decide), look_toil _ _ _ _ _ _ _, rfl, _, rfl, ?_⟩
      by_cases h4 : q1.tl = q2.tl
      case neg => exact iteF' (by simpa using h4) (no QD.tl h4)
      refine iteT' (by simp [h4]) ?_
      refine ⟨_, rfl, x, CQ, dx, _, _, rfl, hx, C.cls, C.no _ (by decide), look_marks _ _ _ _ _ _ _, _, rfl, z, CQ, dz, _, _, rfl, hz, C.cls, C.no _ (by decide), look_marks _ _ _ _ _ _ _, rfl, _, rfl, ?_⟩
      by_cases h5 : q1.ma = q2.ma
      case neg => exact iteF' (by simpa using h5) (no QD.ma h5)
      refine iteT' (by simp [h5]) ?_
      refine ⟨_, rfl, x, CQ, dx, _, _, rfl, hx, C.cls, C.no _ (by decide), look_kin _ _ _ _ _ _ _, _, rfl, z, CQ, dz, _, _, rfl, hz, C.cls, C.no _ (by decide), look_kin _ _ _ _ _ _ _, rfl, ?_⟩
      have e : decide (q1 = q2) = decide (V.str q1.ki = V.str q2.ki) := by
        obtain ⟨a1, a2, a3, a4, a5, a6, a7⟩ := q1
        obtain ⟨b1, b2, b3, b4, b5, b6, b7⟩ := q2
        dsimp only at h0 h1 h2 h3 h4 h5 ⊢
        subst h0 h1 h2 h3 h4 h5
        simp
      rw [e] at q
      exact q
    · exact ⟨_, rfl, _, _, tb, _, false, rfl, .own _, ty, kt, _, rfl, iteF q⟩
end
abbrev FunQ (K : PySem.W.Frag) (f : Addr) (fd : FuncData) : Prop := FunD K "__init__" "Question.__init__" (defArgs sQInit) (defBody sQInit) (defScope sQInit) dvQ [] f fd
section
variable {K : PySem.W.Frag} {f : Addr} {fd : FuncData}
def gQR {α : Type} (us _its ws : List α) : List α := us ++ ws
theorem kQR (F : FunQ K f fd) : ∃ its : List Value, KBn K fd psQ 4 ["right", "toil", "marks", "kin"] (fun us ws => gQR us its ws) (fun vs zs => gQR vs dvQ zs) :=
  kbnD F 4 ["right", "toil", "marks", "kin"] gQR (fun z => nomatch z) (fun r1 _ r3 => r1.append r3)
    fun T kV doc pm an cdv ct us its ws l1 l2 l3 => match us, its, ws, l1, l2, l3 with
    | [_, _, _, _], [_, _, _, _], [_, _, _, _], _, _, _ => ⟨_, rfl, rfl⟩
end
abbrev TyLine : List Value := [.type "TypeError", .type "Exception", .type "BaseException", .type "object"]
abbrev TxK (K : PySem.W.Frag) (mg : Str → Option Value) (C fI : Addr) : Prop := Er_wanted.Tx K mg "BadKind" "BadKind.__init__" C fI "TypeError" "TypeError.__new__" "TypeError.__init__" TyLine
section
variable {P : Program} {w : World} {K : PySem.W.Frag} {mg : Str → Option Value} {base : Heap}
theorem scNeedQ : FnScope ["thing"] ["thing"] (defScope sNeedQ) := ⟨rfl, rfl, rfl, by decide +kernel, rfl, by decide +kernel, by decide +kernel⟩
theorem ok_needQ {f CQ cK fJ : Addr} {fd : FuncData} (F : Fun K "need_question" "need_question" sNeedQ f fd) (O : OTy K CQ) (TK : TxK K mg cK fJ) (mi : mg "isinstance" = none) (gQ : mg "Question" = some (.ref CQ)) : FnOk P w K mg base (L2.CX P w) 3 f fd ["thing"] (spNeedQ K CQ cK) := by
  refine F.okX scNeedQ (fun vs H Q E h => ?_) (fun cdv A outer s H vs Q E hr h => ?_)
  · obtain ⟨y, rfl, _⟩ := h
    rfl
  · obtain ⟨y, rfl, h⟩ := h
    refine ⟨_, pss_one (ps_if (pt_not (pt_val (pe_callB call_isi (by rfl) mi (by decide +kernel) (pa_cons (pv 0) (pa_cons (pe_glob (v := .ref CQ) (by rfl) gQ rfl (by decide)) pa_nil))))) (pss_one (ps_raiseE_wanted rfl TK hr (takes_of rfl rfl rfl rfl) (by exact (pa_cons pe_str pa_nil)))) pss_nil), ?_⟩
    rcases h with ⟨x, q, rfl, ⟨dx, a, hx, _⟩, k⟩ | ⟨tb, ty, kt, k⟩
    · exact ⟨_, rfl, _, _, _, _, true, rfl, .own _, O.ty hx, O.hk, _, rfl, iteF k⟩
    · exact ⟨_, rfl, _, _, tb, _, false, rfl, .own _, ty, kt, _, rfl, iteT ⟨_, rfl, fun d hd => k d _ (same_upd hd) upd_same⟩⟩
end
end Pk
namespace Pk
open PySem L2
/-! ### methods called by keywords alone; calls that let nothing out -/
section
variable {X : Cx} {CX : CXT} {k : Nat} {f C : Addr} {fd : FuncData} {ps ks : List Str} {sp : Sp} {E : XK} {m : Str} {p pos apos : Pos} {o : Expr} {ta : TE} {kws : List Keyword} {tk : TA} {g : List Value → List Value → List Value} {gV : List V → List V → List V}
theorem pass_no : Passes (L2.CX X.prog X.w) X E0 := fun _ _ _ _ _ _ _ ⟨_, _, _, _, _, _, _, _, _, _, _, _, h⟩ => h.elim
def tMethN (C : Addr) (m : Str) (nk : Nat) (sp : Sp) (gV : List V → List V → List V) (E : XK) (ta : TE) (tk : TA) : TE := fun σ H Q => ta σ H fun x H1 => ∃ a dx fs, x = .ref a ∧ H1 a = some (.ins C dx fs) ∧ fs.lookup m = none ∧ tk σ H1 fun zs H2 => zs.length = nk ∧ sp (gV [x] zs) H2 Q E
theorem pe_methN0 {pl : Sem Bool} (he : PE X o ta) (c : Cls X.K C) (hm : Meth X.K C m f) (F : FnOk X.prog X.w X.K X.mg X.base CX k f fd ps sp) (hr : Room k X.A) (hb : KBn X.K fd ps 1 ks g gV) (hx : Passes CX X E)
    (hkw : PK X kws tk) (hall : (backToKw pos (keywordEach kws X.env)).all (·.1.isSome) = true := by rfl) (hks : (backToKw pos (keywordEach kws X.env)).filterMap (·.1) = ks := by rfl)
    (hpl : ((backTo pos (starEach [] X.env)).any (·.1) || (backToKw pos (keywordEach kws X.env)).any (·.1.isNone)) = false := by rfl)
    (ht : eval (.Call (.Attribute o m apos) [] kws pos) X.env = (do
      let ov ← eval o X.env
      standAt apos.atName
      let (f, first) ← holding [ov] (getMethod ov m pl)
      callWith pos f first (backTo pos (starEach [] X.env)) (backToKw pos (keywordEach kws X.env))) := by rfl) :
    PE X (.Call (.Attribute o m apos) [] kws pos) (tMethN C m ks.length sp gV E ta tk) := by
  refine ⟨fun pins s σ H Q I h => ?_⟩
  refine PySem.W.methodCall_KW (pl := pl) (thn (he.run pins s σ H _ I h) fun u s1 ⟨x, H1, I1, rx, a, dx, fs, ex, ea, l, q⟩ => ?_) ht
  subst ex
  obtain rfl : u = Value.ref a := rx
  refine getmeth_ok I1 ea c hm l ?_
  refine PySem.W.callWith_KW0 (first := [.ref a]) (h₀ := X.base) I.ok.mod.kin hm.kp hall (thn (hkw.run pos pins s1 σ H1 _ I1 q) ?_) hpl
  rintro ws s2 ⟨zs, H2, I2, rz, l2, q2⟩
  refine ⟨I2.kIn, ?_⟩
  rw [hks]
  exact run_fnN (us := [.ref a]) (vs := [.ref a]) F hr hb hx I2 (.cons rfl .nil) rz rfl l2 q2
end
end Pk
namespace Pk
open PySem L2
/-! ### banks.py: the deeds -/
abbrev LkLine : List Value := [.type "LookupError", .type "Exception", .type "BaseException", .type "object"]
abbrev RuLine : List Value := [.type "RuntimeError", .type "Exception", .type "BaseException", .type "object"]
abbrev OvLine : List Value := [.type "OverflowError", .type "ArithmeticError", .type "Exception", .type "BaseException", .type "object"]
abbrev TxN (K : PySem.W.Frag) (mg : Str → Option Value) (C fI : Addr) : Prop := Er_name.Tx K mg "NoSuch" "NoSuch.__init__" C fI "LookupError" "LookupError.__new__" "LookupError.__init__" LkLine
abbrev TxT (K : PySem.W.Frag) (mg : Str → Option Value) (C fI : Addr) : Prop := Er_name.Tx K mg "Twice" "Twice.__init__" C fI "RuntimeError" "RuntimeError.__new__" "RuntimeError.__init__" RuLine
abbrev TxM (K : PySem.W.Frag) (mg : Str → Option Value) (C fI : Addr) : Prop := Er_most.Tx K mg "TooMany" "TooMany.__init__" C fI "OverflowError" "OverflowError.__new__" "OverflowError.__init__" OvLine
structure BadTxt (K : PySem.W.Frag) (mg : Str → Option Value) (C : Addr) : Prop where
  g : mg "BadText" = some (.ref C)
  x : PySem.W.excIn K C VaLine "ValueError.__new__" = true
  k : PySem.W.keepIn K (.ref C) = true
  b : PySem.W.subIn K (.ref C) (.type "BaseException") = some true
  t : PySem.W.typeIn K (.ref C) = some (.type "type")
section
variable {P : Program} {w : World} {K : PySem.W.Frag} {mg : Str → Option Value} {base : Heap} {CB CQ : Addr}
theorem scKnown : FnScope ["self", "name"] ["self", "name"] (defScope sBKnown) := ⟨rfl, rfl, rfl, by decide +kernel, rfl, by decide +kernel, by decide +kernel⟩
theorem ok_known {f cN fI : Addr} {fd : FuncData} (F : Fun K "need_known" "Bank.need_known" sBKnown f fd) (C : BCls K CB) (TN : TxN K mg cN fI) (mi : mg "isinstance" = none) (ms : mg "str" = none) : FnOk P w K mg base (L2.CX P w) 3 f fd ["self", "name"] (spKnown CB CQ cN) := by
  refine F.okX scKnown (fun vs H Q E h => ?_) (fun cdv A outer s H vs Q E hr h => ?_)
  · obtain ⟨b, k, r, d, B, y, rfl, _⟩ := h
    rfl
  · obtain ⟨b, k, r, d, B, y, rfl, hB, h⟩ := h
    have hu := hu_of hr
    refine ⟨_, pss_one (ps_if (PW.pt (pw_or (pt_not (pt_val (isb (i := 1) mi ms PyProof.Rows.boot_str))) (pw_or1 (pt_cmp (pc_dnotin hu (pv 1) (pe_fld (pv 0) rfl)))))) (pss_one (ps_raiseE_name rfl TN hr (takes_of rfl rfl rfl rfl) (by exact (pa_cons (pv 1) pa_nil)))) pss_nil), ?_⟩
    obtain ⟨dx, hb⟩ := hB.at_
    rcases h with ⟨n, hn, rfl, q⟩ | ⟨hn, ty, q⟩
    · obtain ⟨v, g, _⟩ := hB.kept.get hn
      exact ⟨_, rfl, _, _, _, _, true, rfl, .ty "str", .base (.str n), kit_ty (by decide +kernel : kitB "str" "str" = some true), _, rfl, iteF ⟨_, rfl, _, rfl, b, CB, dx, _, _, rfl, hb, C.cls, C.no _ (by decide), lb_kept _ _ _, k, _, rfl, g, _, rfl, iteF q⟩⟩
    · obtain ⟨t, ty', _, _, k3, _⟩ := ty.ty (K := K)
      refine ⟨_, rfl, _, _, _, _, _, rfl, .ty "str", ty', kit_ty k3, _, rfl, ?_⟩
      cases ty with
      | str z hl ho =>
        have nz : z ∉ B.ns := fun z' => hn z z' rfl
        exact iteF ⟨_, rfl, _, rfl, b, CB, dx, _, _, rfl, hb, C.cls, C.no _ (by decide), lb_kept _ _ _, k, _, rfl, hB.kept.none nz, _, rfl, iteT ⟨_, rfl, _, rfl, fun d hd => q d _ (same_upd hd) upd_same⟩⟩
      | non => exact iteT ⟨_, rfl, _, rfl, fun d hd => q d _ (same_upd hd) upd_same⟩
      | bl _ => exact iteT ⟨_, rfl, _, rfl, fun d hd => q d _ (same_upd hd) upd_same⟩
      | int _ => exact iteT ⟨_, rfl, _, rfl, fun d hd => q d _ (same_upd hd) upd_same⟩
      | lst _ => exact iteT ⟨_, rfl, _, rfl, fun d hd => q d _ (same_upd hd) upd_same⟩
      | tup _ => exact iteT ⟨_, rfl, _, rfl, fun d hd => q d _ (same_upd hd) upd_same⟩
      | dct _ => exact iteT ⟨_, rfl, _, rfl, fun d hd => q d _ (same_upd hd) upd_same⟩
/-! ### what becomes of a bank -/
theorem BankAt.keptE {H : Hp} {b k r d : Addr} {B : BD} (h : BankAt CB CQ H b k r d B) : ∃ kvs, H k = some (.dK kvs) ∧ TbK kvs B.ns (RKept CQ H B.f) := h.kept
theorem small60 {kvs : List (Key × V)} {ns : List Str} {R : Str → V → Prop} (h : TbK kvs ns R) (l : ns.length ≤ 1000) : kvs.length < sizeLine := by
  rw [h.len, sizeLine_eq]
  omega
theorem QI.off {H : Hp} {x a : Addr} {q : QD} {o u : HO} (h : QI CQ H x q) (e : H a = some o) (n1 : ∀ C dx fs, o ≠ .ins C dx fs) (n2 : ∀ L, o ≠ .tup L) : QI CQ (upd H a u) x q := by
  obtain ⟨dx, c, h1, h2, h3⟩ := h
  exact ⟨dx, c, by rw [upd_ne (fun z => by subst z; rw [e] at h1; cases h1; exact n1 _ _ _ rfl)]; exact h1, by rw [upd_ne (fun z => by subst z; rw [e] at h2; cases h2; exact n2 _ rfl)]; exact h2, h3⟩
theorem BankAt.addB {H : Hp} {b k r d x : Addr} {B : BD} {q : QD} (h : BankAt CB CQ H b k r d B) (hq : QI CQ H x q) (hn : q.nm ∉ B.ns) {kk kd : List (Key × V)} (ek : H k = some (.dK kk)) (ed : H d = some (.dK kd)) {l : Addr} (nl : H l = none) :
    BankAt CB CQ (upd (upd (upd H k (.dK (putK kk (.inr q.nm) (.ref x)))) l (.lst [])) d (.dK (putK kd (.inr q.nm) (.ref l)))) b k r d (B.add q) ∧ Bt [k, d] H (upd (upd (upd H k (.dK (putK kk (.inr q.nm) (.ref x)))) l (.lst [])) d (.dK (putK kd (.inr q.nm) (.ref l)))) := by
  have lk : l ≠ k := fun z => by subst z; rw [ek] at nl; cases nl
  have ld : l ≠ d := fun z => by subst z; rw [ed] at nl; cases nl
  generalize hG : upd (upd (upd H k (.dK (putK kk (.inr q.nm) (.ref x)))) l (.lst [])) d (.dK (putK kd (.inr q.nm) (.ref l))) = G
  have gk : G k = some (.dK (putK kk (.inr q.nm) (.ref x))) := by rw [← hG, upd_ne h.kd, upd_ne (Ne.symm lk), upd_same]
  have gd : G d = some (.dK (putK kd (.inr q.nm) (.ref l))) := by rw [← hG, upd_same]
  have gl : G l = some (.lst []) := by rw [← hG, upd_ne ld, upd_same]
  have go : ∀ {a : Addr} {o : HO}, a ≠ k → a ≠ d → H a = some o → G a = some o := fun {a o} n1 n2 e => by
    rw [← hG, upd_ne n2, upd_ne (fun z => by subst z; rw [nl] at e; cases e), upd_ne n1]
    exact e
  have gi : ∀ {a : Addr} {o : HO}, (∀ kvs, o ≠ .dK kvs) → H a = some o → G a = some o := fun {a o} n e => go (fun z => by subst z; rw [ek] at e; cases e; exact n _ rfl) (fun z => by subst z; rw [ed] at e; cases e; exact n _ rfl) e
  have gq : ∀ {a : Addr} {q : QD}, QI CQ H a q → QI CQ G a q := fun {a q} z => z.by fun a o n _ e => gi n e
  obtain ⟨dx, hb⟩ := h.at_
  obtain ⟨kk', ek', tk⟩ := h.kept
  obtain ⟨kd', ed', td⟩ := h.days
  rw [ek] at ek'
  cases ek'
  rw [ed] at ed'
  cases ed'
  obtain ⟨kr, er, tr⟩ := h.outs
  refine ⟨⟨⟨dx, gi (fun _ z => nomatch z) hb⟩, ⟨_, gk, ?_⟩, ⟨kr, go (Ne.symm h.kr) h.rd er, tr⟩, ⟨_, gd, ?_⟩, h.kr, h.kd, h.rd⟩, fun a o n e => ?_⟩
  · have z := tk.put (n := q.nm) (v := .ref x) (R' := RKept CQ G (B.add q).f) (fun m _ ne v ⟨y, e, qi⟩ => ⟨y, e, by show QI CQ G y (upF B.f q.nm q m); rw [upF_ne ne]; exact gq qi⟩) ⟨x, rfl, by show QI CQ G x (upF B.f q.nm q q.nm); rw [upF_at]; exact gq hq⟩
    rw [putN_new hn] at z
    exact z
  · have z := td.put (n := q.nm) (v := .ref l) (R' := RDays G (B.add q).h) (fun m _ ne v ⟨y, e, hy⟩ => ⟨y, e, by show G y = some (.lst ((upF B.h q.nm [] m).map .int)); rw [upF_ne ne]; exact gi (fun _ z => nomatch z) hy⟩) ⟨l, rfl, by show G l = some (.lst ((upF B.h q.nm [] q.nm).map .int)); rw [upF_at]; exact gl⟩
    rw [putN_new hn] at z
    exact z
  · simp only [List.mem_cons, List.not_mem_nil, or_false, not_or] at n
    exact go n.1 n.2 e
theorem scAdded : FnScope ["self", "question"] ["self", "question"] (defScope sBAdded) := ⟨rfl, rfl, rfl, by decide +kernel, rfl, by decide +kernel, by decide +kernel⟩
theorem ok_added {f fN cK cT cM fI fJ : Addr} {fd fdN : FuncData} (F : Fun K "added" "Bank.added" sBAdded f fd) (C : BCls K CB) (CC : QCls K CQ) (TT : TxT K mg cT fI) (TM : TxM K mg cM fJ) (ml : mg "len" = none) (g60 : ∃ t, mg "MOST_QUESTIONS" = some (.int 60 t))
    (GN : FnOk P w K mg base (L2.CX P w) 3 fN fdN ["thing"] (spNeedQ K CQ cK)) (kN : PySem.W.keepIn K (.ref fN) = true) (bN : Binds K fdN ["thing"] []) (gN : mg "need_question" = some (.ref fN)) :
    FnOk P w K mg base (L2.CX P w) 5 f fd ["self", "question"] (spAddedB K CB CQ cK cT cM) := by
  obtain ⟨t60, g60⟩ := g60
  refine F.okX scAdded (fun vs H Q E h => ?_) (fun cdv A outer s H vs Q E hr h => ?_)
  · obtain ⟨b, k, r, d, B, y, rfl, _⟩ := h
    rfl
  · obtain ⟨b, k, r, d, B, y, rfl, hB, h⟩ := h
    have hu := hu_of hr
    have r3 : Room 3 _ := hr.mono (by decide)
    refine ⟨_, pss_cons (ps_expr (pe_call (E := E) GN r3 (by rfl) gN kN bN .nil (passes_call (takes_of rfl rfl rfl rfl) fun _ _ _ _ h => h) (pa_cons (pv 1) pa_nil)))
      (pss_cons (ps_if (pt_cmp (pc_din hu (pe_fld (pv 1) rfl) (pe_fld (pv 0) rfl))) (pss_one (ps_raiseE_name rfl TT r3 (takes_of rfl rfl rfl rfl) (by exact (pa_cons (pe_fld (pv 1) rfl) pa_nil)))) pss_nil)
      (pss_cons (ps_if (pt_cmpR op_ge (pe_callB call_lenD (by rfl) ml PySem.boot_len (pa_cons (pe_fld (pv 0) rfl) pa_nil)) (pe_glob (v := .int 60) (by rfl) g60 ⟨_, rfl⟩) (nomark _)) (pss_one (ps_raiseE_most rfl TM r3 (takes_of rfl rfl rfl rfl) (by exact (pa_cons (pe_glob (v := .int 60) (by rfl) g60 ⟨_, rfl⟩) pa_nil)))) pss_nil)
      (pss_cons (ps_dput hu (pe_fld (pv 0) rfl) (pe_fld (pv 1) rfl) (pv 1) rfl)
      (pss_one (ps_dput hu (pe_fld (pv 0) rfl) (pe_fld (pv 1) rfl) (pe_lst pa_nil) rfl))))), ?_⟩
    rcases h with ⟨x, q, rfl, hq, h1, h2, h3⟩ | ⟨tb, ty, kt, h⟩
    case inr => exact ⟨_, rfl, y, rfl, .inr ⟨tb, ty, kt, h⟩⟩
    refine ⟨_, rfl, .ref x, rfl, .inl ⟨x, q, rfl, hq, ?_⟩⟩
    obtain ⟨dx, hb⟩ := hB.at_
    obtain ⟨dq, aq, hx, ha, _⟩ := id hq
    obtain ⟨o, ho, hs⟩ := hB.kept.has q.nm
    obtain ⟨kk, ek, tk⟩ := hB.kept
    obtain ⟨kd, ed, td⟩ := hB.days
    have fb : ∀ {G : Hp} {f : Str} {v : V}, G b = some (.ins CB dx (bFs k r d)) → (bFs k r d).lookup f = some v → True := fun _ _ => trivial
    refine ⟨_, rfl, x, CQ, dq, _, _, rfl, hx, CC.cls, CC.no _ (by decide), look_name _ _ _ _ _ _ _, _, rfl, b, CB, dx, _, _, rfl, hb, C.cls, C.no _ (by decide), lb_kept _ _ _, k, o, rfl, ho, _, rfl, ?_⟩
    rw [hs]
    by_cases hn : q.nm ∈ B.ns
    · rw [decide_eq_true hn]
      exact iteT ⟨_, rfl, x, CQ, dq, _, _, rfl, hx, CC.cls, CC.no _ (by decide), look_name _ _ _ _ _ _ _, _, rfl, fun e he => h1 hn e _ (same_upd he) upd_same⟩
    rw [decide_eq_false hn]
    refine iteF ⟨_, rfl, b, CB, dx, _, _, rfl, hb, C.cls, C.no _ (by decide), lb_kept _ _ _, k, kk, rfl, ek, _, _, rfl, rfl, _, rfl, ?_⟩
    rw [tk.len]
    by_cases h60 : 60 ≤ B.ns.length
    · exact iteT' (decide_eq_true (by omega)) ⟨_, rfl, fun e he => h2 hn h60 e _ (same_upd he) upd_same⟩
    refine iteF' (by simp; omega) ?_
    have l60 : B.ns.length < 60 := by omega
    obtain ⟨kr, er, tr⟩ := hB.outs
    refine ⟨_, rfl, _, rfl, b, CB, dx, _, _, rfl, hb, C.cls, C.no _ (by decide), lb_kept _ _ _, _, rfl, x, CQ, dq, _, _, rfl, hx, CC.cls, CC.no _ (by decide), look_name _ _ _ _ _ _ _, k, _, rfl, DPut.k (k := .inr q.nm) ek (small60 tk (by omega)), ?_⟩
    have nk : ∀ {a : Addr} {o : HO}, (∀ kvs, o ≠ .dK kvs) → H a = some o → a ≠ k := fun {a o} n e z => by subst z; rw [ek] at e; cases e; exact n _ rfl
    have ed1 : upd H k (.dK (putK kk (.inr q.nm) (.ref x))) d = some (.dK kd) := by rw [upd_ne (Ne.symm hB.kd)]; exact ed
    have hb1 : upd H k (.dK (putK kk (.inr q.nm) (.ref x))) b = some (.ins CB dx (bFs k r d)) := by rw [upd_ne (nk (fun _ z => by cases z) hb)]; exact hb
    have hx1 : upd H k (.dK (putK kk (.inr q.nm) (.ref x))) x = some (.ins CQ dq (qFs (.str q.nm) (.str q.mt) (.ref aq) (.int q.ri) (.int q.tl) (.int q.ma) (.str q.ki))) := by rw [upd_ne (nk (fun _ z => by cases z) hx)]; exact hx
    refine ⟨by show 0 ≤ sizeLine; exact Nat.zero_le _, fun l nl => ?_⟩
    have nl0 : H l = none := by
      by_cases z : l = k
      · subst z; rw [upd_same] at nl; cases nl
      · rw [upd_ne z] at nl; exact nl
    refine ⟨_, rfl, b, CB, dx, _, _, rfl, by rw [upd_ne (ne_of_none hb1 nl)]; exact hb1, C.cls, C.no _ (by decide), lb_days _ _ _, _, rfl, x, CQ, dq, _, _, rfl, by rw [upd_ne (ne_of_none hx1 nl)]; exact hx1, CC.cls, CC.no _ (by decide), look_name _ _ _ _ _ _ _, d, _, rfl, DPut.k (k := .inr q.nm) (by rw [upd_ne (ne_of_none ed1 nl)]; exact ed1) (small60 td (by omega)), ?_⟩
    obtain ⟨z1, z2⟩ := hB.addB hq hn ek ed nl0
    exact h3 hn l60 _ z2 z1
end
end Pk
namespace Pk
open PySem L2
section
variable {P : Program} {w : World} {K : PySem.W.Frag} {mg : Str → Option Value} {base : Heap} {CB CQ : Addr}
theorem BankAt.putB {H : Hp} {b k r d x : Addr} {B : BD} {q : QD} (h : BankAt CB CQ H b k r d B) (hq : QI CQ H x q) (hn : q.nm ∈ B.ns) {kk : List (Key × V)} (ek : H k = some (.dK kk)) :
    BankAt CB CQ (upd H k (.dK (putK kk (.inr q.nm) (.ref x)))) b k r d (B.put q) := by
  generalize hG : upd H k (.dK (putK kk (.inr q.nm) (.ref x))) = G
  have gk : G k = some (.dK (putK kk (.inr q.nm) (.ref x))) := by rw [← hG, upd_same]
  have go : ∀ {a : Addr} {o : HO}, a ≠ k → H a = some o → G a = some o := fun {a o} n1 e => by
    rw [← hG, upd_ne n1]
    exact e
  have gi : ∀ {a : Addr} {o : HO}, (∀ kvs, o ≠ .dK kvs) → H a = some o → G a = some o := fun {a o} n e => go (fun z => by subst z; rw [ek] at e; cases e; exact n _ rfl) e
  have gq : ∀ {a : Addr} {q : QD}, QI CQ H a q → QI CQ G a q := fun {a q} z => z.by fun a o n _ e => gi n e
  obtain ⟨dx, hb⟩ := h.at_
  obtain ⟨kk', ek', tk⟩ := h.kept
  rw [ek] at ek'
  cases ek'
  obtain ⟨kr, er, tr⟩ := h.outs
  obtain ⟨kd, ed, td⟩ := h.days
  refine ⟨⟨dx, gi (fun _ z => by cases z) hb⟩, ⟨_, gk, ?_⟩, ⟨kr, go (Ne.symm h.kr) er, tr⟩, ⟨kd, go (Ne.symm h.kd) ed, td.mono fun m _ v ⟨l, e, hl⟩ => ⟨l, e, gi (fun _ z => by cases z) hl⟩⟩, h.kr, h.kd, h.rd⟩
  have z := tk.put (n := q.nm) (v := .ref x) (R' := RKept CQ G (B.put q).f) (fun m _ ne v ⟨y, e, qi⟩ => ⟨y, e, by show QI CQ G y (upF B.f q.nm q m); rw [upF_ne ne]; exact gq qi⟩) ⟨x, rfl, by show QI CQ G x (upF B.f q.nm q q.nm); rw [upF_at]; exact gq hq⟩
  rw [putN_old hn] at z
  exact z
theorem BankAt.outB {H : Hp} {b k r d : Addr} {B : BD} {n z : Str} (h : BankAt CB CQ H b k r d B) {kr : List (Key × V)} (er : H r = some (.dK kr)) :
    BankAt CB CQ (upd H r (.dK (putK kr (.inr n) (.str z)))) b k r d (B.out n z) := by
  generalize hG : upd H r (.dK (putK kr (.inr n) (.str z))) = G
  have gr : G r = some (.dK (putK kr (.inr n) (.str z))) := by rw [← hG, upd_same]
  have go : ∀ {a : Addr} {o : HO}, a ≠ r → H a = some o → G a = some o := fun {a o} n1 e => by
    rw [← hG, upd_ne n1]
    exact e
  have gi : ∀ {a : Addr} {o : HO}, (∀ kvs, o ≠ .dK kvs) → H a = some o → G a = some o := fun {a o} n e => go (fun z => by subst z; rw [er] at e; cases e; exact n _ rfl) e
  obtain ⟨dx, hb⟩ := h.at_
  obtain ⟨kk, ek, tk⟩ := h.kept
  obtain ⟨kr', er', tr⟩ := h.outs
  rw [er] at er'
  cases er'
  obtain ⟨kd, ed, td⟩ := h.days
  refine ⟨⟨dx, gi (fun _ z => by cases z) hb⟩, ⟨kk, go h.kr ek, tk.mono fun m _ v ⟨x, e, qi⟩ => ⟨x, e, qi.by fun a o n _ e => gi n e⟩⟩, ⟨_, gr, ?_⟩, ⟨kd, go (Ne.symm h.rd) ed, td.mono fun m _ v ⟨l, e, hl⟩ => ⟨l, e, gi (fun _ z => by cases z) hl⟩⟩, h.kr, h.kd, h.rd⟩
  exact tr.put (n := n) (v := .str z) (R' := ROuts (B.out n z).g) (fun m _ ne v e => by show v = .str (upF B.g n z m); rw [upF_ne ne]; exact e) (by show V.str z = .str (upF B.g n z n); rw [upF_at])
theorem BankAt.dropB {H : Hp} {b k r d : Addr} {B : BD} {n : Str} (h : BankAt CB CQ H b k r d B) {kk kr kd : List (Key × V)} (ek : H k = some (.dK kk)) (er : H r = some (.dK kr)) (ed : H d = some (.dK kd)) {G : Hp} (gk : G k = some (.dK (dropK kk (.inr n)))) (gr : G r = some (.dK kr) ∧ n ∉ B.os ∨ G r = some (.dK (dropK kr (.inr n)))) (gd : G d = some (.dK (dropK kd (.inr n)))) (go : Bt [k, r, d] H G) : BankAt CB CQ G b k r d (B.drop n) := by
  have gi : ∀ {a : Addr} {o : HO}, (∀ kvs, o ≠ .dK kvs) → H a = some o → G a = some o := fun {a o} n e => go a o (fun z => by
    simp only [List.mem_cons, List.not_mem_nil, or_false] at z
    rcases z with z | z | z <;> subst z
    · rw [ek] at e; cases e; exact n _ rfl
    · rw [er] at e; cases e; exact n _ rfl
    · rw [ed] at e; cases e; exact n _ rfl) e
  obtain ⟨dx, hb⟩ := h.at_
  obtain ⟨kk', ek', tk⟩ := h.kept
  rw [ek] at ek'
  cases ek'
  obtain ⟨kr', er', tr⟩ := h.outs
  rw [er] at er'
  cases er'
  obtain ⟨kd', ed', td⟩ := h.days
  rw [ed] at ed'
  cases ed'
  refine ⟨⟨dx, gi (fun _ z => by cases z) hb⟩, ⟨_, gk, tk.drop.mono fun m _ v ⟨x, e, qi⟩ => ⟨x, e, qi.by fun a o n _ e => gi n e⟩⟩, ?_, ⟨_, gd, td.drop.mono fun m _ v ⟨l, e, hl⟩ => ⟨l, e, gi (fun _ z => by cases z) hl⟩⟩, h.kr, h.kd, h.rd⟩
  rcases gr with ⟨gr, hn⟩ | gr
  · refine ⟨kr, gr, ?_⟩
    have e : (B.drop n).os = B.os := List.filter_eq_self.mpr fun m hm => decide_eq_true fun z => hn (by rw [← z]; exact hm)
    rw [e]
    exact tr
  · exact ⟨_, gr, tr.drop⟩
theorem scDropped : FnScope ["self", "name"] ["self", "name"] (defScope sBDropped) := ⟨rfl, rfl, rfl, by decide +kernel, rfl, by decide +kernel, by decide +kernel⟩
theorem ok_dropped {f fO cN : Addr} {fd fdO : FuncData} (F : Fun K "dropped" "Bank.dropped" sBDropped f fd) (C : BCls K CB)
    (GO : FnOk P w K mg base (L2.CX P w) 3 fO fdO ["self", "name"] (spKnown CB CQ cN)) (MO : Meth K CB "need_known" fO) (bO : Binds K fdO ["self", "name"] []) :
    FnOk P w K mg base (L2.CX P w) 5 f fd ["self", "name"] (spDroppedB CB CQ cN) := by
  refine F.okX scDropped (fun vs H Q E h => ?_) (fun cdv A outer s H vs Q E hr h => ?_)
  · obtain ⟨b, k, r, d, B, y, rfl, _⟩ := h
    rfl
  · obtain ⟨b, k, r, d, B, y, rfl, hB, hos, h⟩ := h
    have hu := hu_of hr
    have r3 : Room 3 _ := hr.mono (by decide)
    refine ⟨_, pss_cons (ps_expr (pe_meth (E := E) (pv 0) C.cls MO GO r3 bO .nil (passes_call (takes_of rfl rfl rfl rfl) fun _ _ _ _ h => h) (pa_cons (pv 1) pa_nil)))
      (pss_cons (ps_ddel (pe_fld (pv 0) rfl) (pv 1))
      (pss_cons (ps_ddel (pe_fld (pv 0) rfl) (pv 1))
      (pss_one (ps_if (pt_cmp (pc_din hu (pv 1) (pe_fld (pv 0) rfl))) (pss_one (ps_ddel (pe_fld (pv 0) rfl) (pv 1))) pss_nil)))), ?_⟩
    obtain ⟨dx, hb⟩ := hB.at_
    refine ⟨_, rfl, b, dx, _, rfl, hb, lb_meth (by decide) _ _ _, _, rfl, b, k, r, d, B, y, rfl, hB, ?_⟩
    rcases h with ⟨n, hn, rfl, q⟩ | h
    case inr => exact .inr h
    obtain ⟨kk, ek, tk⟩ := hB.kept
    obtain ⟨kr, er, tr⟩ := hB.outs
    obtain ⟨kd, ed, td⟩ := hB.days
    obtain ⟨vk, hvk, _⟩ := tk.2 n hn
    obtain ⟨vd, hvd, _⟩ := td.2 n hn
    have nb : ∀ {kvs : List (Key × V)} {a : Addr}, H a = some (.dK kvs) → b ≠ a := fun {kvs a} e z => by subst z; rw [hb] at e; cases e
    refine .inl ⟨n, hn, rfl, _, rfl, b, CB, dx, _, _, rfl, hb, C.cls, C.no _ (by decide), lb_kept _ _ _, _, rfl, k, kk, .inr n, rfl, ek, rfl, by rw [hvk]; rfl, ?_⟩
    refine ⟨_, rfl, b, CB, dx, _, _, rfl, by rw [upd_ne (nb ek)]; exact hb, C.cls, C.no _ (by decide), lb_days _ _ _, _, rfl, d, kd, .inr n, rfl, by rw [upd_ne (Ne.symm hB.kd)]; exact ed, rfl, by rw [hvd]; rfl, ?_⟩
    generalize hG : upd (upd H k (.dK (dropK kk (.inr n)))) d (.dK (dropK kd (.inr n))) = G
    have gk : G k = some (.dK (dropK kk (.inr n))) := by rw [← hG, upd_ne hB.kd, upd_same]
    have gd : G d = some (.dK (dropK kd (.inr n))) := by rw [← hG, upd_same]
    have gr : G r = some (.dK kr) := by rw [← hG, upd_ne hB.rd, upd_ne (Ne.symm hB.kr)]; exact er
    have gb : G b = some (.ins CB dx (bFs k r d)) := by rw [← hG, upd_ne (nb ed), upd_ne (nb ek)]; exact hb
    have bt : Bt [k, r, d] H G := by
      rw [← hG]
      exact (Bt.put List.mem_cons_self).trans (Bt.put (by simp))
    have trG : TbAt G r B.os (ROuts B.g) := ⟨kr, gr, tr⟩
    obtain ⟨o, ho, hs⟩ := trG.has n
    refine ⟨_, rfl, _, rfl, b, CB, dx, _, _, rfl, gb, C.cls, C.no _ (by decide), lb_reasons _ _ _, r, o, rfl, ho, _, rfl, ?_⟩
    rw [hs]
    by_cases hno : n ∈ B.os
    · rw [decide_eq_true hno]
      obtain ⟨vr, hvr, _⟩ := tr.2 n hno
      refine iteT ⟨_, rfl, b, CB, dx, _, _, rfl, gb, C.cls, C.no _ (by decide), lb_reasons _ _ _, _, rfl, r, kr, .inr n, rfl, gr, rfl, by rw [hvr]; rfl, ?_⟩
      exact q _ (bt.trans (Bt.put (by simp))) (hB.dropB ek er ed (by rw [upd_ne hB.kr]; exact gk) (.inr upd_same) (by rw [upd_ne (Ne.symm hB.rd)]; exact gd) (bt.trans (Bt.put (by simp))))
    · rw [decide_eq_false hno]
      exact iteF (q _ bt (hB.dropB ek er ed gk (.inl ⟨gr, hno⟩) gd bt))
theorem scOut : FnScope ["self", "name", "why"] ["self", "name", "why"] (defScope sBOut) := ⟨rfl, rfl, rfl, by decide +kernel, rfl, by decide +kernel, by decide +kernel⟩
abbrev FunO (K : PySem.W.Frag) (f : Addr) (fd : FuncData) : Prop := FunD K "taken_out" "Bank.taken_out" (defArgs sBOut) (defBody sBOut) (defScope sBOut) [.str "wrong"] [] f fd
theorem ok_outB {f fT fO cN cX : Addr} {fd fdT fdO : FuncData} (F : FunO K f fd) (C : BCls K CB) (BX : BadTxt K mg cX)
    (GT : FnOk P w K mg base CX0 2 fT fdT ["thing"] spIsText) (kT : PySem.W.keepIn K (.ref fT) = true) (bT : Binds K fdT ["thing"] []) (gT : mg "is_text" = some (.ref fT))
    (GO : FnOk P w K mg base (L2.CX P w) 3 fO fdO ["self", "name"] (spKnown CB CQ cN)) (MO : Meth K CB "need_known" fO) (bO : Binds K fdO ["self", "name"] []) :
    FnOk P w K mg base (L2.CX P w) 5 f fd ["self", "name", "why"] (spOutB CB CQ cN cX) := by
  refine F.ok scOut (fun vs H Q E h => ?_) (fun cdv A outer s H vs Q E hr h => ?_)
  · obtain ⟨b, k, r, d, B, y, z, rfl, _⟩ := h
    rfl
  · obtain ⟨b, k, r, d, B, y, z, rfl, hB, hl, tz, h⟩ := h
    have hu := hu_of hr
    have r3 : Room 3 _ := hr.mono (by decide)
    have r2 : Room 2 _ := hr.mono (by decide)
    refine ⟨_, pss_cons (ps_expr (pe_meth (E := E) (pv 0) C.cls MO GO r3 bO .nil (passes_call (takes_of rfl rfl rfl rfl) fun _ _ _ _ h => h) (pa_cons (pv 1) pa_nil)))
      (pss_cons (ps_if (pt_not (pt_val (pe_call GT r2 (by rfl) gT kT bT .nil pass0 (pa_cons (pv 2) pa_nil)))) (pss_one (ps_raise rfl (takes_of rfl rfl rfl rfl) (pmk_own PySem.F.excBase_ValueError BX.x BX.g BX.k (raises_own BX.b BX.t) (by exact rfl)))) pss_nil)
      (pss_one (ps_dput hu (pe_fld (pv 0) rfl) (pv 1) (pv 2) rfl))), ?_⟩
    obtain ⟨dx, hb⟩ := hB.at_
    refine ⟨_, rfl, b, dx, _, rfl, hb, lb_meth (by decide) _ _ _, _, rfl, b, k, r, d, B, y, rfl, hB, ?_⟩
    rcases h with ⟨n, hn, rfl, h1, h2⟩ | h
    · refine .inl ⟨n, hn, rfl, _, rfl, z, rfl, tz, fun H1 s1 => ⟨_, rfl, ?_⟩⟩
      cases htz : textV z with
      | false => exact iteT (h2 htz H1 s1)
      | true =>
        cases z with
        | str t =>
          have hB1 := hB.same s1
          obtain ⟨kr, er, tr⟩ := hB1.outs
          refine iteF ⟨_, rfl, _, rfl, b, CB, dx, _, _, rfl, s1 _ _ hb, C.cls, C.no _ (by decide), lb_reasons _ _ _, _, rfl, r, _, rfl, DPut.k (k := .inr n) er (small60 tr hl), ?_⟩
          exact h1 t rfl htz _ ((Bt.same s1).trans (Bt.put List.mem_cons_self)) (hB1.outB er)
        | _ => cases htz
    · exact .inr h
end
end Pk
namespace Pk
open PySem L2
/-! ### banks made -/
/-- what is handed in for questions -/
def Handed (H : Hp) (y : V) (L : List V) : Prop := (y = .non ∧ L = []) ∨ ∃ a, y = .ref a ∧ (H a = some (.lst L) ∨ H a = some (.tup L))
theorem Handed.same {H H' : Hp} {y : V} {L : List V} (h : Handed H y L) (s : Same H H') : Handed H' y L := by
  rcases h with h | ⟨a, e, h | h⟩
  · exact .inl h
  · exact .inr ⟨a, e, .inl (s _ _ h)⟩
  · exact .inr ⟨a, e, .inr (s _ _ h)⟩
def NoList (K : PySem.W.Frag) (H : Hp) (y : V) : Prop := y ≠ .non ∧ ∃ tb, (∀ G, Same H G → TyX K G y tb) ∧ PySem.W.kitAny K tb [.type "list", .type "tuple"] = some false
def spListed (K : PySem.W.Frag) (cK : Addr) : Sp := fun vs H Q E => ∃ y : V, vs = [y] ∧ ((∃ L : List V, Handed H y L ∧ ∀ (p : Addr) (H' : Hp), Same H H' → H p = none → H' p = some (.lst L) → Q (.ref p) H') ∨ (NoList K H y ∧ Err1 cK "wanted" (.str "list") H E))
def spInitB (K : PySem.W.Frag) (CB CQ cK cT cM : Addr) : Sp := fun vs H Q E => ∃ (H0 : Hp) (b dx : Addr) (y : V), vs = [.ref b, y] ∧ H b = some (.ins CB dx []) ∧ H0 b = none ∧ Same H0 H ∧
  ((∃ (L : List V) (ts : List (Option QD)), Handed H0 y L ∧ L.length = ts.length ∧ (∀ (i : Nat) (v : V) (t : Option QD), L[i]? = some v → ts[i]? = some t → ThB K CQ H0 v t) ∧
      (∀ B, runB B0 ts = .inl B → ∀ (k r d : Addr) (H' : Hp), Same H0 H' → H0 k = none → H0 r = none → H0 d = none → BankAt CB CQ H' b k r d B → Q .non H') ∧ ∀ e, runB B0 ts = .inr e → BadE cK cT cM H0 E e) ∨
    (NoList K H0 y ∧ Err1 cK "wanted" (.str "list") H0 E))
theorem Err1.same {C : Addr} {fl : Str} {v : V} {H H' : Hp} {E : XK} (h : Err1 C fl v H E) (s : Same H H') : Err1 C fl v H' E := fun d G k e => h d G (s.trans k) e
theorem BadE.same {cK cT cM : Addr} {H H' : Hp} {E : XK} {e : Bad} (h : BadE cK cT cM H E e) (s : Same H H') : BadE cK cT cM H' E e := by
  cases e with
  | kind => exact Err1.same h s
  | many => exact Err1.same h s
  | twice n => exact Err1.same h s
theorem NoList.same {K : PySem.W.Frag} {H H' : Hp} {y : V} (h : NoList K H y) (s : Same H H') : NoList K H' y := ⟨h.1, by
  obtain ⟨tb, h1, h2⟩ := h.2
  exact ⟨tb, fun G k => h1 G (s.trans k), h2⟩⟩
theorem none_of {H H' : Hp} {a : Addr} (s : Same H H') (h : H' a = none) : H a = none := by
  cases e : H a with
  | none => rfl
  | some o => rw [s _ _ e] at h; cases h
theorem run_cons (B : BD) (q : QD) (r : List (Option QD)) : runB B (some q :: r) = if q.nm ∈ B.ns then .inr (.twice q.nm) else if 60 ≤ B.ns.length then .inr .many else runB (B.add q) r := rfl
section
variable {P : Program} {w : World} {K : PySem.W.Frag} {mg : Str → Option Value} {base : Heap} {CB CQ : Addr}
theorem scListed : FnScope ["questions"] ["questions"] (defScope sListed) := ⟨rfl, rfl, rfl, by decide +kernel, rfl, by decide +kernel, by decide +kernel⟩
theorem ok_listed {f cK fJ : Addr} {fd : FuncData} (F : Fun K "listed" "listed" sListed f fd) (TK : TxK K mg cK fJ) (mi : mg "isinstance" = none) (mli : mg "list" = none) (mt : mg "tuple" = none) : FnOk P w K mg base (L2.CX P w) 3 f fd ["questions"] (spListed K cK) := by
  refine F.okX scListed (fun vs H Q E h => ?_) (fun cdv A outer s H vs Q E hr h => ?_)
  · obtain ⟨y, rfl, _⟩ := h
    rfl
  · obtain ⟨y, rfl, h⟩ := h
    refine ⟨_, pss_cons (ps_if (pt_cmpR op_isN (pv 0) pe_non (nomark _)) (pss_one (ps_ret (pe_lst pa_nil))) pss_nil)
      (pss_cons (ps_if (pt_not (pt_val (pe_callB call_isiT (by rfl) mi (by decide +kernel) (pa_cons (pv 0) (pa_cons (pe_tup (pa_cons (pe_bltn (v := .ty "list") (by rfl) mli PyProof.Rows.boot_list rfl) (pa_cons (pe_bltn (v := .ty "tuple") (by rfl) mt PyProof.Rows.boot_tuple rfl) pa_nil))) pa_nil))))) (pss_one (ps_raiseE_wanted rfl TK hr (takes_of rfl rfl rfl rfl) (by exact (pa_cons pe_str pa_nil)))) pss_nil)
      (pss_one (ps_ret (pe_callTy call_list_of (by rfl) mli (by decide +kernel) (pa_cons (pv 0) pa_nil))))), ?_⟩
    refine ⟨_, rfl, rfl, _, rfl, ?_⟩
    rcases h with ⟨L, (⟨rfl, rfl⟩ | ⟨a, rfl, ha⟩), q⟩ | ⟨⟨ny, tb, ty, kt⟩, k⟩
    · exact iteT ⟨by show 0 ≤ sizeLine; exact Nat.zero_le _, fun p np => q p _ (same_upd np) np upd_same⟩
    · refine iteF' (by simp) ⟨_, rfl, by show 2 ≤ sizeLine; decide, fun t nt => ?_⟩
      rcases ha with ha | ha
      · have s1 := same_upd (o := .tup [.ty "list", .ty "tuple"]) nt
        refine ⟨.ref a, t, [.ty "list", .ty "tuple"], .type "list", [.type "list", .type "tuple"], true, rfl, upd_same, .cons (.ty _) (.cons (.ty _) .nil), .base (.lst (s1 _ _ ha)), kit_two (by decide), _, rfl, iteF ?_⟩
        refine ⟨_, rfl, a, L, rfl, .inl (SqL.of (s1 _ _ ha)), fun p np => q p _ (s1.trans (same_upd np)) (none_of s1 np) upd_same⟩
      · have s1 := same_upd (o := .tup [.ty "list", .ty "tuple"]) nt
        refine ⟨.ref a, t, [.ty "list", .ty "tuple"], .type "tuple", [.type "list", .type "tuple"], true, rfl, upd_same, .cons (.ty _) (.cons (.ty _) .nil), .base (.tup (s1 _ _ ha)), kit_two (by decide), _, rfl, iteF ?_⟩
        refine ⟨_, rfl, a, L, rfl, .inr (SqT.of (s1 _ _ ha)), fun p np => q p _ (s1.trans (same_upd np)) (none_of s1 np) upd_same⟩
    · refine iteF' (by simpa using ny) ⟨_, rfl, by show 2 ≤ sizeLine; decide, fun t nt => ?_⟩
      have s1 := same_upd (o := .tup [.ty "list", .ty "tuple"]) nt
      exact ⟨y, t, [.ty "list", .ty "tuple"], tb, [.type "list", .type "tuple"], false, rfl, upd_same, .cons (.ty _) (.cons (.ty _) .nil), ty _ s1, kt, _, rfl, iteT ⟨_, rfl, fun d hd => k d _ (s1.trans (same_upd hd)) upd_same⟩⟩
abbrev NInitB : List Str := ["self", "questions", "question"]
theorem scInitB : FnScope NInitB ["self", "questions"] (defScope sBInit) := ⟨rfl, rfl, rfl, by decide +kernel, rfl, by decide +kernel, by decide +kernel⟩
abbrev FunB (K : PySem.W.Frag) (f : Addr) (fd : FuncData) : Prop := FunD K "__init__" "Bank.__init__" (defArgs sBInit) (defBody sBInit) (defScope sBInit) [.non] [] f fd
theorem ok_initB {f fL fA cK cT cM : Addr} {fd fdL fdA : FuncData} (F : FunB K f fd) (C : BCls K CB)
    (GL : FnOk P w K mg base (L2.CX P w) 3 fL fdL ["questions"] (spListed K cK)) (kL : PySem.W.keepIn K (.ref fL) = true) (bL : Binds K fdL ["questions"] []) (gL : mg "listed" = some (.ref fL))
    (GA : FnOk P w K mg base (L2.CX P w) 5 fA fdA ["self", "question"] (spAddedB K CB CQ cK cT cM)) (MA : Meth K CB "added" fA) (bA : Binds K fdA ["self", "question"] []) :
    FnOk P w K mg base (L2.CX P w) 6 f fd ["self", "questions"] (spInitB K CB CQ cK cT cM) := by
  refine F.ok scInitB (fun vs H Q E h => ?_) (fun cdv A outer s H vs Q E hr h => ?_)
  · obtain ⟨H0, b, dx, y, rfl, _⟩ := h
    rfl
  · obtain ⟨H0, b, dx, y, rfl, hb, nb, s0, h⟩ := h
    have r3 : Room 3 _ := hr.mono (by decide)
    refine ⟨_, pss_cons (ps_fld (pv 0) pe_dnewK rfl) (pss_cons (ps_fld (pv 0) pe_dnewK rfl) (pss_cons (ps_fld (pv 0) pe_dnewK rfl)
      (pss_one (ps_for (passes_of rfl) rfl (pi_list (pe_call (E := E) GL r3 (by rfl) gL kL bL .nil (passes_call (takes_of rfl rfl rfl rfl) fun _ _ _ _ h => h) (pa_cons (pv 1) pa_nil))) (pg_name (i := 2) scInitB.nd rfl (.inl rfl))
        (pss_one (ps_expr (pe_meth (E := E) (pv 0) C.cls MA GA hr bA .nil (passes_call (takes_of rfl rfl rfl rfl) fun _ _ _ _ h => h) (pa_cons (pv 2) pa_nil)))))))), ?_⟩
    refine fun k nk => ⟨_, rfl, b, CB, dx, _, rfl, by rw [upd_ne (ne_of_none hb nk)]; exact hb, C.cls, C.no _ (by decide), by show 0 < 1000; decide, ?_⟩
    refine fun r nr => ⟨_, rfl, b, CB, dx, _, rfl, by rw [upd_ne (ne_of_none upd_same nr), upd_same], C.cls, C.no _ (by decide), Nat.lt_of_le_of_lt (put_le (Nat.le_refl 0)) (by decide), ?_⟩
    refine fun d nd => ⟨_, rfl, b, CB, dx, _, rfl, by rw [upd_ne (ne_of_none upd_same nd), upd_same], C.cls, C.no _ (by decide), Nat.lt_of_le_of_lt (put_le (put_le (Nat.le_refl 0))) (by decide), ?_⟩
    rw [bFs_put]
    have bk : b ≠ k := ne_of_none hb nk
    have br : b ≠ r := ne_of_none upd_same nr
    have bd : b ≠ d := ne_of_none upd_same nd
    have rk : r ≠ k := fun z => by subst z; rw [upd_ne (Ne.symm br), upd_same] at nr; cases nr
    have dr : d ≠ r := fun z => by subst z; rw [upd_ne (Ne.symm bd), upd_same] at nd; cases nd
    have dk : d ≠ k := fun z => by subst z; rw [upd_ne (Ne.symm bd), upd_ne (Ne.symm rk), upd_ne (Ne.symm bd), upd_same] at nd; cases nd
    have nr0 : H r = none := by rw [upd_ne (Ne.symm br), upd_ne rk] at nr; exact nr
    have nd0 : H d = none := by rw [upd_ne (Ne.symm bd), upd_ne dr, upd_ne (Ne.symm bd), upd_ne dk] at nd; exact nd
    generalize hG : upd (upd (upd (upd (upd (upd H k (.dK [])) b (.ins CB dx (putF "kept" (.ref k) []))) r (.dK [])) b (.ins CB dx (putF "reasons" (.ref r) (putF "kept" (.ref k) [])))) d (.dK [])) b (.ins CB dx (bFs k r d)) = G
    have gb : G b = some (.ins CB dx (bFs k r d)) := by rw [← hG, upd_same]
    have gk : G k = some (.dK []) := by rw [← hG, upd_ne (Ne.symm bk), upd_ne (Ne.symm dk), upd_ne (Ne.symm bk), upd_ne (Ne.symm rk), upd_ne (Ne.symm bk), upd_same]
    have gr : G r = some (.dK []) := by rw [← hG, upd_ne (Ne.symm br), upd_ne (Ne.symm dr), upd_ne (Ne.symm br), upd_same]
    have gd : G d = some (.dK []) := by rw [← hG, upd_ne (Ne.symm bd), upd_same]
    have sG : Same H0 G := fun a o e => by
      have e1 := s0 _ _ e
      have ab : a ≠ b := ne_of_none e nb
      rw [← hG, upd_ne ab, upd_ne (ne_of_none e1 nd0), upd_ne ab, upd_ne (ne_of_none e1 nr0), upd_ne ab, upd_ne (ne_of_none e1 nk)]
      exact e1
    have k0 : H0 k = none := none_of s0 nk
    have r0 : H0 r = none := none_of s0 nr0
    have d0 : H0 d = none := none_of s0 nd0
    have hB : BankAt CB CQ G b k r d B0 := ⟨⟨dx, gb⟩, ⟨[], gk, .nil⟩, ⟨[], gr, .nil⟩, ⟨[], gd, .nil⟩, Ne.symm rk, Ne.symm dk, Ne.symm dr⟩
    rcases h with ⟨L, ts, hL, ll, hT, q1, q2⟩ | ⟨nl, k⟩
    case inr => exact ⟨_, rfl, y, rfl, .inr ⟨nl.same sG, Err1.same k sG⟩⟩
    refine ⟨_, rfl, y, rfl, .inl ⟨L, hL.same sG, fun p H1 s1 np hp => ⟨p, rfl, ⟨_, SqL.of hp⟩, ?_⟩⟩⟩
    refine for_it (walk_list (K := K) (a := p) (xs := L)) (fun i σ G' => ∃ (v2 : Option V) (B : BD), σ = [some (.ref b), some y, v2] ∧ Same H0 G' ∧ BankAt CB CQ G' b k r d B ∧ runB B0 ts = runB B (ts.drop i) ∧ G' p = some (.lst L)) ⟨_, B0, rfl, sG.trans s1, hB.same s1, rfl, hp⟩ (fun i σ G' _ ⟨_, _, _, _, _, _, h⟩ => SqL.of h) ?_ ?_
    · rintro i x σ G1 G' hi ⟨v2, B, rfl, sg, hBg, er, hpg⟩ ⟨rfl, hx⟩
      have hti : i < ts.length := by rw [← ll]; exact hi
      have et := List.getElem?_eq_getElem hti
      have ed : ts.drop i = ts[i] :: ts.drop (i + 1) := List.drop_eq_getElem_cons hti
      have th := (hT i x _ hx et).same sg
      rw [ed] at er
      obtain ⟨dx', hb'⟩ := hBg.at_
      refine ⟨_, rfl, b, dx', _, rfl, hb', lb_meth (by decide) _ _ _, _, rfl, b, k, r, d, B, x, rfl, hBg, ?_⟩
      cases hq : ts[i] with
      | none =>
        rw [hq] at th er
        obtain ⟨tb, t1, t2⟩ := th
        exact .inr ⟨tb, t1 _ (Same.refl _), t2, Err1.same (q2 .kind er) sg⟩
      | some q =>
        rw [hq] at th er
        obtain ⟨z, rfl, qi⟩ := th
        rw [run_cons] at er
        refine .inl ⟨z, q, rfl, qi, fun hn => ?_, fun hn h60 => ?_, fun hn h60 H2 bt hB2 => ?_⟩
        · rw [if_pos hn] at er
          exact Err1.same (q2 (.twice _) er) sg
        · rw [if_neg hn, if_pos h60] at er
          exact Err1.same (q2 .many er) sg
        · rw [if_neg hn, if_neg (by omega)] at er
          obtain ⟨⟨_, ik⟩, _, ⟨_, id⟩⟩ := hBg.isB
          refine ⟨_, B.add q, rfl, bt.fresh sg fun a ha => ?_, hB2, er, bt p _ (fun z => ?_) hpg⟩
          · simp only [List.mem_cons, List.not_mem_nil, or_false] at ha
            rcases ha with rfl | rfl
            · exact k0
            · exact d0
          · simp only [List.mem_cons, List.not_mem_nil, or_false] at z
            rcases z with rfl | rfl
            · rw [ik] at hpg; cases hpg
            · rw [id] at hpg; cases hpg
    · rintro σ G' ⟨v2, B, rfl, sg, hBg, er, hpg⟩
      rw [ll, List.drop_length] at er
      exact q1 B er k r d G' sg k0 r0 d0 hBg
end
end Pk
/-! ### xs[lo::d] of a list: some of its things -/
namespace Pk
open PySem L2 PySem.Calls PyProof.Rows
theorem range_len {lo : Int} {n : Nat} {d : Int} (hd : 0 < d) (h0 : 0 ≤ lo) : (sliceRange lo (n : Int) d).length ≤ n := by
  unfold sliceRange
  rw [if_pos (show d > 0 from hd)]
  by_cases h : lo < (n : Int)
  · rw [if_pos h, List.length_map, List.length_range]
    have h1 : ((n : Int) - lo + d - 1) / d ≤ (n : Int) - lo := by
      refine Int.le_of_lt_add_one (Int.ediv_lt_of_lt_mul hd ?_)
      have : ((n : Int) - lo + 1) * d = ((n : Int) - lo) * d + d := by rw [Int.add_mul, Int.one_mul]
      have h2 : (n : Int) - lo ≤ ((n : Int) - lo) * d := by
        have := Int.mul_le_mul_of_nonneg_left (show (1 : Int) ≤ d by omega) (show 0 ≤ (n : Int) - lo by omega)
        omega
      omega
    omega
  · rw [if_neg h]
    exact Nat.zero_le _
theorem pick_vals {xs : List V} {its : List Value} (r : Vals xs its) : ∀ l : List Nat, Vals (l.filterMap (xs[·]?)) (l.filterMap (its[·]?))
  | [] => .nil
  | i :: l => by
    rw [List.filterMap_cons, List.filterMap_cons]
    cases e : xs[i]? with
    | some x =>
      obtain ⟨u, eu, ru⟩ := r.get e
      rw [eu]
      exact .cons ru (pick_vals r l)
    | none =>
      have : its[i]? = none := by
        rw [List.getElem?_eq_none_iff] at e ⊢
        rw [← r.length]
        exact e
      rw [this]
      exact pick_vals r l
def tStepL (K : PySem.W.Frag) (te tl : TE) : TE := fun σ H Q => te σ H fun x H1 => tl σ H1 fun y H2 => ∃ a xs k, x = .ref a ∧ y = .int k ∧ SqL K H2 a xs ∧ ∀ (p : Addr) (ys : List V) (H' : Hp), Same H2 H' → H2 p = none → (∀ v ∈ ys, v ∈ xs) → ys.length ≤ xs.length → H' p = some (.lst ys) → Q (.ref p) H'
section
variable {X : Cx}
theorem pe_stepL {e lo st : Expr} {te tl : TE} {d : Int} {p3 pos : Pos} (he : PE X e te) (hl : PE X lo tl) (hs : PE X st (tC (.int d))) (hd : 0 < d) : PE X (.Subscript e (.Slice (some lo) none (some st) p3) pos) (tStepL X.K te tl) := by
  refine ⟨fun pins s σ H Q I h => ?_⟩
  refine Subscript_ (thn (he.run pins s σ H _ I h) fun v s1 ⟨x, H1, I1, r1, q1⟩ => ?_)
  refine wpAny_Slice (thn ((po_some hl).run pins s1 σ H1 (fun o H2 => ∃ k, o = some k ∧ ∃ a xs, x = .ref a ∧ SqL X.K H2 a xs ∧ ∀ (p : Addr) (ys : List V) (H' : Hp), Same H2 H' → H2 p = none → (∀ v ∈ ys, v ∈ xs) → ys.length ≤ xs.length → H' p = some (.lst ys) → Q (.ref p) H') I1 ?_) fun vl s2 ⟨l, H2, I2, pl, k, el, a, xs, ex, hx, q⟩ => ?_)
  · show tl σ H1 _
    have conv : ∀ {Q1 Q2 : VK}, Q1 = Q2 → tl σ H1 Q1 → tl σ H1 Q2 := fun {Q1 Q2} e h => e ▸ h
    refine conv ?_ q1
    funext y H2
    apply propext
    constructor
    · rintro ⟨a, xs, k, e1, e2, hx, q⟩
      exact ⟨k, e2, k, rfl, a, xs, e1, hx, q⟩
    · rintro ⟨k, e2, k', e3, a, xs, e1, hx, q⟩
      cases e3
      exact ⟨a, xs, k, e1, e2, hx, q⟩
  subst el ex
  cases r1
  refine thn (po_none.run pins s2 σ H2 (fun o H3 => o = none ∧ H3 = H2) I2 ⟨rfl, rfl⟩) fun vu s3 ⟨u, H3, I3, pu, eu, e3⟩ => ?_
  subst eu e3
  refine thn ((po_some hs).run pins s3 σ H3 (fun o H4 => o = some d ∧ H4 = H3) I3 ⟨d, rfl, rfl, rfl⟩) fun vs s4 ⟨o, H4, I4, ps, eo, e4⟩ => ?_
  subst eo e4
  have I5 : Inv X pins σ H4 { s4 with heap := s4.heap.push { cls := .type "slice", data := .fields #[vl, vu, vs] } } := I4.kept (t' := s4.toks) fun b ob q => Heap.get?_push_of_some _ q
  obtain ⟨its, r, ht, hz⟩ := I5.list hx
  have hlen := r.length
  show wpAny (model X.prog X.w) X.A (subscriptTail e (.Slice (some lo) none (some st) p3) (.ref a) (.ref s4.heap.objs.size)) (EP X pins σ Q) X.xe { s4 with heap := s4.heap.push { cls := .type "slice", data := .fields #[vl, vu, vs] } }
  refine tail_any (ops := [.ref a, .ref s4.heap.objs.size]) ht.isList.typeIs (PySem.slot_list_getitem.lookup) ?_ (by with_unfolding_all rfl)
  refine wpAny_getItem_list_slice ht.isList (Heap.IsSliceOf.new _ vl vu vs) pl pu ps (fun z => by cases z; omega) ?_ (by rw [List.size_toArray]; omega)
  obtain ⟨l0, hl0, el0⟩ : ∃ l0 : List Nat, l0.length ≤ its.length ∧ slicePick its.toArray (some k) none (some d) = (l0.filterMap (its[·]?)).toArray := by
    refine ⟨sliceRange (sliceBounds (some k) none (some d) its.length).1 (its.length : Int) d, range_len hd ?_, ?_⟩
    · show 0 ≤ (if d > 0 then max 0 (min (if k < 0 then k + (its.length : Int) else k) (its.length : Int)) else _)
      rw [if_pos hd]
      exact Int.le_max_left _ _
    · unfold slicePick
      have e2 : (sliceBounds (some k) none (some d) its.toArray.size).2.1 = (its.length : Int) := by
        show (if d > 0 then (its.toArray.size : Int) else -1) = _
        rw [if_pos hd, List.size_toArray]
      rw [e2, List.size_toArray]
      simp only [List.getElem?_toArray]
      rfl
  rw [el0]
  have ly : (l0.filterMap (xs[·]?)).length ≤ xs.length := Nat.le_trans (List.length_filterMap_le _ _) (by omega)
  refine ⟨.ref _, _, I5.laid (t' := s4.toks) (o := .lst (l0.filterMap (xs[·]?))) (fun b ob q => Heap.get?_push_of_some _ q) (Nat.le_refl _) ?_, rfl, q _ (l0.filterMap (xs[·]?)) _ (same_upd (I5.hok.fresh (Nat.le_refl _))) (I5.hok.fresh (Nat.le_refl _)) (fun v hv => ?_) ly upd_same⟩
  · exact ⟨by omega, _, 0, pick_vals r l0, Heap.get?_push_size _ rfl⟩
  · obtain ⟨i, _, hi⟩ := List.mem_filterMap.mp hv
    exact List.mem_of_getElem? hi
end
end Pk
/-! ### != of lists that are the same; o.m(e, k = v) -/
namespace Pk
open PySem PySem.Spec PyProof.Rows L2
def rNeS (K : PySem.W.Frag) : R2 := fun x y H Q => ∃ (a b : Addr) (xs : List V), x = .ref a ∧ y = .ref b ∧ SqL K H a xs ∧ SqL K H b xs ∧ (∀ v ∈ xs, flatB v = true) ∧ Q (.bl false) H
theorem op_neS {X : Cx} (hu : X.A.units + 64 < cLine) : OpR X (compareOp .NotEq) (rNeS X.K) := by
  rintro pins s σ H x y v u Q I rx ry ⟨a, b, xs, rfl, rfl, ha, hb, hf, q⟩
  cases (show v = Value.ref a from rx)
  cases (show u = Value.ref b from ry)
  obtain ⟨us, r1, p1, _⟩ := I.list ha
  obtain ⟨ws, r2, p2, _⟩ := I.list hb
  have hsz : us.toArray.size = ws.toArray.size := by
    rw [List.size_toArray, List.size_toArray, ← r1.length, ← r2.length]
  have all : ∀ {xs : List V} {us ws : List Value}, (∀ v ∈ xs, flatB v = true) → Vals xs us → Vals xs ws → ∀ j (h1 : j < us.length) (h2 : j < ws.length), SeqAt.EqAt X.A.in1 s us[j] ws[j] true := by
    intro xs
    induction xs with
    | nil =>
      intro us ws _ r1 r2 j h1 h2
      cases r1
      exact absurd h1 (Nat.not_lt_zero j)
    | cons x xs ih =>
      intro us ws hf r1 r2 j h1 h2
      cases r1 with
      | cons a1 b1 =>
        cases r2 with
        | cons a2 b2 =>
          cases j with
          | zero => exact eqAt_same a1 a2 (hf x List.mem_cons_self)
          | succ j => exact ih (fun v hv => hf v (List.mem_cons_of_mem _ hv)) b1 b2 j (Nat.lt_of_succ_lt_succ h1) (Nat.lt_of_succ_lt_succ h2)
  refine SeqAt.RcNeAt.lists (e := fun _ => true) p1.isList p2.isList hsz (by omega) (fun j h1 h2 => ?_) X.prog X.w _ _ ?_
  · have k := all hf r1 r2 j (by simpa using h1) (by simpa using h2)
    simpa using k
  · rw [show ((List.range us.toArray.size).all fun _ => true) = true from List.all_eq_true.mpr fun _ _ => rfl]
    exact ⟨.bl false, H, I, rfl, q⟩
section
variable {X : Cx} {CX : CXT} {k n : Nat} {f C : Addr} {fd : FuncData} {ps ks : List Str} {sp : Sp} {E : XK} {m : Str} {p pos apos : Pos} {o e : Expr} {es : List Expr} {ta : TE} {t : TA} {kws : List Keyword} {tk : TA} {g : List Value → List Value → List Value} {gV : List V → List V → List V}
def tMethNP (C : Addr) (m : Str) (n nk : Nat) (sp : Sp) (gV : List V → List V → List V) (E : XK) (ta : TE) (t tk : TA) : TE := fun σ H Q => ta σ H fun x H1 => ∃ a dx fs, x = .ref a ∧ H1 a = some (.ins C dx fs) ∧ fs.lookup m = none ∧ t σ H1 fun vs H2 => tk σ H2 fun zs H3 => vs.length = n ∧ zs.length = nk ∧ sp (gV (x :: vs) zs) H3 Q E
theorem pe_methNP {pl : Sem Bool} (he : PE X o ta) (c : Cls X.K C) (hm : Meth X.K C m f) (F : FnOk X.prog X.w X.K X.mg X.base CX k f fd ps sp) (hr : Room k X.A) (hb : KBn X.K fd ps (n + 1) ks g gV) (hx : Passes CX X E)
    (ha : PA X (e :: es) t) (hkw : PK X kws tk) (hall : (backToKw pos (keywordEach kws X.env)).all (·.1.isSome) = true := by rfl) (hks : (backToKw pos (keywordEach kws X.env)).filterMap (·.1) = ks := by rfl)
    (hes : starEach (e :: es) X.env = (false, eval e X.env) :: starEach es X.env := by rfl)
    (hpl : ((backTo pos (starEach (e :: es) X.env)).any (·.1) || (backToKw pos (keywordEach kws X.env)).any (·.1.isNone)) = false := by rfl)
    (ht : eval (.Call (.Attribute o m apos) (e :: es) kws pos) X.env = (do
      let ov ← eval o X.env
      standAt apos.atName
      let (f, first) ← holding [ov] (getMethod ov m pl)
      callWith pos f first (backTo pos (starEach (e :: es) X.env)) (backToKw pos (keywordEach kws X.env))) := by rfl) :
    PE X (.Call (.Attribute o m apos) (e :: es) kws pos) (tMethNP C m n ks.length sp gV E ta t tk) := by
  refine ⟨fun pins s σ H Q I h => ?_⟩
  refine PySem.W.methodCall_KW (pl := pl) (thn (he.run pins s σ H _ I h) fun u s1 ⟨x, H1, I1, rx, a, dx, fs, ex, ea, l, q⟩ => ?_) ht
  subst ex
  obtain rfl : u = Value.ref a := rx
  refine getmeth_ok I1 ea c hm l ?_
  refine PySem.W.callWith_KW (first := [.ref a]) (h₀ := X.base) I.ok.mod.kin hm.kp hall (thn (ha.run pos pins s1 σ H1 _ I1 q) fun us s2 ⟨vs, H2, I2, r, q2⟩ => ?_) hpl hes
  refine thn (hkw.run pos pins s2 σ H2 _ I2 q2) ?_
  rintro ws s3 ⟨zs, H3, I3, rz, l1, l2, q3⟩
  refine ⟨I3.kIn, ?_⟩
  rw [hks]
  exact run_fnN (us := .ref a :: us) (vs := .ref a :: vs) F hr hb hx I3 (.cons rfl r) rz (by rw [List.length_cons, l1]) l2 q3
end
end Pk
/-! ### != of a list and an empty one -/
namespace Pk
open PySem PySem.Spec PyProof.Rows L2
def rNeE (K : PySem.W.Frag) : R2 := fun x y H Q => ∃ (a b : Addr) (xs : List V), x = .ref a ∧ y = .ref b ∧ SqL K H a xs ∧ SqL K H b [] ∧ Q (.bl (!xs.isEmpty)) H
theorem op_neE {X : Cx} (hu : X.A.units < cLine) : OpR X (compareOp .NotEq) (rNeE X.K) := by
  rintro pins s σ H x y v u Q I rx ry ⟨a, b, xs, rfl, rfl, ha, hb, q⟩
  cases (show v = Value.ref a from rx)
  cases (show u = Value.ref b from ry)
  obtain ⟨us, r1, p1, _⟩ := I.list ha
  obtain ⟨ws, r2, p2, _⟩ := I.list hb
  cases r2
  cases r1 with
  | nil =>
    refine SeqAt.RcNeAt.lists (e := fun _ => true) p1.isList p2.isList rfl hu (fun j h1 h2 => absurd h1 (by simp)) X.prog X.w _ _ ?_
    exact ⟨.bl false, H, I, rfl, q⟩
  | cons h t => exact SeqAt.RcNeAt.lists_lengths p1.isList p2.isList (by simp) hu X.prog X.w _ _ ⟨.bl true, H, I, rfl, q⟩
end Pk
namespace Pk
open PySem L2
/-! ### list + list, whatever they are read from -/
def rCatS (K : PySem.W.Frag) : R2 := fun x y H Q => ∃ l b xs zs, x = .ref l ∧ y = .ref b ∧ SqL K H l xs ∧ SqL K H b zs ∧ xs.length + zs.length ≤ sizeLine ∧ ∀ p, H p = none → Q (.ref p) (upd H p (.lst (xs ++ zs)))
theorem op_catS {X : Cx} : OpR X (binaryOp .Add) (rCatS X.K) := by
  rintro pins s σ H x y v u Q I rx ry ⟨l, b, xs, zs, ex, ey, hl, hb, hz, q⟩
  subst ex ey
  cases rx
  cases ry
  obtain ⟨its, r, ⟨⟨c1, d1, dt1, sl1⟩, n1, e1, ec1, ed1, et1⟩, _⟩ := I.list hl
  obtain ⟨its2, r2, ⟨⟨c2, d2, dt2, sl2⟩, n2, e2, ec2, ed2, et2⟩, _⟩ := I.list hb
  dsimp only at ec1 ed1 et1 ec2 ed2 et2
  subst ec1 ed1 et1 ec2 ed2 et2
  have k1 := r.length
  have k2 := r2.length
  refine concat_meets ⟨_, e1, rfl⟩ ⟨_, e2, rfl⟩ noFill_list_add seq_list_add PySem.F.slot_list_add PySem.F.entry_list_add (PySem.F.args_list_add_2 _ _)
    (PyProof.Rows.list_addW l b its.toArray its2.toArray n1 n2 none none sl1 sl2 (by rw [List.size_toArray, List.size_toArray]; omega)) ⟨e1, e2, ?_⟩
  rw [show its.toArray ++ its2.toArray = (its ++ its2).toArray by simp]
  exact ⟨.ref _, _, I.lnew (t' := s.toks) (r.append r2) (by rw [List.length_append]; omega), rfl, q _ I.fresh⟩
theorem cut_int {ns : List Int} {lo hi : Option Int} {x : V} (h : x ∈ cutV (ns.map V.int ++ [V.int 0]) lo hi) : ∃ i : Int, x = V.int i := by
  unfold cutV at h
  have h2 := List.mem_of_mem_drop (List.mem_of_mem_take h)
  rcases List.mem_append.mp h2 with h | h
  · obtain ⟨i, _, rfl⟩ := List.mem_map.mp h
    exact ⟨i, rfl⟩
  · exact ⟨0, List.mem_singleton.mp h⟩
end Pk
namespace Pk
open PySem L2
/-! ### draws -/
abbrev drawKv (l c t : Int) : List (Key × V) := [(.inr "left", .int l), (.inr "cell", .int c), (.inr "at", .int t)]
theorem dv_left (l c t : Int) : valV (drawKv l c t) (.inr "left") = some (.int l) := by kernel_rfl
theorem dv_cell (l c t : Int) : valV (drawKv l c t) (.inr "cell") = some (.int c) := by kernel_rfl
theorem dv_at (l c t : Int) : valV (drawKv l c t) (.inr "at") = some (.int t) := by kernel_rfl
theorem dp_left (l c t u : Int) : putK (drawKv l c t) (.inr "left") (.int u) = drawKv u c t := by kernel_rfl
theorem dp_at (l c t u : Int) : putK (drawKv l c t) (.inr "at") (.int u) = drawKv l c u := by kernel_rfl
theorem merge_draw (l c t : Int) : mergeK [] (drawKv l c t) = drawKv l c t := by kernel_rfl
/-- a draw's dict, t numbers taken -/
def DrawAt (H : Hp) (d : Addr) (t : Int) : Prop := ∃ l c : Int, H d = some (.dK (drawKv l c t))
theorem DrawAt.same {H H' : Hp} {d : Addr} {t : Int} (h : DrawAt H d t) (s : Same H H') : DrawAt H' d t := by
  obtain ⟨l, c, e⟩ := h
  exact ⟨l, c, s _ _ e⟩
theorem DrawAt.bt {H H' : Hp} {d : Addr} {t : Int} {L : List Addr} (h : DrawAt H d t) (s : Bt L H H') (n : d ∉ L) : DrawAt H' d t := by
  obtain ⟨l, c, e⟩ := h
  exact ⟨l, c, s _ _ n e⟩
theorem DrawAt.isD {H : Hp} {d : Addr} {t : Int} (h : DrawAt H d t) : ∃ kvs, H d = some (.dK kvs) := by
  obtain ⟨l, c, e⟩ := h
  exact ⟨_, e⟩
theorem DrawAt.ne {H : Hp} {d p : Addr} {t : Int} {o : HO} (h : DrawAt H d t) (e : H p = some o) (n : ∀ kvs, o ≠ .dK kvs) : p ≠ d := fun z => by
  obtain ⟨kvs, hd⟩ := h.isD
  rw [z, hd] at e
  cases e
  exact n _ rfl
theorem DrawAt.lst {H : Hp} {d L : Addr} {t : Int} {M : List V} (h : DrawAt H d t) (e : H L = some (.lst M)) : L ≠ d := h.ne e fun _ z => by cases z
theorem DrawAt.new {H : Hp} {d p : Addr} {t : Int} (h : DrawAt H d t) (n : H p = none) : p ≠ d := fun z => by
  obtain ⟨kvs, hd⟩ := h.isD
  rw [z, hd] at n
  cases n
theorem DrawAt.put {H : Hp} {d p : Addr} {t : Int} {o : HO} (h : DrawAt H d t) (n : p ≠ d) : DrawAt (upd H p o) d t := by
  obtain ⟨l, c, e⟩ := h
  exact ⟨l, c, by rw [upd_ne (Ne.symm n)]; exact e⟩
/-- a dict whose values are no numbers is no draw's -/
theorem DrawAt.tb {H : Hp} {d p : Addr} {t : Int} {ns : List Str} {R : Str → V → Prop} (h : DrawAt H d t) (T : TbAt H p ns R) (n : ∀ m v, R m v → ∀ i, v ≠ .int i) : p ≠ d := fun z => by
  obtain ⟨l, c, hd⟩ := h
  obtain ⟨kvs, e, k1, k2⟩ := T
  rw [z, hd] at e
  cases e
  cases ns with
  | nil => cases k1
  | cons m ms =>
    obtain ⟨e1, _⟩ := List.cons.inj k1
    have e1 : (Sum.inr ("left" : Str) : Key) = Sum.inr m := e1
    obtain ⟨v, ev, r⟩ := k2 m List.mem_cons_self
    rw [← e1, dv_left] at ev
    cases ev
    exact n _ _ r _ rfl
theorem BankAt.draw {CB CQ : Addr} {H H' : Hp} {b k r d e : Addr} {B : BD} {t : Int} (h : BankAt CB CQ H b k r d B) (D : DrawAt H e t) (u : Bt [e] H H') : BankAt CB CQ H' b k r d B := by
  have nk : k ≠ e := D.tb h.kept fun m v ⟨x, z, _⟩ i => by rw [z]; exact fun z => nomatch z
  have nr : r ≠ e := D.tb h.outs fun m v z i => by rw [show v = .str (B.g m) from z]; exact fun z => nomatch z
  have nd : d ≠ e := D.tb h.days fun m v ⟨x, z, _⟩ i => by rw [z]; exact fun z => nomatch z
  exact h.by (fun a o _ _ _ n z => u.at (D.ne z n) z) (fun _ z => u.at nk z) (fun _ z => u.at nr z) (fun _ z => u.at nd z)
theorem erase_perm {zs rest : List Str} {k : Nat} {y : Str} (h : rest[k]? = some y) : ((zs ++ [y]) ++ rest.eraseIdx k).Perm (zs ++ rest) := by
  obtain ⟨hk, rfl⟩ := List.getElem?_eq_some_iff.mp h
  rw [List.append_assoc, List.eraseIdx_eq_take_drop_succ]
  refine List.Perm.append_left _ ?_
  have e : rest = rest.take k ++ rest[k] :: rest.drop (k + 1) := by
    rw [← List.drop_eq_getElem_cons hk, List.take_append_drop]
  conv => rhs; rw [e]
  rw [List.singleton_append]
  exact (List.perm_middle (a := rest[k])).symm
theorem erase_map {l : List Str} {k : Nat} : (l.map V.str).eraseIdx k = (l.eraseIdx k).map V.str := by
  rw [List.eraseIdx_eq_take_drop_succ, List.eraseIdx_eq_take_drop_succ, List.map_append, List.map_take, List.map_drop]
def spTake : Sp := fun vs H Q _ => ∃ (d : Addr) (t many : Int), vs = [.ref d, .int many] ∧ DrawAt H d t ∧ 0 ≤ t ∧ t < 100000 ∧ 0 < many ∧ many < 1000000 ∧
  ∀ (v t' : Int) (H' : Hp), 0 ≤ v → v < many → Bt [d] H H' → DrawAt H' d t' → t ≤ t' → t' ≤ t + 1 → Q (.int v) H'
def spBegun (K : PySem.W.Frag) : Sp := fun vs H Q _ => ∃ (a : Addr) (k : Nat) (ns : List Int), vs = [.ref a, .int k] ∧ SqL K H a (ns.map V.int) ∧ k ≤ 100 ∧ ns.length ≤ 1000 ∧ ∀ (p : Addr) (H' : Hp), Same H H' → H p = none → DrawAt H' p (60 * k) → Q (.ref p) H'
/-- one of a list -/
def spOf : Sp := fun vs H Q _ => ∃ (d a : Addr) (t : Int) (xs : List V), vs = [.ref d, .ref a] ∧ DrawAt H d t ∧ 0 ≤ t ∧ t < 100000 ∧ H a = some (.lst xs) ∧ 0 < xs.length ∧ xs.length ≤ 1000 ∧
  ∀ (i : Nat) (x : V) (t' : Int) (H' : Hp), xs[i]? = some x → Bt [d] H H' → DrawAt H' d t' → t ≤ t' → t' ≤ t + 1 → Q x H'
/-- in another order -/
def spTurned : Sp := fun vs H Q _ => ∃ (d a : Addr) (t : Int) (zs : List Str), vs = [.ref d, .ref a] ∧ DrawAt H d t ∧ 0 ≤ t ∧ t < 90000 ∧ H a = some (.lst (zs.map V.str)) ∧ zs.length ≤ 1000 ∧
  ∀ (p : Addr) (ys : List Str) (t' : Int) (H' : Hp), Bt [d] H H' → H p = none → H' p = some (.lst (ys.map V.str)) → ys.Perm zs → DrawAt H' d t' → t ≤ t' → t' ≤ t + zs.length → Q (.ref p) H'
section
variable {P : Program} {w : World} {K : PySem.W.Frag} {mg : Str → Option Value} {base : Heap}
theorem fresh_at {H : Hp} {p : Addr} {o : HO} (n : H p = none) : upd H p o p = some o ∧ Same H (upd H p o) := ⟨upd_same, same_upd n⟩
theorem Bt.putN {d : Addr} {A B : Hp} {p : Addr} {o : HO} (n : A p = none) (g : Bt [d] A B) : Bt [d] A (upd B p o) := fun q u m h => by rw [upd_ne (fun z => by rw [z, n] at h; cases h)]; exact g q u m h
abbrev NTake : List Str := ["_law_draw", "_law_many", "_law_found", "_law_at", "_law_prime", "_law_mixed"]
theorem scTake : FnScope NTake ["_law_draw", "_law_many"] (defScope sTake) := ⟨rfl, rfl, rfl, by decide +kernel, rfl, by decide +kernel, by decide +kernel⟩
theorem ok_take {f : Addr} {fd : FuncData} (F : Fun K "_law_take" "_law_take" sTake f fd) :
    FnOk P w K mg base CX0 1 f fd ["_law_draw", "_law_many"] spTake := by
  refine F.ok scTake (fun vs H Q E h => ?_) (fun cdv A outer s H vs Q E hr h => ?_)
  · obtain ⟨d, t, m, rfl, _⟩ := h
    rfl
  · obtain ⟨d, t, many, rfl, ⟨l, c, hd⟩, t0, t1, m0, m1, q⟩ := h
    have hu := hu_of hr
    refine ⟨_, pss_cons (ps_if (pt_cmpR op_gt (pe_dget hu (pv 0) pe_str (fun _ _ => rfl)) pe_int (nomark _)) (pss_cons (ps_set (i := 2) scTake.nd rfl (.inl rfl) (pe_op op_mod (pe_dget hu (pv 0) pe_str (fun _ _ => rfl)) (pv 1)))
      (pss_cons (ps_dput hu (pv 0) pe_str (pe_op op_fdiv (pe_dget hu (pv 0) pe_str (fun _ _ => rfl)) (pv 1)) rfl)
      (pss_one (ps_ret (pv 2))))) pss_nil)
      (pss_cons (ps_set (i := 3) scTake.nd rfl (.inl rfl) (pe_op op_add (pe_dget hu (pv 0) pe_str (fun _ _ => rfl)) pe_int))
      (pss_cons (ps_dput hu (pv 0) pe_str (pv 3) rfl)
      (pss_cons (ps_set (i := 4) scTake.nd rfl (.inl rfl) (pe_ix ix_list (pe_lst (pa_cons pe_int (pa_cons pe_int (pa_cons pe_int (pa_cons pe_int (pa_cons pe_int pa_nil)))))) (pe_op op_mod (pv 3) pe_int) (fun _ _ => rfl)))
      (pss_cons (ps_set (i := 5) scTake.nd rfl (.inl rfl) (pe_op op_mod (pe_op op_mul (pe_op op_add (pe_op op_add (pe_op op_add (pe_op op_mod (pe_dget hu (pv 0) pe_str (fun _ _ => rfl)) (pv 4)) (pe_op op_mul (pe_op op_mul pe_int (pv 3)) (pv 3))) (pe_op op_mul pe_int (pv 3))) pe_int) pe_int) (pv 4)))
      (pss_one (ps_ret (pe_op op_mod (pe_op op_mod (pe_op op_mul (pv 5) (pe_op op_add (pe_op op_mod (pv 5) pe_int) pe_int)) pe_int) (pv 1)))))))), ?_⟩
    have ga : ∀ {G : Hp} {l c t : Int}, G d = some (.dK (drawKv l c t)) → DGet G d (.str "at") (some (.int t)) := fun {G l c t} h => by
      have z := DGet.k (k := .inr "at") h
      rw [dv_at] at z
      exact z
    have gl : ∀ {G : Hp} {l c t : Int}, G d = some (.dK (drawKv l c t)) → DGet G d (.str "left") (some (.int l)) := fun {G l c t} h => by
      have z := DGet.k (k := .inr "left") h
      rw [dv_left] at z
      exact z
    have gc : ∀ {G : Hp} {l c t : Int}, G d = some (.dK (drawKv l c t)) → DGet G d (.str "cell") (some (.int c)) := fun {G l c t} h => by
      have z := DGet.k (k := .inr "cell") h
      rw [dv_cell] at z
      exact z
    have sl : (3 : Nat) < sizeLine := by decide
    refine ⟨_, rfl, d, .int l, rfl, gl hd, l, 0, rfl, rfl, _, rfl, ite2 (fun hl => ?_) (fun _ => ?_)⟩
    · refine ⟨_, rfl, d, .int l, rfl, gl hd, _, rfl, l, many, rfl, rfl, m0, ?_⟩
      refine ⟨_, rfl, d, .int l, rfl, gl hd, _, rfl, l, many, rfl, rfl, ⟨m0, by omega⟩, _, rfl, d, _, rfl, DPut.k (k := .inr "left") hd sl, _, rfl, ?_⟩
      rw [dp_left]
      exact q _ t _ (Int.emod_nonneg _ (by omega)) (Int.emod_lt_of_pos _ m0) (Bt.put List.mem_cons_self) ⟨_, c, upd_same⟩ (Int.le_refl _) (by omega)
    · refine ⟨_, rfl, d, .int t, rfl, ga hd, t, 1, rfl, rfl, ?_⟩
      refine ⟨_, rfl, _, rfl, d, _, rfl, DPut.k (k := .inr "at") hd sl, ?_⟩
      rw [dp_at]
      have h1 : upd H d (.dK (drawKv l c (t + 1))) d = some (.dK (drawKv l c (t + 1))) := upd_same
      have u1 : Bt [d] H (upd H d (.dK (drawKv l c (t + 1)))) := Bt.put List.mem_cons_self
      generalize upd H d (.dK (drawKv l c (t + 1))) = H1 at h1 u1 ⊢
      refine ⟨by show 5 ≤ sizeLine; decide, fun p np => ?_⟩
      obtain ⟨m, hm, p0, p1⟩ : ∃ m : Int, atI [V.int 2147483629, V.int 2147483587, V.int 2147483579, V.int 2147483563, V.int 2147483549] ((t + 1) % 5) = some (.int m) ∧ 0 < m ∧ m < 2147483648 := by
        obtain h | h | h | h | h : (t + 1) % 5 = 0 ∨ (t + 1) % 5 = 1 ∨ (t + 1) % 5 = 2 ∨ (t + 1) % 5 = 3 ∨ (t + 1) % 5 = 4 := by omega
        · rw [h]; exact ⟨2147483629, rfl, by decide, by decide⟩
        · rw [h]; exact ⟨2147483587, rfl, by decide, by decide⟩
        · rw [h]; exact ⟨2147483579, rfl, by decide, by decide⟩
        · rw [h]; exact ⟨2147483563, rfl, by decide, by decide⟩
        · rw [h]; exact ⟨2147483549, rfl, by decide, by decide⟩
      have s2 := same_upd (o := .lst [V.int 2147483629, V.int 2147483587, V.int 2147483579, V.int 2147483563, V.int 2147483549]) np
      have h2 := s2 _ _ h1
      refine ⟨_, rfl, t + 1, 5, rfl, rfl, (by show (0 : Int) < 5; decide), p, _, _, .int m, rfl, rfl, SqL.of upd_same, hm, ?_⟩
      generalize upd H1 p (.lst [V.int 2147483629, V.int 2147483587, V.int 2147483579, V.int 2147483563, V.int 2147483549]) = H2 at s2 h2 ⊢
      have b0 : 0 ≤ c % m := Int.emod_nonneg _ (by omega)
      have b1 : c % m < m := Int.emod_lt_of_pos _ p0
      refine ⟨_, rfl, d, _, rfl, gc h2, _, rfl, c, m, rfl, rfl, p0, ?_⟩
      refine ⟨_, rfl, 7919, t + 1, rfl, rfl, .inl ⟨by decide, by decide⟩, _, rfl, 7919 * (t + 1), t + 1, rfl, rfl, .inr ⟨by omega, by omega⟩, _, _, rfl, rfl, ?_⟩
      refine ⟨_, rfl, 31, t + 1, rfl, rfl, .inl ⟨by decide, by decide⟩, _, _, rfl, rfl, _, _, rfl, rfl, _, _, rfl, rfl, .inr ⟨by decide, by decide⟩, _, rfl, _, _, rfl, rfl, p0, ?_⟩
      generalize (c % m + 7919 * (t + 1) * (t + 1) + 31 * (t + 1) + 17) * 48271 = y
      have y0 : 0 ≤ y % m := Int.emod_nonneg _ (by omega)
      have y1 : y % m < m := Int.emod_lt_of_pos _ p0
      refine ⟨_, rfl, _, rfl, y % m, 65521, rfl, rfl, (by show (0 : Int) < 65521; decide), _, _, rfl, rfl, y % m, _, rfl, rfl, .inl ⟨by omega, by omega⟩, _, 2147483647, rfl, rfl, (by show (0 : Int) < 2147483647; decide), _, rfl, _, many, rfl, rfl, m0, ?_⟩
      exact q _ (t + 1) _ (Int.emod_nonneg _ (by omega)) (Int.emod_lt_of_pos _ m0) (u1.trans (Bt.same s2)) ⟨l, c, h2⟩ (by omega) (Int.le_refl _)
abbrev NBegun : List Str := ["_law_script", "_law_k", "_law_some", "_law_found", "_law_cell", "_law_left"]
theorem scBegun : FnScope NBegun ["_law_script", "_law_k"] (defScope sBegun) := ⟨rfl, rfl, rfl, by decide +kernel, rfl, by decide +kernel, by decide +kernel⟩
theorem ok_begun {f : Addr} {fd : FuncData} (F : Fun K "_law_begun" "_law_begun" sBegun f fd) : FnOk P w K mg base CX0 1 f fd ["_law_script", "_law_k"] (spBegun K) := by
  refine F.ok scBegun (fun vs H Q E h => ?_) (fun cdv A outer s H vs Q E hr h => ?_)
  · obtain ⟨a, k, ns, rfl, _⟩ := h
    rfl
  · obtain ⟨a, k, ns, rfl, hS, hk, hn, fin⟩ := h
    have hu1 : _ < cLine := room1 hr
    refine ⟨_, pss_cons (ps_set (i := 2) scBegun.nd rfl (.inl rfl) (pe_stepL (pv 0) (pv 1) pe_int (by decide)))
      (pss_cons (ps_set (i := 3) scBegun.nd rfl (.inl rfl) pe_int)
      (pss_cons (ps_for PassesOwn.never rfl (pi_list (pv 2)) (pg_name (i := 4) scBegun.nd rfl (.inl rfl))
        (pss_one (ps_set (i := 3) scBegun.nd rfl (.inl rfl) (pe_op op_add (pe_op op_mul (pv 3) pe_int) (pv 4)))))
      (pss_cons (ps_set (i := 5) scBegun.nd rfl (.inl rfl) (pe_ifExp (PW.pt (pw_and (pt_cmpR (op_neE hu1) (pv 2) (pe_lst pa_nil) (nomark _)) (pw_and1 (pt_cmpR op_ge (pe_ix ix_list (pv 2) pe_int (fun _ _ => rfl)) (pe_op op_pow pe_int pe_int) (nomark _))))) (pe_ix ix_list (pv 2) pe_int (fun _ _ => rfl)) pe_int))
      (pss_one (ps_ret (pe_disp (pps_cons pe_str (pv 5) (pps_cons pe_str (pv 3) (pps_cons pe_str (pe_op op_mul pe_int (pv 1)) pps_nil))) rfl rfl (by decide) (by decide))))))), ?_⟩
    refine ⟨_, rfl, _, rfl, a, _, k, rfl, rfl, hS, fun p ys H1 s1 np sub ly hp => ?_⟩
    obtain ⟨ms, rfl⟩ : ∃ ms : List Int, ys = ms.map V.int := by
      have : ∀ l : List V, (∀ v ∈ l, v ∈ ns.map V.int) → ∃ ms : List Int, l = ms.map V.int := fun l => by
        induction l with
        | nil => exact fun _ => ⟨[], rfl⟩
        | cons v r ih =>
          intro h
          obtain ⟨i, _, rfl⟩ := List.mem_map.mp (h v List.mem_cons_self)
          obtain ⟨ms, rfl⟩ := ih fun u hu => h u (List.mem_cons_of_mem _ hu)
          exact ⟨i :: ms, rfl⟩
      exact this ys sub
    dsimp only [gName]
    refine ⟨_, rfl, p, rfl, ⟨_, SqL.of hp⟩, ?_⟩
    obtain ⟨INV, hINV⟩ : ∃ INV : Nat → List (Option V) → Hp → Prop, INV = fun (i : Nat) σ G => ∃ (x : Int) (v4 : Option V), σ = [some (.ref a), some (.int k), some (.ref p), some (.int x), v4, none] ∧ G = H1 := ⟨_, rfl⟩
    refine for_it (walk_list (K := K) (a := p) (xs := ms.map V.int)) INV (by rw [hINV]; exact ⟨_, _, rfl, rfl⟩) (fun i σ G _ h => by rw [hINV] at h; obtain ⟨_, _, _, rfl⟩ := h; exact SqL.of hp) ?_ ?_
    · rintro i y σ G0 G hi hI ⟨rfl, hy⟩
      rw [hINV] at hI
      obtain ⟨x, v4, rfl, rfl⟩ := hI
      obtain ⟨c, ec, rfl⟩ := getD_map hy
      refine ⟨_, rfl, x, 1000000000039, rfl, rfl, .inr ⟨by decide, by decide⟩, _, rfl, _, c, rfl, rfl, ?_⟩
      show INV (i + 1) _ _
      rw [hINV]
      exact ⟨_, _, rfl, rfl⟩
    rintro σ G hI
    rw [hINV] at hI
    obtain ⟨x, v4, rfl, rfl⟩ := hI
    have fin' : ∀ (l : Int) (G : Hp) (p5 : Addr), Same H G → G p5 = none → Q (.ref p5) (upd (upd G p5 (.dK [])) p5 (.dK (drawKv l x (60 * k)))) := fun l G p5 sG n5 => by
      have nA := none_of sG n5
      have sB := sG.trans (same_upd (o := .dK []) n5)
      exact fin p5 _ (fun b u e => by
        rw [upd_ne (ne_of_none e nA)]
        exact sB _ _ e) nA ⟨l, x, upd_same⟩
    refine ⟨_, rfl, by show 0 ≤ sizeLine; exact Nat.zero_le _, fun q nq => ⟨p, q, _, rfl, rfl, SqL.of (same_upd nq _ _ hp), SqL.of upd_same, _, rfl, ?_⟩⟩
    have s2 := same_upd (o := .lst []) nq
    have hp2 := s2 _ _ hp
    have s02 := s1.trans s2
    generalize upd G q (.lst []) = G2 at s2 hp2 s02 ⊢
    have ret : ∀ l : Int, ∀ p5, G2 p5 = none → Q (.ref p5) (upd (upd G2 p5 (.dK [])) p5 (.dK (drawKv l x (60 * k)))) := fun l p5 n5 => fin' l G2 p5 s02 n5
    cases ms with
    | nil =>
      refine iteF' (by simp) ?_
      refine fun p5 n5 => ⟨_, rfl, _, rfl, _, rfl, _, _, rfl, rfl, .inl ⟨by decide, by decide⟩, upd_same, drawKv 0 x (60 * k), rfl, by show 3 ≤ 15; decide, ?_⟩
      rw [merge_draw]
      exact ret 0 p5 n5
    | cons c r =>
      refine iteT' (by simp) ⟨_, rfl, p, _, 0, .int c, rfl, rfl, SqL.of hp2, atI_nat (j := 0) rfl, _, _, rfl, rfl, ⟨by decide, by decide, by decide⟩, _, _, rfl, rfl, _, rfl, ite2 (fun _ => ?_) (fun _ => ?_)⟩
      · refine ⟨_, rfl, p, _, 0, .int c, rfl, rfl, SqL.of hp2, atI_nat (j := 0) rfl, fun p5 n5 => ⟨_, rfl, _, rfl, _, rfl, _, _, rfl, rfl, .inl ⟨by decide, by decide⟩, upd_same, drawKv c x (60 * k), rfl, by show 3 ≤ 15; decide, ?_⟩⟩
        rw [merge_draw]
        exact ret c p5 n5
      · refine fun p5 n5 => ⟨_, rfl, _, rfl, _, rfl, _, _, rfl, rfl, .inl ⟨by decide, by decide⟩, upd_same, drawKv 0 x (60 * k), rfl, by show 3 ≤ 15; decide, ?_⟩
        rw [merge_draw]
        exact ret 0 p5 n5
abbrev NOf : List Str := ["_law_draw", "_law_some"]
theorem scOf : FnScope NOf ["_law_draw", "_law_some"] (defScope sOf) := ⟨rfl, rfl, rfl, by decide +kernel, rfl, by decide +kernel, by decide +kernel⟩
theorem ok_of {f fT : Addr} {fd fdT : FuncData} (F : Fun K "_law_of" "_law_of" sOf f fd) (ml : mg "len" = none)
    (GT : FnOk P w K mg base CX0 1 fT fdT ["_law_draw", "_law_many"] spTake) (kT : PySem.W.keepIn K (.ref fT) = true) (bT : Binds K fdT ["_law_draw", "_law_many"] []) (gT : mg "_law_take" = some (.ref fT)) : FnOk P w K mg base CX0 2 f fd ["_law_draw", "_law_some"] spOf := by
  refine F.ok scOf (fun vs H Q E h => ?_) (fun cdv A outer s H vs Q E hr h => ?_)
  · obtain ⟨d, a, t, xs, rfl, _⟩ := h
    rfl
  · obtain ⟨d, a, t, xs, rfl, D, t0, t1, ha, l0, l9, fin⟩ := h
    have r1 : Room 1 _ := hr.mono (by decide)
    refine ⟨_, pss_one (ps_ret (pe_ix ix_list (pv 1) (pe_call (E := E0) GT r1 (by rfl) gT kT bT .nil pass0 (pa_cons (pv 0) (pa_cons (pe_callB call_lenQ (by rfl) ml PySem.boot_len (pa_cons (pv 1) pa_nil)) pa_nil))) (fun _ _ => rfl))), ?_⟩
    refine ⟨_, rfl, _, rfl, _, rfl, a, _, rfl, .inl (SqL.of ha), d, t, _, rfl, D, t0, by omega, by omega, by omega, fun v t' H1 v0 v1 u1 t2 t3 t4 => ?_⟩
    have ha1 := u1.at (D.lst ha) ha
    obtain ⟨n, rfl⟩ := Int.eq_ofNat_of_zero_le v0
    have hv : n < xs.length := by omega
    exact ⟨a, _, _, xs[n], rfl, rfl, SqL.of ha1, atI_nat (List.getElem?_eq_getElem hv), fin n _ t' H1 (List.getElem?_eq_getElem hv) u1 t2 t3 t4⟩
abbrev NTurned : List Str := ["_law_draw", "_law_some", "_law_left", "_law_found"]
theorem scTurned : FnScope NTurned ["_law_draw", "_law_some"] (defScope sTurned) := ⟨rfl, rfl, rfl, by decide +kernel, rfl, by decide +kernel, by decide +kernel⟩
theorem ok_turned {f fT : Addr} {fd fdT : FuncData} (F : Fun K "_law_turned" "_law_turned" sTurned f fd) (ml : mg "len" = none) (mli : mg "list" = none)
    (GT : FnOk P w K mg base CX0 1 fT fdT ["_law_draw", "_law_many"] spTake) (kT : PySem.W.keepIn K (.ref fT) = true) (bT : Binds K fdT ["_law_draw", "_law_many"] []) (gT : mg "_law_take" = some (.ref fT)) : FnOk P w K mg base CX0 2 f fd ["_law_draw", "_law_some"] spTurned := by
  refine F.ok scTurned (fun vs H Q E h => ?_) (fun cdv A outer s H vs Q E hr h => ?_)
  · obtain ⟨d, a, t, zs, rfl, _⟩ := h
    rfl
  · obtain ⟨e, a, t, own, rfl, D, t0, t9, ha, l9, fin⟩ := h
    have r1 : Room 1 _ := hr.mono (by decide)
    have hu1 : _ < cLine := room1 hr
    refine ⟨_, pss_cons (ps_par (i := 2) (j := 3) (by rfl) scTurned.nd rfl rfl (by decide) rfl rfl (pa_cons (pe_callTy call_list_of (by rfl) mli (by decide +kernel) (pa_cons (pv 1) pa_nil)) (pa_cons (pe_lst pa_nil) pa_nil)) (by rfl))
      (pss_cons (ps_while PassesOwn.never (pt_cmpR (op_neE hu1) (pv 2) (pe_lst pa_nil) (nomark _)) (pss_one (ps_expr (pe_bm PySem.F.plainAttrs_list PySem.F.slot_list_append PySem.F.type_list_append mt_append (pv 3) (pa_cons (pe_bm PySem.F.plainAttrs_list PySem.F.slot_list_pop PySem.F.type_list_pop mt_popAt (pv 2) (pa_cons (pe_call (E := E0) GT r1 (by rfl) gT kT bT .nil pass0 (pa_cons (pv 0) (pa_cons (pe_callB call_lenQ (by rfl) ml PySem.boot_len (pa_cons (pv 2) pa_nil)) pa_nil))) pa_nil)) pa_nil)))))
      (pss_one (ps_ret (pv 3)))), ?_⟩
    refine ⟨_, rfl, a, _, rfl, .inl (SqL.of ha), fun pl n1 => ⟨by show 0 ≤ sizeLine; exact Nat.zero_le _, fun pf n2 => ⟨_, _, rfl, ?_⟩⟩⟩
    dsimp only [gName]
    have s1 := same_upd (o := .lst (own.map V.str)) n1
    have s2 := same_upd (o := .lst []) n2
    have hl0 := s2 _ _ (fresh_at (o := .lst (own.map V.str)) n1).1
    have hf0 : upd (upd H pl (.lst (own.map V.str))) pf (.lst []) pf = some (.lst []) := upd_same
    have s12 := s1.trans s2
    have lf : pl ≠ pf := ne_of_none (fresh_at (o := .lst (own.map V.str)) n1).1 n2
    have n2' : H pf = none := by rw [upd_ne (Ne.symm lf)] at n2; exact n2
    show tSeq _ _ _ _ (upd (upd H pl (.lst (own.map V.str))) pf (.lst []))
    generalize upd (upd H pl (.lst (own.map V.str))) pf (.lst []) = H0 at s12 hl0 hf0 ⊢
    let W : Nat → List (Option V) → Hp → Prop := fun m σ G => ∃ (ls zs : List Str) (t' : Int), ls.length = m ∧ (zs ++ ls).Perm own ∧ σ = [some (.ref e), some (.ref a), some (.ref pl), some (.ref pf)] ∧ G pl = some (.lst (ls.map V.str)) ∧ G pf = some (.lst (zs.map V.str)) ∧ Bt [e] H G ∧ DrawAt G e t' ∧ t ≤ t' ∧ t' ≤ t + zs.length
    refine ⟨W, ⟨_, own, [], t, rfl, List.Perm.refl _, rfl, hl0, hf0, Bt.same s12, D.same s12, Int.le_refl _, by simp⟩, ?_⟩
    rintro m σ G ⟨ls, zs, t', lm, pm, rfl, hl, hf, k, DG, ta, tb⟩
    have lo := pm.length_eq
    rw [List.length_append] at lo
    refine ⟨_, rfl, by show 0 ≤ sizeLine; exact Nat.zero_le _, fun pe npe => ?_⟩
    have se := same_upd (o := .lst []) npe
    have hl1 := se _ _ hl
    have hf1 := se _ _ hf
    have k1 := k.trans (Bt.same se)
    have D1 := DG.same se
    refine ⟨pl, pe, _, rfl, rfl, SqL.of hl1, SqL.of upd_same, _, rfl, ?_⟩
    generalize upd G pe (.lst []) = G1 at hl1 hf1 k1 D1 ⊢
    cases ls with
    | cons z r =>
      refine iteT' (by simp) ⟨W r.length, fun σ' H' h => ⟨_, by rw [← lm]; exact Nat.lt_succ_self _, h⟩, ?_⟩
      have lr : r.length + 1 = m := lm
      rw [List.length_cons] at lo
      refine ⟨_, rfl, .inl ⟨rfl, _, SqL.of hf1⟩, _, rfl, .inl ⟨rfl, _, SqL.of hl1⟩, _, rfl, _, rfl, pl, _, rfl, .inl (SqL.of hl1), e, _, _, rfl, D1, by omega, by omega, by rw [List.length_map, List.length_cons]; omega, by rw [List.length_map, List.length_cons]; omega, fun v t2 G2 v0 v1 u2 D2 tc td => ?_⟩
      rw [List.length_map] at v1
      have hl2 := u2.at (D1.lst hl1) hl1
      have hf2 := u2.at (D1.lst hf1) hf1
      have k2 := k1.trans u2
      have vi : v.toNat < (z :: r).length := by omega
      refine ⟨pl, _, v, v.toNat, .str (z :: r)[v.toNat], rfl, rfl, hl2, by omega, by omega, by rw [List.length_map]; exact seqIndex_of v0 v1, by rw [List.getElem?_map, List.getElem?_eq_getElem vi]; rfl, ?_⟩
      have e1 : upd G2 pl (.lst (((z :: r).map V.str).eraseIdx v.toNat)) pf = some (.lst (zs.map V.str)) := by
        rw [upd_ne (Ne.symm lf)]
        exact hf2
      have er : ((z :: r).eraseIdx v.toNat).length = r.length := by rw [List.length_eraseIdx_of_lt vi]; rfl
      have pf_e : pf ≠ e := D1.lst hf1
      have pl_e : pl ≠ e := D1.lst hl1
      have D3 := D2.put (o := .lst (((z :: r).map V.str).eraseIdx v.toNat)) pl_e
      have D4 := D3.put (o := .lst (zs.map V.str ++ [.str (z :: r)[v.toNat]])) pf_e
      refine ⟨pf, _, _, rfl, rfl, e1, by rw [List.length_map, sizeLine_eq]; omega, (z :: r).eraseIdx v.toNat, zs ++ [(z :: r)[v.toNat]], t2, er, (erase_perm (List.getElem?_eq_getElem vi)).trans pm, rfl, ?_, ?_, ?_, D4, by omega, by rw [List.length_append, List.length_singleton]; omega⟩
      · rw [upd_ne lf, upd_same, erase_map]
      · rw [upd_same, List.map_append]
        rfl
      · exact Bt.putN n2' (Bt.putN n1 k2)
    | nil =>
      refine iteF' (by simp) ?_
      rw [List.append_nil] at pm
      exact ⟨_, rfl, fin pf zs t' G1 k1 n2' hf1 pm D1 ta (by have := pm.length_eq; omega)⟩
end
end Pk
namespace Pk
open PySem L2
/-! ### answers that go round -/
def rotL {α : Type} (l : List α) (k : Nat) : List α := l.drop k ++ l.take k
theorem rot_zero {α : Type} (l : List α) : rotL l 0 = l := by
  unfold rotL
  rw [List.drop_zero, List.take_zero, List.append_nil]
theorem rot_len {α : Type} (l : List α) (k : Nat) : (rotL l k).length = l.length := by
  unfold rotL
  rw [List.length_append, List.length_drop, List.length_take]
  omega
theorem rot_step {α : Type} {l : List α} {k : Nat} (h : k < l.length) : (rotL l k).drop 1 ++ (rotL l k).take 1 = rotL l (k + 1) := by
  unfold rotL
  rw [List.drop_eq_getElem_cons h, List.cons_append, List.drop_succ_cons, List.drop_zero, List.take_succ_cons, List.take_zero, List.append_assoc, List.take_append_getElem]
theorem rot_perm {α : Type} (l : List α) (k : Nat) : (rotL l k).Perm l := by
  unfold rotL
  exact List.perm_append_comm.trans (by rw [List.take_append_drop])
theorem rot_map {α β : Type} (f : α → β) (l : List α) (k : Nat) : (rotL l k).map f = rotL (l.map f) k := by
  unfold rotL
  rw [List.map_append, List.map_drop, List.map_take]
theorem rot_mem {α : Type} {l : List α} {k : Nat} {x : α} (h : x ∈ rotL l k) : x ∈ l := (rot_perm l k).mem_iff.mp h
theorem unlike_nodup {zs : List Str} (nd : zs.Nodup) : ∀ i, i ≤ zs.length → unlike zs i = i
  | 0, _ => rfl
  | i + 1, h => by
    have hi : i < zs.length := h
    have e1 : zs.getD i Str.empty = zs[i] := by rw [List.getD_eq_getElem?_getD, List.getElem?_eq_getElem hi]; rfl
    have no : seen zs i (zs.getD i Str.empty) = false := by
      unfold seen
      rw [e1, Bool.eq_false_iff]
      intro z
      obtain ⟨y, hy, e⟩ := List.any_eq_true.mp z
      have e' : y = zs[i] := eq_of_beq e
      subst e'
      obtain ⟨j, hj, ej⟩ := List.mem_take_iff_getElem.mp hy
      have hj' : j < i := by omega
      exact List.pairwise_iff_getElem.mp nd j i (by omega) hi hj' ej
    unfold unlike
    rw [no, unlike_nodup nd i (by omega)]
    rfl
theorem nodup_take {zs : List Str} : ∀ i, i ≤ zs.length → unlike zs i = i → (zs.take i).Nodup
  | 0, _, _ => by rw [List.take_zero]; exact List.nodup_nil
  | i + 1, h, e => by
    have hi : i < zs.length := h
    have e1 : zs.getD i Str.empty = zs[i] := by rw [List.getD_eq_getElem?_getD, List.getElem?_eq_getElem hi]; rfl
    have le := unlike_le zs i
    unfold unlike at e
    cases hs : seen zs i (zs.getD i Str.empty) with
    | true =>
      rw [hs, if_pos rfl] at e
      omega
    | false =>
      rw [hs, if_neg (by decide)] at e
      have ih := nodup_take (zs := zs) i (by omega) (by omega)
      rw [List.take_add_one, List.getElem?_eq_getElem hi, List.nodup_append]
      refine ⟨ih, List.pairwise_singleton _ _, fun x hx y hy z => ?_⟩
      have hy' : y = zs[i] := List.mem_singleton.mp hy
      unfold seen at hs
      rw [e1, Bool.eq_false_iff] at hs
      exact hs (List.any_eq_true.mpr ⟨x, hx, by rw [z, hy']; exact beq_self_eq_true _⟩)
theorem nodup_of_unlike {zs : List Str} (e : unlike zs zs.length = zs.length) : zs.Nodup := by
  have := nodup_take zs.length (Nat.le_refl _) e
  rwa [List.take_length] at this
theorem answers_is {ws : List V} (h : answersL ws = true) : 2 ≤ ws.length ∧ ws.length ≤ 6 ∧ ws.all textV = true ∧ (ws.map strV).Nodup := by
  unfold answersL at h
  simp only [Bool.and_eq_true, decide_eq_true_iff] at h
  refine ⟨h.1.1.1, h.1.1.2, h.1.2, nodup_of_unlike ?_⟩
  rw [List.length_map]
  exact h.2
theorem answers_of {ws : List V} (h2 : 2 ≤ ws.length) (h6 : ws.length ≤ 6) (ht : ws.all textV = true) (nd : (ws.map strV).Nodup) : answersL ws = true := by
  unfold answersL
  have e := unlike_nodup nd ws.length (by rw [List.length_map]; exact Nat.le_refl _)
  rw [decide_eq_true h2, decide_eq_true h6, ht, decide_eq_true e]
  rfl
theorem answers_rot {ws : List V} (h : answersL ws = true) (k : Nat) : answersL (rotL ws k) = true := by
  obtain ⟨h2, h6, ht, nd⟩ := answers_is h
  refine answers_of (by rw [rot_len]; exact h2) (by rw [rot_len]; exact h6) (List.all_eq_true.mpr fun v hv => List.all_eq_true.mp ht v (rot_mem hv)) ?_
  rw [rot_map]
  exact (rot_perm _ _).nodup_iff.mpr nd
/-- the place of the right one, one step on -/
theorem place_step {r n : Int} (k : Nat) (n0 : 0 < n) : (if 0 < (r - k) % n then (r - k) % n - 1 else n - 1) = (r - ((k + 1 : Nat) : Int)) % n := by
  have b0 := Int.emod_nonneg (r - k) (show n ≠ 0 by omega)
  have b1 := Int.emod_lt_of_pos (r - k) n0
  have e : (r - ((k + 1 : Nat) : Int)) % n = ((r - k) % n - 1) % n := by
    rw [show r - ((k + 1 : Nat) : Int) = (r - k) - 1 by omega]
    exact (Int.emod_sub_emod (r - k) n 1).symm
  rw [e]
  generalize (r - (k : Int)) % n = x at b0 b1 ⊢
  by_cases h : 0 < x
  · rw [if_pos h, Int.emod_eq_of_lt (by omega) (by omega)]
  · rw [if_neg h, show x = 0 by omega, show (0 - 1 : Int) = (n - 1) + n * (-1) by omega, Int.add_mul_emod_self_left, Int.emod_eq_of_lt (by omega) (by omega)]
end Pk
namespace Pk
open PySem L2
/-! ### names of a draw -/
def words16 : List Str := ["many", "toil", "marks", "rest", "kin", "with", "few", "none", "by", "out", "used", "left", "day", "name", "row", "most"]
theorem words_nd : words16.Nodup := by decide +kernel
theorem words_name : ∀ z ∈ words16, nameT z = true := by decide +kernel
theorem split16 : Txt.split "many toil marks rest kin with few none by out used left day name row most" " " = words16 := by decide +kernel
theorem idx16 (n : Int) : (n % 16).toNat < 16 := by omega
def word16 (n : Int) : Str := words16[(n % 16).toNat]'(idx16 n)
theorem word16_at (n : Int) : words16[(n % 16).toNat]? = some (word16 n) := List.getElem?_eq_getElem (idx16 n)
theorem word16_inj {f : Int} {j k : Nat} (hj : j < 16) (hk : k < 16) (e : word16 (f + 5 * j) = word16 (f + 5 * k)) : j = k := by
  have e2 := (List.getElem_inj words_nd).mp e
  omega
theorem nd_map {f : Nat → Str} {m : Nat} (h : ∀ j k, j < m → k < m → f j = f k → j = k) : ((List.range m).map f).Nodup := by
  rw [List.nodup_iff_pairwise_ne, List.pairwise_map]
  refine (List.pairwise_iff_getElem.mpr fun i j hi hj hij e => ?_)
  rw [List.length_range] at hi hj
  rw [List.getElem_range, List.getElem_range] at e
  exact absurd (h i j hi hj e) (by omega)
theorem idx26 (n : Int) : (n % 26).toNat < 26 := by omega
theorem letter_at (n : Int) : (letters.cps.toList)[(n % 26).toNat]? = some (letters.cps.toList[(n % 26).toNat]'(by rw [letters_len]; exact idx26 n)) := List.getElem?_eq_getElem _
/-- a letter of a number -/
def letK (n : Int) : Nat := letters.cps.toList[(n % 26).toNat]'(by rw [letters_len]; exact idx26 n)
theorem letK_inj {f : Int} {j k : Nat} (hj : j < 26) (hk : k < 26) (e : letK (f + 7 * j) = letK (f + 7 * k)) : j = k := by
  have e2 := (List.getElem_inj letters_nd).mp e
  omega
/-- the beginning of a word -/
def begK (w : Str) (n : Int) : Str := cutS w none (some (1 + n % 8))
theorem begK_tl (w : Str) (n : Int) : TL.tl (begK w n) = (TL.tl w).take (1 + n % 8).toNat := cutS_lo (by omega)
theorem begK_len {w : Str} (h : w.length = 8) (n : Int) : (begK w n).length = (1 + n % 8).toNat := by
  rw [TL.len_tl, begK_tl, List.length_take, ← TL.len_tl, h]
  omega
theorem begK_inj {w : Str} (h : w.length = 8) {f : Int} {j k : Nat} (hj : j < 8) (hk : k < 8) (e : begK w (f + 3 * j) = begK w (f + 3 * k)) : j = k := by
  have e2 := congrArg Str.length e
  rw [begK_len h, begK_len h] at e2
  omega
theorem begK_name {w : Str} (h : w.length = 8) (hw : ∀ c ∈ w.cps.toList, c ∈ letters.cps.toList) (n : Int) : nameT (begK w n) = true := by
  have l := begK_len h n
  refine name_of (by omega) (by omega) fun c hc => ?_
  have hc : c ∈ TL.tl (begK w n) := hc
  rw [begK_tl] at hc
  exact hw c (List.mem_of_mem_take hc)
def tails4 : List Str := ["", "b", "qz", "zzzzzzz"]
def letT (n : Int) (z : Str) : Str := ⟨#[letK n]⟩ ++ z
theorem letT_tl (n : Int) (z : Str) : TL.tl (letT n z) = letK n :: TL.tl z := by
  unfold letT
  rw [TL.tl_append]
  rfl
theorem letT_name {n : Int} {z : Str} (h : z ∈ tails4) : nameT (letT n z) = true := by
  have l : (letT n z).length = z.length + 1 := by rw [TL.len_tl, letT_tl, List.length_cons, TL.len_tl]
  have hz : z.length ≤ 7 ∧ ∀ c ∈ z.cps.toList, c ∈ letters.cps.toList := (by decide +kernel : ∀ z ∈ tails4, z.length ≤ 7 ∧ ∀ c ∈ z.cps.toList, c ∈ letters.cps.toList) z h
  refine name_of (by omega) (by omega) fun c hc => ?_
  have hc : c ∈ TL.tl (letT n z) := hc
  rw [letT_tl] at hc
  rcases List.mem_cons.mp hc with h | h
  · rw [h]
    exact List.getElem_mem _
  · exact hz.2 c h
def spNames : Sp := fun vs H Q _ => ∃ (d : Addr) (t : Int) (m : Nat), vs = [.ref d, .int m] ∧ DrawAt H d t ∧ 0 ≤ t ∧ t < 90000 ∧ m ≤ 10 ∧
  ∀ (l : Addr) (zs : List Str) (H' : Hp) (t' : Int), Bt [d] H H' → H l = none → H' l = some (.lst (zs.map V.str)) → zs.length = m → (∀ z ∈ zs, nameT z = true) → zs.Nodup → DrawAt H' d t' → t ≤ t' → t' ≤ t + 20 → Q (.ref l) H'
section
variable {P : Program} {w : World} {K : PySem.W.Frag} {mg : Str → Option Value} {base : Heap}
theorem ite0 {p : Prop} [Decidable p] {a b : Prop} (h : a) (k : b) : if p then a else b := by
  split
  · exact h
  · exact k
theorem iteK {p : Prop} [Decidable p] {a b : Prop} (h : p → a) (k : b) : if p then a else b := by
  split
  · rename_i z
    exact h z
  · exact k
theorem none_bt {d p : Addr} {t : Int} {H H' : Hp} (u : Bt [d] H H') (D : DrawAt H' d t) (n : H' p = none) : H p = none := by
  cases e : H p with
  | none => rfl
  | some o =>
    rw [u.at (D.new n) e] at n
    cases n
abbrev NNames : List Str := ["_law_draw", "_law_many", "_law_way", "_law_first", "_law_own", "_law_letters", "_law_base", "_law_k"]
theorem scNames : FnScope NNames ["_law_draw", "_law_many"] (defScope sNames) := ⟨rfl, rfl, rfl, by decide +kernel, rfl, by decide +kernel, by decide +kernel⟩
theorem ok_names {f fT fO : Addr} {fd fdT fdO : FuncData} (F : Fun K "_law_names" "_law_names" sNames f fd) (mr : mg "range" = none)
    (GT : FnOk P w K mg base CX0 1 fT fdT ["_law_draw", "_law_many"] spTake) (kT : PySem.W.keepIn K (.ref fT) = true) (bT : Binds K fdT ["_law_draw", "_law_many"] []) (gT : mg "_law_take" = some (.ref fT))
    (GO : FnOk P w K mg base CX0 2 fO fdO ["_law_draw", "_law_some"] spOf) (kO : PySem.W.keepIn K (.ref fO) = true) (bO : Binds K fdO ["_law_draw", "_law_some"] []) (gO : mg "_law_of" = some (.ref fO)) :
    FnOk P w K mg base CX0 3 f fd ["_law_draw", "_law_many"] spNames := by
  refine F.ok scNames (fun vs H Q E h => ?_) (fun cdv A outer s H vs Q E hr h => ?_)
  · obtain ⟨d, t, m, rfl, _⟩ := h
    rfl
  · obtain ⟨d, t, m, rfl, D, t0, t9, m10, q⟩ := h
    have r1 : Room 1 _ := hr.mono (by decide)
    have r2 : Room 2 _ := hr.mono (by decide)
    refine ⟨_, pss_cons (ps_asg (pe_tup (pa_cons (pe_call (E := E0) GT r1 (by rfl) gT kT bT .nil pass0 (pa_cons (pv 0) (pa_cons pe_int pa_nil))) (pa_cons (pe_call (E := E0) GT r1 (by rfl) gT kT bT .nil pass0 (pa_cons (pv 0) (pa_cons pe_int pa_nil))) pa_nil))) (pg_tup rfl (pgs_cons (pg_name (i := 2) scNames.nd rfl (.inl rfl)) (pgs_cons (pg_name (i := 3) scNames.nd rfl (.inr rfl)) pgs_nil))))
      (pss_cons (ps_set (i := 4) scNames.nd rfl (.inr rfl) (pe_split pe_str pe_str))
      (pss_cons (ps_set (i := 5) scNames.nd rfl (.inr rfl) pe_str)
      (pss_cons (ps_if (pt_cmpR op_eq (pv 2) pe_int (nomark _)) (pss_one (ps_ret (pe_lc (own := [("_law_k", 7)]) (g := gName 7) (te := tOp (rIxL K) (tVar 4) (tOp (rI (fun _ j => 0 < j) fun i j => .int (i % j)) (tOp (rI0 fun i j => .int (i + j)) (tVar 3) (tOp (rI CMul fun i j => .int (i * j)) (tC (.int 5)) (tVar 7))) (tC (.int 16)))) rfl scNames.nd (pi_range1 (by rfl) mr (pa_cons (pv 1) pa_nil)) (blkOk_by (N := NNames) (sc := defScope sNames) (by decide +kernel)) (fun _ _ _ _ _ => pg_name (i := 7) scNames.nd rfl (Or.inl rfl)) (fun _ _ _ _ _ => pts_nil) (fun _ _ _ _ _ => by exact pe_ix ix_list (pv 4) (pe_op op_mod (pe_op op_add (pv 3) (pe_op op_mul pe_int (pv 7))) pe_int) (fun _ _ => rfl))))) pss_nil)
      (pss_cons (ps_if (PW.pt (pw_and (pt_cmpR op_eq (pv 2) pe_int (nomark _)) (pw_and1 (pt_cmpR op_lt (pv 1) pe_int (nomark _))))) (pss_cons (ps_set (i := 6) scNames.nd rfl (.inr rfl) (pe_join pe_str (pe_lc (own := [("_law_k", 7)]) (g := gName 7) rfl scNames.nd (pi_range1 (by rfl) mr (pa_cons pe_int pa_nil)) (blkOk_by (N := NNames) (sc := defScope sNames) (by decide +kernel)) (fun _ _ _ _ _ => pg_name (i := 7) scNames.nd rfl (Or.inl rfl)) (fun _ _ _ _ _ => pts_nil) (fun _ _ _ _ _ => by exact pe_ix ix_str (pv 5) (pe_call (E := E0) GT r1 (by rfl) gT kT bT .nil pass0 (pa_cons (pv 0) (pa_cons pe_int pa_nil))) (fun _ _ => rfl)))))
      (pss_one (ps_ret (pe_lc (own := [("_law_k", 7)]) (g := gName 7) rfl scNames.nd (pi_range1 (by rfl) mr (pa_cons (pv 1) pa_nil)) (blkOk_by (N := NNames) (sc := defScope sNames) (by decide +kernel)) (fun _ _ _ _ _ => pg_name (i := 7) scNames.nd rfl (Or.inl rfl)) (fun _ _ _ _ _ => pts_nil) (fun _ _ _ _ _ => by exact pe_slice sl_str (pv 6) po_none (po_some (pe_op op_add pe_int (pe_op op_mod (pe_op op_add (pv 3) (pe_op op_mul pe_int (pv 7))) pe_int)))))))) pss_nil)
      (pss_one (ps_ret (pe_lc (own := [("_law_k", 7)]) (g := gName 7) rfl scNames.nd (pi_range1 (by rfl) mr (pa_cons (pv 1) pa_nil)) (blkOk_by (N := NNames) (sc := defScope sNames) (by decide +kernel)) (fun _ _ _ _ _ => pg_name (i := 7) scNames.nd rfl (Or.inl rfl)) (fun _ _ _ _ _ => pts_nil) (fun _ _ _ _ _ => by exact pe_op op_add_str (pe_ix ix_str (pv 5) (pe_op op_mod (pe_op op_add (pv 3) (pe_op op_mul pe_int (pv 7))) pe_int) (fun _ _ => rfl)) (pe_call (E := E0) GO r2 (by rfl) gO kO bO .nil pass0 (pa_cons (pv 0) (pa_cons (pe_lst (pa_cons pe_str (pa_cons pe_str (pa_cons pe_str (pa_cons pe_str pa_nil))))) pa_nil))))))))))), ?_⟩
    refine ⟨_, rfl, d, t, 3, rfl, D, t0, by omega, by decide, by decide, fun v1 t1 H1 v10 v13 u1 D1 ta tb => ⟨_, rfl, d, t1, 26, rfl, D1, by omega, by omega, by decide, by decide, fun fi t2 H2 f0 f1 u2 D2 tc td => ⟨by show 2 ≤ sizeLine; decide, fun q0 nq => ⟨q0, _, rfl, SqT.of upd_same, rfl, _, _, rfl, _, _, rfl, rfl, ?_⟩⟩⟩⟩
    have s3 := same_upd (o := .tup [.int v1, .int fi]) nq
    have u13 := (u1.trans u2).trans (Bt.same s3)
    have D3 := D2.same s3
    dsimp only [gName]
    show tSeq _ _ _ _ (upd H2 q0 (.tup [.int v1, .int fi]))
    generalize upd H2 q0 (.tup [.int v1, .int fi]) = H3 at s3 u13 D3 ⊢
    refine ⟨⟨_, rfl⟩, _, _, rfl, rfl, by decide +kernel, by rw [sizeLine_eq]; decide +kernel, fun p np => ?_⟩
    rw [split16]
    have s4 := same_upd (o := .lst (words16.map V.str)) np
    have hp : upd H3 p (.lst (words16.map V.str)) p = some (.lst (words16.map V.str)) := upd_same
    have u14 := u13.trans (Bt.same s4)
    have D4 := D3.same s4
    dsimp only [gName]
    show tSeq _ _ _ _ (upd H3 p (.lst (words16.map V.str)))
    generalize upd H3 p (.lst (words16.map V.str)) = H4 at s4 hp u14 D4 ⊢
    have pd := D4.lst hp
    refine ⟨_, rfl, rfl, _, rfl, ite2 (fun _ => ?_) (fun _ => ?_)⟩
    · -- the system's own words
      refine ⟨_, rfl, (m : Int), rfl, by omega, by omega, fun Dl hD => ?_⟩
      have sD := same_upd (o := .lst []) hD
      rw [Int.toNat_natCast]
      refine lc_it walk_range (fun j G => (∀ b o, b ≠ Dl → H4 b = some o → G b = some o) ∧ G Dl = some (.lst (((List.range j).map fun k : Nat => word16 (fi + 5 * (k : Int))).map V.str))) ⟨fun b o nb e => by rw [upd_ne nb]; exact e, upd_same⟩ (fun _ _ _ _ => trivial) ?_ ?_
      · rintro j x G G' hj ⟨kp, hz⟩ ⟨rfl, rfl⟩
        have hp1 := kp _ _ (ne_of_none hp hD) hp
        refine ⟨rfl, _, rfl, _, rfl, _, rfl, 5, 0 + (j : Int), rfl, rfl, .inl ⟨by decide, by decide⟩, fi, _, rfl, rfl, _, 16, rfl, rfl, (by show (0 : Int) < 16; decide), p, _, _, .str (word16 (fi + 5 * (j : Int))), rfl, rfl, SqL.of hp1, ?_, _, hz, by simp only [List.length_map, List.length_range, sizeLine_eq]; omega, fun b o nb e => by rw [upd_ne nb]; exact kp b o nb e, ?_⟩
        · rw [Int.zero_add]
          have i0 : 0 ≤ (fi + 5 * (j : Int)) % 16 := Int.emod_nonneg _ (by decide)
          have e := atI_nat (xs := words16.map V.str) (j := ((fi + 5 * (j : Int)) % 16).toNat) (by rw [List.getElem?_map, word16_at]; rfl)
          rw [Int.toNat_of_nonneg i0] at e
          exact e
        · rw [upd_same, List.range_succ, List.map_append, List.map_append]
          rfl
      · rintro G ⟨kp, hz⟩
        refine q Dl _ G t2 ?_ ?_ hz (by rw [List.length_map, List.length_range]) (fun z hz => ?_) (nd_map fun j k hj hk e => word16_inj (f := fi) (by omega) (by omega) e) (D4.same fun b o e => kp b o (ne_of_none e hD) e) (by omega) (by omega)
        · exact u14.trans (Bt.same fun b o e => kp b o (ne_of_none e hD) e)
        · exact none_bt u14 D4 hD
        · obtain ⟨k, _, rfl⟩ := List.mem_map.mp hz
          exact words_name _ (List.getElem_mem _)
    · refine ⟨_, rfl, rfl, _, rfl, ite0 ⟨_, rfl, _, _, rfl, rfl, _, rfl, iteK (fun hm => ?first) ?third⟩ ?third⟩
      case first =>
        have m9 : m < 9 := by
          have : (m : Int) < 9 := by simpa using hm
          omega
        refine ⟨⟨_, rfl⟩, 8, rfl, by omega, by omega, fun Dl hD => ?_⟩
        have Dd : Dl ≠ d := D4.new hD
        have sD := same_upd (o := .lst []) hD
        refine lc_it walk_range (fun j G => (∀ b o, b ≠ d → b ≠ Dl → H4 b = some o → G b = some o) ∧ (∃ tj, DrawAt G d tj ∧ t2 ≤ tj ∧ tj ≤ t2 + j) ∧ ∃ ys : List Str, ys.length = j ∧ (∀ y ∈ ys, ∃ c, y = ⟨#[c]⟩ ∧ c ∈ letters.cps.toList) ∧ G Dl = some (.lst (ys.map V.str))) ⟨fun b o _ nb e => by rw [upd_ne nb]; exact e, ⟨t2, D4.same sD, Int.le_refl _, by omega⟩, [], rfl, (fun _ h => by cases h), upd_same⟩ (fun _ _ _ _ => trivial) ?_ ?_
        · rintro j x G G' hj ⟨kp, ⟨tj, DG, te, tf⟩, ys, ly, oy, hz⟩ ⟨rfl, rfl⟩
          have j8 : j < 8 := hj
          refine ⟨rfl, _, rfl, _, rfl, d, _, 26, rfl, DG, by omega, by omega, by decide, by decide, fun v tv G2 v0 v1 u4 D5 tg th => ?_⟩
          obtain ⟨c6, hc6, mc6⟩ := at_some (l := letters.cps.toList) v0 (by rw [letters_len]; exact v1)
          have hz' := u4.at Dd hz
          refine ⟨_, v, c6, rfl, rfl, by decide +kernel, hc6, _, hz', by rw [List.length_map, ly, sizeLine_eq]; omega, fun b o n1 n2 e => by rw [upd_ne n2]; exact u4.at n1 (kp b o n1 n2 e), ⟨tv, D5.put Dd, by omega, by omega⟩, ys ++ [⟨#[c6]⟩], by rw [List.length_append, ly]; rfl, fun y hy => ?_, by rw [upd_same, List.map_append]; rfl⟩
          rcases List.mem_append.mp hy with h | h
          · exact oy y h
          · rw [List.mem_singleton.mp h]
            exact ⟨c6, rfl, mc6⟩
        rintro G ⟨kp, ⟨tj, DG, te, tf⟩, ys, ly, oy, hz⟩
        have ly8 : ys.length = 8 := ly
        have tf8 : tj ≤ t2 + 8 := tf
        have sm : (ys.map (·.length)).sum = ys.length := (join0_len ys).symm.trans (joins_of oy).1
        refine ⟨_, Dl, ys, rfl, rfl, .inl (SqL.of hz), by rw [sm, show ("" : Str).length = 0 by decide +kernel]; omega, ?_⟩
        obtain ⟨lw, aw⟩ := joins_of oy
        generalize hw : Txt.join "" ys = word at lw aw ⊢
        rw [ly8] at lw
        have u4G : Bt [d] H4 G := fun b o nb e => kp b o (fun z => nb (by rw [z]; exact List.mem_cons_self)) (ne_of_none e hD) e
        dsimp only [gName]
        refine ⟨_, rfl, (m : Int), rfl, by omega, by omega, fun D2 hD2 => ?_⟩
        have sD2 := same_upd (o := .lst []) hD2
        rw [Int.toNat_natCast]
        refine lc_it walk_range (fun j X => (∀ b o, b ≠ D2 → G b = some o → X b = some o) ∧ X D2 = some (.lst (((List.range j).map fun k : Nat => begK word (fi + 3 * (k : Int))).map V.str))) ⟨fun b o nb e => by rw [upd_ne nb]; exact e, upd_same⟩ (fun _ _ _ _ => trivial) ?_ ?_
        · rintro j x X X' hj ⟨kp1, hz1⟩ ⟨rfl, rfl⟩
          refine ⟨rfl, _, rfl, _, rfl, _, rfl, 3, 0 + (j : Int), rfl, rfl, .inl ⟨by decide, by decide⟩, fi, _, rfl, rfl, _, 8, rfl, rfl, (by show (0 : Int) < 8; decide), 1, _, rfl, rfl, _, rfl, word, rfl, by rw [sizeLine_eq]; omega, _, hz1, by simp only [List.length_map, List.length_range, sizeLine_eq]; omega, fun b o nb e => by rw [upd_ne nb]; exact kp1 b o nb e, ?_⟩
          rw [upd_same, List.range_succ, List.map_append, List.map_append, Int.zero_add]
          rfl
        · rintro X ⟨kp1, hz1⟩
          have uX : Bt [d] H4 X := u4G.trans (Bt.same fun b o e => kp1 b o (ne_of_none e hD2) e)
          refine q D2 _ X tj (u14.trans uX) ?_ hz1 (by rw [List.length_map, List.length_range]) (fun z hz => ?_) (nd_map fun j k hj hk e => begK_inj lw (f := fi) (by omega) (by omega) e) (DG.same fun b o e => kp1 b o (ne_of_none e hD2) e) (by omega) (by omega)
          · exact none_bt (u14.trans u4G) DG hD2
          · obtain ⟨k, _, rfl⟩ := List.mem_map.mp hz
            exact begK_name lw aw _
      case third =>
        refine ⟨_, rfl, (m : Int), rfl, by omega, by omega, fun Dl hD => ?_⟩
        have Dd : Dl ≠ d := D4.new hD
        have sD := same_upd (o := .lst []) hD
        rw [Int.toNat_natCast]
        refine lc_it walk_range (fun j G => (∀ b o, b ≠ d → b ≠ Dl → H4 b = some o → G b = some o) ∧ (∃ tj, DrawAt G d tj ∧ t2 ≤ tj ∧ tj ≤ t2 + j) ∧ ∃ ys : List Str, ys.length = j ∧ (∀ (i : Nat) (y : Str), ys[i]? = some y → ∃ z ∈ tails4, y = letT (fi + 7 * (i : Int)) z) ∧ G Dl = some (.lst (ys.map V.str))) ⟨fun b o _ nb e => by rw [upd_ne nb]; exact e, ⟨t2, D4.same sD, Int.le_refl _, by omega⟩, [], rfl, (fun i y h => by cases h), upd_same⟩ (fun _ _ _ _ => trivial) ?_ ?_
        · rintro j x G G' hj ⟨kp, ⟨tj, DG, te, tf⟩, ys, ly, oy, hz⟩ ⟨rfl, rfl⟩
          have i0 : 0 ≤ (fi + 7 * (0 + (j : Int))) % 26 := Int.emod_nonneg _ (by decide)
          refine ⟨rfl, _, rfl, _, rfl, _, rfl, 7, 0 + (j : Int), rfl, rfl, .inl ⟨by decide, by decide⟩, fi, _, rfl, rfl, _, 26, rfl, rfl, (by show (0 : Int) < 26; decide), _, _, letK (fi + 7 * (0 + (j : Int))), rfl, rfl, by decide +kernel, ?_, ?_⟩
          · have e := atI_nat (letter_at (fi + 7 * (0 + (j : Int))))
            rw [Int.toNat_of_nonneg i0] at e
            exact e
          refine ⟨_, rfl, by show 4 ≤ sizeLine; decide, fun p4 n4 => ?_⟩
          have s5 := same_upd (o := .lst (tails4.map V.str)) n4
          have h5 : upd _ p4 (.lst (tails4.map V.str)) p4 = some (.lst (tails4.map V.str)) := upd_same (H := G')
          refine ⟨d, p4, tj, tails4.map V.str, rfl, DG.same s5, by omega, by omega, h5, by decide, by decide, fun i x t5 G2 hx u5 D5 tg th => ?_⟩
          obtain ⟨z, ez, rfl⟩ := getD_map hx
          have mz := List.mem_of_getElem? ez
          have lz : z.length ≤ 7 := (by decide +kernel : ∀ z ∈ tails4, z.length ≤ 7) z mz
          have hz' := u5.at Dd (s5 _ _ hz)
          refine ⟨_, _, rfl, rfl, by show 1 + z.length ≤ sizeLine; rw [sizeLine_eq]; omega, _, hz', by rw [List.length_map, ly, sizeLine_eq]; omega, fun b o n1 n2 e => by rw [upd_ne n2]; exact u5.at n1 (s5 _ _ (kp b o n1 n2 e)), ⟨t5, D5.put Dd, by omega, by omega⟩, ys ++ [letT (fi + 7 * (j : Int)) z], by rw [List.length_append, ly]; rfl, fun i2 y hy => ?_, by rw [upd_same, List.map_append, Int.zero_add]; rfl⟩
          by_cases hi2 : i2 < ys.length
          · rw [List.getElem?_append_left hi2] at hy
            exact oy i2 y hy
          · rw [List.getElem?_append_right (by omega)] at hy
            have hl := (List.getElem?_eq_some_iff.mp hy).1
            rw [List.length_singleton] at hl
            rw [show i2 - ys.length = 0 by omega] at hy
            cases hy
            exact ⟨z, mz, by rw [show i2 = j by omega]⟩
        · rintro G ⟨kp, ⟨tj, DG, te, tf⟩, ys, ly, oy, hz⟩
          have u4G : Bt [d] H4 G := fun b o nb e => kp b o (fun z => nb (by rw [z]; exact List.mem_cons_self)) (ne_of_none e hD) e
          have nyd : ys.Nodup := by
            rw [List.nodup_iff_pairwise_ne]
            refine List.pairwise_iff_getElem.mpr fun i j hi hj hij e => ?_
            obtain ⟨z1, _, e1⟩ := oy i _ (List.getElem?_eq_getElem hi)
            obtain ⟨z2, _, e2⟩ := oy j _ (List.getElem?_eq_getElem hj)
            rw [e1, e2] at e
            have e3 := congrArg TL.tl e
            rw [letT_tl, letT_tl] at e3
            have := letK_inj (f := fi) (by omega) (by omega) (List.cons.inj e3).1
            omega
          refine q Dl ys G tj (u14.trans u4G) (none_bt u14 D4 hD) hz ly (fun z hz => ?_) nyd DG (by omega) (by omega)
          obtain ⟨i, hi, rfl⟩ := List.getElem_of_mem hz
          obtain ⟨z1, m1, e1⟩ := oy i _ (List.getElem?_eq_getElem hi)
          rw [e1]
          exact letT_name m1
end
end Pk
/-! ### len, repr, str of an instance, by the text's own -/
namespace Pk
open PySem PySem.Spec L2
section
variable {X : Cx} {k : Nat} {f C : Addr} {fd : FuncData} {sp : Sp} {e : Expr} {te : TE} {p pos : Pos}
def rLenO (C : Addr) (sp : Sp) : List V → Hp → VK → Prop := fun xs H Q => ∃ (a dx : Addr) (fs : List (Str × V)), xs = [.ref a] ∧ H a = some (.ins C dx fs) ∧ sp [.ref a] H (fun v H' => ∃ n : Int, v = .int n ∧ 0 ≤ n ∧ n < 2 ^ 63 ∧ Q (.int n) H') E0
theorem call_lenO (F : FnOk X.prog X.w X.K X.mg X.base CX0 k f fd ["self"] sp) (hr : Room (k + 1) X.A) (hs : PySem.W.findIn X.K (.ref C) "__len__" = some (some (.ref f))) (hf : PySem.W.isFn X.K (.ref f) = true) (hb : Binds X.K fd ["self"] []) : CallR X (.builtin "len") (rLenO C sp) := by
  rintro pins s σ H xs us Q I rs ⟨a, dx, fs, rfl, ha, h⟩
  obtain ⟨u, rfl, ru⟩ := rs.one
  cases ru
  obtain ⟨mA, J, _⟩ := ins_get I.hok ha
  obtain ⟨od, J, _⟩ := J.look
  obtain ⟨m, hF⟩ := I.fr
  refine PySem.W.len_K hF I.ok.mod.kin J hs hf ?_
  refine wpAny_call (codeAny_mono (F.run X.A.in1 X.stack s H ⟨[.ref a], []⟩ [.ref a] [.ref a] _ E0 hr.in1 I.env0.in1 (hb s [.ref a] I.kIn rfl) (.cons rfl .nil) h) fun r s' hq => ?_)
  match r, hq with
  | .error e, hq => exact hq.elim
  | .ok .next, hq => exact hq.elim
  | .ok .brk, hq => exact hq.elim
  | .ok .cont, hq => exact hq.elim
  | .ok (.ret z), hq =>
    obtain ⟨v, H2, I2, rv, n, rfl, n0, n1, q2⟩ := I.after hq
    obtain ⟨t, rfl⟩ := rv
    exact ⟨⟨n0, n1⟩, .int n, H2, I2.tok _, ⟨_, rfl⟩, q2⟩
def rReprO (C : Addr) (sp : Sp) : List V → Hp → VK → Prop := fun xs H Q => ∃ (a dx : Addr) (fs : List (Str × V)), xs = [.ref a] ∧ H a = some (.ins C dx fs) ∧ sp [.ref a] H (fun v H' => (∃ z, v = .str z) ∧ Q v H') E0
theorem call_reprO (F : FnOk X.prog X.w X.K X.mg X.base CX0 k f fd ["self"] sp) (hr : Room (k + 1) X.A) (hs : PySem.W.findIn X.K (.ref C) "__repr__" = some (some (.ref f))) (hf : PySem.W.isFn X.K (.ref f) = true) (hb : Binds X.K fd ["self"] []) : CallR X (.builtin "repr") (rReprO C sp) := by
  rintro pins s σ H xs us Q I rs ⟨a, dx, fs, rfl, ha, h⟩
  obtain ⟨u, rfl, ru⟩ := rs.one
  cases ru
  obtain ⟨mA, J, _⟩ := ins_get I.hok ha
  obtain ⟨od, J, _⟩ := J.look
  obtain ⟨m, hF⟩ := I.fr
  refine PySem.W.repr_K hr.in1.units0 hF I.ok.mod.kin J hs hf ?_
  refine wpAny_call (codeAny_mono (F.run X.A.in1 X.stack s H ⟨[.ref a], []⟩ [.ref a] [.ref a] _ E0 hr.in1 I.env0.in1 (hb s [.ref a] I.kIn rfl) (.cons rfl .nil) h) fun r s' hq => ?_)
  match r, hq with
  | .error e, hq => exact hq.elim
  | .ok .next, hq => exact hq.elim
  | .ok .brk, hq => exact hq.elim
  | .ok .cont, hq => exact hq.elim
  | .ok (.ret z), hq =>
    obtain ⟨v, H2, I2, rv, ⟨y, rfl⟩, q2⟩ := I.after hq
    obtain ⟨t, rfl⟩ := rv
    exact ⟨.str y, H2, I2, ⟨t, rfl⟩, q2⟩
/-- str(x) -/
def tStrO (C : Addr) (sp : Sp) (te : TE) : TE := fun σ H Q => te σ H fun x H1 => ∃ (a dx : Addr) (fs : List (Str × V)), x = .ref a ∧ H1 a = some (.ins C dx fs) ∧ sp [.ref a] H1 (fun v H2 => (∃ z, v = .str z) ∧ Q v H2) E0
theorem pe_strO (F : FnOk X.prog X.w X.K X.mg X.base CX0 k f fd ["self"] sp) (hr : Room (k + 2) X.A) (hs : PySem.W.findIn X.K (.ref C) "__str__" = some (some (.ref f))) (hf : PySem.W.isFn X.K (.ref f) = true) (hb : Binds X.K fd ["self"] []) (hg : Gl X "str") (hm : X.mg "str" = none) (he : PE X e te)
    (na : starEach [e] X.env = (false, eval e X.env) :: starEach [] X.env := by rfl) : PE X (.Call (.Name "str" p) [e] [] pos) (tStrO C sp te) := by
  constructor
  intro pins s σ H Q I h
  refine PyProof.Rows.Call_ (ld_blt I hg hm PyProof.Rows.boot_str ?_)
  refine PyProof.Rows.callWith_type1 (PyProof.Rows.args_cons (thn (he.run pins s σ H _ I h) ?_) na) na rfl
  rintro v s1 ⟨x, H1, I1, r1, a, dx, fs, rfl, ha, q⟩
  cases (show v = Value.ref a from r1)
  obtain ⟨mA, J, _⟩ := ins_get I1.hok ha
  obtain ⟨od, J, _⟩ := J.look
  refine PyProof.Rows.args_nil (PySem.W.kso_call (by have := hr.un; show X.A.in1.in1.units < cLine; have e1 := (hr.in1.in1).un; omega) I1.kIn J hs hf ?_)
  refine wpAny_call (codeAny_mono (F.run _ X.stack s1 H1 ⟨[.ref a], []⟩ [.ref a] [.ref a] _ E0 hr.in1.in1 I1.env0.in1.in1 (hb s1 [.ref a] I1.kIn rfl) (.cons rfl .nil) q) fun r s' hq => ?_)
  cases r with
  | error e => exact hq.elim
  | ok fl =>
    cases fl with
    | ret u =>
      obtain ⟨v, H2, I2, rv, ⟨z, rfl⟩, q2⟩ := I1.after hq
      obtain ⟨t, rfl⟩ := rv
      exact ⟨.str z, H2, I2, ⟨t, rfl⟩, q2⟩
    | next => exact False.elim hq
    | brk => exact False.elim hq
    | cont => exact False.elim hq
end
end Pk
/-! ### days of questions, deeds to a bank, whatever the law's text -/
namespace Pk
open PySem L2
theorem in_ints {z : Int} : ∀ zs : List Int, inV (.int z) (zs.map V.int) = decide (z ∈ zs)
  | [] => rfl
  | y :: zs => by
    have ih := in_ints (z := z) zs
    unfold inV at ih ⊢
    rw [List.map_cons, List.any_cons, ih]
    show ((y == z) || _) = _
    rw [Bool.eq_iff_iff, Bool.or_eq_true, beq_iff_eq, decide_eq_true_iff, decide_eq_true_iff, List.mem_cons]
    exact ⟨fun h => h.imp Eq.symm id, fun h => h.imp Eq.symm id⟩
theorem flat_ints : ∀ zs : List Int, (zs.map V.int).all flatV = true
  | [] => rfl
  | z :: zs => by
    rw [List.map_cons, List.all_cons, flat_ints zs]
    rfl
/-- a day more -/
def addD (ds : List Int) (i : Int) : List Int := if i ∈ ds then ds else srtZ (ds ++ [i])
/-- a day less -/
def delD (ds : List Int) (i : Int) : List Int := ds.filter fun x => decide (x ≠ i)
theorem addD_mem {ds : List Int} {i j : Int} : j ∈ addD ds i ↔ j ∈ ds ∨ j = i := by
  unfold addD
  split
  case isTrue h => exact ⟨.inl, fun z => z.elim id fun e => e ▸ h⟩
  case isFalse h => rw [(srtZ_perm _).mem_iff, List.mem_append, List.mem_singleton]
theorem addD_len {ds : List Int} {i : Int} : (addD ds i).length ≤ ds.length + 1 := by
  unfold addD
  split
  · omega
  · rw [(srtZ_perm _).length_eq, List.length_append, List.length_singleton]
    exact Nat.le_refl _
theorem addD_pair {ds : List Int} {i : Int} (h : ds.Pairwise (· < ·)) : (addD ds i).Pairwise (· < ·) := by
  unfold addD
  split
  case isTrue _ => exact h
  case isFalse n =>
    have nd : (srtZ (ds ++ [i])).Nodup := (srtZ_perm _).nodup_iff.mpr (nd_snoc (h.imp fun z => by omega) n)
    exact ((srtZ_pair (ds ++ [i])).and nd).imp fun z => by omega
theorem delD_pair {ds : List Int} {i : Int} (h : ds.Pairwise (· < ·)) : (delD ds i).Pairwise (· < ·) := h.filter _
theorem delD_mem {ds : List Int} {i j : Int} : j ∈ delD ds i ↔ j ∈ ds ∧ j ≠ i := by
  unfold delD
  rw [List.mem_filter]
  simp
theorem delD_len {ds : List Int} {i : Int} : (delD ds i).length ≤ ds.length := List.length_filter_le _ _
/-- what the law leaves of days, and puts one behind, are the same days -/
theorem day_perm {zs ds : List Int} {i : Int} (p : zs.Perm ds) (h : ds.Pairwise (· < ·)) : (delD zs i ++ [i]).Perm (addD ds i) := by
  have q : (delD zs i ++ [i]).Perm (delD ds i ++ [i]) := (p.filter _).append_right _
  refine q.trans ?_
  have nd : ds.Nodup := h.imp fun z => by omega
  unfold addD
  split
  case isTrue hi =>
    refine (List.perm_append_comm).trans ?_
    show (i :: delD ds i).Perm ds
    have e : delD ds i = ds.erase i := by rw [nd.erase_eq_filter]; unfold delD; congr; funext x; by_cases z : x = i <;> simp [z]
    rw [e]
    exact (List.perm_cons_erase hi).symm
  case isFalse hi =>
    have e : delD ds i = ds := List.filter_eq_self.mpr fun x hx => decide_eq_true fun z => hi (by rw [← z]; exact hx)
    rw [e]
    exact (srtZ_perm _).symm
theorem del_perm {zs ds : List Int} {i : Int} (p : zs.Perm ds) : (delD zs i).Perm (delD ds i) := p.filter _
theorem GoodB.day {B : BD} {n : Str} {ds : List Int} (g : GoodB B) (h : ds.Pairwise (· < ·) ∧ (∀ i ∈ ds, 0 ≤ i ∧ i ≤ 9999) ∧ ds.length ≤ 500) : GoodB (B.day n ds) := ⟨g.nd, g.le, g.nm, g.od, g.os, g.tx, fun m hm => by
  show (upF B.h n ds m).Pairwise (· < ·) ∧ (∀ i ∈ upF B.h n ds m, 0 ≤ i ∧ i ≤ 9999) ∧ (upF B.h n ds m).length ≤ 500
  by_cases e : m = n
  · subst e
    rw [upF_at]
    exact h
  · rw [upF_ne e]
    exact g.dy m hm⟩
theorem upF_self {α : Type} (f : Str → α) (n : Str) : upF f n (f n) = f := by
  funext m
  by_cases e : m = n
  · subst e
    rw [upF_at]
  · rw [upF_ne e]
theorem BD.day_self (B : BD) (n : Str) : B.day n (B.h n) = B := by
  unfold BD.day
  rw [upF_self]
section
variable {CB CQ : Addr} {H : Hp} {b k r d : Addr} {B : BD}
theorem BankAt.backB {n : Str} (h : BankAt CB CQ H b k r d B) {kr : List (Key × V)} (er : H r = some (.dK kr)) :
    BankAt CB CQ (upd H r (.dK (dropK kr (.inr n)))) b k r d (B.back n) := by
  generalize hG : upd H r (.dK (dropK kr (.inr n))) = G
  have gr : G r = some (.dK (dropK kr (.inr n))) := by rw [← hG, upd_same]
  have go : ∀ {a : Addr} {o : HO}, a ≠ r → H a = some o → G a = some o := fun {a o} n1 e => by
    rw [← hG, upd_ne n1]
    exact e
  have gi : ∀ {a : Addr} {o : HO}, (∀ kvs, o ≠ .dK kvs) → H a = some o → G a = some o := fun {a o} n e => go (fun z => by subst z; rw [er] at e; cases e; exact n _ rfl) e
  obtain ⟨dx, hb⟩ := h.at_
  obtain ⟨kk, ek, tk⟩ := h.kept
  obtain ⟨kr', er', tr⟩ := h.outs
  rw [er] at er'
  cases er'
  obtain ⟨kd, ed, td⟩ := h.days
  exact ⟨⟨dx, gi (fun _ z => by cases z) hb⟩, ⟨kk, go h.kr ek, tk.mono fun m _ v ⟨x, e, qi⟩ => ⟨x, e, qi.by fun a o n _ e => gi n e⟩⟩, ⟨_, gr, tr.drop⟩, ⟨kd, go (Ne.symm h.rd) ed, td.mono fun m _ v ⟨l, e, hl⟩ => ⟨l, e, gi (fun _ z => by cases z) hl⟩⟩, h.kr, h.kd, h.rd⟩
theorem BankAt.dayB {n : Str} {ds : List Int} {l : Addr} (h : BankAt CB CQ H b k r d B) (hn : n ∈ B.ns) {kd : List (Key × V)} (ed : H d = some (.dK kd)) (hl : H l = some (.lst (ds.map V.int))) :
    BankAt CB CQ (upd H d (.dK (putK kd (.inr n) (.ref l)))) b k r d (B.day n ds) := by
  generalize hG : upd H d (.dK (putK kd (.inr n) (.ref l))) = G
  have gd : G d = some (.dK (putK kd (.inr n) (.ref l))) := by rw [← hG, upd_same]
  have go : ∀ {a : Addr} {o : HO}, a ≠ d → H a = some o → G a = some o := fun {a o} n1 e => by
    rw [← hG, upd_ne n1]
    exact e
  have gi : ∀ {a : Addr} {o : HO}, (∀ kvs, o ≠ .dK kvs) → H a = some o → G a = some o := fun {a o} n e => go (fun z => by subst z; rw [ed] at e; cases e; exact n _ rfl) e
  obtain ⟨dx, hb⟩ := h.at_
  obtain ⟨kk, ek, tk⟩ := h.kept
  obtain ⟨kd', ed', td⟩ := h.days
  rw [ed] at ed'
  cases ed'
  obtain ⟨kr, er, tr⟩ := h.outs
  refine ⟨⟨dx, gi (fun _ z => by cases z) hb⟩, ⟨kk, go h.kd ek, tk.mono fun m _ v ⟨x, e, qi⟩ => ⟨x, e, qi.by fun a o n _ e => gi n e⟩⟩, ⟨kr, go h.rd er, tr⟩, ⟨_, gd, ?_⟩, h.kr, h.kd, h.rd⟩
  have z := td.put (n := n) (v := .ref l) (R' := RDays G (B.day n ds).h) (fun m _ ne v ⟨y, e, hy⟩ => ⟨y, e, by show G y = some (.lst ((upF B.h n ds m).map .int)); rw [upF_ne ne]; exact gi (fun _ z => nomatch z) hy⟩) ⟨l, rfl, by show G l = some (.lst ((upF B.h n ds n).map .int)); rw [upF_at]; exact gi (fun _ z => nomatch z) hl⟩
  rw [putN_old hn] at z
  exact z
end
/-! ### what the methods promise -/
def Err0 (C : Addr) (H : Hp) (E : XK) : Prop := ∀ H', Same H H' → E (.ref C) none H'
def spNeedDay (cP : Addr) : Sp := fun vs H Q E => ∃ x, vs = [x] ∧ Thg H x ∧ (whole x 0 9999 = true → Q .non H) ∧ (whole x 0 9999 = false → Err1 cP "at" x H E)
def spBackB (CB CQ cN cG : Addr) : Sp := fun vs H Q E => ∃ (b k r d : Addr) (B : BD) (y : V), vs = [.ref b, y] ∧ BankAt CB CQ H b k r d B ∧
  KnownV H B y cN (fun n => (n ∈ B.os → ∀ H', Bt [r] H H' → BankAt CB CQ H' b k r d (B.back n) → Q .non H') ∧ (n ∉ B.os → Err0 cG H E)) E
def spUsedB (CB CQ cN cP : Addr) : Sp := fun vs H Q E => ∃ (b k r d : Addr) (B : BD) (y z : V), vs = [.ref b, y, z] ∧ BankAt CB CQ H b k r d B ∧ B.ns.length ≤ 1000 ∧ (∀ n ∈ B.ns, (B.h n).length ≤ 1000) ∧ Thg H z ∧
  KnownV H B y cN (fun n => (whole z 0 9999 = false → Err1 cP "at" z H E) ∧ ∀ i : Int, z = .int i → 0 ≤ i → i ≤ 9999 → ∀ H', Bt [d] H H' → BankAt CB CQ H' b k r d (B.day n (addD (B.h n) i)) → Q .non H') E
def spUnusedB (CB CQ cN cP cG : Addr) : Sp := fun vs H Q E => ∃ (b k r d : Addr) (B : BD) (y z : V), vs = [.ref b, y, z] ∧ BankAt CB CQ H b k r d B ∧ B.ns.length ≤ 1000 ∧ (∀ n ∈ B.ns, (B.h n).length ≤ 1000) ∧ Thg H z ∧
  KnownV H B y cN (fun n => (whole z 0 9999 = false → Err1 cP "at" z H E) ∧ ∀ i : Int, z = .int i → 0 ≤ i → i ≤ 9999 → (i ∉ B.h n → Err0 cG H E) ∧ (i ∈ B.h n → ∀ H', Bt [d] H H' → BankAt CB CQ H' b k r d (B.day n (delD (B.h n) i)) → Q .non H')) E
structure GoneX (K : PySem.W.Frag) (mg : Str → Option Value) (C : Addr) : Prop where
  g : mg "Gone" = some (.ref C)
  x : PySem.W.excIn K C [.type "Exception", .type "BaseException", .type "object"] "Exception.__new__" = true
  k : PySem.W.keepIn K (.ref C) = true
  b : PySem.W.subIn K (.ref C) (.type "BaseException") = some true
  t : PySem.W.typeIn K (.ref C) = some (.type "type")
/-! ### deeds -/
inductive Deed where
  | add (q : QD) | put (q : QD) | out (n z : Str) | back (n : Str) | drop (n : Str) | use (n : Str) (i : Int) | unuse (n : Str) (i : Int)
def Deed.nm : Deed → Str
  | .add q | .put q => q.nm
  | .out n _ | .back n | .drop n | .use n _ | .unuse n _ => n
def Deed.ok : Deed → Prop
  | .add q | .put q => QV q ∧ q.ws.Nodup
  | .out n z => nameT n = true ∧ textT z = true
  | .back n | .drop n => nameT n = true
  | .use n i | .unuse n i => nameT n = true ∧ 0 ≤ i ∧ i ≤ 9999
theorem Deed.ok_nm : ∀ {D : Deed}, D.ok → nameT D.nm = true
  | .add _, h | .put _, h => h.1.nm
  | .out _ _, h | .use _ _, h | .unuse _ _, h => h.1
  | .back _, h | .drop _, h => h
/-- what a deed makes of a bank that lets it by -/
def BD.raw (B : BD) : Deed → BD
  | .add q => B.add q
  | .put q => B.put q
  | .out n z => B.out n z
  | .back n => B.back n
  | .drop n => B.drop n
  | .use n i => B.day n (addD (B.h n) i)
  | .unuse n i => B.day n (delD (B.h n) i)
inductive Wrong where
  | gone | such (n : Str) | twice (n : Str)
/-- what is wrong with a deed -/
def BD.err (B : BD) : Deed → Option Wrong
  | .add q => if q.nm ∈ B.ns then some (.twice q.nm) else none
  | .put q => if q.nm ∈ B.ns then none else some (.such q.nm)
  | .out n _ => if n ∈ B.ns then none else some (.such n)
  | .back n => if n ∈ B.ns then (if n ∈ B.os then none else some .gone) else some (.such n)
  | .drop n => if n ∈ B.ns then none else some (.such n)
  | .use n _ => if n ∈ B.ns then none else some (.such n)
  | .unuse n i => if n ∈ B.ns then (if i ∈ B.h n then none else some .gone) else some (.such n)
def shW (x y : Str) : Str := (PyData.tuple [.str x, .str y]).shown
def shG : Str := (PyData.tuple [.str "gone", .none]).shown
def Wrong.txt : Wrong → Str
  | .gone => shG
  | .such n => shW "such" n
  | .twice n => shW "twice" n
def BD.app (B : BD) (D : Deed) : BD := match B.err D with
  | some _ => B
  | none => B.raw D
/-- what is due -/
def BD.due (B : BD) (D : Deed) : Str := match B.err D with
  | some e => e.txt
  | none => "None"
def WrongE (c : Nat → Addr) (H : Hp) (E : XK) : Wrong → Prop
  | .gone => Err0 (c 1) H E
  | .such n => Err1 (c 3) "name" (.str n) H E
  | .twice n => Err1 (c 6) "name" (.str n) H E
theorem paren_ne {x : Str} : ("(" : Str) ++ x ≠ "None" := fun e => by
  have z := congrArg (fun s : Str => s.cps.toList) e
  have a : ∀ x y : Str, (x ++ y).cps.toList = x.cps.toList ++ y.cps.toList := fun x y => by show (x.cps ++ y.cps).toList = _; rw [Array.toList_append]
  simp only [a] at z
  have e1 : (("(" : Str)).cps.toList = [40] := by decide +kernel
  have e2 : (("None" : Str)).cps.toList = [78, 111, 110, 101] := by decide +kernel
  rw [e1, e2] at z
  cases z
theorem app_assoc (x y z : Str) : x ++ y ++ z = x ++ (y ++ z) := by
  show (⟨x.cps ++ y.cps ++ z.cps⟩ : Str) = ⟨x.cps ++ (y.cps ++ z.cps)⟩
  rw [Array.append_assoc]
theorem tup_ne {xs : List PyData} : (PyData.tuple xs).shown ≠ "None" := by
  rw [PyData.shown]
  unfold tupleText
  rw [app_assoc]
  exact paren_ne
theorem Wrong.ne : ∀ e : Wrong, e.txt ≠ "None"
  | .gone | .such _ | .twice _ => tup_ne
theorem BD.due_none {B : BD} {D : Deed} (h : B.err D = none) : B.due D = "None" := by unfold BD.due; rw [h]
theorem BD.due_some {B : BD} {D : Deed} {e : Wrong} (h : B.err D = some e) : B.due D = e.txt := by unfold BD.due; rw [h]
theorem BD.app_none {B : BD} {D : Deed} (h : B.err D = none) : B.app D = B.raw D := by unfold BD.app; rw [h]
theorem BD.app_some {B : BD} {D : Deed} {e : Wrong} (h : B.err D = some e) : B.app D = B := by unfold BD.app; rw [h]
theorem GoodB.raw {B : BD} {D : Deed} (g : GoodB B) (o : D.ok) (l : B.ns.length < 60) (hl : ∀ n ∈ B.ns, (B.h n).length < 500) (h : B.err D = none) : GoodB (B.raw D) := by
  cases D with
  | add q =>
    by_cases hn : q.nm ∈ B.ns
    · rw [BD.err, if_pos hn] at h; cases h
    · exact g.add o.1 hn l
  | put q => exact g.put o.1
  | out n z =>
    by_cases hn : n ∈ B.ns
    · exact g.out hn o.2
    · rw [BD.err, if_neg hn] at h; cases h
  | back n => exact g.back
  | drop n => exact g.drop
  | use n i =>
    by_cases hn : n ∈ B.ns
    · obtain ⟨h1, h2, h3⟩ := g.dy n hn
      have h4 := hl n hn
      have h5 := addD_len (ds := B.h n) (i := i)
      exact g.day ⟨addD_pair h1, fun j hj => (addD_mem.mp hj).elim (h2 j) fun e => e ▸ o.2, by omega⟩
    · rw [BD.err, if_neg hn] at h; cases h
  | unuse n i =>
    by_cases hn : n ∈ B.ns
    · obtain ⟨h1, h2, h3⟩ := g.dy n hn
      have h5 := delD_len (ds := B.h n) (i := i)
      exact g.day ⟨delD_pair h1, fun j hj => h2 j (delD_mem.mp hj).1, by omega⟩
    · rw [BD.err, if_neg hn] at h; cases h
theorem GoodB.app {B : BD} {D : Deed} (g : GoodB B) (o : D.ok) (l : B.ns.length < 60) (hl : ∀ n ∈ B.ns, (B.h n).length < 500) : GoodB (B.app D) := by
  cases h : B.err D with
  | none => rw [BD.app_none h]; exact g.raw o l hl h
  | some e => rw [BD.app_some h]; exact g
/-- names come in by deeds of them alone -/
theorem app_ns {B : BD} {D : Deed} {n : Str} (h : n ∈ (B.app D).ns) : n ∈ B.ns ∨ n = D.nm := by
  cases e : B.err D with
  | some _ => rw [BD.app_some e] at h; exact .inl h
  | none =>
    rw [BD.app_none e] at h
    cases D with
    | add q => exact (List.mem_append.mp (show n ∈ B.ns ++ [q.nm] from h)).imp id fun z => List.mem_singleton.mp z
    | drop m => exact .inl (dropN_mem.mp (show n ∈ dropN B.ns m from h)).1
    | _ => exact .inl h
/-- days are at most one more -/
theorem app_days {B : BD} {D : Deed} {t : Nat} (h : ∀ n ∈ B.ns, (B.h n).length ≤ t) : ∀ n ∈ (B.app D).ns, ((B.app D).h n).length ≤ t + 1 := fun n hn => by
  cases e : B.err D with
  | some _ => rw [BD.app_some e] at hn ⊢; exact Nat.le_succ_of_le (h n hn)
  | none =>
    rw [BD.app_none e] at hn ⊢
    cases D with
    | add q =>
      show (upF B.h q.nm [] n).length ≤ t + 1
      by_cases z : n = q.nm
      · rw [z, upF_at]; exact Nat.zero_le _
      · rw [upF_ne z]
        exact Nat.le_succ_of_le (h n ((List.mem_append.mp (show n ∈ B.ns ++ [q.nm] from hn)).resolve_right fun y => z (List.mem_singleton.mp y)))
    | use m i =>
      show (upF B.h m (addD (B.h m) i) n).length ≤ t + 1
      by_cases z : n = m
      · subst z
        rw [upF_at]
        have := addD_len (ds := B.h n) (i := i)
        have := h n hn
        omega
      · rw [upF_ne z]; exact Nat.le_succ_of_le (h n hn)
    | unuse m i =>
      show (upF B.h m (delD (B.h m) i) n).length ≤ t + 1
      by_cases z : n = m
      · subst z
        rw [upF_at]
        have := delD_len (ds := B.h n) (i := i)
        have := h n hn
        omega
      · rw [upF_ne z]; exact Nat.le_succ_of_le (h n hn)
    | drop m => exact Nat.le_succ_of_le (h n (dropN_mem.mp (show n ∈ dropN B.ns m from hn)).1)
    | _ => exact Nat.le_succ_of_le (h n hn)
/-- answers unlike -/
def NdB (B : BD) : Prop := ∀ n ∈ B.ns, (B.f n).ws.Nodup
theorem NdB.b0 : NdB B0 := fun _ h => nomatch h
theorem NdB.app {B : BD} {D : Deed} (h : NdB B) (o : D.ok) : NdB (B.app D) := fun n hn => by
  cases e : B.err D with
  | some _ => rw [BD.app_some e] at hn ⊢; exact h n hn
  | none =>
    rw [BD.app_none e] at hn ⊢
    cases D with
    | add q =>
      show (upF B.f q.nm q n).ws.Nodup
      by_cases z : n = q.nm
      · rw [z, upF_at]; exact o.2
      · rw [upF_ne z]
        exact h n ((List.mem_append.mp (show n ∈ B.ns ++ [q.nm] from hn)).resolve_right fun y => z (List.mem_singleton.mp y))
    | put q =>
      show (upF B.f q.nm q n).ws.Nodup
      by_cases z : n = q.nm
      · rw [z, upF_at]; exact o.2
      · rw [upF_ne z]; exact h n hn
    | drop m => exact h n (dropN_mem.mp (show n ∈ dropN B.ns m from hn)).1
    | _ => exact h n hn
/-- a deed as the law has it -/
def DeedAt (H : Hp) (p : Addr) : Deed → Prop
  | .add q => ∃ r, H p = some (.tup [.str "added", .ref r]) ∧ RowAt H r q
  | .put q => ∃ r, H p = some (.tup [.str "put", .ref r]) ∧ RowAt H r q
  | .out n z => H p = some (.tup [.str "out", .str n, .str z])
  | .back n => H p = some (.tup [.str "back", .str n])
  | .drop n => H p = some (.tup [.str "dropped", .str n])
  | .use n i => H p = some (.tup [.str "used", .str n, .int i])
  | .unuse n i => H p = some (.tup [.str "unused", .str n, .int i])
theorem RowAt.byT {H H' : Hp} {p : Addr} {q : QD} (h : RowAt H p q) (s : ∀ a L, H a = some (.tup L) → H' a = some (.tup L)) : RowAt H' p q := by
  obtain ⟨a, h1, h2⟩ := h
  exact ⟨a, s _ _ h1, s _ _ h2⟩
theorem DeedAt.byT {H H' : Hp} {p : Addr} {D : Deed} (h : DeedAt H p D) (s : ∀ a L, H a = some (.tup L) → H' a = some (.tup L)) : DeedAt H' p D := by
  cases D with
  | add q => obtain ⟨r, h1, h2⟩ := h; exact ⟨r, s _ _ h1, h2.byT s⟩
  | put q => obtain ⟨r, h1, h2⟩ := h; exact ⟨r, s _ _ h1, h2.byT s⟩
  | _ => exact s _ _ h
end Pk
namespace Pk
open PySem L2
/-! ### banks.py: put back, days noted -/
abbrev IxLine : List Value := [.type "IndexError", .type "LookupError", .type "Exception", .type "BaseException", .type "object"]
abbrev TxP (K : PySem.W.Frag) (mg : Str → Option Value) (C fI : Addr) : Prop := Er_at.Tx K mg "NoPlace" "NoPlace.__init__" C fI "IndexError" "IndexError.__new__" "IndexError.__init__" IxLine
section
variable {P : Program} {w : World} {K : PySem.W.Frag} {mg : Str → Option Value} {base : Heap} {CB CQ : Addr}
theorem bW1 {f : Addr} {fd : FuncData} (F : FunDf K "is_whole" sIsWhole [.int 0, .int 9999] f fd) : ∃ ds, Vals ([.int 0, .int 9999] : List V) ds ∧ Binds K fd ["thing", "least", "most"] ds :=
  F.binds1 1 0 (fun z => nomatch z) rfl fun T kV doc pm an cdv ct us its l1 l2 => match us, its, l1, l2 with
    | [_], [_, _], _, _ => ⟨_, rfl, rfl⟩
theorem scNeedDay : FnScope ["thing"] ["thing"] (defScope sNeedDay) := ⟨rfl, rfl, rfl, by decide +kernel, rfl, by decide +kernel, by decide +kernel⟩
theorem ok_needDay {f fW cP fI : Addr} {fd fdW : FuncData} (F : Fun K "need_day" "need_day" sNeedDay f fd) (TP : TxP K mg cP fI) (FW : FunDf K "is_whole" sIsWhole [.int 0, .int 9999] fW fdW) (GW : FnOk P w K mg base CX0 2 fW fdW ["thing", "least", "most"] spIsWhole) (kW : PySem.W.keepIn K (.ref fW) = true) (gW : mg "is_whole" = some (.ref fW)) :
    FnOk P w K mg base (L2.CX P w) 3 f fd ["thing"] (spNeedDay cP) := by
  obtain ⟨ds, hds, bW⟩ := bW1 FW
  refine F.okX scNeedDay (fun vs H Q E h => ?_) (fun cdv A outer s H vs Q E hr h => ?_)
  · obtain ⟨x, rfl, _⟩ := h
    rfl
  · obtain ⟨x, rfl, hx, q1, q2⟩ := h
    have r2 : Room 2 _ := hr.mono (by decide)
    refine ⟨_, pss_one (ps_if (pt_not (pt_val (pe_call GW r2 (by rfl) gW kW bW hds pass0 (pa_cons (pv 0) pa_nil)))) (pss_one (ps_raiseE_at rfl TP hr (takes_of rfl rfl rfl rfl) (by exact (pa_cons (pv 0) pa_nil)))) pss_nil), ?_⟩
    refine ⟨_, rfl, x, 0, 9999, rfl, hx, _, rfl, ?_⟩
    cases hn : whole x 0 9999 with
    | true => exact iteF (q1 hn)
    | false => exact iteT ⟨_, rfl, x, rfl, fun d hd => q2 hn d _ (same_upd hd) upd_same⟩
theorem scBack : FnScope ["self", "name"] ["self", "name"] (defScope sBBack) := ⟨rfl, rfl, rfl, by decide +kernel, rfl, by decide +kernel, by decide +kernel⟩
theorem ok_backB {f fO cN cG : Addr} {fd fdO : FuncData} (F : Fun K "put_back" "Bank.put_back" sBBack f fd) (C : BCls K CB) (GX : GoneX K mg cG)
    (GO : FnOk P w K mg base (L2.CX P w) 3 fO fdO ["self", "name"] (spKnown CB CQ cN)) (MO : Meth K CB "need_known" fO) (bO : Binds K fdO ["self", "name"] []) :
    FnOk P w K mg base (L2.CX P w) 5 f fd ["self", "name"] (spBackB CB CQ cN cG) := by
  refine F.okX scBack (fun vs H Q E h => ?_) (fun cdv A outer s H vs Q E hr h => ?_)
  · obtain ⟨b, k, r, d, B, y, rfl, _⟩ := h
    rfl
  · obtain ⟨b, k, r, d, B, y, rfl, hB, h⟩ := h
    have hu := hu_of hr
    have r3 : Room 3 _ := hr.mono (by decide)
    refine ⟨_, pss_cons (ps_expr (pe_meth (E := E) (pv 0) C.cls MO GO r3 bO .nil (passes_call (takes_of rfl rfl rfl rfl) fun _ _ _ _ h => h) (pa_cons (pv 1) pa_nil)))
      (pss_cons (ps_if (pt_cmp (pc_dnotin hu (pv 1) (pe_fld (pv 0) rfl))) (pss_one (ps_raise rfl (takes_of rfl rfl rfl rfl) (pmk_own PySem.F.excBase_Exception GX.x GX.g GX.k (raises_own GX.b GX.t) (by exact rfl)))) pss_nil)
      (pss_one (ps_ddel (pe_fld (pv 0) rfl) (pv 1)))), ?_⟩
    obtain ⟨dx, hb⟩ := hB.at_
    refine ⟨_, rfl, b, dx, _, rfl, hb, lb_meth (by decide) _ _ _, _, rfl, b, k, r, d, B, y, rfl, hB, ?_⟩
    rcases h with ⟨n, hn, rfl, q1, q2⟩ | h
    case inr => exact .inr h
    obtain ⟨kr, er, tr⟩ := id hB.outs
    obtain ⟨o, ho, hs⟩ := hB.outs.has n
    refine .inl ⟨n, hn, rfl, _, rfl, _, rfl, b, CB, dx, _, _, rfl, hb, C.cls, C.no _ (by decide), lb_reasons _ _ _, r, o, rfl, ho, _, rfl, ?_⟩
    rw [hs]
    by_cases hno : n ∈ B.os
    · rw [decide_eq_true hno]
      obtain ⟨vr, hvr, _⟩ := tr.2 n hno
      refine iteF ⟨_, rfl, b, CB, dx, _, _, rfl, hb, C.cls, C.no _ (by decide), lb_reasons _ _ _, _, rfl, r, kr, .inr n, rfl, er, rfl, by rw [hvr]; rfl, ?_⟩
      exact q1 hno _ (Bt.put List.mem_cons_self) (hB.backB er)
    · rw [decide_eq_false hno]
      exact iteT (q2 hno _ (Same.refl _))
theorem scUsed : FnScope ["self", "name", "day"] ["self", "name", "day"] (defScope sBUsed) := ⟨rfl, rfl, rfl, by decide +kernel, rfl, by decide +kernel, by decide +kernel⟩
theorem ok_usedB {f fO fY cN cP : Addr} {fd fdO fdY : FuncData} (F : Fun K "used_on" "Bank.used_on" sBUsed f fd) (C : BCls K CB) (mso : mg "sorted" = none)
    (GY : FnOk P w K mg base (L2.CX P w) 3 fY fdY ["thing"] (spNeedDay cP)) (kY : PySem.W.keepIn K (.ref fY) = true) (bY : Binds K fdY ["thing"] []) (gY : mg "need_day" = some (.ref fY))
    (GO : FnOk P w K mg base (L2.CX P w) 3 fO fdO ["self", "name"] (spKnown CB CQ cN)) (MO : Meth K CB "need_known" fO) (bO : Binds K fdO ["self", "name"] []) :
    FnOk P w K mg base (L2.CX P w) 5 f fd ["self", "name", "day"] (spUsedB CB CQ cN cP) := by
  refine F.okX scUsed (fun vs H Q E h => ?_) (fun cdv A outer s H vs Q E hr h => ?_)
  · obtain ⟨b, k, r, d, B, y, z, rfl, _⟩ := h
    rfl
  · obtain ⟨b, k, r, d, B, y, z, rfl, hB, l1000, hl, tz, h⟩ := h
    have hu := hu_of hr
    have r3 : Room 3 _ := hr.mono (by decide)
    refine ⟨_, pss_cons (ps_expr (pe_meth (E := E) (pv 0) C.cls MO GO r3 bO .nil (passes_call (takes_of rfl rfl rfl rfl) fun _ _ _ _ h => h) (pa_cons (pv 1) pa_nil)))
      (pss_cons (ps_expr (pe_call (E := E) GY r3 (by rfl) gY kY bY .nil (passes_call (takes_of rfl rfl rfl rfl) fun _ _ _ _ h => h) (pa_cons (pv 2) pa_nil)))
      (pss_one (ps_if (pt_cmpR op_notIn_seq (pv 2) (pe_dget hu (pe_fld (pv 0) rfl) (pv 1) (fun _ _ => rfl)) (by rfl))
        (pss_one (ps_dput hu (pe_fld (pv 0) rfl) (pv 1) (pe_callB cr_sortedI (by rfl) mso (by decide +kernel) (pa_cons (pe_lst (StX.pa_star (pe_dget hu (pe_fld (pv 0) rfl) (pv 1) (fun _ _ => rfl)) (pa_cons (pv 2) pa_nil))) pa_nil)) rfl)) pss_nil))), ?_⟩
    obtain ⟨dx, hb⟩ := hB.at_
    refine ⟨_, rfl, b, dx, _, rfl, hb, lb_meth (by decide) _ _ _, _, rfl, b, k, r, d, B, y, rfl, hB, ?_⟩
    rcases h with ⟨n, hn, rfl, q1, q2⟩ | h
    case inr => exact .inr h
    refine .inl ⟨n, hn, rfl, _, rfl, z, rfl, tz, fun hw => ?_, q1⟩
    obtain ⟨i, rfl, i0, i9⟩ := whole_is hw
    obtain ⟨v, gv, l, rfl, hl0⟩ := hB.days.get hn
    obtain ⟨kd, ed, td⟩ := id hB.days
    have ln := hl n hn
    refine ⟨_, rfl, _, rfl, b, CB, dx, _, _, rfl, hb, C.cls, C.no _ (by decide), lb_days _ _ _, _, rfl, d, _, rfl, gv, l, _, rfl, .inl (SqL.of hl0), rfl, flat_ints _, _, rfl, ?_⟩
    rw [show (if true = true then !inV (V.int i) ((B.h n).map V.int) else inV (V.int i) ((B.h n).map V.int)) = !inV (V.int i) ((B.h n).map V.int) from rfl, in_ints]
    by_cases hi : i ∈ B.h n
    · refine iteF' (by simp [hi]) (q2 i rfl i0 i9 H Bt.refl ?_)
      have e : addD (B.h n) i = B.h n := if_pos hi
      rw [e, BD.day_self]
      exact hB
    · refine iteT' (by simp [hi]) ?_
      refine ⟨_, rfl, b, CB, dx, _, _, rfl, hb, C.cls, C.no _ (by decide), lb_days _ _ _, _, rfl, d, _, rfl, gv, l, _, rfl, .inr (SqL.of hl0), _, rfl, by rw [List.length_append, List.length_map]; show _ + 1 ≤ sizeLine; rw [sizeLine_eq]; omega, fun p np => ?_⟩
      have s1 := same_upd (o := .lst ((B.h n).map V.int ++ [V.int i])) np
      have e1 : (B.h n).map V.int ++ [V.int i] = (B.h n ++ [i]).map V.int := by rw [List.map_append]; rfl
      rw [e1] at s1 ⊢
      refine ⟨p, B.h n ++ [i], rfl, SqL.of upd_same, fun ys p2 pm so n2 => ?_⟩
      have ey : ys = addD (B.h n) i := by rw [show addD (B.h n) i = srtZ (B.h n ++ [i]) from if_neg hi]; exact srtZ_of pm so
      rw [ey]
      have s2 := s1.trans (same_upd (o := .lst ((addD (B.h n) i).map V.int)) n2)
      have h2 : upd (upd H p (.lst ((B.h n ++ [i]).map V.int))) p2 (.lst ((addD (B.h n) i).map V.int)) p2 = some (.lst ((addD (B.h n) i).map V.int)) := upd_same
      generalize upd (upd H p (.lst ((B.h n ++ [i]).map V.int))) p2 (.lst ((addD (B.h n) i).map V.int)) = H2 at s2 h2
      have hB2 := hB.same s2
      refine ⟨_, rfl, b, CB, dx, _, _, rfl, s2 _ _ hb, C.cls, C.no _ (by decide), lb_days _ _ _, _, rfl, d, _, rfl, DPut.k (k := .inr n) (s2 _ _ ed) (small60 td l1000), ?_⟩
      exact q2 i rfl i0 i9 _ ((Bt.same s2).trans (Bt.put List.mem_cons_self)) (hB2.dayB hn (s2 _ _ ed) h2)
abbrev NUnused : List Str := ["self", "name", "day", "each"]
end
end Pk
namespace Pk
open PySem L2
/-! ### a bank of some questions -/
def rEqE (K : PySem.W.Frag) : R2 := fun x y H Q => ∃ (a b : Addr) (xs : List V), x = .ref a ∧ y = .ref b ∧ SqL K H a xs ∧ SqL K H b [] ∧ Q (.bl xs.isEmpty) H
theorem op_eqE {X : Cx} (hu : X.A.units < cLine) : OpR X (compareOp .Eq) (rEqE X.K) := by
  rintro pins s σ H x y v u Q I rx ry ⟨a, b, xs, rfl, rfl, ha, hb, q⟩
  cases (show v = Value.ref a from rx)
  cases (show u = Value.ref b from ry)
  obtain ⟨its, rv, la, _⟩ := I.list ha
  obtain ⟨its2, rv2, lb, _⟩ := I.list hb
  cases rv2
  cases rv with
  | nil => exact SeqAt.eq_listAt la.isList lb.isList rfl hu (e := fun _ => true) (fun j h1 _ => absurd h1 (by simp)) ⟨.bl true, H, I, rfl, q⟩
  | cons h t => exact SeqAt.eq_list_lengthsAt la.isList lb.isList (by simp) hu ⟨.bl false, H, I, rfl, q⟩
def bOf (qs : List QD) : BD := qs.foldl BD.add B0
theorem run_fold : ∀ (qs : List QD) (B : BD), (B.ns ++ qs.map QD.nm).Nodup → B.ns.length + qs.length ≤ 60 → runB B (qs.map some) = .inl (qs.foldl BD.add B)
  | [], B, _, _ => rfl
  | q :: r, B, nd, l => by
    have hn : q.nm ∉ B.ns := fun h => by
      have := (List.nodup_append.mp nd).2.2 q.nm h q.nm (by simp)
      exact this rfl
    rw [List.map_cons, run_cons, if_neg hn, if_neg (by rw [List.length_cons] at l; omega), List.foldl_cons]
    refine run_fold r (B.add q) ?_ ?_
    · show ((B.ns ++ [q.nm]) ++ r.map QD.nm).Nodup
      rw [List.append_assoc]
      exact nd
    · show (B.ns ++ [q.nm]).length + r.length ≤ 60
      rw [List.length_append, List.length_singleton]
      rw [List.length_cons] at l
      omega
theorem fold_ns : ∀ (qs : List QD) (B : BD), (qs.foldl BD.add B).ns = B.ns ++ qs.map QD.nm
  | [], B => (List.append_nil _).symm
  | q :: r, B => by
    rw [List.foldl_cons, fold_ns r (B.add q)]
    show (B.ns ++ [q.nm]) ++ r.map QD.nm = _
    rw [List.append_assoc]
    rfl
theorem bOf_ns (qs : List QD) : (bOf qs).ns = qs.map QD.nm := fold_ns qs B0
theorem fold_os : ∀ (qs : List QD) (B : BD), (qs.foldl BD.add B).os = B.os
  | [], B => rfl
  | q :: r, B => fold_os r (B.add q)
theorem fold_good : ∀ (qs : List QD) (B : BD), GoodB B → (∀ q ∈ qs, QV q) → (B.ns ++ qs.map QD.nm).Nodup → B.ns.length + qs.length ≤ 60 → GoodB (qs.foldl BD.add B)
  | [], B, g, _, _, _ => g
  | q :: r, B, g, v, nd, l => by
    have hn : q.nm ∉ B.ns := fun h => by
      have := (List.nodup_append.mp nd).2.2 q.nm h q.nm (by simp)
      exact this rfl
    rw [List.length_cons] at l
    refine fold_good r (B.add q) (g.add (v q List.mem_cons_self) hn (by omega)) (fun x hx => v x (List.mem_cons_of_mem _ hx)) ?_ ?_
    · show ((B.ns ++ [q.nm]) ++ r.map QD.nm).Nodup
      rw [List.append_assoc]
      exact nd
    · show (B.ns ++ [q.nm]).length + r.length ≤ 60
      rw [List.length_append, List.length_singleton]
      omega
theorem bOf_good {qs : List QD} (v : ∀ q ∈ qs, QV q) (nd : (qs.map QD.nm).Nodup) (l : qs.length ≤ 60) : GoodB (bOf qs) := fold_good qs B0 good0 v nd (by show 0 + _ ≤ 60; omega)
/-- questions at a list -/
def Qns (CQ : Addr) (H : Hp) (xs : List Addr) (qs : List QD) : Prop := xs.length = qs.length ∧ ∀ (i : Nat) (x : Addr) (q : QD), xs[i]? = some x → qs[i]? = some q → QI CQ H x q
theorem Qns.same {CQ : Addr} {H H' : Hp} {xs : List Addr} {qs : List QD} (h : Qns CQ H xs qs) (s : Same H H') : Qns CQ H' xs qs := ⟨h.1, fun i x q e1 e2 => (h.2 i x q e1 e2).same s⟩
theorem Qns.th {K : PySem.W.Frag} {CQ : Addr} {H : Hp} {xs : List Addr} {qs : List QD} (h : Qns CQ H xs qs) : ∀ (i : Nat) (v : V) (t : Option QD), (xs.map V.ref)[i]? = some v → (qs.map some)[i]? = some t → ThB K CQ H v t := fun i v t e1 e2 => by
  obtain ⟨x, hx, rfl⟩ := getD_map e1
  obtain ⟨q, hq, rfl⟩ := getD_map e2
  exact ⟨x, rfl, h.2 i x q hx hq⟩
theorem BankAt.putL {CB CQ : Addr} {H : Hp} {b k r d D : Addr} {B : BD} {L : List V} {o : HO} (h : BankAt CB CQ H b k r d B) (e : H D = some (.lst L)) (n : ∀ m ∈ B.ns, L ≠ (B.h m).map V.int) : BankAt CB CQ (upd H D o) b k r d B := by
  have off : ∀ {a : Addr} {u : HO}, (∀ L, u ≠ .lst L) → H a = some u → upd H D o a = some u := fun {a u} z e2 => by
    rw [upd_ne (fun y => by subst y; rw [e] at e2; cases e2; exact z _ rfl)]
    exact e2
  obtain ⟨dx, hb⟩ := h.at_
  exact ⟨⟨dx, off (fun _ z => by cases z) hb⟩, h.kept.mono (fun _ z => off (fun _ z => by cases z) z) fun m _ v ⟨x, e1, q⟩ => ⟨x, e1, q.by fun a u _ z e2 => off z e2⟩, h.outs.mono (fun _ z => off (fun _ z => by cases z) z) fun _ _ _ z => z, h.days.mono (fun _ z => off (fun _ z => by cases z) z) fun m hm v ⟨l, e1, hl⟩ => ⟨l, e1, by
    rw [upd_ne (fun y => by subst y; rw [e] at hl; exact n m hm (HO.lst.inj (Option.some.inj hl)))]
    exact hl⟩, h.kr, h.kd, h.rd⟩
/-- a new bank -/
def NewB (CB CQ : Addr) (H H' : Hp) (b : Addr) (B : BD) : Prop := Same H H' ∧ ∃ k r d, H k = none ∧ H r = none ∧ H d = none ∧ BankAt CB CQ H' b k r d B
section
variable {K : PySem.W.Frag} {f : Addr} {fd : FuncData}
theorem bB1 (F : FunB K f fd) : ∃ ds, Vals ([] : List V) ds ∧ Binds K fd ["self", "questions"] ds :=
  F.binds1 2 1 (fun z => nomatch z) rfl fun T kV doc pm an cdv ct us its l1 l2 => match us, its, l1, l2 with
    | [_, _], [_], _, _ => ⟨_, rfl, rfl⟩
theorem bB0 (F : FunB K f fd) : ∃ ds, Vals ([.non] : List V) ds ∧ Binds K fd ["self", "questions"] ds :=
  F.binds1 1 0 (fun z => nomatch z) rfl fun T kV doc pm an cdv ct us its l1 l2 => match us, its, l1, l2 with
    | [_], [_], _, _ => ⟨_, rfl, rfl⟩
theorem kB (F : FunB K f fd) : ∃ its : List Value, KBn K fd ["self", "questions"] 1 ["questions"] (fun us ws => gQR us its ws) (fun vs zs => gQR vs [.non] zs) :=
  kbnD F 1 ["questions"] gQR (fun z => nomatch z) (fun r1 _ r3 => r1.append r3)
    fun T kV doc pm an cdv ct us its ws l1 l2 l3 => match us, its, ws, l1, l2, l3 with
    | [_], [_], [_], _, _, _ => ⟨_, rfl, rfl⟩
end
section
variable {P : Program} {w : World} {K : PySem.W.Frag} {mg : Str → Option Value} {base : Heap} {CB CQ cK cT cM : Addr}
/-- the promise of a making, from the heap ahead of it -/
theorem init_good {H : Hp} {y : V} {L : List V} {qs : List QD} (hL : Handed H y L) (ll : L.length = (qs.map some).length) (hT : ∀ (i : Nat) (v : V) (t : Option QD), L[i]? = some v → (qs.map some)[i]? = some t → ThB K CQ H v t) (nd : (qs.map QD.nm).Nodup) (l60 : qs.length ≤ 60) {Q : VK} (fin : ∀ b H', NewB CB CQ H H' b (bOf qs) → Q (.ref b) H') :
    ∀ x dx, H x = none → H dx = none → dx ≠ x → spInitB K CB CQ cK cT cM [.ref x, y] (upd (upd H dx (.own x)) x (.ins CB dx [])) (fun v H2 => v = .non ∧ Q (.ref x) H2) E0 := fun x dx nx ndx ne => by
  have s0 : Same H (upd (upd H dx (.own x)) x (.ins CB dx [])) := (same_upd ndx).trans (same_upd (by rw [upd_ne (Ne.symm ne)]; exact nx))
  have e := run_fold qs B0 (by exact nd) (by show 0 + _ ≤ 60; omega)
  refine ⟨H, x, dx, y, rfl, upd_same, nx, s0, .inl ⟨L, qs.map some, hL, ll, hT, fun B eB k r d H' s' k0 r0 d0 hB => ⟨rfl, ?_⟩, fun b eB => by rw [e] at eB; cases eB⟩⟩
  rw [e] at eB
  cases eB
  exact fin x H' ⟨s', k, r, d, k0, r0, d0, hB⟩
theorem init_goodX {H : Hp} {x dx : Addr} {y : V} {L : List V} {qs : List QD} (nx : H x = none) (ndx : H dx = none) (ne : dx ≠ x) (hL : Handed H y L) (ll : L.length = (qs.map some).length) (hT : ∀ (i : Nat) (v : V) (t : Option QD), L[i]? = some v → (qs.map some)[i]? = some t → ThB K CQ H v t) (nd : (qs.map QD.nm).Nodup) (l60 : qs.length ≤ 60) {Q : VK} (fin : ∀ H', NewB CB CQ H H' x (bOf qs) → Q .non H') :
    spInitB K CB CQ cK cT cM [.ref x, y] (upd (upd H dx (.own x)) x (.ins CB dx [])) Q E0 := by
  have s0 : Same H (upd (upd H dx (.own x)) x (.ins CB dx [])) := (same_upd ndx).trans (same_upd (by rw [upd_ne (Ne.symm ne)]; exact nx))
  have e := run_fold qs B0 (by exact nd) (by show 0 + _ ≤ 60; omega)
  refine ⟨H, x, dx, y, rfl, upd_same, nx, s0, .inl ⟨L, qs.map some, hL, ll, hT, fun B eB k r d H' s' k0 r0 d0 hB => ?_, fun b eB => by rw [e] at eB; cases eB⟩⟩
  rw [e] at eB
  cases eB
  exact fin H' ⟨s', k, r, d, k0, r0, d0, hB⟩
end
end Pk
/-! ### sorted(xs, key=f), f a def of the text that tells data -/
namespace Pk
open PySem PySem.Spec L2
section
variable {X : Cx} {k : Nat} {f : Addr} {fd : FuncData} {ps : List Str} {sp : Sp}
mutual
theorem dp_same {K : PySem.W.Frag} {H H' : Hp} (k : Same H H') : ∀ {v : V} {d : PyData}, Dp K H v d → Dp K H' v d
  | _, _, .non => .non
  | _, _, .bl b => .bl b
  | _, _, .int i => .int i
  | _, _, .str x => .str x
  | _, _, .lst h hs => .lst (SqL.ext h k) (dps_same k hs)
  | _, _, .tup h hs => .tup (SqT.ext h k) (dps_same k hs)
theorem dps_same {K : PySem.W.Frag} {H H' : Hp} (k : Same H H') : ∀ {vs : List V} {ds : List PyData}, DpAll K H vs ds → DpAll K H' vs ds
  | _, _, .nil => .nil
  | _, _, .cons h hs => .cons (dp_same k h) (dps_same k hs)
end
/-- a def called from within a builtin -/
theorem call_in (F : FnOk X.prog X.w X.K X.mg X.base CX0 k f fd ps sp) (hb : Binds X.K fd ps []) {A : Around} (sb : Sub X k A) {pins : List (Addr × Obj)} {s : Shared} {σ : St} {H : Hp} (I : Inv X pins σ H s) {x : V} {u : Value} (r : RelV x u) {Q : VK} (h : sp [x] H Q E0) (E : Value → Shared → Prop) :
    wpAny (model X.prog X.w) A (call (.ref f) [u]) (EP X pins σ Q) E s := by
  have e0 : Env0 X.prog X.w X.K X.mg X.base A X.stack s H := by
    have e := I.env0
    exact ⟨by rw [sb.fr]; exact e.frames, e.mod, e.bs, e.bsz, e.funs, e.frf, e.hok, e.bare⟩
  have hl := F.len _ _ _ _ h
  refine wpAny_call (codeAny_mono (F.run A X.stack s H ⟨[u], []⟩ [u] [x] _ E0 sb.room e0 (by
    have := hb s [u] I.kIn (by simpa using hl)
    simpa using this) (.cons r .nil) h) fun r s' hq => ?_)
  match r, hq with
  | .error e, hq => exact hq.elim
  | .ok .next, hq => exact hq.elim
  | .ok .brk, hq => exact hq.elim
  | .ok .cont, hq => exact hq.elim
  | .ok (.ret z), hq => exact I.after hq
/-- the heap without the object at a -/
def off (h : Heap) (a : Addr) : Heap := h.update a fun o => { o with data := .freed }
theorem off_at {h : Heap} {a : Addr} (hl : a < h.objs.size) : (off h a).get? a = none := by
  have e : (off h a).objs[a]? = some { h.objs[a] with data := .freed } := by
    unfold off Heap.update
    rw [Array.getElem?_modify]
    simp [hl]
  unfold Heap.get?
  rw [e]
theorem off_ne {h : Heap} {a b : Addr} (n : b ≠ a) : (off h a).get? b = h.get? b := (Heap.SameBut.update h a _).2 b n
theorem fp_of {pins : List (Addr × Obj)} {H H' : Hp} {b : Addr} (fp : FpOk X pins H b) (hn : H' b = none) : FpOk X pins H' b := ⟨hn, fp.2⟩
/-- an object that stands there is tracked from now on -/
theorem adopt {pins : List (Addr × Obj)} {s : Shared} {σ : St} {H : Hp} {a : Addr} {o : HO} (I : Inv X pins σ H s) (fp : FpOk X pins H a) (hs : X.s_0.heap.objs.size ≤ a) (new : ObjOk X.prog X.w (upd H a o) s.heap a o) : Inv X pins σ (upd H a o) s := by
  have hn := fp.1
  have up : ∀ {b : Addr} {u : HO}, H b = some u → upd H a o b = some u := fun {b u} e => by
    rw [upd_ne (ne_of_none e hn)]
    exact e
  refine ⟨I.ok, I.os, I.bare, ⟨I.base.keep, I.base.slot, fun b ob q n hx => ?_, I.base.there, fun b xs q => up (I.base.tups b xs q), fun b ob u q => up (I.base.frzs b ob u q), fun b ps q => ?_⟩, I.loc, I.cell, ?_, fun x c e => ?_, fun p hp => ?_, fun b u e => ?_, I.len⟩
  · rw [upd_ne (Nat.ne_of_lt (Nat.lt_of_lt_of_le (Heap.lt_size q) hs))]
    exact I.base.free b ob q n hx
  · obtain ⟨more, e⟩ := I.base.tbls b ps q
    exact ⟨more, up e⟩
  · rw [upd_ne fp.2.1.symm]
    exact I.free
  · rw [upd_ne (fp.2.2.2.2.1 x c e)]
    exact I.freeC x c e
  · obtain ⟨p1, p2, p3⟩ := I.pin p hp
    refine ⟨p1, ?_, p3⟩
    rw [upd_ne (fp.2.2.2.2.2 p hp)]
    exact p2
  · by_cases hb : b = a
    · subst hb
      rw [upd_same] at e
      cases e
      exact new
    · rw [upd_ne hb] at e
      exact (I.hok b u e).stay (fun c v _ q => q) (fun c q => up q) fun c xs q => up q
theorem each_reads {pins : List (Addr × Obj)} {s : Shared} {σ : St} {H : Hp} (I : Inv X pins σ H s) : ∀ {kv : List V} {us : List Value} {bs : List (V × PyData)}, Vals kv us → kv.length = bs.length → (∀ (i : Nat) t b, kv[i]? = some t → bs[i]? = some b → Dp X.K H t b.2) → PySem.W.EachIs (fun v d => ∃ as, Reads s.heap v d as) us (bs.map Prod.snd)
  | [], _, [], .nil, _, _ => .nil
  | t :: kv, _, b :: bs, .cons r rs, l, h => .cons (Dp.reads I b.2 t _ (h 0 t b rfl rfl) r) (each_reads I rs (Nat.succ.inj l) fun i t b h1 h2 => h (i + 1) t b h1 h2)
  | [], _, _ :: _, _, l, _ => by cases l
  | _ :: _, _, [], _, l, _ => by cases l
theorem each_rel : ∀ {bs : List (V × PyData)} {us : List Value}, Vals (bs.map Prod.fst) us → PySem.W.EachIs (fun v (b : V × PyData) => RelV b.1 v) us bs
  | [], _, .nil => .nil
  | b :: bs, _, .cons r rs => .cons r (each_rel rs)
theorem rel_each : ∀ {bs : List (V × PyData)} {us : List Value}, PySem.W.EachIs (fun v (b : V × PyData) => RelV b.1 v) us bs → Vals (bs.map Prod.fst) us
  | [], _, .nil => .nil
  | b :: bs, _, .cons r rs => .cons r (rel_each rs)
theorem vals_snoc : ∀ {xs : List V} {us : List Value} {x : V} {u : Value}, Vals xs us → RelV x u → Vals (xs ++ [x]) (us ++ [u])
  | [], _, _, _, .nil, r => .cons r .nil
  | _ :: _, _, _, _, .cons r1 rs, r => .cons r1 (vals_snoc rs r)
/-- the body of list.sort with a key -/
theorem tree_own (F : FnOk X.prog X.w X.K X.mg X.base CX0 k f fd ps sp) (hb : Binds X.K fd ps []) {A : Around} (sb : Sub X k A) (hu : A.units + 64 < cLine) {pins : List (Addr × Obj)} {s : Shared} {σ : St} {H : Hp} (I : Inv X pins σ H s) {a : Addr} {n : Nat} {its : List Value} {bs : List (V × PyData)}
    (ho : s.heap.get? a = some (PyProof.Rows.seqObj "list" its.toArray n)) (fpA : FpOk X pins H a) (rv : Vals (bs.map Prod.fst) its) (hz : bs.length ≤ sizeLine) (hal : PySem.W.AllAlike (bs.map Prod.snd)) (hsk : PySem.W.Sortable (bs.map Prod.snd)) (hdep : ∀ b ∈ bs, b.2.depth ≤ 8)
    (hsp : ∀ b ∈ bs, ∀ H', Same H H' → sp [b.1] H' (fun t H2 => Same H' H2 ∧ Dp X.K H2 t b.2) E0) {P : PySem.Fin → Shared → Prop} {E : Value → Shared → Prop}
    (fin : ∀ (s' : Shared) (H' : Hp) (out : List Value) (c : Nat), Inv X pins σ H' s' → Same H H' → FpOk X pins H' a → s'.heap.get? a = some (PyProof.Rows.seqObj "list" out.toArray c) → Vals ((bs.mergeSort (PySem.W.dataLe false Prod.snd)).map Prod.fst) out → P (.done (.ret .none)) s') :
    wpAny (model X.prog X.w) A (PyProof.Rows.ksk_tree a (.ref f) false) P E s := by
  have lv : its.length = bs.length := by
    have := rv.length
    rw [List.length_map] at this
    omega
  have sm1 := Heap.SameBut.update s.heap a (Obj.mapSeq fun _ => (#[] : Array Value))
  obtain ⟨e1, ho1⟩ : ∃ e1, (s.heap.update a (Obj.mapSeq fun _ => (#[] : Array Value))).get? a = some (PyProof.Rows.seqObj "list" #[] e1) := ⟨_, PyProof.Rows.get?_update_seq ho fun _ => #[]⟩
  have I1 : Inv X pins σ H { s with heap := s.heap.update a (Obj.mapSeq fun _ => (#[] : Array Value)) } := I.turnedL (t' := s.toks) (ch := [a]) (fun b o hb e => (sm1.2 b (by simpa using hb)).trans e) (fun b hb => by rw [List.mem_singleton.mp hb]; exact fpA)
  unfold PyProof.Rows.ksk_tree
  refine wpAny_bind (PyProof.Rows.listItems_at ho rfl ?_)
  refine wpAny_bind (PyProof.Rows.listUpdate_at ho rfl ?_ (by rw [List.size_toArray, lv]; exact hz) (Nat.zero_le _))
  refine wpAny_bind (PyProof.Rows.seqEpoch_at ho1 rfl ?_)
  refine wpAny_bind (wpAny_newTuple ?_ (by show its.length ≤ _; omega))
  refine wpAny_bind (wpAny_newList ?_ (Nat.zero_le _))
  refine wpAny_holding ?_
  dsimp only
  generalize hh1 : s.heap.update a (Obj.mapSeq fun _ => (#[] : Array Value)) = h1 at I1 ho1
  have k2 : ∀ b o, h1.get? b = some o → ((h1.push (PyProof.Rows.seqObj "tuple" its.toArray 0)).push (PyProof.Rows.seqObj "list" #[] 0)).get? b = some o := fun b o e => Heap.get?_push_of_some _ (Heap.get?_push_of_some _ e)
  have nk2 : ((h1.push (PyProof.Rows.seqObj "tuple" its.toArray 0)).push (PyProof.Rows.seqObj "list" #[] 0)).get? (h1.push (PyProof.Rows.seqObj "tuple" its.toArray 0)).objs.size = some (PyProof.Rows.seqObj "list" #[] 0) := Heap.get?_push_size _ rfl
  have hle : h1.objs.size ≤ (h1.push (PyProof.Rows.seqObj "tuple" its.toArray 0)).objs.size := by
    rw [PyProof.Rows.size_push']
    exact Nat.le_succ _
  have fpK : FpOk X pins H (h1.push (PyProof.Rows.seqObj "tuple" its.toArray 0)).objs.size := I1.fpOk hle (I1.hok.fresh hle)
  have alt : a < h1.objs.size := Heap.lt_size ho1
  generalize (h1.push (PyProof.Rows.seqObj "tuple" its.toArray 0)).objs.size = kS at nk2 fpK hle ⊢
  have hka : kS ≠ a := fun e => absurd (e ▸ hle) (Nat.not_le_of_lt alt)
  generalize (h1.push (PyProof.Rows.seqObj "tuple" its.toArray 0)).push (PyProof.Rows.seqObj "list" #[] 0) = h2 at k2 nk2 ⊢
  have I2 : Inv X pins σ H { s with heap := h2 } := I1.kept (t' := s.toks) k2
  have na2 := k2 _ _ ho1
  -- the two lists stand still while the keys are asked for
  have pin2 : ∀ {G : Hp} {s' : Shared} {kA : Array Value} {e : Nat}, Inv X pins σ G s' → G a = none → G kS = none → s'.heap.get? a = some (PyProof.Rows.seqObj "list" #[] e1) → s'.heap.get? kS = some (PyProof.Rows.seqObj "list" kA e) → Inv X ((a, PyProof.Rows.seqObj "list" #[] e1) :: (kS, PyProof.Rows.seqObj "list" kA e) :: pins) σ G s' := by
    intro G s' kA e J g1 g2 h1 h2
    refine J.pins_of fun p hp => ?_
    rcases List.mem_cons.mp hp with rfl | hp
    · exact ⟨h1, g1, fpA.2.1, fpA.2.2.1, fun v z => by cases z⟩
    · rcases List.mem_cons.mp hp with rfl | hp
      · exact ⟨h2, g2, fpK.2.1, fpK.2.2.1, fun v z => by cases z⟩
      · exact J.pin p (List.mem_append_right _ hp)
  have unpin : ∀ {G : Hp} {s' : Shared} {kA : Array Value} {e : Nat}, Inv X ((a, PyProof.Rows.seqObj "list" #[] e1) :: (kS, PyProof.Rows.seqObj "list" kA e) :: pins) σ G s' → Inv X pins σ G s' ∧ G a = none ∧ G kS = none ∧ s'.heap.get? a = some (PyProof.Rows.seqObj "list" #[] e1) ∧ s'.heap.get? kS = some (PyProof.Rows.seqObj "list" kA e) := by
    intro G s' kA e J
    obtain ⟨x1, x2, _⟩ := J.pin (a, _) (List.mem_append_right _ (List.mem_cons_self ..))
    obtain ⟨y1, y2, _⟩ := J.pin (kS, _) (List.mem_append_right _ (List.mem_cons_of_mem _ (List.mem_cons_self ..)))
    exact ⟨J.pins_of fun p hp => J.pin p (List.mem_append_right _ (List.mem_cons_of_mem _ (List.mem_cons_of_mem _ hp))), x2, y2, x1, y1⟩
  unfold PyProof.Rows.ksk_rest
  refine wpAny_bind (wpAny_rule ?_)
  rw [List.forIn_toArray]
  refine wpAny_bind (PyProof.Rows.ksk_fold (fun j s' => ∃ (G : Hp) (kv : List V) (kA : Array Value) (e : Nat), Inv X ((a, PyProof.Rows.seqObj "list" #[] e1) :: (kS, PyProof.Rows.seqObj "list" kA e) :: pins) σ G s' ∧ Same H G ∧ Vals kv kA.toList ∧ kv.length = j ∧ ∀ (i : Nat) t b, kv[i]? = some t → bs[i]? = some b → Dp X.K G t b.2) its 0 _
    ⟨H, [], #[], 0, pin2 I2 fpA.1 fpK.1 na2 nk2, Same.refl H, .nil, rfl, fun i t b h => by simp at h⟩ ?step ?done)
  case step =>
    rintro j x s' hx ⟨G, kv, kA, e, J, sG, rk, lk, dk⟩
    rw [Nat.zero_add] at lk
    have hj : j < bs.length := by
      have := (List.getElem?_eq_some_iff.mp hx).1
      omega
    have hbj : bs[j]? = some bs[j] := List.getElem?_eq_getElem hj
    obtain ⟨u, hu', ru⟩ := rv.get (i := j) (x := bs[j].1) (by rw [List.getElem?_map, hbj]; rfl)
    rw [hx] at hu'
    cases hu'
    refine wpAny_bind (wpAny_attempt (wpAny_mono (call_in F hb sb J ru (hsp bs[j] (List.getElem_mem hj) G sG) (fun _ _ => False)) (fun v s2 he => ?_) fun _ _ hF => hF.elim))
    obtain ⟨t, G2, J2, rt, sG2, dt⟩ := he
    obtain ⟨I3, g1, g2, h1', h2'⟩ := unpin J2
    have lA : kA.size = j := by
      rw [← Array.length_toList, ← rk.length]
      exact lk
    have sm := Heap.SameBut.update s2.heap kS (Obj.mapSeq (·.push v))
    obtain ⟨c2, hc2⟩ : ∃ c2, (s2.heap.update kS (Obj.mapSeq (·.push v))).get? kS = some (PyProof.Rows.seqObj "list" (kA.push v) c2) := ⟨_, PyProof.Rows.get?_update_seq h2' (·.push v)⟩
    dsimp only
    refine wpAny_bind (PyProof.Rows.listUpdate_at h2' rfl ?_ (by rw [lA]; omega) (by rw [Array.size_push, lA]; omega))
    refine wpAny_pure ⟨rfl, G2, kv ++ [t], kA.push v, c2, pin2 (I3.turnedL (t' := s2.toks) (ch := [kS]) (fun b o hb e => (sm.2 b (by simpa using hb)).trans e) (fun b hb => by rw [List.mem_singleton.mp hb]; exact fp_of fpK g2)) g1 g2 ((sm.2 a hka.symm).trans h1') hc2, sG.trans sG2, ?_, ?_, fun i t' b h1 h2 => ?_⟩
    · rw [Array.toList_push]
      exact vals_snoc rk rt
    · rw [List.length_append, lk, Nat.zero_add]
      rfl
    · rcases Nat.lt_or_ge i kv.length with hi | hi
      · rw [List.getElem?_append_left hi] at h1
        exact dp_same sG2 (dk i t' b h1 h2)
      · have hi' : i = kv.length := by
          have := (List.getElem?_eq_some_iff.mp h1).1
          rw [List.length_append, List.length_singleton] at this
          omega
        rw [hi', List.getElem?_append_right (Nat.le_refl _), Nat.sub_self] at h1
        cases h1
        rw [hi', lk, hbj] at h2
        cases h2
        exact dt
  case done =>
    rintro s' ⟨G, kv, kA, e, J, sG, rk, lk, dk⟩
    rw [Nat.zero_add] at lk
    obtain ⟨I3, g1, g2, h1', h2'⟩ := unpin J
    have er := each_reads I3 rk (by omega) dk
    have lA : kA.size = its.length := by
      rw [← Array.length_toList, ← rk.length]
      exact lk
    refine wpAny_bind (PyProof.Rows.listItems_at h2' rfl ?_)
    refine PySem.W.keyH_end (κ := PySem.W.dataKind s'.heap (bs.map Prod.snd)) (h₁ := off s'.heap kS) (fun b o hb q => ?_) (off_at (Heap.lt_size h2')) h2' h1' hka (PySem.W.SortsAt.data er hal hsk fun d hd => ?_) lA (by omega) fun h3 tk3 c k3 n3 => ?_
    · by_cases hbk : b = kS
      · rw [hbk, off_at (Heap.lt_size h2')] at q
        cases q
      · rw [off_ne hbk] at q
        exact q
    · obtain ⟨b, hb', rfl⟩ := List.mem_map.mp hd
      have := hdep b hb'
      omega
    · refine fin _ G _ c (I3.turnedL (h' := h3) (t' := tk3) (ch := [a, kS]) (fun b o hb e => ?_) (fun b hb => ?_)) sG (fp_of fpA g1) n3 ?_
      · simp only [List.mem_cons, List.not_mem_nil, or_false, not_or] at hb
        exact k3 b o hb.1 (by rw [off_ne hb.2]; exact e)
      · simp only [List.mem_cons, List.not_mem_nil, or_false] at hb
        rcases hb with rfl | rfl
        · exact fp_of fpA g1
        · exact fp_of fpK g2
      · exact rel_each (PySem.W.keyedOut_each Prod.snd ⟨s'.heap, kA.toList, hal, rfl, er⟩ (each_rel rv))
/-- sorted(xs, key=f) of a list -/
def rSortK (K : PySem.W.Frag) (f : Addr) (sp : Sp) : List V → List V → Hp → VK → Prop := fun vs zs H Q => ∃ (l : Addr) (bs : List (V × PyData)), vs = [.ref l] ∧ zs = [.ref f] ∧ SqL K H l (bs.map Prod.fst) ∧ PySem.W.AllAlike (bs.map Prod.snd) ∧ PySem.W.Sortable (bs.map Prod.snd) ∧ (∀ b ∈ bs, b.2.depth ≤ 8) ∧
  (∀ b ∈ bs, ∀ H', Same H H' → sp [b.1] H' (fun t H2 => Same H' H2 ∧ Dp K H2 t b.2) E0) ∧ ∀ (p : Addr) (H' : Hp), Same H H' → H' p = some (.lst ((bs.mergeSort (PySem.W.dataLe false Prod.snd)).map Prod.fst)) → Q (.ref p) H'
theorem cr_sortK (F : FnOk X.prog X.w X.K X.mg X.base CX0 k f fd ps sp) (hb : Binds X.K fd ps []) (hr : Room (k + 2) X.A) (hu : X.A.units + 66 < cLine) : CallRK X (.builtin "sorted") [Str.ofString "key"] (rSortK X.K f sp) := by
  intro pins s σ H vs zs us ws Q I r rz h
  obtain ⟨l, bs, rfl, rfl, hl, hal, hsk, hdep, hsp, q⟩ := h
  obtain rfl := Vals.ref1 r
  obtain ⟨w1, rfl, e1⟩ := vals1 rz
  obtain rfl : w1 = Value.ref f := e1
  obtain ⟨its, rv, pl, hz⟩ := I.list hl
  have lv : its.length = bs.length := by
    have := rv.length
    rw [List.length_map] at this
    omega
  rw [List.length_map] at hz
  refine PySem.W.sorted_of_sort (vs := its) pl.isList (by omega) (PyProof.Rows.ksk_s1 _ _) (fun _ => PyProof.Rows.ksk_l1 _ _) fun E' => ?_
  show wpAny _ _ (Builtin.«list.sort» ⟨[.ref _], [(Str.ofString "key", .ref f)]⟩) _ _ _
  rw [PyProof.Rows.ksk_t1]
  have hn : H (s.heap.objs.size + 1) = none := I.hok.fresh (Nat.le_succ _)
  have hs0 : X.s_0.heap.objs.size ≤ s.heap.objs.size + 1 := Nat.le_trans I.sz (Nat.le_succ _)
  have sb : Sub X k X.A.in1.in1 := Sub.in1 (Sub.in1 ⟨hr, rfl⟩)
  refine tree_own F hb sb (by show X.A.units + 1 + 1 + 64 < cLine; omega) (I.kept (h' := PySem.W.copyHeap s.heap its) (t' := s.toks) fun b o e => PySem.W.copyHeap_old e) (PySem.W.copyHeap_at s.heap its) (I.fpOk (Nat.le_succ _) hn) rv (by omega) hal hsk hdep hsp (fun s' H' out c I' sH fp ho ro => ⟨rfl, ?_⟩)
  have lo : (((bs.mergeSort (PySem.W.dataLe false Prod.snd)).map Prod.fst)).length ≤ sizeLine := by
    rw [List.length_map, List.length_mergeSort]
    omega
  refine ⟨.ref _, upd H' (s.heap.objs.size + 1) (.lst ((bs.mergeSort (PySem.W.dataLe false Prod.snd)).map Prod.fst)), adopt I' fp hs0 ⟨lo, out, c, ro, ho⟩, rfl, q _ _ (sH.trans (same_upd fp.1)) upd_same⟩
end
end Pk
/-! ### sorted(xs, key=f) of a list or a tuple -/
namespace PySem.W
open PySem PySem.Calls PyProof.Rows PySem.F
section
variable {prog : Program} {w : World} {A : Around} {E : Value → Shared → Prop} {s : Shared}
theorem sorted_seq {l : Addr} {T : String} {o : Obj} {vs : List Value} {n : Nat} {kw : List (Str × Value)} {Q : Value → Shared → Prop} (hT : T = "list" ∨ T = "tuple") (ho : s.heap.get? l = some o) (hc : o.cls = .type T) (hd : o.data = .seq vs.toArray n) (hL : vs.length ≤ sizeLine) (ha1 : argsOk "sorted" ⟨[.ref l], kw⟩) (ha2 : ∀ x, argsOk "list.sort" ⟨[.ref x], kw⟩)
    (body : ∀ (h' : Heap) (E' : Value → Shared → Prop), (∀ b o', s.heap.get? b = some o' → h'.get? b = some o') → wpAny (model prog w) A.in1.in1 (Builtin.«list.sort» ⟨[.ref h'.objs.size], kw⟩) (fun f s' => f = .done (.ret .none) ∧ Q (.ref h'.objs.size) s') E' { s with heap := h'.push (seqObj "list" vs.toArray 0) }) :
    wpAny (model prog w) A (call (.builtin "sorted") [.ref l] kw) Q E s := by
  refine call_function_entry_kw kind_sorted plain_sorted entry_sorted ha1 ?_
  unfold Builtin.«sorted»
  refine wpAny_bind (m := checkCount "sorted" 1 1 _) (wpAny_pure ?_)
  refine wpAny_bind (wpAny_collect_seq l hT ho hc hd (fun h' kp => ?_) (by simpa using hL))
  refine wpAny_bind (wpAny_newList ?_ hL)
  show wpAny _ _ _ _ _ { s with heap := h'.push (seqObj "list" vs.toArray 0) }
  refine wpAny_bind (wpAny_holding (wpAny_call_entry_kw PySem.F.slot_list_sort ⟨_, Heap.get?_push_size _ rfl, rfl⟩ PySem.F.entry_list_sort ?body (ha2 _)))
  case body =>
    show wpAny (model prog w) A.in1.in1 (Builtin.«list.sort» ⟨[.ref h'.objs.size], kw⟩) _ _ _
    refine wpAny_mono (body h' _ kp) (fun f s' hf => ?_) fun _ _ e => e
    obtain ⟨rfl, hq⟩ := hf
    exact ⟨_, rfl, wpAny_pure ⟨_, rfl, hq⟩⟩
end
end PySem.W
namespace Pk
open PySem PySem.Spec L2
section
variable {X : Cx} {k : Nat} {f : Addr} {fd : FuncData} {ps : List Str} {sp : Sp}
def rSortS (K : PySem.W.Frag) (f : Addr) (sp : Sp) : List V → List V → Hp → VK → Prop := fun vs zs H Q => ∃ (l : Addr) (bs : List (V × PyData)), vs = [.ref l] ∧ zs = [.ref f] ∧ (SqL K H l (bs.map Prod.fst) ∨ SqT K H l (bs.map Prod.fst)) ∧ PySem.W.AllAlike (bs.map Prod.snd) ∧ PySem.W.Sortable (bs.map Prod.snd) ∧ (∀ b ∈ bs, b.2.depth ≤ 8) ∧
  (∀ b ∈ bs, ∀ H', Same H H' → sp [b.1] H' (fun t H2 => Same H' H2 ∧ Dp K H2 t b.2) E0) ∧ ∀ (p : Addr) (H' : Hp), H p = none → Same H H' → H' p = some (.lst ((bs.mergeSort (PySem.W.dataLe false Prod.snd)).map Prod.fst)) → Q (.ref p) H'
theorem cr_sortS (F : FnOk X.prog X.w X.K X.mg X.base CX0 k f fd ps sp) (hb : Binds X.K fd ps []) (hr : Room (k + 2) X.A) (hu : X.A.units + 66 < cLine) : CallRK X (.builtin "sorted") [Str.ofString "key"] (rSortS X.K f sp) := by
  intro pins s σ H vs zs us ws Q I r rz h
  obtain ⟨l, bs, rfl, rfl, hl, hal, hsk, hdep, hsp, q⟩ := h
  obtain rfl := Vals.ref1 r
  obtain ⟨w1, rfl, e1⟩ := vals1 rz
  obtain rfl : w1 = Value.ref f := e1
  obtain ⟨its, T, o, n, hT, ho, hc, hd, rv, hz⟩ : ∃ (its : List Value) (T : String) (o : Obj) (n : Nat), (T = "list" ∨ T = "tuple") ∧ s.heap.get? l = some o ∧ o.cls = .type T ∧ o.data = .seq its.toArray n ∧ Vals (bs.map Prod.fst) its ∧ (bs.map Prod.fst).length ≤ sizeLine := by
    rcases hl with hl | hl
    · obtain ⟨its, rv, ⟨o, n, ho, hc, _, hd⟩, hz⟩ := I.list hl
      exact ⟨its, _, o, n, .inl rfl, ho, hc, hd, rv, hz⟩
    · obtain ⟨its, rv, ⟨o, ho, hc, n, hd⟩, hz⟩ := I.tuple hl
      exact ⟨its, _, o, n, .inr rfl, ho, hc, hd, rv, hz⟩
  have lv : its.length = bs.length := by
    have := rv.length
    rw [List.length_map] at this
    omega
  rw [List.length_map] at hz
  refine PySem.W.sorted_seq (vs := its) hT ho hc hd (by omega) (PyProof.Rows.ksk_s1 _ _) (fun _ => PyProof.Rows.ksk_l1 _ _) fun h' E' kp => ?_
  show wpAny _ _ (Builtin.«list.sort» ⟨[.ref _], [(Str.ofString "key", .ref f)]⟩) _ _ _
  rw [PyProof.Rows.ksk_t1]
  have I1 : Inv X pins σ H { s with heap := h' } := I.kept (t' := s.toks) kp
  have hn : H h'.objs.size = none := I1.hok.fresh (Nat.le_refl _)
  have hs0 : X.s_0.heap.objs.size ≤ h'.objs.size := I1.sz
  have sb : Sub X k X.A.in1.in1 := Sub.in1 (Sub.in1 ⟨hr, rfl⟩)
  refine tree_own F hb sb (by show X.A.units + 1 + 1 + 64 < cLine; omega) (I1.kept (h' := h'.push (PyProof.Rows.seqObj "list" its.toArray 0)) (t' := s.toks) fun b o e => Heap.get?_push_of_some _ e) (Heap.get?_push_size _ rfl) (I1.fpOk (Nat.le_refl _) hn) rv (by omega) hal hsk hdep hsp (fun s' H' out c I' sH fp ho ro => ⟨rfl, ?_⟩)
  have lo : (((bs.mergeSort (PySem.W.dataLe false Prod.snd)).map Prod.fst)).length ≤ sizeLine := by
    rw [List.length_map, List.length_mergeSort]
    omega
  refine ⟨.ref _, upd H' h'.objs.size (.lst ((bs.mergeSort (PySem.W.dataLe false Prod.snd)).map Prod.fst)), adopt I' fp hs0 ⟨lo, out, c, ro, ho⟩, rfl, q _ _ hn (sH.trans (same_upd fp.1)) upd_same⟩
end
end Pk
namespace Pk
open PySem L2
theorem cut_lo {L : List V} {i : Int} (i0 : 0 ≤ i) : cutV L none (some i) = L.take i.toNat := by
  obtain ⟨k, rfl⟩ := Int.eq_ofNat_of_zero_le i0
  unfold cutV
  rw [show HT.sIx L.length L.length (some (k : Int)) = min k L.length from HT.sIx_nat _ _ _]
  show (L.drop 0).take (min k L.length - 0) = _
  rw [List.drop_zero, Nat.sub_zero, Int.toNat_natCast, List.take_eq_take_iff]
  omega
theorem cut_hi {L : List V} {i : Int} (i0 : 0 ≤ i) : cutV L (some i) none = L.drop i.toNat := by
  obtain ⟨k, rfl⟩ := Int.eq_ofNat_of_zero_le i0
  unfold cutV
  rw [show HT.sIx L.length 0 (some (k : Int)) = min k L.length from HT.sIx_nat _ _ _]
  show (L.drop (min k L.length)).take (L.length - min k L.length) = _
  rw [List.take_of_length_le (by rw [List.length_drop]; omega), Int.toNat_natCast]
  by_cases h : k ≤ L.length
  · rw [Nat.min_eq_left h]
  · rw [Nat.min_eq_right (by omega), List.drop_of_length_le (Nat.le_refl _), List.drop_of_length_le (by omega)]
end Pk
namespace Pk
open PySem L2
/-! ### papers: rising names in a tuple -/
def ltS (a b : Str) : Bool := decide (a.cps.toList < b.cps.toList)
theorem ltS_le {a b : Str} : ltS a b = true ↔ ¬ leS b a := by
  unfold ltS leS
  rw [decide_eq_true_iff]
  exact List.not_le.symm
theorem ltS_ne {a b : Str} (h : ltS a b = true) : a ≠ b := fun e => by
  subst e
  exact ltS_le.mp h (List.le_refl _)
theorem ltS_trans {a b c : Str} (h : ltS a b = true) (k : ltS b c = true) : ltS a c = true := by
  unfold ltS at *
  rw [decide_eq_true_iff] at *
  exact List.lt_trans h k
theorem ltS_of {a b : Str} (h : leS a b) (n : a ≠ b) : ltS a b = true := ltS_le.mpr fun k => n (leS_anti h k)
def risS : List Str → Bool
  | [] => true
  | [_] => true
  | a :: b :: r => ltS a b && risS (b :: r)
theorem ris_pair : ∀ {zs : List Str}, risS zs = true ↔ zs.Pairwise fun a b => ltS a b = true
  | [] => ⟨fun _ => .nil, fun _ => rfl⟩
  | [a] => ⟨fun _ => List.pairwise_singleton _ _, fun _ => rfl⟩
  | a :: b :: r => by
    have ih := ris_pair (zs := b :: r)
    unfold risS
    rw [Bool.and_eq_true, ih]
    constructor
    · rintro ⟨h1, h2⟩
      refine List.pairwise_cons.mpr ⟨fun c hc => ?_, h2⟩
      rcases List.mem_cons.mp hc with e | e
      · rw [e]; exact h1
      · exact ltS_trans h1 ((List.pairwise_cons.mp h2).1 c e)
    · intro h
      obtain ⟨h1, h2⟩ := List.pairwise_cons.mp h
      exact ⟨h1 b List.mem_cons_self, h2⟩
/-- a paper's names -/
structure Pap (zs : List Str) : Prop where
  one : 1 ≤ zs.length
  most : zs.length ≤ 40
  nm : ∀ z ∈ zs, nameT z = true
  ris : zs.Pairwise fun a b => ltS a b = true
theorem Pap.nd {zs : List Str} (h : Pap zs) : zs.Nodup := h.ris.imp fun k => ltS_ne k
def namesL (ws : List V) : Bool := decide (1 ≤ ws.length) && decide (ws.length ≤ 40) && ws.all nameV
def paperL (ws : List V) : Bool := namesL ws && risS (ws.map strV)
def paperV (H : Hp) (x : V) : Bool := match tupV H x with
  | some ws => paperL ws
  | none => false
theorem names_of : ∀ {ws : List V}, ws.all nameV = true → ∃ zs : List Str, ws = zs.map V.str ∧ ∀ z ∈ zs, nameT z = true
  | [], _ => ⟨[], rfl, fun _ h => nomatch h⟩
  | v :: r, h => by
    rw [List.all_cons, Bool.and_eq_true] at h
    obtain ⟨zs, e, hz⟩ := names_of h.2
    cases v with
    | str z =>
      refine ⟨z :: zs, by rw [e]; rfl, fun y hy => ?_⟩
      rcases List.mem_cons.mp hy with k | k
      · rw [k]; exact h.1
      · exact hz y k
    | _ => exact absurd h.1 (by simp [nameV])
theorem strV_map (zs : List Str) : (zs.map V.str).map strV = zs := by
  rw [List.map_map]
  exact List.map_id _
theorem namesL_all {zs : List Str} : (zs.map V.str).all nameV = zs.all nameT := by
  rw [List.all_map]
  rfl
theorem namesL_of {ws : List V} (h : namesL ws = true) : ∃ zs : List Str, ws = zs.map V.str ∧ 1 ≤ zs.length ∧ zs.length ≤ 40 ∧ ∀ z ∈ zs, nameT z = true := by
  unfold namesL at h
  rw [Bool.and_eq_true, Bool.and_eq_true, decide_eq_true_iff, decide_eq_true_iff] at h
  obtain ⟨zs, e, hz⟩ := names_of h.2
  rw [e, List.length_map] at h
  exact ⟨zs, e, h.1.1, h.1.2, hz⟩
theorem namesL_str {zs : List Str} : namesL (zs.map V.str) = true ↔ 1 ≤ zs.length ∧ zs.length ≤ 40 ∧ ∀ z ∈ zs, nameT z = true := by
  unfold namesL
  rw [Bool.and_eq_true, Bool.and_eq_true, decide_eq_true_iff, decide_eq_true_iff, namesL_all, List.all_eq_true, List.length_map, and_assoc]
theorem paperL_of {ws : List V} (h : paperL ws = true) : ∃ zs : List Str, ws = zs.map V.str ∧ Pap zs := by
  unfold paperL at h
  rw [Bool.and_eq_true] at h
  obtain ⟨zs, e, h1, h2, h3⟩ := namesL_of h.1
  rw [e, strV_map] at h
  exact ⟨zs, e, h1, h2, h3, ris_pair.mp h.2⟩
theorem paperL_str {zs : List Str} : paperL (zs.map V.str) = true ↔ Pap zs := by
  unfold paperL
  rw [Bool.and_eq_true, namesL_str, strV_map, ris_pair]
  exact ⟨fun ⟨⟨a, b, c⟩, d⟩ => ⟨a, b, c, d⟩, fun ⟨a, b, c, d⟩ => ⟨⟨a, b, c⟩, d⟩⟩
/-! ### papers that are ready -/
def BD.isIn (B : BD) (z : Str) : Bool := decide (z ∈ B.ns) && !decide (z ∈ B.os)
def readyL (I : Str → Bool) : Str → List V → Bool
  | _, [] => true
  | a, .str z :: r => ltS a z && I z && readyL I z r
  | _, _ :: _ => false
def readyV (H : Hp) (I : Str → Bool) (x : V) : Bool := match tupV H x with
  | some ws => decide (1 ≤ ws.length) && decide (ws.length ≤ 40) && readyL I "" ws
  | none => false
theorem ready_of {I : Str → Bool} : ∀ {ws : List V} {a : Str}, readyL I a ws = true → ∃ zs : List Str, ws = zs.map V.str ∧ (∀ z ∈ zs, I z = true) ∧ (a :: zs).Pairwise fun a b => ltS a b = true
  | [], a, _ => ⟨[], rfl, (fun _ h => nomatch h), List.pairwise_singleton _ _⟩
  | v :: r, a, h => by
    cases v with
    | str z =>
      unfold readyL at h
      rw [Bool.and_eq_true, Bool.and_eq_true] at h
      obtain ⟨zs, e, hz, pw⟩ := ready_of h.2
      refine ⟨z :: zs, by rw [e]; rfl, fun y hy => ?_, List.pairwise_cons.mpr ⟨fun y hy => ?_, pw⟩⟩
      · rcases List.mem_cons.mp hy with k | k
        · rw [k]; exact h.1.2
        · exact hz y k
      · rcases List.mem_cons.mp hy with k | k
        · rw [k]; exact h.1.1
        · exact ltS_trans h.1.1 ((List.pairwise_cons.mp pw).1 y k)
    | _ => exact absurd h (by simp [readyL])
theorem ready_str {I : Str → Bool} : ∀ {zs : List Str} {a : Str}, (∀ z ∈ zs, I z = true) → (a :: zs).Pairwise (fun a b => ltS a b = true) → readyL I a (zs.map V.str) = true
  | [], a, _, _ => rfl
  | z :: r, a, h, pw => by
    obtain ⟨h1, h2⟩ := List.pairwise_cons.mp pw
    show (ltS a z && I z && readyL I z (r.map V.str)) = true
    rw [h1 z List.mem_cons_self, h z List.mem_cons_self, ready_str (fun y hy => h y (List.mem_cons_of_mem _ hy)) h2]
    rfl
theorem empty_lt {z : Str} (h : nameT z = true) : ltS "" z = true := by
  refine ltS_of ?_ ?_
  · unfold leS
    rw [show ("" : Str).cps.toList = [] from empty_tl]
    exact List.nil_le _
  · rintro rfl
    exact absurd h (by decide +kernel)
/-- what is told of a thing that is no paper that is ready: none of one that is -/
def dueP (H : Hp) (I : Str → Bool) (x : V) : Option V := match tupV H x with
  | some ws => if paperL ws = true then ((ws.map strV).find? fun z => !I z).map V.str else some .non
  | none => some .non
theorem ready_due {H : Hp} {I : Str → Bool} {x : V} (hI : ∀ z, I z = true → nameT z = true) : readyV H I x = decide (dueP H I x = none) := by
  unfold readyV dueP
  cases tupV H x with
  | none => simp
  | some ws =>
    simp only
    rw [Bool.eq_iff_iff, Bool.and_eq_true, Bool.and_eq_true, decide_eq_true_iff, decide_eq_true_iff, decide_eq_true_iff]
    constructor
    · rintro ⟨⟨h1, h2⟩, h3⟩
      obtain ⟨zs, e, hz, pw⟩ := ready_of h3
      rw [e, List.length_map] at h1 h2
      have p : Pap zs := ⟨h1, h2, fun z hm => hI z (hz z hm), (List.pairwise_cons.mp pw).2⟩
      rw [e, if_pos (paperL_str.mpr p), strV_map, List.find?_eq_none.mpr fun z hm => by rw [hz z hm]; decide]
      rfl
    · intro h
      split at h
      case isFalse => cases h
      case isTrue hp =>
        obtain ⟨zs, e, p⟩ := paperL_of hp
        rw [e, strV_map, Option.map_eq_none_iff, List.find?_eq_none] at h
        rw [e, List.length_map]
        refine ⟨⟨p.one, p.most⟩, ready_str (fun z hz => ?_) (List.pairwise_cons.mpr ⟨fun z hz => empty_lt (p.nm z hz), p.ris⟩)⟩
        have := h z hz
        simpa using this
theorem due_paper {H : Hp} {I : Str → Bool} {x : V} (h : dueP H I x ≠ some .non) : ∃ zs : List Str, tupV H x = some (zs.map V.str) ∧ Pap zs ∧ dueP H I x = (zs.find? fun z => !I z).map V.str := by
  unfold dueP at h ⊢
  cases e : tupV H x with
  | none => rw [e] at h; exact absurd rfl h
  | some ws =>
    rw [e] at h
    simp only at h ⊢
    by_cases hp : paperL ws = true
    · obtain ⟨zs, e2, p⟩ := paperL_of hp
      rw [if_pos hp, e2, strV_map]
      exact ⟨zs, rfl, p, rfl⟩
    · rw [if_neg hp] at h
      exact absurd rfl h
theorem due_none {H : Hp} {I : Str → Bool} {x : V} (h : paperV H x = false) : dueP H I x = some .non := by
  unfold paperV at h
  unfold dueP
  cases e : tupV H x with
  | none => rfl
  | some ws =>
    rw [e] at h
    simp only at h ⊢
    rw [if_neg (by rw [h]; decide)]
/-- things that papers are asked of -/
structure ThP (H : Hp) (x : V) : Prop where
  th : Thg H x
  all : ∀ ws, tupV H x = some ws → ws.length ≤ 64 ∧ ∀ v ∈ ws, Thg H v
theorem ThP.same {H H' : Hp} {x : V} (h : ThP H x) (s : Same H H') : ThP H' x := ⟨h.th.same s, fun ws e => by
  obtain ⟨l, k⟩ := h.all ws ((h.th.tupS s).symm.trans e)
  exact ⟨l, fun v hv => (k v hv).same s⟩⟩
theorem paperS {H H' : Hp} {x : V} (h : Thg H x) (s : Same H H') : paperV H' x = paperV H x := by
  unfold paperV
  rw [h.tupS s]
theorem dueS {H H' : Hp} {I : Str → Bool} {x : V} (h : Thg H x) (s : Same H H') : dueP H' I x = dueP H I x := by
  unfold dueP
  rw [h.tupS s]
theorem isIn_name {B : BD} (g : GoodB B) {z : Str} (h : B.isIn z = true) : nameT z = true := by
  unfold BD.isIn at h
  rw [Bool.and_eq_true, decide_eq_true_iff] at h
  obtain ⟨v, e⟩ := g.nm z h.1
  rw [← e]
  exact v.nm
end Pk
namespace Pk
open PySem L2
theorem ris_snoc : ∀ {zs : List Str} {i : Nat} {a b : Str}, zs[i]? = some a → zs[i + 1]? = some b → risS (zs.take (i + 1 + 1)) = (risS (zs.take (i + 1)) && ltS a b)
  | [], i, a, b, ha, _ => by cases ha
  | z :: [], i, a, b, ha, hb => by cases i <;> cases hb
  | z :: y :: s, 0, a, b, ha, hb => by
    cases ha
    cases hb
    show (ltS z y && risS (y :: s.take 0)) = (true && ltS z y)
    rw [List.take_zero]
    simp [risS]
  | z :: y :: s, i + 1, a, b, ha, hb => by
    have ih := ris_snoc (zs := y :: s) (i := i) ha hb
    show (ltS z y && risS ((y :: s).take (i + 1 + 1))) = ((ltS z y && risS ((y :: s).take (i + 1))) && ltS a b)
    rw [ih, Bool.and_assoc]
theorem cutV_tail {L : List V} : cutV L (some 1) none = L.drop 1 := cut_hi (by decide)
/-- the things of a list or a tuple -/
def seqO : Option HO → Option (List V)
  | some (.tup vs) => some vs
  | some (.lst vs) => some vs
  | _ => none
def seqV (H : Hp) : V → Option (List V)
  | .ref a => seqO (H a)
  | _ => none
theorem seqV_of {H : Hp} {x : V} {vs : List V} (h : seqV H x = some vs) : ∃ a, x = .ref a ∧ (H a = some (.lst vs) ∨ H a = some (.tup vs)) := by
  cases x with
  | ref a =>
    have h : seqO (H a) = some vs := h
    refine ⟨a, rfl, ?_⟩
    generalize H a = o at h
    cases o with
    | none => cases h
    | some o =>
      cases o with
      | tup ws =>
        cases h
        exact .inr rfl
      | lst ws =>
        cases h
        exact .inl rfl
      | _ => cases h
  | _ => cases h
theorem seqV_lst {H : Hp} {a : Addr} {vs : List V} (h : H a = some (.lst vs)) : seqV H (.ref a) = some vs := by
  show seqO (H a) = _
  rw [h]
  rfl
theorem seqV_tup {H : Hp} {a : Addr} {vs : List V} (h : H a = some (.tup vs)) : seqV H (.ref a) = some vs := by
  show seqO (H a) = _
  rw [h]
  rfl
theorem Thg.seqS {H H' : Hp} {x : V} (h : Thg H x) (s : Same H H') : seqV H' x = seqV H x := by
  cases h with
  | non => rfl
  | bl b => rfl
  | int i => rfl
  | str z hl ho => rfl
  | lst h => rw [seqV_lst h, seqV_lst (s _ _ h)]
  | tup h => rw [seqV_tup h, seqV_tup (s _ _ h)]
  | dct h =>
    show seqO (H' _) = seqO (H _)
    rw [h, s _ _ h]
/-- the first name told twice -/
def dup : List Str → List Str → Option Str
  | _, [] => none
  | s, z :: r => if z ∈ s then some z else dup (s ++ [z]) r
def dueN (H : Hp) (x : V) : Option V := match seqV H x with
  | some ws => if namesL ws = true then (dup [] (ws.map strV)).map V.str else some .non
  | none => some .non
theorem dup_nd : ∀ {zs s : List Str}, (s ++ zs).Nodup → dup s zs = none
  | [], _, _ => rfl
  | z :: r, s, h => by
    have hn : z ∉ s := fun hm => (List.nodup_append.mp h).2.2 z hm z List.mem_cons_self rfl
    unfold dup
    rw [if_neg hn]
    refine dup_nd ?_
    rw [List.append_assoc]
    exact h
theorem dup_twice : ∀ {zs : List Str} {s : List Str} {z : Str} {r : List Str}, (s ++ zs).Nodup → z ∈ s ++ zs → dup s (zs ++ z :: r) = some z
  | [], s, z, r, _, hm => by
    rw [List.append_nil] at hm
    show (if z ∈ s then some z else _) = _
    rw [if_pos hm]
  | y :: ys, s, z, r, h, hm => by
    have hn : y ∉ s := fun hm => (List.nodup_append.mp h).2.2 y hm y List.mem_cons_self rfl
    show (if y ∈ s then some y else dup (s ++ [y]) (ys ++ z :: r)) = _
    rw [if_neg hn]
    refine dup_twice ?_ ?_
    · rw [List.append_assoc]; exact h
    · rw [List.append_assoc]; exact hm
theorem flat_strs (zs : List Str) : (zs.map V.str).all flatV = true := List.all_eq_true.mpr fun x hx => by
  obtain ⟨z, _, rfl⟩ := List.mem_map.mp hx
  rfl
theorem in_strs {z : Str} : ∀ zs : List Str, inV (.str z) (zs.map V.str) = decide (z ∈ zs)
  | [] => rfl
  | w :: zs => by
    show ((w == z) || inV (.str z) (zs.map V.str)) = _
    rw [in_strs zs, Bool.eq_iff_iff, Bool.or_eq_true, beq_iff_eq, decide_eq_true_iff, decide_eq_true_iff, List.mem_cons]
    exact ⟨fun h => h.imp Eq.symm id, fun h => h.imp Eq.symm id⟩
theorem filter_snoc {α : Type} {l : List α} {p : α → Bool} {i : Nat} {x : α} (h : l[i]? = some x) : (l.take (i + 1)).filter p = if p x = true then (l.take i).filter p ++ [x] else (l.take i).filter p := by
  rw [List.take_add_one, h, List.filter_append]
  show _ ++ [x].filter p = _
  cases hp : p x with
  | true => rw [if_pos rfl, List.filter_cons, if_pos hp]; rfl
  | false => rw [if_neg (by decide), List.filter_cons, if_neg (by rw [hp]; decide)]; exact List.append_nil _
end Pk
/-! ### sorted(xs) of texts in a list or a tuple -/
namespace Pk
open PySem PySem.Spec L2 PyProof.Rows
section
variable {X : Cx}
def rSortSE (K : PySem.W.Frag) : List V → Hp → VK → Prop := fun vs H Q => ∃ (l : Addr) (xs : List Str), vs = [.ref l] ∧ (SqL K H l (xs.map V.str) ∨ SqT K H l (xs.map V.str)) ∧ xs.length < 64 ∧ ∀ (p : Addr) (H' : Hp), H p = none → Same H H' → H' p = some (.lst ((srt xs).map V.str)) → Q (.ref p) H'
theorem cr_sortSE : CallR X (.builtin "sorted") (rSortSE X.K) := by
  rintro pins s σ H vs us Q I r ⟨l, xs, rfl, hl, h64, q⟩
  obtain rfl := Vals.ref1 r
  obtain ⟨its, T, o, n, hT, ho, hc, hd, rv, hz⟩ : ∃ (its : List Value) (T : String) (o : Obj) (n : Nat), (T = "list" ∨ T = "tuple") ∧ s.heap.get? l = some o ∧ o.cls = .type T ∧ o.data = .seq its.toArray n ∧ Vals (xs.map V.str) its ∧ (xs.map V.str).length ≤ sizeLine := by
    rcases hl with hl | hl
    · obtain ⟨its, rv, ⟨o, n, ho, hc, _, hd⟩, hz⟩ := I.list hl
      exact ⟨its, _, o, n, .inl rfl, ho, hc, hd, rv, hz⟩
    · obtain ⟨its, rv, ⟨o, ho, hc, n, hd⟩, hz⟩ := I.tuple hl
      exact ⟨its, _, o, n, .inr rfl, ho, hc, hd, rv, hz⟩
  have lv : its.length = xs.length := by
    have := rv.length
    rw [List.length_map] at this
    omega
  rw [List.length_map] at hz
  have ss := Vals.strs rv
  refine PySem.W.sorted_seq (vs := its) (kw := []) hT ho hc hd (by omega) rfl (fun _ => rfl) fun h' E' kp => ?_
  have I1 : Inv X pins σ H { s with heap := h' } := I.kept (t' := s.toks) kp
  have hn : H h'.objs.size = none := I1.hok.fresh (Nat.le_refl _)
  refine list_sort_treeK strKind_oneLt (vs := its) (n := 0) (Heap.get?_push_size _ rfl) ss.keysOf (fun v1 v2 rest e => keyKind_strs (by rw [← e]; exact ss)) (by omega) fun st' hp hs => ?_
  obtain ⟨ys, sy, pm, so⟩ := sorted_out_str ss hp hs
  have ey := srt_of pm so
  subst ey
  refine ⟨rfl, ?_⟩
  obtain ⟨e, he⟩ := sortedHeap_at (out := Array.map (fun x => x.snd) (arrOf st')) (h := h'.push (seqObj "list" its.toArray 0)) (a := h'.objs.size) (vs := its) (n := 0) (Heap.get?_push_size _ rfl)
  refine ⟨.ref _, upd H h'.objs.size (.lst ((srt xs).map V.str)), I1.laid (t' := s.toks) (fun b u hb => ?_) (Nat.le_refl _) ?_, rfl, q _ _ hn (same_upd hn) upd_same⟩
  · rw [sortedHeap_old (Nat.ne_of_lt (Heap.lt_size hb)) (by rw [Heap.size_push]; exact Nat.lt_succ_of_lt (Heap.lt_size hb))]
    exact Heap.get?_push_of_some _ hb
  · exact ⟨by rw [List.length_map, pm.length_eq]; omega, _, e, vals_of_strs sy, by rw [he]⟩
end
end Pk
/-! ### sets of texts or ints that are made of a list and sorted -/
namespace Pk
open PySem PySem.Spec L2 PyProof.Rows
/-- what tells a kind's values apart -/
structure Tells {P : Program} {w : World} {α : Type} [DecidableEq α] (knd : KeyKind P w α) (key : Value → α) (good : Value → Prop) : Prop where
  is_ : ∀ v, good v → ∀ k, knd.is k v = true ↔ key v = k
  sc : ∀ v, good v → v.scannable = true
/-- a set that has the keys ks, of at most n things -/
def SetG {P : Program} {w : World} {α : Type} [DecidableEq α] (knd : KeyKind P w α) (key : Value → α) (good : Value → Prop) (h : Heap) (a : Addr) (ks : List α) (n : Nat) : Prop :=
  ∃ o es ep t, h.get? a = some o ∧ o.ExactSet ∧ o.data = .set es ep t ∧ (∀ e ∈ es.toList, good e.2 ∧ e.1 = knd.hash (key e.2)) ∧ (es.toList.map fun e => key e.2).Nodup ∧ (∀ k, k ∈ ks ↔ k ∈ es.toList.map fun e => key e.2) ∧
    es.size < scanBound ∧ t.fits es.size = true ∧ es.size ≤ n ∧ Ris t.place.toList ∧ (w.params.followText "set-order" = true ∨ t.led = true)
section
variable {P : Program} {w : World} {A : Around} {E : Value → Shared → Prop} {s : Shared} {α : Type} [DecidableEq α] {knd : KeyKind P w α} {key : Value → α} {good : Value → Prop}
theorem SetG.at {h h' : Heap} {a : Addr} {ks : List α} {n : Nat} (R : SetG knd key good h a ks n) (k : ∀ o, h.get? a = some o → h'.get? a = some o) : SetG knd key good h' a ks n := by
  obtain ⟨o, es, ep, t, ho, r⟩ := R
  exact ⟨o, es, ep, t, k o ho, r⟩
theorem setG_put {g : Bool → Sem Unit} (hg : ∀ (b : Bool) (s₁ : Shared) (Q' : Unit → Shared → Prop), Q' () s₁ → wpAny (model P w) A (g b) Q' E s₁) {a : Addr}
    {o : Obj} {es : Array (Int × Value)} {ep : Nat} {t : SetTable} (ho : s.heap.get? a = some o) (hex : o.ExactSet) (hd : o.data = .set es ep t) {n : Nat}
    {es1 : Array (Int × Value)} {t2 : SetTable} {ks : List α} (g1 : ∀ e ∈ es1.toList, good e.2 ∧ e.1 = knd.hash (key e.2)) (nd1 : (es1.toList.map fun e => key e.2).Nodup) (m1 : ∀ k, k ∈ ks ↔ k ∈ es1.toList.map fun e => key e.2)
    (hb1 : es1.size < scanBound) (hf2 : t2.fits es1.size = true) (hn : es1.size ≤ n) (hr : Ris t2.place.toList) (hl : w.params.followText "set-order" = true ∨ t2.led = true) {wasDummy : Bool} {R : Option Bool → Shared → Prop}
    (hR : ∀ h', Heap.SameBut a s.heap h' → SetG knd key good h' a ks n → R (some true) { s with heap := h' }) :
    wpAny (model P w) A (do
        storeSet a es1 t2
        if (!wasDummy && t2.tooFull) = true then do
            g (relayAll t2 es1 (SetTable.grown es1.size)).2.2
            storeSet a (relayAll t2 es1 (SetTable.grown es1.size)).1 (relayAll t2 es1 (SetTable.grown es1.size)).2.1
            pure (some true)
          else pure (some true)) R E s := by
  refine wpAny_bind (wpAny_storeSet_of ho hd ?_ (fits_of_scanBound hb1))
  have ho1 := store_at (es' := es1) (t' := t2) ho hd
  have sb1 := Heap.SameBut.update s.heap a (Obj.putSet es1 t2)
  by_cases full : (!wasDummy && t2.tooFull) = true
  · rw [if_pos full]
    have pm := relayAll_perm t2 es1 (SetTable.grown es1.size)
    have hf3 := relayAll_fits t2 es1 (SetTable.grown es1.size)
    have hr3 := relayAll_ris t2 es1 (SetTable.grown es1.size)
    have hl3 := relayAll_led t2 es1 (SetTable.grown es1.size)
    generalize relayAll t2 es1 (SetTable.grown es1.size) = Z at pm hf3 hr3 hl3 ⊢
    obtain ⟨es2, t3, gave⟩ := Z
    dsimp only at pm hf3 hr3 hl3 ⊢
    have hsz : es2.size = es1.size := by rw [← Array.length_toList, pm.length_eq, Array.length_toList]
    refine wpAny_bind (hg _ _ _ (wpAny_bind (wpAny_storeSet_of ho1 rfl (wpAny_pure (hR _ (sb1.trans (Heap.SameBut.update _ a _)) ?_)) (fits_of_scanBound (by rw [hsz]; exact hb1)))))
    exact ⟨_, es2, _, t3, store_at (es' := es2) (t' := t3) ho1 rfl, hex, rfl, fun e he => g1 e (pm.mem_iff.mp he), (pm.map _).nodup_iff.mpr nd1, fun k => (m1 k).trans (pm.map _).mem_iff.symm, by rw [hsz]; exact hb1, hf3, by rw [hsz]; exact hn, hr3,
      hl.imp id fun z => by rw [hl3]; exact z⟩
  · rw [if_neg full]
    exact wpAny_pure (hR _ sb1 ⟨_, es1, _, t2, ho1, hex, rfl, g1, nd1, m1, hb1, hf2, hn, hr, hl⟩)
theorem setG_add (T : Tells knd key good) {a : Addr} {ks : List α} {n : Nat} {v : Value} {Q : Bool → Shared → Prop} (R : SetG knd key good s.heap a ks n) (gv : good v) (room : n + 1 < scanBound)
    (hQ : ∀ (b : Bool) h', Heap.SameBut a s.heap h' → SetG knd key good h' a (ks ++ [key v]) (n + 1) → Q b { s with heap := h' }) :
    wpAny (model P w) A (setAddHashed a v (knd.hash (key v))) Q E s := by
  obtain ⟨o, es, ep, t, ho, hex, hd, g, nd, hm, hb, hf, hn, hr, hl⟩ := R
  have hkey : knd.is (key v) v = true := (T.is_ v gv _).mpr rfl
  have hsc := T.sc v gv
  have hel : ElemsOf knd es.toList := fun e he => ⟨⟨key e.2, (T.is_ _ (g e he).1 _).mpr rfl, (g e he).2⟩, T.sc _ (g e he).1⟩
  unfold setAddHashed setAddHashedIn
  refine wpAny_holding (wpAny_bind (wpAny_setState_of ho hd hf ?_))
  dsimp only
  rw [byScan_of hsc hb hel]
  simp only [↓reduceIte]
  unfold setAddByScan
  refine wpAny_bind ?_
  refine wpAny_bind (wpAny_rule ?_)
  refine wpAny_bind (wpAny_setScan_of hkey ho hd hf hel ?_)
  cases hfi : List.findIdx? (fun e => knd.is (key v) e.2) es.toList with
  | some j =>
    dsimp only
    obtain ⟨hj, pj, _⟩ := List.findIdx?_eq_some_iff_getElem.mp hfi
    have mk : key v ∈ es.toList.map fun e => key e.2 := List.mem_map.mpr ⟨es.toList[j], List.getElem_mem hj, (T.is_ _ (g _ (List.getElem_mem hj)).1 _).mp pj⟩
    refine wpAny_pure (wpAny_pure ?_)
    exact hQ _ s.heap (Heap.SameBut.refl a s.heap) ⟨o, es, ep, t, ho, hex, hd, g, nd, fun k => by
      rw [List.mem_append, hm k, List.mem_singleton]
      exact ⟨fun z => z.elim id fun e => by rw [e]; exact mk, .inl⟩, hb, hf, by omega, hr, hl⟩
  | none =>
    dsimp only
    have nk : key v ∉ es.toList.map fun e => key e.2 := fun z => by
      obtain ⟨e, he, q⟩ := List.mem_map.mp z
      have c := List.findIdx?_eq_none_iff.mp hfi e he
      rw [(T.is_ _ (g e he).1 _).mpr q] at c
      cases c
    have hgw : ∀ (b : Bool) (s₁ : Shared) (Q' : Unit → Shared → Prop), Q' () s₁ → wpAny (model P w) A (match b with | true => rule "set.scan.the-table-gave-way" | false => pure ()) Q' E s₁ := fun b s₁ Q' q => by
      cases b
      · exact wpAny_pure q
      · exact wpAny_rule q
    have pm := layNew_perm t es (knd.hash (key v)) v
    have hf1 := layNew_fits t es (knd.hash (key v)) v
    have hr1 := layNew_ris t es (knd.hash (key v)) v hr
    have hl1 := layNew_led t es (knd.hash (key v)) v
    generalize layNew t es (knd.hash (key v)) v = Z at pm hf1 hr1 hl1 ⊢
    obtain ⟨es1, t1, wasDummy, gave⟩ := Z
    dsimp only at pm hf1 hr1 hl1 ⊢
    rw [Array.toList_push] at pm
    have pc : es1.toList.Perm ((knd.hash (key v), v) :: es.toList) := pm.trans (List.perm_append_singleton _ _)
    have pk : (es1.toList.map fun e => key e.2).Perm (key v :: es.toList.map fun e => key e.2) := pc.map _
    have g1 : ∀ e ∈ es1.toList, good e.2 ∧ e.1 = knd.hash (key e.2) := fun e he => by
      rcases List.mem_cons.mp (pc.mem_iff.mp he) with z | z
      · rw [z]; exact ⟨gv, rfl⟩
      · exact g e z
    have nd1 := pk.nodup_iff.mpr (List.nodup_cons.mpr ⟨nk, nd⟩)
    have m1 : ∀ k, k ∈ ks ++ [key v] ↔ k ∈ es1.toList.map fun e => key e.2 := fun k => by
      rw [List.mem_append, hm k, pk.mem_iff]
      simp only [List.mem_cons, List.not_mem_nil, or_false]
      exact Or.comm
    have hsz : es1.size = es.size + 1 := by rw [← Array.length_toList, pc.length_eq, List.length_cons, Array.length_toList]
    have hb1 : es1.size < scanBound := by rw [hsz]; omega
    have hn1 : es1.size ≤ n + 1 := by omega
    have hled : w.params.followText "set-order" = true ∨ t1.led = true := hl.imp id fun z => by rw [hl1]; exact z
    refine wpAny_bind (hgw _ _ _ ?_)
    split
    · refine wpAny_bind ?_
      rw [hashByValue_scannable 8 hsc]
      refine wpAny_pure ?_
      refine setG_put hgw ho hex hd g1 nd1 m1 hb1 ?_ hn1 ?_ ?_ fun h' sb r => ?_
      · first | (split <;> first | exact hf1 | exact SetTable.fits_plain_off hf1) | exact hf1
      · first | (split <;> exact hr1) | exact hr1
      · first | (split <;> exact hled) | exact hled
      · dsimp only; exact wpAny_pure (hQ _ h' sb r)
    · refine wpAny_bind (wpAny_pure ?_)
      simp only [↓reduceIte]
      refine setG_put hgw ho hex hd g1 nd1 m1 hb1 hf1 hn1 hr1 hled fun h' sb r => ?_
      dsimp only
      exact wpAny_pure (hQ _ h' sb r)
theorem setG_new {h : Heap} {a : Addr} (ho : h.get? a = some { cls := .type "set", dict := none, data := .set #[] 0 (.fresh 0 0 (!w.params.followText "set-order")) }) : SetG knd key good h a [] 0 :=
  ⟨_, #[], 0, _, ho, ⟨rfl, rfl, rfl⟩, rfl, (fun e he => by simp at he), (by simp), (fun k => by simp), (by decide), (by rfl), Nat.le_refl _, List.Pairwise.nil, by
    show _ ∨ (!w.params.followText "set-order") = true
    cases w.params.followText "set-order"
    · exact .inr rfl
    · exact .inl rfl⟩
/-- set.update's loop -/
theorem fillG (T : Tells knd key good) {it : Addr} {fp wr : List Addr} {G : Array GenState → Array GenState → Prop} {n : Nat} {Pv : Nat → Value → Prop} {St : Nat → Shared → Prop} {R : Result → Shared → Prop}
    (W : WalksS P w A.in1 it fp wr G n Pv St) (b : Addr) (hb : b ∉ fp) (ks : List α) (hz : n = ks.length) (room : ks.length + 1 < scanBound) (hv : ∀ (i : Nat) (v : Value), Pv i v → good v ∧ ks[i]? = some (key v)) :
    ∀ (m i : Nat) (s : Shared), n - i = m → i ≤ n → St i s → SetG knd key good s.heap b (ks.take i) i →
      (∀ s', Moved (b :: wr) G s s' → SetG knd key good s'.heap b ks n → R (.ok (.ret .none)) s') →
      codeAny (model P w) A (.builtin "set.update.loop" ⟨[.ref b, .ref it], []⟩) R s := by
  have nw : b ∉ wr := fun h => hb (W.sub _ h)
  have up : ∀ c ∈ wr, c ∈ b :: wr := fun c hc => List.mem_cons_of_mem _ hc
  intro m
  induction m with
  | zero =>
    intro i s e1 e2 e3 e4 e5
    have e6 : i = n := by omega
    subst e6
    refine codeAny_builtin F.entry_set_update_loop ?_
    rw [Around.under_plainId F.plain_set_update_loop _]
    show wpAny _ A.in1 (pyNext (.ref it) >>= _) _ _ s
    refine wpAny_bind (W.done s _ _ e3 fun s' mv => ?_)
    show wpAny _ A.in1 (ret Value.none) _ _ s'
    rw [List.take_of_length_le (by omega)] at e4
    exact wpAny_pure (e5 s' (mv.mono up) (e4.at fun o e => mv.heap b o nw e))
  | succ m ih =>
    intro i s e1 e2 e3 e4 e5
    have lt : i < n := by omega
    refine codeAny_builtin F.entry_set_update_loop ?_
    rw [Around.under_plainId F.plain_set_update_loop _]
    show wpAny _ A.in1 (pyNext (.ref it) >>= _) _ _ s
    refine wpAny_bind (W.item i s _ _ lt e3 fun v s' pv st' mv => ?_)
    obtain ⟨gv, ek⟩ := hv i v pv
    have e7 := e4.at fun o e => mv.heap b o nw e
    show wpAny _ A.in1 (holding [v] (setAdd b v) >>= _) _ _ s'
    refine wpAny_bind (wpAny_holding ?_)
    unfold setAdd
    refine wpAny_holding (wpAny_bind (knd.pyHash (k := key v) ((T.is_ v gv _).mpr rfl) ?_))
    refine setG_add T (s := { s' with toks := s'.toks + 1 }) e7 gv (by omega) fun bb h' hsb hS2 => ?_
    have hSi : SetG knd key good h' b (ks.take (i + 1)) (i + 1) := by rw [List.take_add_one, ek]; exact hS2
    refine wpAny_pure ⟨plainId_quiet F.plain_set_update_loop _, ih (i + 1) _ (by omega) lt (W.frame _ s' _ _ st' (Nat.le_succ _) fun c hc o e => ?_) hSi fun s'' mv2 hS3 => ?_⟩
    · rw [hsb.2 c (fun h : c = b => hb (h ▸ hc))]
      exact e
    · refine e5 s'' (Moved.trans W.gtrans ((mv.mono up).then_heap (Nat.le_succ _) fun c o hc e => ?_) mv2) hS3
      rw [hsb.2 c (fun h : c = b => hc (by rw [h]; exact List.mem_cons_self))]
      exact e
abbrev bareL (w : World) : Obj := { cls := .type "set", dict := none, data := .set #[] 0 (.fresh 0 0 (!w.params.followText "set-order")) }
/-- set(xs), of a list -/
theorem set_of_list (T : Tells knd key good) {l : Addr} {its : Array Value} {ks : List α} {Q : Value → Shared → Prop} (hh : A.handled = none) (hl : s.heap.IsList l its) (hi : ∀ (i : Nat) (v : Value), its[i]? = some v → good v ∧ ks[i]? = some (key v)) (hsz : its.size = ks.length) (room : ks.length + 1 < scanBound)
    (h : ∀ (h' : Heap) (tk : Nat), SetG knd key good h' s.heap.objs.size ks ks.length →
      (∀ c o, s.heap.get? c = some o → h'.get? c = some o) → Q (.ref s.heap.objs.size) { s with heap := h', toks := tk }) :
    wpAny (model P w) A (call (.type "set") [.ref l]) Q E s := by
  obtain ⟨c0, tl0, m0⟩ := PySem.F.called_set.mro
  have m1 := PySem.F.called_set.made
  have m2 := PySem.F.called_set.sub
  refine wpAny_call (codeAny_of_tree ?_)
  show wpAny _ _ (callAny (.type "set") _) _ _ _
  refine wpAny_pure ⟨Code.quiet_builtin _ (by decide +kernel), codeAny_builtin PySem.F.entry_type_call ?_⟩
  rw [Around.under_plain (weight_type_call_type "set" [.ref l] []) rfl]
  have m3 := PySem.F.called_set.notType
  have m4 := PySem.F.called_set.canCreate
  have m5 := PySem.F.typeCall_set_1 (.ref l)
  repeat (any_goals (first | assumption | wp_step))
  refine codeAny_mono (code_set_led1 (.ref l) (E := E) (Q₁ := fun x s₁ => x = .ref s.heap.objs.size ∧ s₁ = { s with heap := s.heap.push (bareL w) }) ⟨rfl, rfl⟩) fun r s₁ hr => ?_
  cases r with
  | error e => exact hr
  | ok fl =>
    cases fl with
    | ret x =>
      obtain ⟨rfl, rfl⟩ := hr
      have n1 : (s.heap.push (bareL w)).get? s.heap.objs.size = some (bareL w) := Heap.get?_push_size _ rfl
      have n2 : Shared.TypeIs { s with heap := s.heap.push (bareL w) } (.ref s.heap.objs.size) "set" := ⟨_, n1, rfl⟩
      have n3 := PySem.F.called_set.init.lookup
      have n4 := PySem.F.called_set.init.bind (.ref s.heap.objs.size)
      repeat (any_goals (first | assumption | wp_step))
      refine codeAny_mono (codeAny_call_builtin (R := wants (fun r s₂ => r = .none ∧ ∃ h' tk, s₂ = { s with heap := h', toks := tk } ∧
          SetG knd key good h' s.heap.objs.size ks ks.length ∧
          (∀ c o, s.heap.get? c = some o → h'.get? c = some o)) E) PySem.F.called_set.init.plain PySem.F.entry_set_init (check_set_init_1 n2 ?_)) fun r₂ s₂ hr₂ => ?_
      · obtain ⟨⟨oc, od, odt, osl⟩, hol, hcl, nl, hdl⟩ := hl
        simp only at hcl hdl
        subst hcl; subst hdl
        have k1 : (s.heap.push (bareL w)).get? l = some { cls := .type "list", dict := od, data := .seq its nl, slots := osl } := Heap.get?_push_of_some _ hol
        have k2 := PySem.F.sub_list_set
        have k3 := PySem.F.sub_list_frozenset
        have k4 : (Value.type "list" == Value.type "dict") = false := by decide
        have k5 : (s.heap.push (bareL w)).IsList l its := ⟨_, k1, rfl, nl, rfl⟩
        have k6 : l < s.heap.objs.size := Heap.lt_size hol
        unfold Builtin.«set.__init__» noKeywords Builtin.Frozenset.updateFrom
        generalize hPI : pyIter = PI
        wp_walk
        subst hPI
        refine wpAny_pyIter_list k5 ?_
        refine wpAny_bind (wpAny_runValue ?_)
        have k7 : l ≠ (s.heap.push (bareL w)).objs.size := by
          rw [Heap.size_push]
          exact Nat.ne_of_lt (Nat.lt_succ_of_lt k6)
        have k8 : s.heap.objs.size ∉ [(s.heap.push (bareL w)).objs.size, l] := by
          rw [Heap.size_push]
          intro q
          rcases List.mem_cons.mp q with q | q
          · exact absurd q (Nat.ne_of_lt (Nat.lt_succ_self _))
          · exact absurd (List.mem_singleton.mp q) (Nat.ne_of_gt k6)
        refine fillG T ((Walks.list (by simp [hh]) _ l k7 its).toS) s.heap.objs.size k8 ks hsz (by omega) hi
          (its.size - 0) 0 _ (by omega) (Nat.zero_le _)
          ⟨⟨_, Heap.get?_push_size _ rfl, rfl, rfl⟩, k5.push _⟩ ?pk_s0 ?pk_s1
        case pk_s0 =>
          rw [List.take_zero]
          exact setG_new (Heap.get?_push_of_some _ n1)
        case pk_s1 =>
          rintro ⟨h', g', d', tk', os'⟩ mv hS'
          obtain rfl : g' = s.gens := mv.gens
          obtain rfl : d' = s.drawn := mv.drawn
          obtain rfl : os' = s.os := mv.os
          show wpAny _ _ _ _ _ _
          refine wpAny_pure ?_
          show wpAny _ _ (ret Value.none) _ _ _
          refine wpAny_pure ⟨rfl, h', tk', rfl, by rw [← hsz]; exact hS', fun c o e => ?_⟩
          have hc := Heap.lt_size e
          refine mv.heap c o (fun q => ?_) (Heap.get?_push_of_some _ (Heap.get?_push_of_some _ e))
          rw [Heap.size_push] at q
          rcases List.mem_cons.mp q with q | q
          · exact absurd q (Nat.ne_of_lt hc)
          · exact absurd (List.mem_singleton.mp q) (Nat.ne_of_lt (Nat.lt_succ_of_lt hc))
      · cases r₂ with
        | error e => exact hr₂
        | ok fl₂ =>
          cases fl₂ with
          | ret r =>
            obtain ⟨rfl, h', tk, rfl, hS', hk'⟩ := hr₂
            repeat (any_goals (first | assumption | wp_step))
            exact h _ _ hS' hk'
          | _ => exact hr₂.elim
    | _ => exact hr.elim
end
end Pk
/-! ### sorted(set(xs)), len(set(xs)) of a list of texts, sorted(set(xs)) of ints -/
namespace Pk
open PySem PySem.Spec L2 PyProof.Rows
def txtOf : Value → Str
  | .str z _ => z
  | _ => ""
def isTxt (v : Value) : Prop := ∃ z t, v = .str z t
def intOf : Value → Int
  | .int i _ => i
  | _ => 0
def isInt (v : Value) : Prop := ∃ i t, v = .int i t
theorem tells_str (P : Program) (w : World) : Tells (strKind P w) txtOf isTxt where
  is_ := fun v ⟨z, t, e⟩ k => by
    subst e
    constructor
    · intro h
      exact (strKind P w).inj _ _ _ (strKind_is P w z t) h
    · intro h
      have h : z = k := h
      rw [← h]
      exact strKind_is P w z t
  sc := fun v ⟨z, t, e⟩ => by subst e; rfl
theorem tells_int (P : Program) (w : World) : Tells (intKind P w) intOf isInt where
  is_ := fun v ⟨z, t, e⟩ k => by
    subst e
    constructor
    · intro h
      exact (intKind P w).inj _ _ _ (intKind_is P w z t) h
    · intro h
      have h : z = k := h
      rw [← h]
      exact intKind_is P w z t
  sc := fun v ⟨z, t, e⟩ => by subst e; rfl
section
variable {P : Program} {w : World} {A : Around} {E : Value → Shared → Prop} {s : Shared} {a : Addr}
theorem strs_all : ∀ (l : List Value), (∀ v ∈ l, isTxt v) → StrsAre l (l.map txtOf)
  | [], _ => .nil
  | v :: l, h => by
    obtain ⟨z, t, rfl⟩ := h v List.mem_cons_self
    exact .cons z t (strs_all l fun u hu => h u (List.mem_cons_of_mem _ hu))
theorem ints_all : ∀ (l : List Value), (∀ v ∈ l, isInt v) → IntsAre l (l.map intOf)
  | [], _ => .nil
  | v :: l, h => by
    obtain ⟨z, t, rfl⟩ := h v List.mem_cons_self
    exact .cons z t (ints_all l fun u hu => h u (List.mem_cons_of_mem _ hu))
/-- sorted, of a set of texts -/
theorem sorted_strG {ks : List Str} {n : Nat} {Q : Value → Shared → Prop} (R : SetG (strKind P w) txtOf isTxt s.heap a ks n) (hh : A.handled = none) (h64 : n < 64)
    (hQ : ∀ s' p (out : Array Value) (c : Nat) (ys : List Str), (∀ b o, s.heap.get? b = some o → s'.heap.get? b = some o) → s'.gens = s.gens → s'.os = s.os → s.heap.objs.size ≤ p →
      s'.heap.get? p = some (seqObj "list" out c) → StrsAre out.toList ys → sortedS ys = true → ys.Nodup → (∀ k, k ∈ ys ↔ k ∈ ks) → ys.length ≤ n → Q (.ref p) s') :
    wpAny (model P w) A (call (.builtin "sorted") [.ref a]) Q E s := by
  obtain ⟨o, es, ep, t, ho, hex, hd, g, nd, hm, hb, hf, hn, hr, hl⟩ := R
  refine Calls.call_function_entry kind_sorted plain_sorted entry_sorted (args_sorted1 _) ?_
  unfold Builtin.«sorted»
  refine wpAny_bind (m := checkCount "sorted" 1 1 _) (wpAny_pure ?_)
  refine wpAny_bind (collect_set (A := A.in1) hh ⟨o, ho, hex.1, hd⟩ hf hb hr hl fun s1 vs k1 hz g1 o1 pm => ?_)
  have hvl : vs.length = es.size := by rw [pm.length_eq, List.length_map, Array.length_toList]
  have hI : StrsAre vs (vs.map txtOf) := strs_all vs fun v hv => by
    obtain ⟨e, he, q⟩ := List.mem_map.mp (pm.mem_iff.mp hv)
    rw [← q]
    exact (g e he).1
  have pk : (vs.map txtOf).Perm (es.toList.map fun e => txtOf e.2) := by
    have q := pm.map txtOf
    rw [List.map_map] at q
    exact q
  refine wpAny_bind (wpAny_newList ?_ (by rw [hvl, sizeLine_eq]; omega))
  have hoL : (s1.heap.push (seqObj "list" vs.toArray 0)).get? s1.heap.objs.size = some (seqObj "list" vs.toArray 0) := Heap.get?_push_size _ rfl
  refine wpAny_bind (wpAny_holding (wpAny_call_entry slot_list_sort ⟨_, hoL, rfl⟩ entry_list_sort (list_sort_treeK strKind_oneLt (vs := vs) (n := 0) hoL hI.keysOf (fun v1 v2 rest e => keyKind_strs (by rw [← e]; exact hI)) (by omega) fun st' hp hs => ⟨_, rfl, ?_⟩) (args_list_sort _)))
  obtain ⟨ys, sy, pm2, so⟩ := sorted_out_str hI hp hs
  obtain ⟨c, hc⟩ := sortedHeap_at (out := Array.map (fun x => x.snd) (arrOf st')) (h := s1.heap.push (seqObj "list" vs.toArray 0)) (a := s1.heap.objs.size) (vs := vs) (n := 0) hoL
  have pn := pm2.trans pk
  refine wpAny_pure ⟨_, rfl, hQ _ s1.heap.objs.size _ c ys (fun b u e => ?_) g1 o1 hz hc sy so (pn.nodup_iff.mpr nd) (fun k => by rw [pn.mem_iff, ← hm k]) ?_⟩
  · have q := k1 b u e
    have hlt := Heap.lt_size q
    show (sortedHeap (s1.heap.push (seqObj "list" vs.toArray 0)) s1.heap.objs.size vs _).get? b = some u
    rw [sortedHeap_old (Nat.ne_of_lt hlt) (by rw [Heap.size_push]; exact Nat.lt_succ_of_lt hlt)]
    exact Heap.get?_push_of_some _ q
  · rw [pn.length_eq, List.length_map, Array.length_toList]; omega
/-- sorted, of a set of ints -/
theorem sorted_intG {ks : List Int} {n : Nat} {Q : Value → Shared → Prop} (R : SetG (intKind P w) intOf isInt s.heap a ks n) (hh : A.handled = none) (h64 : n < 64)
    (hQ : ∀ s' p (out : Array Value) (c : Nat) (ys : List Int), (∀ b o, s.heap.get? b = some o → s'.heap.get? b = some o) → s'.gens = s.gens → s'.os = s.os → s.heap.objs.size ≤ p →
      s'.heap.get? p = some (seqObj "list" out c) → IntsAre out.toList ys → ys.Pairwise (· ≤ ·) → ys.Nodup → (∀ k, k ∈ ys ↔ k ∈ ks) → ys.length ≤ n → Q (.ref p) s') :
    wpAny (model P w) A (call (.builtin "sorted") [.ref a]) Q E s := by
  obtain ⟨o, es, ep, t, ho, hex, hd, g, nd, hm, hb, hf, hn, hr, hl⟩ := R
  refine Calls.call_function_entry kind_sorted plain_sorted entry_sorted (args_sorted1 _) ?_
  unfold Builtin.«sorted»
  refine wpAny_bind (m := checkCount "sorted" 1 1 _) (wpAny_pure ?_)
  refine wpAny_bind (collect_set (A := A.in1) hh ⟨o, ho, hex.1, hd⟩ hf hb hr hl fun s1 vs k1 hz g1 o1 pm => ?_)
  have hvl : vs.length = es.size := by rw [pm.length_eq, List.length_map, Array.length_toList]
  have hI : IntsAre vs (vs.map intOf) := ints_all vs fun v hv => by
    obtain ⟨e, he, q⟩ := List.mem_map.mp (pm.mem_iff.mp hv)
    rw [← q]
    exact (g e he).1
  have pk : (vs.map intOf).Perm (es.toList.map fun e => intOf e.2) := by
    have q := pm.map intOf
    rw [List.map_map] at q
    exact q
  refine wpAny_bind (wpAny_newList ?_ (by rw [hvl, sizeLine_eq]; omega))
  have hoL : (s1.heap.push (seqObj "list" vs.toArray 0)).get? s1.heap.objs.size = some (seqObj "list" vs.toArray 0) := Heap.get?_push_size _ rfl
  refine wpAny_bind (wpAny_holding (wpAny_call_entry slot_list_sort ⟨_, hoL, rfl⟩ entry_list_sort (list_sort_tree hoL hI (by omega) fun out ys a1 a2 a3 => ⟨_, rfl, ?_⟩) (args_list_sort _)))
  obtain ⟨c, hc⟩ := sortedHeap_at (vs := vs) (out := out) hoL
  have pn := a2.trans pk
  refine wpAny_pure ⟨_, rfl, hQ _ s1.heap.objs.size out c ys (fun b u e => ?_) g1 o1 hz hc a1 a3 (pn.nodup_iff.mpr nd) (fun k => by rw [pn.mem_iff, ← hm k]) ?_⟩
  · have q := k1 b u e
    have hlt := Heap.lt_size q
    show (sortedHeap (s1.heap.push (seqObj "list" vs.toArray 0)) s1.heap.objs.size vs out).get? b = some u
    rw [sortedHeap_old (Nat.ne_of_lt hlt) (by rw [Heap.size_push]; exact Nat.lt_succ_of_lt hlt)]
    exact Heap.get?_push_of_some _ q
  · rw [pn.length_eq, List.length_map, Array.length_toList]; omega
end
end Pk
namespace Pk
open PySem PySem.Spec L2
theorem vals_str_at : ∀ {zs : List Str} {its : List Value}, Vals (zs.map V.str) its → ∀ (i : Nat) (v : Value), its[i]? = some v → isTxt v ∧ zs[i]? = some (txtOf v)
  | [], [], _, _, _, e => by cases e
  | [], _ :: _, r, _, _, _ => by cases r
  | _ :: _, [], r, _, _, _ => by cases r
  | z :: zs, u :: its, r, i, v, e => by
    cases r with
    | cons r1 r2 =>
      obtain ⟨t, rfl⟩ := r1
      cases i with
      | zero => cases e; exact ⟨⟨z, t, rfl⟩, rfl⟩
      | succ i => exact vals_str_at r2 i v e
theorem vals_int_at : ∀ {zs : List Int} {its : List Value}, Vals (zs.map V.int) its → ∀ (i : Nat) (v : Value), its[i]? = some v → isInt v ∧ zs[i]? = some (intOf v)
  | [], [], _, _, _, e => by cases e
  | [], _ :: _, r, _, _, _ => by cases r
  | _ :: _, [], r, _, _, _ => by cases r
  | z :: zs, u :: its, r, i, v, e => by
    cases r with
    | cons r1 r2 =>
      obtain ⟨t, rfl⟩ := r1
      cases i with
      | zero => cases e; exact ⟨⟨z, t, rfl⟩, rfl⟩
      | succ i => exact vals_int_at r2 i v e
def tSortSetS (K : PySem.W.Frag) (ta : TE) : TE := fun σ H Q => ta σ H fun x H1 => ∃ (l : Addr) (zs : List Str), x = .ref l ∧ SqL K H1 l (zs.map V.str) ∧ zs.length ≤ 60 ∧
  ∀ (p : Addr) (ys : List Str) (H' : Hp), Same H1 H' → H1 p = none → H' p = some (.lst (ys.map V.str)) → ys.Pairwise leS → ys.Nodup → (∀ z, z ∈ ys ↔ z ∈ zs) → Q (.ref p) H'
def tSortSetI (K : PySem.W.Frag) (ta : TE) : TE := fun σ H Q => ta σ H fun x H1 => ∃ (l : Addr) (zs : List Int), x = .ref l ∧ SqL K H1 l (zs.map V.int) ∧ zs.length ≤ 60 ∧
  ∀ (p : Addr) (ys : List Int) (H' : Hp), Same H1 H' → H1 p = none → H' p = some (.lst (ys.map V.int)) → ys.Pairwise (· ≤ ·) → ys.Nodup → (∀ z, z ∈ ys ↔ z ∈ zs) → Q (.ref p) H'
def tLenSetS (K : PySem.W.Frag) (ta : TE) : TE := fun σ H Q => ta σ H fun x H1 => ∃ (l : Addr) (zs : List Str), x = .ref l ∧ SqL K H1 l (zs.map V.str) ∧ zs.length ≤ 1000 ∧
  ∀ ds : List Str, ds.Nodup → (∀ z, z ∈ ds ↔ z ∈ zs) → Q (.int (ds.length : Nat)) H1
theorem pe_sortSetS {X : Cx} {a : Expr} {ta : TE} {p p2 q pos : Pos} (hg : Gl X "sorted") (hm : X.mg "sorted" = none) (hg2 : Gl X "set") (hm2 : X.mg "set" = none) (ha : PE X a ta) (hc : X.calm = true := by rfl)
    (na : starEach [a] X.env = (false, eval a X.env) :: starEach [] X.env := by rfl) : PE X (.Call (.Name "sorted" p) [.Call (.Name "set" p2) [a] [] q] [] pos) (tSortSetS X.K ta) := by
  constructor
  intro pins s σ H Q I h
  refine PyProof.Rows.Call_ (ld_blt I hg hm PyProof.Rows.boot_sorted (PyProof.Rows.callWith_builtin1 (PyProof.Rows.args_cons ?_ rfl) rfl rfl))
  refine PyProof.Rows.Call_ (ld_blt I hg2 hm2 PyProof.Rows.boot_set ?_)
  refine PyProof.Rows.callWith_type1 (PyProof.Rows.args_cons (thn (ha.run pins s σ H _ I h) ?_) na) na rfl
  rintro v s1 ⟨x, H1, I1, r1, l, zs, rfl, hq, hl, q1⟩
  cases r1
  obtain ⟨its, r, pl, hz⟩ := I1.list hq
  have lz := r.length
  rw [List.length_map] at lz
  refine PyProof.Rows.args_nil (set_of_list (tells_str _ _) (I1.ok.hd hc) pl.isList (fun i v e => vals_str_at r i v (by simpa using e)) (by rw [List.size_toArray]; omega) (by unfold scanBound; omega) fun h' tk hS hk => PyProof.Rows.args_nil ?_)
  have I2 := I1.kept (h' := h') (t' := tk) hk
  have hS2 : SetG (strKind X.prog X.w) txtOf isTxt ({ s1 with heap := h', toks := tk } : Shared).heap s1.heap.objs.size zs zs.length := hS
  generalize ({ s1 with heap := h', toks := tk } : Shared) = s2 at I2 hS2 ⊢
  refine sorted_strG hS2 (I2.ok.hd hc) (by omega) fun s' p out c ys k g o hp hg hi so nd hm hle => ?_
  have hlen : (ys.map V.str).length ≤ sizeLine := by rw [List.length_map, sizeLine_eq]; omega
  have hn : H1 p = none := I2.hok.fresh hp
  have J : Inv X pins σ (upd H1 p (.lst (ys.map V.str))) { s2 with heap := s'.heap, gens := s'.gens, drawn := s'.drawn, toks := s'.toks } :=
    I2.call (ch := []) (Un.laid k hp hn) (I2.hok.laid k hp ⟨hlen, out.toList, c, vals_of_strs hi, hg⟩) (by rw [g]; exact I2.bare) (fun _ z => nomatch z)
  have e : s' = { s2 with heap := s'.heap, gens := s'.gens, drawn := s'.drawn, toks := s'.toks } := by
    cases s'
    cases s2
    cases o
    rfl
  rw [e]
  exact ⟨.ref p, _, J, rfl, q1 p ys _ (same_upd hn) hn upd_same (sorted_pair so) nd hm⟩
theorem pe_sortSetI {X : Cx} {a : Expr} {ta : TE} {p p2 q pos : Pos} (hg : Gl X "sorted") (hm : X.mg "sorted" = none) (hg2 : Gl X "set") (hm2 : X.mg "set" = none) (ha : PE X a ta) (hc : X.calm = true := by rfl)
    (na : starEach [a] X.env = (false, eval a X.env) :: starEach [] X.env := by rfl) : PE X (.Call (.Name "sorted" p) [.Call (.Name "set" p2) [a] [] q] [] pos) (tSortSetI X.K ta) := by
  constructor
  intro pins s σ H Q I h
  refine PyProof.Rows.Call_ (ld_blt I hg hm PyProof.Rows.boot_sorted (PyProof.Rows.callWith_builtin1 (PyProof.Rows.args_cons ?_ rfl) rfl rfl))
  refine PyProof.Rows.Call_ (ld_blt I hg2 hm2 PyProof.Rows.boot_set ?_)
  refine PyProof.Rows.callWith_type1 (PyProof.Rows.args_cons (thn (ha.run pins s σ H _ I h) ?_) na) na rfl
  rintro v s1 ⟨x, H1, I1, r1, l, zs, rfl, hq, hl, q1⟩
  cases r1
  obtain ⟨its, r, pl, hz⟩ := I1.list hq
  have lz := r.length
  rw [List.length_map] at lz
  refine PyProof.Rows.args_nil (set_of_list (tells_int _ _) (I1.ok.hd hc) pl.isList (fun i v e => vals_int_at r i v (by simpa using e)) (by rw [List.size_toArray]; omega) (by unfold scanBound; omega) fun h' tk hS hk => PyProof.Rows.args_nil ?_)
  have I2 := I1.kept (h' := h') (t' := tk) hk
  have hS2 : SetG (intKind X.prog X.w) intOf isInt ({ s1 with heap := h', toks := tk } : Shared).heap s1.heap.objs.size zs zs.length := hS
  generalize ({ s1 with heap := h', toks := tk } : Shared) = s2 at I2 hS2 ⊢
  refine sorted_intG hS2 (I2.ok.hd hc) (by omega) fun s' p out c ys k g o hp hg hi so nd hm hle => ?_
  have hlen : (ys.map V.int).length ≤ sizeLine := by rw [List.length_map, sizeLine_eq]; omega
  have hn : H1 p = none := I2.hok.fresh hp
  have J : Inv X pins σ (upd H1 p (.lst (ys.map V.int))) { s2 with heap := s'.heap, gens := s'.gens, drawn := s'.drawn, toks := s'.toks } :=
    I2.call (ch := []) (Un.laid k hp hn) (I2.hok.laid k hp ⟨hlen, out.toList, c, vals_of_ints hi, hg⟩) (by rw [g]; exact I2.bare) (fun _ z => nomatch z)
  have e : s' = { s2 with heap := s'.heap, gens := s'.gens, drawn := s'.drawn, toks := s'.toks } := by
    cases s'
    cases s2
    cases o
    rfl
  rw [e]
  exact ⟨.ref p, _, J, rfl, q1 p ys _ (same_upd hn) hn upd_same so nd hm⟩
theorem pe_lenSetS {X : Cx} {a : Expr} {ta : TE} {p p2 q pos : Pos} (hg : Gl X "len") (hm : X.mg "len" = none) (hg2 : Gl X "set") (hm2 : X.mg "set" = none) (ha : PE X a ta) (hc : X.calm = true := by rfl)
    (na : starEach [a] X.env = (false, eval a X.env) :: starEach [] X.env := by rfl) : PE X (.Call (.Name "len" p) [.Call (.Name "set" p2) [a] [] q] [] pos) (tLenSetS X.K ta) := by
  constructor
  intro pins s σ H Q I h
  refine PyProof.Rows.Call_ (ld_blt I hg hm boot_len (PyProof.Rows.callWith_builtin1 (PyProof.Rows.args_cons ?_ rfl) rfl rfl))
  refine PyProof.Rows.Call_ (ld_blt I hg2 hm2 PyProof.Rows.boot_set ?_)
  refine PyProof.Rows.callWith_type1 (PyProof.Rows.args_cons (thn (ha.run pins s σ H _ I h) ?_) na) na rfl
  rintro v s1 ⟨x, H1, I1, r1, l, zs, rfl, hq, hl, q1⟩
  cases r1
  obtain ⟨its, r, pl, hz⟩ := I1.list hq
  have lz := r.length
  rw [List.length_map] at lz
  refine PyProof.Rows.args_nil (set_of_list (tells_str _ _) (I1.ok.hd hc) pl.isList (fun i v e => vals_str_at r i v (by simpa using e)) (by rw [List.size_toArray]; omega) (by unfold scanBound; omega) fun h' tk hS hk => PyProof.Rows.args_nil ?_)
  obtain ⟨o, es, ep, t, ho, hex, hd, _, nd, mm, hb, hf, hn, _⟩ := hS
  have q2 := q1 (es.toList.map fun e => txtOf e.2) nd fun z => (mm z).symm
  rw [List.length_map, Array.length_toList] at q2
  exact call_len_set ho hex hd hf (by omega) ⟨.int (es.size : Nat), H1, (I1.kept hk).tok _, ⟨_, rfl⟩, q2⟩
end Pk
namespace Pk
open PySem L2
/-! ### deeds that are due -/
section
variable {CB CQ : Addr} {H H' : Hp} {b k r d : Addr} {B : BD}
theorem BankAt.dk (h : BankAt CB CQ H b k r d B) : ∀ x ∈ [k, r, d], ∃ kvs, H x = some (.dK kvs) := fun x hx => by
  obtain ⟨h1, h2, h3⟩ := h.isB
  simp only [List.mem_cons, List.not_mem_nil, or_false] at hx
  rcases hx with rfl | rfl | rfl
  · exact h1
  · exact h2
  · exact h3
end
section
variable {CB CQ cN cP cG cX : Addr} {H : Hp} {b k r d : Addr} {B : BD} {n : Str} {i : Int} {Q : VK}
theorem used_go (hB : BankAt CB CQ H b k r d B) (hn : n ∈ B.ns) (l1 : B.ns.length ≤ 1000) (l2 : ∀ m ∈ B.ns, (B.h m).length ≤ 1000) (i0 : 0 ≤ i) (i9 : i ≤ 9999) (q : ∀ H', Bt [d] H H' → BankAt CB CQ H' b k r d (B.day n (addD (B.h n) i)) → Q .non H') : spUsedB CB CQ cN cP [.ref b, .str n, .int i] H Q E0 :=
  ⟨b, k, r, d, B, .str n, .int i, rfl, hB, l1, l2, .int _, .inl ⟨n, hn, rfl, fun hw => absurd hw (by rw [whole_of i0 i9]; simp), fun j e _ _ H' u hb' => by cases e; exact q H' u hb'⟩⟩
theorem out_go {z : Str} (hB : BankAt CB CQ H b k r d B) (hn : n ∈ B.ns) (l1 : B.os.length ≤ 1000) (tz : textT z = true) (q : ∀ H', Bt [r] H H' → BankAt CB CQ H' b k r d (B.out n z) → Q .non H') : spOutB CB CQ cN cX [.ref b, .str n, .str z] H Q E0 :=
  ⟨b, k, r, d, B, .str n, .str z, rfl, hB, l1, text_thg tz, .inl ⟨n, hn, rfl, fun t e ht H' u hb' => by cases e; exact q H' u hb', fun h => by rw [show textV (.str z) = textT z from rfl, tz] at h; cases h⟩⟩
end
section
variable {CB CQ : Addr} {H G : Hp} {b k r d : Addr} {B : BD}
theorem BankAt.off (h : BankAt CB CQ H b k r d B) (u : Bt [k, r, d] H G) {q : Addr} {w : HO} (nw : ∀ kvs, w ≠ .dK kvs) (e : H q = some w) : G q = some w := u q w (fun z => by
  obtain ⟨kv, ek⟩ := h.dk q z
  rw [e] at ek
  cases ek
  exact nw _ rfl) e
theorem BankAt.other {b2 k2 r2 d2 : Addr} {C : BD} (h : BankAt CB CQ H b k r d B) (h2 : BankAt CB CQ H b2 k2 r2 d2 C) (u : Bt [k, r, d] H G) (n1 : k2 ∉ [k, r, d]) (n2 : r2 ∉ [k, r, d]) (n3 : d2 ∉ [k, r, d]) : BankAt CB CQ G b2 k2 r2 d2 C :=
  h2.by (fun a o _ _ _ n e => h.off u n e) (fun _ e => u _ _ n1 e) (fun _ e => u _ _ n2 e) (fun _ e => u _ _ n3 e)
theorem QI.off2 {x : Addr} {q : QD} (h : BankAt CB CQ H b k r d B) (qi : QI CQ H x q) (u : Bt [k, r, d] H G) : QI CQ G x q := qi.by fun a o n _ e => h.off u n e
end
end Pk
namespace Pk
open PySem L2
/-! ### a bank of a draw, and its rows' names -/
theorem qok_of {H : Hp} {a : Addr} {q : QD} (h2 : H a = some (.tup (q.ws.map V.str))) (v : QV q) (u : unlike q.ws q.ws.length = q.ws.length) : Qok H (.str q.nm) (.str q.mt) (.ref a) (.int q.ri) (.int q.tl) (.int q.ma) (.str q.ki) := by
  have tv : tupV H (.ref a) = some (q.ws.map V.str) := tupV_at h2
  have sm : (q.ws.map V.str).map strV = q.ws := by
    rw [List.map_map]
    exact List.map_id'' (fun _ => rfl) q.ws
  refine ⟨⟨name_thg v.nm, name_thg v.mt, ⟨.tup h2, fun ws e x hx => ?_⟩, .int _, .int _, .int _, ?_⟩, wr7 v.nm v.mt ?_ ?_ (whole_of v.t1 v.t9) (whole_of v.m1 v.m9) v.ki⟩
  · rw [tv] at e
    cases e
    obtain ⟨w, hw, rfl⟩ := List.mem_map.mp hx
    exact text_thg (v.wt w hw)
  · have := v.ki
    unfold nameE at this
    rcases Bool.or_eq_true_iff.mp this with h | h
    · exact name_thg h
    · rw [of_decide_eq_true h]
      exact thg_empty
  · unfold answersV
    rw [tv]
    show answersL (q.ws.map V.str) = true
    unfold answersL
    rw [sm, List.length_map, u]
    simp only [Bool.and_eq_true, decide_eq_true_iff, List.all_eq_true]
    refine ⟨⟨⟨v.w2, v.w6⟩, fun x hx => ?_⟩, by trivial⟩
    obtain ⟨w, hw, rfl⟩ := List.mem_map.mp hx
    exact v.wt w hw
  · refine whole_of v.r0 ?_
    unfold manyV
    rw [tv]
    show q.ri ≤ (((q.ws.map V.str).length : Nat) : Int) - 1
    rw [List.length_map]
    have := v.r1
    omega
/-- a row, without days and with them -/
abbrev row4 (m k : Str) (t w : Int) : List (Key × V) := [(.inr "matter", .str m), (.inr "kin", .str k), (.inr "toil", .int t), (.inr "marks", .int w)]
abbrev row5 (m k : Str) (t w : Int) (l : Addr) : List (Key × V) := [(.inr "matter", .str m), (.inr "kin", .str k), (.inr "toil", .int t), (.inr "marks", .int w), (.inr "days", .ref l)]
theorem r4_matter (m k : Str) (t w : Int) : valV (row4 m k t w) (.inr "matter") = some (.str m) := by kernel_rfl
theorem r4_kin (m k : Str) (t w : Int) : valV (row4 m k t w) (.inr "kin") = some (.str k) := by kernel_rfl
theorem r5_days (m k : Str) (t w : Int) (l : Addr) : valV (row5 m k t w l) (.inr "days") = some (.ref l) := by kernel_rfl
theorem r4_put (m k : Str) (t w : Int) (l : Addr) : putK (row4 m k t w) (.inr "days") (.ref l) = row5 m k t w l := by kernel_rfl
theorem merge_r4 (m k : Str) (t w : Int) : mergeK [] (row4 m k t w) = row4 m k t w := by kernel_rfl
def gQ3 {α : Type} (us its ws : List α) : List α := us ++ (its.take 1 ++ ((ws.drop 1).take 1 ++ (ws.take 1 ++ (ws.drop 2).take 1)))
theorem kQ3 {K : PySem.W.Frag} {f : Addr} {fd : FuncData} (F : FunQ K f fd) : ∃ its : List Value, KBn K fd psQ 4 ["marks", "toil", "kin"] (fun us ws => gQ3 us its ws) (fun vs zs => gQ3 vs dvQ zs) :=
  kbnD F 4 ["marks", "toil", "kin"] gQ3 (fun z => nomatch z) (fun r1 r2 r3 => r1.append ((r2.take 1).append (((r3.drop 1).take 1).append ((r3.take 1).append ((r3.drop 2).take 1)))))
    fun T kV doc pm an cdv ct us its ws l1 l2 l3 => match us, its, ws, l1, l2, l3 with
    | [_, _, _, _], [_, _, _, _], [_, _, _], _, _, _ => ⟨_, rfl, rfl⟩
def gOw {α : Type} (us _its ws : List α) : List α := us ++ ws
theorem kOutW {K : PySem.W.Frag} {f : Addr} {fd : FuncData} (F : FunO K f fd) : ∃ its : List Value, KBn K fd ["self", "name", "why"] 2 ["why"] (fun us ws => gOw us its ws) (fun vs zs => gOw vs [.str "wrong"] zs) :=
  kbnD F 2 ["why"] gOw (fun z => nomatch z) (fun r1 _ r3 => r1.append r3)
    fun T kV doc pm an cdv ct us its ws l1 l2 l3 => match us, its, ws, l1, l2, l3 with
    | [_, _], [_], [_], _, _, _ => ⟨_, rfl, rfl⟩
theorem kUsedD {K : PySem.W.Frag} {f : Addr} {fd : FuncData} (F : Fun K "used_on" "Bank.used_on" sBUsed f fd) : KBn K fd ["self", "name", "day"] 2 ["day"] (fun us ws => us ++ ws) (fun vs zs => vs ++ zs) := by
  obtain ⟨oc, od, kV, doc, pm, an, cdv, ct, osl, rfl, lk, hcd⟩ := F.ex
  exact ⟨fun s us ws X l1 l2 => match us, ws, l1, l2 with
    | [u, v], [x], _, _ => .of_eq rfl, fun r1 r2 => r1.append r2⟩
/-- the names of rows, in some order -/
def RowsK (H : Hp) (R : Addr) (ks : List Str) : Prop := ∃ kvs, H R = some (.dK kvs) ∧ TbK kvs ks (fun _ v => ∃ p, v = .ref p)
/-- a question of a row -/
def rowQ (z m k : Str) (t w : Int) : QD := ⟨z, m, ["no", "yes"], 0, t, w, k⟩
theorem rowQ_v {z m k : Str} {t w : Int} (hz : nameT z = true) (hm : nameT m = true) (hk : nameE (.str k) = true) (t1 : 1 ≤ t) (t9 : t ≤ 9) (w1 : 1 ≤ w) (w9 : w ≤ 9) : QV (rowQ z m k t w) :=
  ⟨hz, hm, by show 2 ≤ 2; decide, by show 2 ≤ 6; decide, (by decide +kernel : ∀ w ∈ [("no" : Str), "yes"], textT w = true), by show (0 : Int) ≤ 0; decide, by show (0 : Int) < 2; decide, t1, t9, w1, w9, hk⟩
def tMkQ (CQ : Addr) : TE := fun σ H Q => ∃ (p : Addr) (z m k : Str) (t w : Int), σ[7]? = some (some (.str z)) ∧ σ[10]? = some (some (.ref p)) ∧ σ[8]? = some (some (.int t)) ∧ σ[9]? = some (some (.int w)) ∧ H p = some (.dK (row4 m k t w)) ∧ nameT z = true ∧ nameT m = true ∧ nameE (.str k) = true ∧ 1 ≤ t ∧ t ≤ 9 ∧ 1 ≤ w ∧ w ≤ 9 ∧
  ∀ (x : Addr) (H' : Hp), Same H H' → QI CQ H' x (rowQ z m k t w) → Q (.ref x) H'
/-- what the law's bank asks of the bank's class -/
structure BkL (P : Program) (w : World) (K : PySem.W.Frag) (mg : Str → Option Value) (base : Heap) (CB CQ cN cK cT cM cX cP cE : Addr) : Prop where
  C : BCls K CB
  q : ∃ fI fdI, FunQ K fI fdI ∧ FnOk P w K mg base (L2.CX P w) 5 fI fdI psQ (spQInit CQ cE) ∧ Mk K CQ fI
  gQ : mg "Question" = some (.ref CQ)
  init : ∃ fI fdI, FunB K fI fdI ∧ FnOk P w K mg base (L2.CX P w) 6 fI fdI ["self", "questions"] (spInitB K CB CQ cK cT cM) ∧ Mk K CB fI
  g : mg "Bank" = some (.ref CB)
  added : ∃ fA fdA, FnOk P w K mg base (L2.CX P w) 5 fA fdA ["self", "question"] (spAddedB K CB CQ cK cT cM) ∧ Meth K CB "added" fA ∧ Binds K fdA ["self", "question"] []
  used : ∃ fU fdU, Fun K "used_on" "Bank.used_on" sBUsed fU fdU ∧ FnOk P w K mg base (L2.CX P w) 5 fU fdU ["self", "name", "day"] (spUsedB CB CQ cN cP) ∧ Meth K CB "used_on" fU
  out : ∃ fO fdO, FunO K fO fdO ∧ FnOk P w K mg base (L2.CX P w) 5 fO fdO ["self", "name", "why"] (spOutB CB CQ cN cX) ∧ Meth K CB "taken_out" fO
/-- where a bank and its rows' names are led: what changes stands at these places -/
structure Lb (CB CQ e b k r d R : Addr) (H0 G : Hp) (B : BD) (ks : List Str) (t : Int) : Prop where
  bt : Bt [e, k, r, d, R] H0 G
  D : DrawAt G e t
  bk : BankAt CB CQ G b k r d B
  rw_ : RowsK G R ks
  nR : R ∉ [e, k, r, d]
section
variable {CB CQ e b k r d R : Addr} {H0 G G' : Hp} {B B' : BD} {ks : List Str} {t t' : Int}
theorem BankAt.nv {H : Hp} (h : BankAt CB CQ H b k r d B) {p : Addr} (z : (∀ {a : Addr} {ns : List Str} {R : Str → V → Prop}, TbAt H a ns R → (∀ m v, R m v → ∀ i : Int, v ≠ .int i) → p ≠ a)) : p ∉ [k, r, d] := fun y => by
  simp only [List.mem_cons, List.not_mem_nil, or_false] at y
  rcases y with y | y | y
  · exact z h.kept (fun m v ⟨x, e, _⟩ i => by rw [e]; exact fun z => nomatch z) y
  · exact z h.outs (fun m v e i => by rw [show v = .str (B.g m) from e]; exact fun z => nomatch z) y
  · exact z h.days (fun m v ⟨x, e, _⟩ i => by rw [e]; exact fun z => nomatch z) y
theorem Lb.eb (h : Lb CB CQ e b k r d R H0 G B ks t) : e ∉ [k, r, d] := h.bk.nv fun z1 z2 => (h.D.tb z1 z2).symm
theorem Lb.rb (h : Lb CB CQ e b k r d R H0 G B ks t) : R ≠ e ∧ R ∉ [k, r, d] := ⟨fun z => h.nR (by rw [z]; exact List.mem_cons_self), fun z => h.nR (List.mem_cons_of_mem _ z)⟩
theorem Lb.same (h : Lb CB CQ e b k r d R H0 G B ks t) (s : Same G G') : Lb CB CQ e b k r d R H0 G' B ks t := by
  obtain ⟨kvs, e1, tk⟩ := h.rw_
  exact ⟨h.bt.trans (.same s), h.D.same s, h.bk.same s, ⟨kvs, s _ _ e1, tk⟩, h.nR⟩
theorem Lb.take (h : Lb CB CQ e b k r d R H0 G B ks t) (u : Bt [e] G G') (D' : DrawAt G' e t') : Lb CB CQ e b k r d R H0 G' B ks t' := by
  obtain ⟨kvs, e1, tk⟩ := h.rw_
  exact ⟨h.bt.trans (u.mono fun x hx => by rw [List.mem_singleton.mp hx]; exact List.mem_cons_self), D', h.bk.draw h.D u, ⟨kvs, u.at h.rb.1 e1, tk⟩, h.nR⟩
theorem Lb.deed (h : Lb CB CQ e b k r d R H0 G B ks t) {M : List Addr} (hM : ∀ x ∈ M, x ∈ [k, r, d]) (u : Bt M G G') (hb : BankAt CB CQ G' b k r d B') : Lb CB CQ e b k r d R H0 G' B' ks t := by
  obtain ⟨kvs, e1, tk⟩ := h.rw_
  have eb := h.eb
  have sub : ∀ x ∈ [k, r, d], x ∈ [e, k, r, d, R] := fun x hx => by
    simp only [List.mem_cons, List.not_mem_nil, or_false] at hx ⊢
    rcases hx with hx | hx | hx
    · exact .inr (.inl hx)
    · exact .inr (.inr (.inl hx))
    · exact .inr (.inr (.inr (.inl hx)))
  exact ⟨h.bt.trans (u.mono fun x hx => sub x (hM x hx)), h.D.bt u fun z => eb (hM _ z), hb, ⟨kvs, u _ _ (fun z => h.rb.2 (hM _ z)) e1, tk⟩, h.nR⟩
theorem Lb.put (h : Lb CB CQ e b k r d R H0 G B ks t) {p : Addr} {o : HO} {kv : List (Key × V)} (hp : G p = some (.dK kv)) (n0 : H0 p = none) (pe : p ≠ e) (pb : p ∉ [k, r, d]) (pR : p ≠ R) : Lb CB CQ e b k r d R H0 (upd G p o) B ks t := by
  obtain ⟨kvs, e1, tk⟩ := h.rw_
  simp only [List.mem_cons, List.not_mem_nil, or_false, not_or] at pb
  have off : ∀ {q : Addr} {u : HO}, q ≠ p → G q = some u → upd G p o q = some u := fun {q u} n z => by rw [upd_ne n]; exact z
  exact ⟨fun q u m x => off (fun z => by rw [z, n0] at x; cases x) (h.bt q u m x), h.D.put pe, h.bk.by (fun a u _ _ _ n z => off (fun y => by rw [y, hp] at z; cases z; exact n _ rfl) z) (fun _ z => off (Ne.symm pb.1) z) (fun _ z => off (Ne.symm pb.2.1) z) (fun _ z => off (Ne.symm pb.2.2) z), ⟨kvs, off (Ne.symm pR) e1, tk⟩, h.nR⟩
theorem Lb.rows (h : Lb CB CQ e b k r d R H0 G B ks t) {kv : List (Key × V)} {ks' : List Str} (tk : TbK kv ks' (fun _ v => ∃ p, v = .ref p)) : Lb CB CQ e b k r d R H0 (upd G R (.dK kv)) B ks' t := by
  obtain ⟨kvs, e1, _⟩ := h.rw_
  obtain ⟨re, rb⟩ := h.rb
  simp only [List.mem_cons, List.not_mem_nil, or_false, not_or] at rb
  have off : ∀ {q : Addr} {u : HO}, q ≠ R → G q = some u → upd G R (.dK kv) q = some u := fun {q u} n z => by rw [upd_ne n]; exact z
  exact ⟨fun q u m x => off (fun z => m (by rw [z]; simp)) (h.bt q u m x), h.D.put re, h.bk.by (fun a u _ _ _ n z => off (fun y => by rw [y, e1] at z; cases z; exact n _ rfl) z) (fun _ z => off (Ne.symm rb.1) z) (fun _ z => off (Ne.symm rb.2.1) z) (fun _ z => off (Ne.symm rb.2.2) z), ⟨kv, upd_same, tk⟩, h.nR⟩
/-- where something new is -/
theorem Lb.new (h : Lb CB CQ e b k r d R H0 G B ks t) {p : Addr} (n : G p = none) : H0 p = none ∧ p ≠ e ∧ p ∉ [k, r, d] ∧ p ≠ R := by
  obtain ⟨kvs, e1, _⟩ := h.rw_
  have pe := h.D.new n
  have pR : p ≠ R := fun z => by rw [z, e1] at n; cases n
  have pb : p ∉ [k, r, d] := fun z => by
    obtain ⟨kv, e2⟩ := h.bk.dk p z
    rw [e2] at n
    cases n
  refine ⟨?_, pe, pb, pR⟩
  cases e2 : H0 p with
  | none => rfl
  | some o =>
    have : p ∉ [e, k, r, d, R] := fun z => by
      simp only [List.mem_cons, List.not_mem_nil, or_false] at z pb
      rcases z with z | z | z | z | z
      · exact pe z
      · exact pb (.inl z)
      · exact pb (.inr (.inl z))
      · exact pb (.inr (.inr z))
      · exact pR z
    rw [h.bt p o this e2] at n
    cases n
end
def spBank (CB CQ : Addr) : Sp := fun vs H Q _ => ∃ (e : Addr) (t : Int), vs = [.ref e, .int 9] ∧ DrawAt H e t ∧ 0 ≤ t ∧ t < 50000 ∧
  ∀ (p b k r d R : Addr) (B : BD) (ks : List Str) (H' : Hp) (t' : Int), Bt [e] H H' → H b = none → H k = none → H r = none → H d = none → H R = none → H' p = some (.tup [.ref b, .ref R]) → BankAt CB CQ H' b k r d B → GoodB B → 2 ≤ B.ns.length → B.ns.length ≤ 9 → RowsK H' R ks → ks.Perm B.ins → DrawAt H' e t' → t ≤ t' → t' ≤ t + 400 → Q (.ref p) H'
section
variable {P : Program} {w : World} {K : PySem.W.Frag} {mg : Str → Option Value} {base : Heap} {CB CQ cN cK cT cM cX cP cE : Addr}
abbrev NBank : List Str := ["_law_draw", "_law_high", "_law_names_here", "_law_matters", "_law_kins", "_law_store", "_law_rows", "_law_name", "_law_heavy", "_law_worth", "_law_row", "_law_question", "_law_date", "_law_turn"]
theorem scBank : FnScope NBank ["_law_draw", "_law_high"] (defScope sBankL) := ⟨rfl, rfl, rfl, by decide +kernel, rfl, by decide +kernel, by decide +kernel⟩
theorem ok_bank {f fT fO fTu fN : Addr} {fd fdT fdO fdTu fdN : FuncData} (F : Fun K "_law_bank" "_law_bank" sBankL f fd) (W : BkL P w K mg base CB CQ cN cK cT cM cX cP cE) (mra : mg "range" = none) (mso : mg "sorted" = none) (mse : mg "set" = none)
    (GT : FnOk P w K mg base CX0 1 fT fdT ["_law_draw", "_law_many"] spTake) (kT : PySem.W.keepIn K (.ref fT) = true) (bT : Binds K fdT ["_law_draw", "_law_many"] []) (gT : mg "_law_take" = some (.ref fT))
    (GO : FnOk P w K mg base CX0 2 fO fdO ["_law_draw", "_law_some"] spOf) (kO : PySem.W.keepIn K (.ref fO) = true) (bO : Binds K fdO ["_law_draw", "_law_some"] []) (gO : mg "_law_of" = some (.ref fO))
    (GTu : FnOk P w K mg base CX0 2 fTu fdTu ["_law_draw", "_law_some"] spTurned) (kTu : PySem.W.keepIn K (.ref fTu) = true) (bTu : Binds K fdTu ["_law_draw", "_law_some"] []) (gTu : mg "_law_turned" = some (.ref fTu))
    (GN : FnOk P w K mg base CX0 3 fN fdN ["_law_draw", "_law_many"] spNames) (kN : PySem.W.keepIn K (.ref fN) = true) (bN : Binds K fdN ["_law_draw", "_law_many"] []) (gN : mg "_law_names" = some (.ref fN)) : FnOk P w K mg base CX0 8 f fd ["_law_draw", "_law_high"] (spBank CB CQ) := by
  obtain ⟨fq, fdq, FQ, GQ, MQ⟩ := W.q
  obtain ⟨fI, fdI, FI, GB, MB⟩ := W.init
  obtain ⟨fA, fdA, GA, MA, bA⟩ := W.added
  obtain ⟨fU, fdU, FU, GU, MU⟩ := W.used
  obtain ⟨fO2, fdO2, FO, GO2, MO⟩ := W.out
  obtain ⟨iQ, kQ⟩ := kQ3 FQ
  obtain ⟨iO, kOt⟩ := kOutW FO
  have kU := kUsedD FU
  obtain ⟨d1, hd1, bb1⟩ := bB1 FI
  refine F.ok scBank (fun vs H Q E h => ?_) (fun cdv A outer s H vs Q E hr h => ?_)
  · obtain ⟨e, t, rfl, _⟩ := h
    rfl
  · obtain ⟨e, t, rfl, D, t0, t5, fin⟩ := h
    have hu := hu_of hr
    have r1 : Room 1 _ := hr.mono (by decide)
    have r2 : Room 2 _ := hr.mono (by decide)
    have r3 : Room 3 _ := hr.mono (by decide)
    have r5 : Room 5 _ := hr.mono (by decide)
    have r6 : Room 6 _ := hr.mono (by decide)
    have r7 : Room 7 _ := hr
    refine ⟨_, pss_cons (ps_set (i := 2) scBank.nd rfl (.inl rfl) (pe_call (E := E0) GN r3 (by rfl) gN kN bN .nil pass0 (pa_cons (pv 0) (pa_cons (pe_op op_add pe_int (pe_call (E := E0) GT r1 (by rfl) gT kT bT .nil pass0 (pa_cons (pv 0) (pa_cons (pe_op op_sub (pv 1) pe_int) pa_nil)))) pa_nil))))
      (pss_cons (ps_asg (pe_tup (pa_cons (pe_call (E := E0) GN r3 (by rfl) gN kN bN .nil pass0 (pa_cons (pv 0) (pa_cons pe_int pa_nil))) (pa_cons (pe_call (E := E0) GN r3 (by rfl) gN kN bN .nil pass0 (pa_cons (pv 0) (pa_cons pe_int pa_nil))) (pa_cons (pe_make (E := E0) MB GB r7 (by rfl) W.g bb1 hd1 pass_no (pa_cons (pe_lst pa_nil) pa_nil)) (pa_cons pe_dnewK pa_nil))))) (pg_tup rfl (pgs_cons (pg_name (i := 3) scBank.nd rfl (.inl rfl)) (pgs_cons (pg_name (i := 4) scBank.nd rfl (.inl rfl)) (pgs_cons (pg_name (i := 5) scBank.nd rfl (.inl rfl)) (pgs_cons (pg_name (i := 6) scBank.nd rfl (.inl rfl)) pgs_nil))))))
      (pss_cons (ps_for PassesOwn.never rfl (pi_list (pe_call (E := E0) GTu r2 (by rfl) gTu kTu bTu .nil pass0 (pa_cons (pv 0) (pa_cons (pv 2) pa_nil)))) (pg_name (i := 7) scBank.nd rfl (.inl rfl))
        (pss_cons (ps_par (i := 8) (j := 9) (by rfl) scBank.nd rfl rfl (by decide) rfl rfl (pa_cons (pe_op op_add pe_int (pe_call (E := E0) GT r1 (by rfl) gT kT bT .nil pass0 (pa_cons (pv 0) (pa_cons pe_int pa_nil)))) (pa_cons (pe_op op_add pe_int (pe_call (E := E0) GT r1 (by rfl) gT kT bT .nil pass0 (pa_cons (pv 0) (pa_cons pe_int pa_nil)))) pa_nil)) (by rfl))
        (pss_cons (ps_set (i := 10) scBank.nd rfl (.inl rfl) (pe_disp (pps_cons pe_str (pe_call (E := E0) GO r2 (by rfl) gO kO bO .nil pass0 (pa_cons (pv 0) (pa_cons (pv 3) pa_nil))) (pps_cons pe_str (pe_call (E := E0) GO r2 (by rfl) gO kO bO .nil pass0 (pa_cons (pv 0) (pa_cons (pe_op op_cat (pe_lst (pa_cons pe_str (pa_cons pe_str pa_nil))) (pv 4)) pa_nil))) (pps_cons pe_str (pv 8) (pps_cons pe_str (pv 9) pps_nil)))) rfl rfl (by decide) (by decide)))
        (pss_cons (ps_set (i := 11) scBank.nd rfl (.inl rfl) (pe_imp (tMkQ CQ) (pe_makeN (n := 3) (E := E0) MQ GQ r6 (by rfl) W.gQ kQ pass_no (by exact (pa_cons (pv 7) (pa_cons (pe_dget hu (pv 10) pe_str (fun _ _ => rfl)) (pa_cons (pe_tup (pa_cons pe_str (pa_cons pe_str pa_nil))) pa_nil)))) (by exact (pk_cons (pv 9) (pk_cons (pv 8) (pk_cons (pe_dget hu (pv 10) pe_str (fun _ _ => rfl)) pk_nil))))) (by
            rintro σ H Q ⟨p, z, m, k, t, w, e7, e10, e8, e9, hp, hz, hm, hk, t1, t9, w1, w9, fin⟩
            have gm : DGet H p (.str "matter") (some (.str m)) := by
              have z := DGet.k (k := .inr "matter") hp
              rw [r4_matter] at z
              exact z
            refine ⟨_, e7, _, e10, p, _, rfl, gm, by show 2 ≤ sizeLine; decide, fun a na => ?_⟩
            have sa := same_upd (o := .tup [.str "no", .str "yes"]) na
            have ha : upd H a (.tup [.str "no", .str "yes"]) a = some (.tup ([("no" : Str), "yes"].map V.str)) := upd_same
            have hp1 := sa _ _ hp
            have gk : DGet (upd H a (.tup [.str "no", .str "yes"])) p (.str "kin") (some (.str k)) := by
              have z := DGet.k (k := .inr "kin") hp1
              rw [r4_kin] at z
              exact z
            have qv := rowQ_v hz hm hk t1 t9 w1 w9
            have ok := qok_of (q := rowQ z m k t w) (a := a) ha qv (by exact (by decide +kernel : unlike [("no" : Str), "yes"] 2 = 2))
            refine ⟨_, e9, _, e8, _, e10, p, _, rfl, gk, rfl, rfl, fun x dx nx ndx ne => ?_⟩
            exact made_fin ok.pa (fun x' dx' H' s' _ hx' => fin x' H' (sa.trans s') ⟨dx', a, hx', s' _ _ ha, ws_strOk qv⟩) (fun d H' _ n => absurd ok.ok n) x dx nx ndx ne)))
        (pss_cons (ps_expr (pe_meth (E := E0) (pv 5) W.C.cls MA GA r5 bA .nil pass_no (pa_cons (pv 11) pa_nil)))
        (pss_cons (ps_dput hu (pv 10) pe_str (pe_sortSetI (by rfl) mso (by rfl) mse (pe_lc (own := [("_law_turn", 13)]) (g := gName 13) rfl scBank.nd (pi_range1 (by rfl) mra (pa_cons (pe_call (E := E0) GT r1 (by rfl) gT kT bT .nil pass0 (pa_cons (pv 0) (pa_cons pe_int pa_nil))) pa_nil)) (blkOk_by (N := NBank) (sc := defScope sBankL) (by decide +kernel)) (fun _ _ _ _ _ => pg_name (i := 13) scBank.nd rfl (Or.inl rfl)) (fun _ _ _ _ _ => pts_nil) (fun _ _ _ _ _ => by exact (pe_call (E := E0) GT r1 (by rfl) gT kT bT .nil pass0 (pa_cons (pv 0) (pa_cons pe_int pa_nil)))))) rfl)
        (pss_cons (ps_for PassesOwn.never rfl (pi_list (pe_dget hu (pv 10) pe_str (fun _ _ => rfl))) (pg_name (i := 12) scBank.nd rfl (.inl rfl))
        (pss_one (ps_expr (pe_methNP (n := 1) (E := E0) (pv 5) W.C.cls MU GU r5 kU pass_no (by exact (pa_cons (pv 7) pa_nil)) (by exact (pk_cons (pv 12) pk_nil))))))
        (pss_one (ps_dput hu (pv 6) (pv 7) (pv 10) rfl)))))))))
      (pss_cons (ps_for PassesOwn.never rfl (pi_list (pv 2)) (pg_name (i := 7) scBank.nd rfl (.inl rfl))
        (pss_one (ps_if (pt_cmpR op_eq (pe_call (E := E0) GT r1 (by rfl) gT kT bT .nil pass0 (pa_cons (pv 0) (pa_cons pe_int pa_nil))) pe_int (nomark _)) (pss_cons (ps_expr (pe_methNP (n := 1) (E := E0) (pv 5) W.C.cls MO GO2 r5 kOt pass_no (by exact (pa_cons (pv 7) pa_nil)) (by exact (pk_cons pe_str pk_nil))))
      (pss_one (ps_expr (pe_dpop1 (pv 6) (pv 7) ⟨by rfl, by rfl, by rfl, by rfl⟩)))) pss_nil)))
      (pss_one (ps_ret (pe_tup (pa_cons (pv 5) (pa_cons (pv 6) pa_nil)))))))), ?_⟩
    refine ⟨_, rfl, _, rfl, _, rfl, 9, 1, rfl, rfl, e, t, _, rfl, D, t0, by omega, by decide, by decide, fun v t1 H1 v0 v8 u1 D1 ta tb => ?_⟩
    obtain ⟨n, rfl⟩ := Int.eq_ofNat_of_zero_le v0
    have n8 : n < 8 := by omega
    refine ⟨2, (n : Int), rfl, rfl, e, t1, 2 + n, rfl, D1, by omega, by omega, by omega, fun L2 zs H2 t2 u2 nL2 hL2 lz nz ndz D2 tc td => ?_⟩
    dsimp only [gName]
    refine ⟨_, rfl, e, t2, 2, rfl, D2, by omega, by omega, by decide, fun Lm ms H3 t3 u3 nLm hLm lms nms ndm D3 te tf => ⟨_, rfl, e, t3, 2, rfl, D3, by omega, by omega, by decide, fun Lk kn H4 t4 u4 nLk hLk lks nks ndk D4 tg th => ?_⟩⟩
    refine ⟨by show 0 ≤ sizeLine; exact Nat.zero_le _, fun pe npe => ?_⟩
    have s5 := same_upd (o := .lst []) npe
    have hpe : upd H4 pe (.lst []) pe = some (.lst []) := upd_same
    have D5 := D4.same s5
    have hLm5 := s5 _ _ (u4.at (D3.lst hLm) hLm)
    have hLk5 := s5 _ _ hLk
    have u15 := (((u1.trans u2).trans u3).trans u4).trans (Bt.same s5)
    have hL25 := s5 _ _ (u4.at (D3.lst (u3.at (D2.lst hL2) hL2)) (u3.at (D2.lst hL2) hL2))
    generalize upd H4 pe (.lst []) = H5 at s5 hpe D5 hLm5 hLk5 u15 hL25 ⊢
    intro b dx nx ndx ne
    refine init_goodX (qs := []) nx ndx ne (.inr ⟨pe, rfl, .inl hpe⟩) rfl (fun i v t e1 e2 => by cases e1) List.nodup_nil (Nat.zero_le _) fun H6 ⟨s6, k, r, d, nk, nr, nd, hB6⟩ => ⟨rfl, fun R nR => ⟨by show 4 ≤ sizeLine; decide, fun T nT => ?_⟩⟩
    have sR := same_upd (o := .dK []) nR
    have sT := same_upd (o := .tup [.ref Lm, .ref Lk, .ref b, .ref R]) nT
    have hR := sT _ _ (show upd H6 R (.dK []) R = some (.dK []) from upd_same)
    have s68 := sR.trans sT
    have s58 := s6.trans s68
    have D8 := D5.same s58
    have hB8 := hB6.same s68
    have nRx : R ∉ [e, k, r, d] := fun z => by
      rcases List.mem_cons.mp z with z | z
      · exact (D5.same s6).new nR z
      · obtain ⟨kv, e2⟩ := hB6.dk R z
        rw [e2] at nR
        cases nR
    have hL28 := s58 _ _ hL25
    have hLm8 := s58 _ _ hLm5
    have hLk8 := s58 _ _ hLk5
    have none0 : ∀ {x : Addr}, H5 x = none → H x = none := fun {x} n => none_bt u15 D5 n
    have nR5 := none_of s6 nR
    refine ⟨T, _, rfl, SqT.of upd_same, rfl, _, _, rfl, _, _, rfl, _, _, rfl, _, _, rfl, rfl, ?_⟩
    dsimp only [gName]
    show tSeq _ _ _ _ (upd (upd H6 R (.dK [])) T (.tup [.ref Lm, .ref Lk, .ref b, .ref R]))
    generalize upd (upd H6 R (.dK [])) T (.tup [.ref Lm, .ref Lk, .ref b, .ref R]) = H8 at sT hR s68 s58 D8 hB8 hL28 hLm8 hLk8 ⊢
    refine ⟨_, rfl, _, rfl, e, L2, t4, zs, rfl, D8, by omega, by omega, hL28, by omega, fun Lt ys t9 H9 u9 nLt hLt pm D9 ti tj => ⟨Lt, rfl, ⟨_, SqL.of hLt⟩, ?_⟩⟩
    have lb9 : Lb CB CQ e b k r d R H9 H9 (bOf []) [] t9 := ⟨.refl, D9, hB8.draw D8 u9, ⟨[], u9.at (fun z => nRx (by rw [z]; exact List.mem_cons_self)) hR, .nil⟩, nRx⟩
    have hL29 := u9.at (D8.lst hL28) hL28
    have hLm9 := u9.at (D8.lst hLm8) hLm8
    have hLk9 := u9.at (D8.lst hLk8) hLk8
    have ly : ys.length = 2 + n := by rw [pm.length_eq, lz]
    have ndy : ys.Nodup := pm.nodup_iff.mpr ndz
    have nmy : ∀ z ∈ ys, nameT z = true := fun z hz => nz z (pm.mem_iff.mp hz)
    have bl : ∀ {G : Hp} {B : BD} {ks : List Str} {t : Int}, Lb CB CQ e b k r d R H9 G B ks t → ∀ {a : Addr} {M : List V}, H9 a = some (.lst M) → G a = some (.lst M) := fun {G B ks t} lb {a M} ha => lb.bt a _ (fun z => by
      have : a ∈ e :: ([k, r, d] ++ [R]) := z
      rcases List.mem_cons.mp this with z | z
      · exact lb9.D.lst ha z
      · rcases List.mem_append.mp z with z | z
        · obtain ⟨kv, e2⟩ := lb9.bk.dk a z
          rw [ha] at e2
          cases e2
        · obtain ⟨kv, e2, _⟩ := lb9.rw_
          rw [List.mem_singleton.mp z, e2] at ha
          cases ha) ha
    obtain ⟨INV, hINV⟩ : ∃ INV : Nat → List (Option V) → Hp → Prop, INV = fun (i : Nat) σ G => ∃ (v7 v8 v9 v10 v11 v12 : Option V) (B : BD) (t' : Int), σ = [some (.ref e), some (.int 9), some (.ref L2), some (.ref Lm), some (.ref Lk), some (.ref b), some (.ref R), v7, v8, v9, v10, v11, v12, none] ∧ Lb CB CQ e b k r d R H9 G B (ys.take i) t' ∧ GoodB B ∧ B.ns = ys.take i ∧ B.os = [] ∧ t9 ≤ t' ∧ t' ≤ t9 + 8 * i := ⟨_, rfl⟩
    refine for_it (walk_list (K := K) (a := Lt) (xs := ys.map V.str)) INV (by rw [hINV]; exact ⟨_, _, _, _, _, _, _, t9, rfl, by rw [List.take_zero]; exact lb9, good0, rfl, rfl, Int.le_refl _, by omega⟩) (fun i σ G _ h => by rw [hINV] at h; obtain ⟨_, _, _, _, _, _, _, _, _, lb, _⟩ := h; exact SqL.of (bl lb hLt)) ?_ ?_
    · rintro i y σ G0 G hi hI ⟨rfl, hy⟩
      rw [hINV] at hI
      obtain ⟨v7, v8, v9, v10, v11, v12, B, t', rfl, lb, gB, eB, eO, ta', tb'⟩ := hI
      obtain ⟨z, ez, rfl⟩ := getD_map hy
      rw [List.length_map] at hi
      have i9 : (i : Int) < 9 := by omega
      have mz := List.mem_of_getElem? ez
      refine ⟨_, rfl, e, t', 9, rfl, lb.D, by omega, by omega, by decide, by decide, fun a1 r1' G1 a10 a19 w1 E1 tc1 td1 => ⟨1, a1, rfl, rfl, _, rfl, e, r1', 4, rfl, E1, by omega, by omega, by decide, by decide, fun a2 r2' G2 a20 a24 w2 E2 tc2 td2 => ⟨1, a2, rfl, rfl, _, _, rfl, ?_⟩⟩⟩
      have lb2 := (lb.take w1 E1).take w2 E2
      dsimp only [gName]
      clear lb w1 E1 w2 E2
      -- a row
      refine fun p np => ?_
      obtain ⟨np0, pe_, pb_, pR_⟩ := lb2.new np
      have lb3 := lb2.same (same_upd (o := .dK []) np)
      have hp3 : upd G2 p (.dK []) p = some (.dK []) := upd_same
      generalize upd G2 p (.dK []) = G3 at lb3 hp3 ⊢
      refine ⟨_, rfl, _, rfl, e, Lm, r2', _, rfl, lb3.D, by omega, by omega, bl lb3 hLm9, by rw [List.length_map, lms]; decide, by rw [List.length_map, lms]; decide, fun i1 x1 r3' G4 hx1 w4 E4 tc4 td4 => ?_⟩
      obtain ⟨m1, em1, rfl⟩ := getD_map hx1
      have nm1 := nms m1 (List.mem_of_getElem? em1)
      have lb4 := lb3.take w4 E4
      have hp4 := w4.at pe_ hp3
      refine ⟨_, rfl, by show 2 ≤ sizeLine; decide, fun q1 nq1 => ?_⟩
      have lb5 := lb4.same (same_upd (o := .lst [.str "", .str ""]) nq1)
      have hq1 : upd G4 q1 (.lst [.str "", .str ""]) q1 = some (.lst [.str "", .str ""]) := upd_same
      have hp5 := same_upd (o := .lst [.str "", .str ""]) nq1 _ _ hp4
      generalize upd G4 q1 (.lst [.str "", .str ""]) = G5 at lb5 hq1 hp5 ⊢
      refine ⟨_, rfl, q1, Lk, _, _, rfl, rfl, hq1, bl lb5 hLk9, by rw [List.length_map, lks]; decide, fun q2 nq2 => ?_⟩
      have lb6 := lb5.same (same_upd (o := .lst ([.str "", .str ""] ++ kn.map V.str)) nq2)
      have hq2 : upd G5 q2 (.lst ([.str "", .str ""] ++ kn.map V.str)) q2 = some (.lst ((([""  , ""] : List Str) ++ kn).map V.str)) := by rw [upd_same, List.map_append]; rfl
      have hp6 := same_upd (o := .lst ([.str "", .str ""] ++ kn.map V.str)) nq2 _ _ hp5
      generalize upd G5 q2 (.lst ([.str "", .str ""] ++ kn.map V.str)) = G6 at lb6 hq2 hp6 ⊢
      refine ⟨e, q2, r3', _, rfl, lb6.D, by omega, by omega, hq2, by rw [List.length_map, List.length_append, lks]; decide, by rw [List.length_map, List.length_append, lks]; decide, fun i2 x2 r4' G7 hx2 w7 E7 tc7 td7 => ?_⟩
      obtain ⟨k1, ek1, rfl⟩ := getD_map hx2
      have nk1 : nameE (.str k1) = true := by
        rcases List.mem_append.mp (List.mem_of_getElem? ek1) with h | h
        · simp only [List.mem_cons, List.not_mem_nil, or_false, or_self] at h
          rw [h]
          decide +kernel
        · show (nameV (.str k1) || _) = true
          rw [show nameV (.str k1) = true from nks k1 h]
          rfl
      have lb7 := lb6.take w7 E7
      have hp7 := w7.at pe_ hp6
      refine ⟨_, rfl, _, rfl, hp7, row4 m1 k1 (1 + a1) (1 + a2), rfl, by show 4 ≤ 15; decide, ?_⟩
      rw [merge_r4]
      have lb8 := lb7.put (o := .dK (row4 m1 k1 (1 + a1) (1 + a2))) hp7 np0 pe_ pb_ pR_
      have hp8 : upd G7 p (.dK (row4 m1 k1 (1 + a1) (1 + a2))) p = some (.dK (row4 m1 k1 (1 + a1) (1 + a2))) := upd_same
      dsimp only [gName]
      show tSeq _ _ _ _ (upd G7 p (.dK (row4 m1 k1 (1 + a1) (1 + a2))))
      generalize upd G7 p (.dK (row4 m1 k1 (1 + a1) (1 + a2))) = G8 at lb8 hp8 ⊢
      clear lb2 lb3 lb4 lb5 lb6 lb7 hp3 hp4 hp5 hp6 hp7 hq1 hq2
      refine ⟨p, z, m1, k1, 1 + a1, 1 + a2, rfl, rfl, rfl, rfl, hp8, nmy z mz, nm1, nk1, by omega, by omega, by omega, by omega, fun x' G10 s10 qi => ?_⟩
      obtain ⟨q, hq⟩ : ∃ q : QD, q = rowQ z m1 k1 (1 + a1) (1 + a2) := ⟨_, rfl⟩
      have qv : QV q := by
        rw [hq]
        exact rowQ_v (nmy z mz) nm1 nk1 (by omega) (by omega) (by omega) (by omega)
      have qn : q.nm = z := by rw [hq]; rfl
      rw [← hq] at qi
      have lbA := lb8.same s10
      have hpA := s10 _ _ hp8
      clear lb8 hp8
      dsimp only [gName]
      have hni : q.nm ∉ B.ns := by
        rw [qn, eB]
        intro hm
        obtain ⟨j, hj, ej⟩ := List.mem_iff_getElem.mp hm
        rw [List.length_take] at hj
        rw [List.getElem_take] at ej
        have e2 := List.getElem?_eq_some_iff.mp ez
        have := (List.getElem_inj ndy (i := j) (j := i) (h₀ := by omega) (h₁ := hi)).mp (by rw [ej, e2.2])
        omega
      have lB : B.ns.length = i := by rw [eB, List.length_take]; omega
      obtain ⟨dxb, hbA⟩ := id lbA.bk.at_
      refine ⟨_, rfl, b, dxb, _, rfl, hbA, lb_meth (by decide) _ _ _, _, rfl, b, k, r, d, B, _, rfl, lbA.bk, .inl ⟨x', q, rfl, qi, fun h => absurd h hni, fun _ h => absurd h (by omega), fun _ _ GB uB hBB => ?_⟩⟩
      have lbB := lbA.deed (M := [k, d]) (fun x hx => by simp only [List.mem_cons, List.not_mem_nil, or_false] at hx ⊢; rcases hx with h | h; exact .inl h; exact .inr (.inr h)) uB hBB
      have pkd : p ∉ [k, d] := fun z => pb_ (by simp only [List.mem_cons, List.not_mem_nil, or_false] at z ⊢; rcases z with h | h; exact .inl h; exact .inr (.inr h))
      have hpB := uB _ _ pkd hpA
      have gB2 := gB.add qv hni (by omega)
      have nB2 : (B.add q).ns = ys.take (i + 1) := by
        rw [List.take_add_one, ez, ← eB]
        show B.ns ++ [q.nm] = _
        rw [qn]
        rfl
      have hB2 : (B.add q).h z = [] := by
        show upF B.h q.nm [] z = []
        rw [qn]
        exact upF_at _ _ _
      have oB2 : (B.add q).os = [] := eO
      generalize B.add q = B2 at lbB gB2 nB2 hB2 oB2
      clear lbA hpA hbA uB hBB qi
      -- its days
      refine ⟨_, rfl, e, r4', 3, rfl, lbB.D, by omega, by omega, by decide, by decide, fun cnt r5' GC c0 c3 wC EC tcC tdC => ⟨cnt, rfl, by omega, by omega, fun Dl nD => ?_⟩⟩
      have lbC := lbB.take wC EC
      have hpC := wC.at pe_ hpB
      have De : Dl ≠ e := EC.new nD
      have sD := same_upd (o := .lst []) nD
      refine lc_it walk_range (fun j X => (∀ b o, b ≠ e → b ≠ Dl → GC b = some o → X b = some o) ∧ (∃ tj, DrawAt X e tj ∧ r5' ≤ tj ∧ tj ≤ r5' + j) ∧ ∃ is : List Int, is.length = j ∧ (∀ x ∈ is, 0 ≤ x ∧ x < 20) ∧ X Dl = some (.lst (is.map V.int))) ⟨fun b o _ nb e => by rw [upd_ne nb]; exact e, ⟨r5', EC.same sD, Int.le_refl _, by omega⟩, [], rfl, (fun _ h => nomatch h), upd_same⟩ (fun _ _ _ _ => trivial) ?_ ?_
      · rintro j x X X' hj ⟨kp, ⟨tj, DX, te', tf'⟩, is, li, bi, hz⟩ ⟨rfl, rfl⟩
        have j3 : (j : Int) < 3 := by omega
        refine ⟨rfl, _, rfl, e, tj, 20, rfl, DX, by omega, by omega, by decide, by decide, fun dv td' X2 d0 d20 wX EX tg' th' => ?_⟩
        have hz' := wX.at De hz
        refine ⟨_, hz', by rw [List.length_map, li, sizeLine_eq]; omega, fun b o n1 n2 x => by rw [upd_ne n2]; exact wX.at n1 (kp b o n1 n2 x), ⟨td', EX.put De, by omega, by omega⟩, is ++ [dv], by rw [List.length_append, li]; rfl, fun x hx => ?_, by rw [upd_same, List.map_append]; rfl⟩
        rcases List.mem_append.mp hx with h | h
        · exact bi x h
        · rw [List.mem_singleton.mp h]
          exact ⟨d0, d20⟩
      rintro GD ⟨kp, ⟨r6', ED, te', tf'⟩, is, li, bi, hz⟩
      have lbD := lbC.take (fun b o nb x => kp b o (fun z => nb (by rw [z]; exact List.mem_cons_self)) (ne_of_none x nD) x) ED
      have hpD := kp _ _ pe_ (ne_of_none hpC nD) hpC
      refine ⟨Dl, is, rfl, SqL.of hz, by omega, fun pd ds GE sE npd hpd rs nds mm => ?_⟩
      have lbE := lbD.same sE
      have hpE := sE _ _ hpD
      have dl : ds.length ≤ 3 := by
        have := nds.length_le_of_subset fun x hx => (mm x).mp hx
        omega
      have db : ∀ x ∈ ds, 0 ≤ x ∧ x < 20 := fun x hx => bi x ((mm x).mp hx)
      refine ⟨_, rfl, p, _, rfl, DPut.k (k := .inr "days") hpE (by show 4 < sizeLine; decide), ?_⟩
      rw [r4_put]
      have lbF := lbE.put (o := .dK (row5 m1 k1 (1 + a1) (1 + a2) pd)) hpE np0 pe_ pb_ pR_
      have hpF : upd GE p (.dK (row5 m1 k1 (1 + a1) (1 + a2) pd)) p = some (.dK (row5 m1 k1 (1 + a1) (1 + a2) pd)) := upd_same
      have hdF : upd GE p (.dK (row5 m1 k1 (1 + a1) (1 + a2) pd)) pd = some (.lst (ds.map V.int)) := by rw [upd_ne (apart hpd hpE fun z => by cases z)]; exact hpd
      generalize upd GE p (.dK (row5 m1 k1 (1 + a1) (1 + a2) pd)) = GF at lbF hpF hdF ⊢
      clear lbE lbD lbC lbB hpE hpD hpC hpB
      have gd : ∀ {G : Hp}, G p = some (.dK (row5 m1 k1 (1 + a1) (1 + a2) pd)) → DGet G p (.str "days") (some (.ref pd)) := fun {G} h => by
        have z := DGet.k (k := .inr "days") h
        rw [r5_days] at z
        exact z
      refine ⟨_, rfl, p, _, rfl, gd hpF, pd, rfl, ⟨_, SqL.of hdF⟩, ?_⟩
      have mzB : z ∈ B2.ns := by
        rw [nB2, List.take_add_one, ez]
        exact List.mem_append_right _ (by simp)
      obtain ⟨JNV, hJNV⟩ : ∃ JNV : Nat → List (Option V) → Hp → Prop, JNV = fun (j : Nat) σ X => ∃ (v12 : Option V) (B3 : BD), σ = [some (.ref e), some (.int 9), some (.ref L2), some (.ref Lm), some (.ref Lk), some (.ref b), some (.ref R), some (.str z), some (.int (1 + a1)), some (.int (1 + a2)), some (.ref p), some (.ref x'), v12, none] ∧ Lb CB CQ e b k r d R H9 X B3 (ys.take i) r6' ∧ GoodB B3 ∧ B3.ns = B2.ns ∧ B3.os = [] ∧ (B3.h z).length ≤ j ∧ X p = some (.dK (row5 m1 k1 (1 + a1) (1 + a2) pd)) ∧ X pd = some (.lst (ds.map V.int)) := ⟨_, rfl⟩
      refine for_it (walk_list (K := K) (a := pd) (xs := ds.map V.int)) JNV (by rw [hJNV]; exact ⟨_, B2, rfl, lbF, gB2, rfl, oB2, by rw [hB2]; exact Nat.le_refl _, hpF, hdF⟩) (fun j σ X _ h => by rw [hJNV] at h; obtain ⟨_, _, _, _, _, _, _, _, _, h⟩ := h; exact SqL.of h) ?_ ?_
      · rintro j y σ X0 X hj hJ ⟨rfl, hy2⟩
        rw [hJNV] at hJ
        obtain ⟨v12', B3, rfl, lbX, gX, nX, oX, hX, hpX, hdX⟩ := hJ
        obtain ⟨dy, edy, rfl⟩ := getD_map hy2
        obtain ⟨dy0, dy9⟩ := db dy (List.mem_of_getElem? edy)
        obtain ⟨dxX, hbX⟩ := id lbX.bk.at_
        have lX : B3.ns.length ≤ 1000 := Nat.le_trans gX.le (by decide)
        have l2X : ∀ m ∈ B3.ns, (B3.h m).length ≤ 1000 := fun m hm => Nat.le_trans (gX.dy m hm).2.2 (by decide)
        rw [List.length_map] at hj
        have mz3 : z ∈ B3.ns := by rw [nX]; exact mzB
        refine ⟨_, rfl, b, dxX, _, rfl, hbX, lb_meth (by decide) _ _ _, _, rfl, _, rfl, rfl, rfl, ?_⟩
        refine used_go (i := dy) lbX.bk mz3 lX l2X dy0 (by omega) fun Y uY hY => ?_
        have lbY := lbX.deed (M := [d]) (fun x hx => by simp only [List.mem_cons, List.not_mem_nil, or_false] at hx ⊢; exact .inr (.inr hx)) uY hY
        have pdd : p ∉ [d] := fun h => pb_ (by simp only [List.mem_cons, List.not_mem_nil, or_false] at h ⊢; exact .inr (.inr h))
        have ldd : pd ∉ [d] := fun h => by
          obtain ⟨kv, e2⟩ := lbX.bk.dk pd (by simp only [List.mem_cons, List.not_mem_nil, or_false] at h ⊢; exact .inr (.inr h))
          rw [hdX] at e2
          cases e2
        obtain ⟨g1, g2, g3⟩ := gX.dy z mz3
        have al := addD_len (ds := B3.h z) (i := dy)
        show JNV (j + 1) _ _
        rw [hJNV]
        refine ⟨_, _, rfl, lbY, gX.day ⟨addD_pair g1, fun x hx => ?_, by omega⟩, nX, oX, ?_, uY _ _ pdd hpX, uY _ _ ldd hdX⟩
        · rcases addD_mem.mp hx with h | h
          · exact g2 x h
          · rw [h]; omega
        · show (upF B3.h z (addD (B3.h z) dy) z).length ≤ j + 1
          rw [upF_at]
          omega
      rintro σ X hJ
      rw [hJNV] at hJ
      obtain ⟨v12', B3, rfl, lbX, gX, nX, oX, hX, hpX, hdX⟩ := hJ
      obtain ⟨kvR, hRX, tkR⟩ := id lbX.rw_
      have lk : kvR.length ≤ 60 := by
        have := tkR.len
        rw [List.length_take] at this
        omega
      have hnz : z ∉ ys.take i := by rw [← eB, ← qn]; exact hni
      refine ⟨_, rfl, _, rfl, _, rfl, R, _, rfl, DPut.k (k := .inr z) hRX (by rw [sizeLine_eq]; omega), ?_⟩
      have tk2 := tkR.put (n := z) (v := .ref p) (R' := fun _ v => ∃ p, v = .ref p) (fun _ _ _ _ h => h) ⟨p, rfl⟩
      rw [putN_new hnz] at tk2
      show INV (i + 1) _ _
      rw [hINV]
      have et : ys.take (i + 1) = ys.take i ++ [z] := by rw [List.take_add_one, ez]; rfl
      exact ⟨_, _, _, _, _, _, B3, r6', rfl, by rw [et]; exact lbX.rows tk2, gX, by rw [nX, nB2], oX, by omega, by push_cast; omega⟩
    rintro σ G hI
    rw [hINV] at hI
    obtain ⟨v7, v8, v9, v10, v11, v12, B, t', rfl, lb, gB, eB, eO, ta', tb'⟩ := hI
    rw [List.length_map, List.take_of_length_le (Nat.le_refl _)] at lb eB
    rw [List.length_map] at tb'
    have hL2G := bl lb hL29
    refine ⟨_, rfl, L2, rfl, ⟨_, SqL.of hL2G⟩, ?_⟩
    obtain ⟨KNV, hKNV⟩ : ∃ KNV : Nat → List (Option V) → Hp → Prop, KNV = fun (i : Nat) σ X => ∃ (v7 : Option V) (B2 : BD) (ks : List Str) (r' : Int), σ = [some (.ref e), some (.int 9), some (.ref L2), some (.ref Lm), some (.ref Lk), some (.ref b), some (.ref R), v7, v8, v9, v10, v11, v12, none] ∧ Lb CB CQ e b k r d R H9 X B2 ks r' ∧ GoodB B2 ∧ B2.ns = ys ∧ (∀ z, z ∈ B2.os → z ∈ zs.take i) ∧ ks = ys.filter (fun z => !decide (z ∈ B2.os)) ∧ t' ≤ r' ∧ r' ≤ t' + i := ⟨_, rfl⟩
    refine for_it (walk_list (K := K) (a := L2) (xs := zs.map V.str)) KNV (by rw [hKNV]; exact ⟨_, B, ys, t', rfl, lb, gB, eB, (fun z h => by rw [eO] at h; cases h), (List.filter_eq_self.mpr fun z _ => by rw [eO]; rfl).symm, Int.le_refl _, by omega⟩) (fun i σ X _ h => by rw [hKNV] at h; obtain ⟨_, _, _, _, _, lb, _⟩ := h; exact SqL.of (bl lb hL29)) ?_ ?_
    · rintro i y σ X0 X hi hK ⟨rfl, hy⟩
      rw [hKNV] at hK
      obtain ⟨v7', B2, ks, r', rfl, lbX, gX, nX, oX, eks, ta2, tb2⟩ := hK
      obtain ⟨z, ez, rfl⟩ := getD_map hy
      rw [List.length_map] at hi
      have mz : z ∈ B2.ns := by rw [nX]; exact pm.mem_iff.mpr (List.mem_of_getElem? ez)
      have hno : z ∉ B2.os := fun h => by
        obtain ⟨j, hj, ej⟩ := List.mem_iff_getElem.mp (oX z h)
        rw [List.length_take] at hj
        rw [List.getElem_take] at ej
        have e2 := List.getElem?_eq_some_iff.mp ez
        have := (List.getElem_inj ndz (i := j) (j := i) (h₀ := by omega) (h₁ := hi)).mp (by rw [ej, e2.2])
        omega
      refine ⟨_, rfl, e, r', 7, rfl, lbX.D, by omega, by omega, by decide, by decide, fun tv r2 Y c0 c7 wY EY tcY tdY => ⟨rfl, _, rfl, ite2 (fun _ => ?_) (fun _ => ?_)⟩⟩
      · have lbY := lbX.take wY EY
        obtain ⟨dxY, hbY⟩ := id lbY.bk.at_
        refine ⟨_, rfl, b, dxY, _, rfl, hbY, lb_meth (by decide) _ _ _, _, rfl, rfl, rfl, ?_⟩
        have lo : B2.os.length ≤ 1000 := Nat.le_trans (gX.od.length_le_of_subset fun n hn => gX.os n hn) (Nat.le_trans gX.le (by decide))
        refine out_go (z := "odd") lbY.bk mz lo (by decide +kernel) fun Z uZ hZ => ?_
        have lbZ := lbY.deed (M := [r]) (fun x hx => by simp only [List.mem_cons, List.not_mem_nil, or_false] at hx ⊢; exact .inr (.inl hx)) uZ hZ
        obtain ⟨kvR, hRZ, tkR⟩ := id lbZ.rw_
        have mk : z ∈ ks := by
          rw [eks]
          exact List.mem_filter.mpr ⟨by rw [← nX]; exact mz, by simp [hno]⟩
        obtain ⟨vz, evz, _⟩ := tkR.2 z mk
        refine ⟨_, rfl, R, rfl, .inl ⟨_, .inl hRZ⟩, _, rfl, kvR, .inr z, vz, hRZ, rfl, evz, ?_⟩
        have eos : (B2.out z "odd").os = B2.os ++ [z] := by
          show putN B2.os z = _
          exact putN_new hno
        show KNV (i + 1) _ _
        rw [hKNV]
        refine ⟨_, _, _, r2, rfl, lbZ.rows tkR.drop, gX.out mz (by decide +kernel), nX, fun y hy => ?_, ?_, by omega, by push_cast; omega⟩
        · rw [eos] at hy
          rw [List.take_add_one, ez]
          rcases List.mem_append.mp hy with h | h
          · exact List.mem_append_left _ (oX y h)
          · exact List.mem_append_right _ (by rw [List.mem_singleton.mp h]; simp)
        · rw [eos, eks]
          unfold dropN
          rw [List.filter_filter]
          refine List.filter_congr fun y _ => ?_
          by_cases h1 : y = z
          · simp [h1]
          · simp [h1]
      · have lbY := lbX.take wY EY
        show KNV (i + 1) _ _
        rw [hKNV]
        exact ⟨_, B2, ks, r2, rfl, lbY, gX, nX, fun y hy => by rw [List.take_add_one]; exact List.mem_append_left _ (oX y hy), eks, by omega, by push_cast; omega⟩
    rintro σ X hK
    rw [hKNV] at hK
    obtain ⟨v7', B2, ks, r', rfl, lbX, gX, nX, oX, eks, ta2, tb2⟩ := hK
    rw [List.length_map] at tb2
    refine ⟨_, rfl, _, rfl, by show 2 ≤ sizeLine; decide, fun T2 nT2 => ?_⟩
    have sF := same_upd (o := .tup [.ref b, .ref R]) nT2
    have lbZ := lbX.same sF
    have l10 : (zs.length : Int) ≤ 9 := by omega
    have ly10 : (ys.length : Int) ≤ 9 := by omega
    refine fin T2 b k r d R B2 ks _ r' (fun q o nq x => ?_) (none0 nx) (none0 nk) (none0 nr) (none0 nd) (none0 nR5) upd_same lbZ.bk gX (by rw [nX, ly]; omega) (by rw [nX, ly]; omega) lbZ.rw_ ?_ lbZ.D (by omega) (by omega)
    · have x5 := u15 _ _ nq x
      have x9 := u9 _ _ nq (s58 _ _ x5)
      refine lbZ.bt q o (fun z => ?_) x9
      simp only [List.mem_cons, List.not_mem_nil, or_false] at z nq
      rcases z with z | z | z | z | z
      · exact nq z
      · rw [z, none0 nk] at x; cases x
      · rw [z, none0 nr] at x; cases x
      · rw [z, none0 nd] at x; cases x
      · rw [z, none0 nR5] at x; cases x
    · rw [eks, ← nX]
      unfold BD.ins
      exact ((srt_perm B2.ns).filter _).symm
end
end Pk
namespace Pk
open PySem L2
/-! ### t + u and t[a:b], whatever object it is -/
theorem cut_whole {L : List V} {lo hi : Option Int} (h : HT.sIx L.length 0 lo = 0 ∧ HT.sIx L.length L.length hi = L.length) : cutV L lo hi = L := by
  unfold cutV
  rw [h.1, h.2, List.drop_zero, Nat.sub_zero, List.take_length]
section
variable {X : Cx}
def rSlE : V → Option Int → Option Int → Hp → VK → Prop := fun x lo hi H Q => ∃ a xs, x = .ref a ∧ H a = some (.tup xs) ∧ ∀ (p : Addr) (H' : Hp), Same H H' → H' p = some (.tup (cutV xs lo hi)) → Q (.ref p) H'
theorem sl_tupE : SlR X rSlE := by
  intro pins s σ H x v vl vu lo hi sl Q I rx hs pl pu h
  obtain ⟨a, xs, rfl, hx, q⟩ := h
  exact sl_tupA pins s σ H _ v vl vu lo hi sl Q I rx hs pl pu ⟨a, xs, rfl, SqT.of hx, fun w => q a H (Same.refl H) (by rw [cut_whole w]; exact hx), fun _ p n => q p _ (same_upd n) upd_same⟩
def rCatE : R2 := fun x y H Q => ∃ a b xs ys, x = .ref a ∧ y = .ref b ∧ H a = some (.tup xs) ∧ H b = some (.tup ys) ∧ xs.length + ys.length ≤ 1000 ∧ ∀ (p : Addr) (H' : Hp), Same H H' → H' p = some (.tup (xs ++ ys)) → Q (.ref p) H'
theorem op_catE : OpR X (binaryOp .Add) rCatE := by
  intro pins s σ H x y v u Q I rx ry h
  obtain ⟨a, b, xs, ys, rfl, rfl, ha, hb, hz, q⟩ := h
  refine op_catA pins s σ H _ _ v u Q I rx ry ⟨a, b, xs, ys, rfl, rfl, SqT.of ha, SqT.of hb, by rw [sizeLine_eq]; omega, fun e => q b H (Same.refl H) (by rw [e]; exact hb), fun _ e => q a H (Same.refl H) (by rw [e, List.append_nil]; exact ha), fun _ _ p n => q p _ (same_upd n) upd_same⟩
end
theorem cut_neg1 {L : List V} (h : L ≠ []) : cutV L none (some (-1)) = L.dropLast := by
  unfold cutV
  have hl : 0 < L.length := List.length_pos_iff.mpr h
  have e : HT.sIx L.length L.length (some (-1)) = L.length - 1 := by
    show (if (-1 : Int) < 0 then ((-1 : Int) + (L.length : Int)).toNat else min (-1 : Int).toNat L.length) = _
    rw [if_pos (by decide)]
    omega
  rw [e]
  show (L.drop 0).take (L.length - 1 - 0) = _
  rw [List.drop_zero, Nat.sub_zero, List.dropLast_eq_take]
end Pk
/-! ### readings by either of two rules -/
namespace Pk
open PySem PySem.Spec L2
section
variable {X : Cx} {tg e : Expr}
def iOr (w1 w2 : TI) : TI := fun σ H R => w1 σ H R ∨ w2 σ H R
theorem pi_or {w1 w2 : TI} (h1 : PI X tg e w1) (h2 : PI X tg e w2) : PI X tg e (iOr w1 w2) := ⟨fun pins s σ H R I h => h.elim (h1.run pins s σ H R I) (h2.run pins s σ H R I)⟩
def tOr2 (t1 t2 : TE) : TE := fun σ H Q => t1 σ H Q ∨ t2 σ H Q
theorem pe_or2 {t1 t2 : TE} (h1 : PE X e t1) (h2 : PE X e t2) : PE X e (tOr2 t1 t2) := ⟨fun pins s σ H Q I h => h.elim (h1.run pins s σ H Q I) (h2.run pins s σ H Q I)⟩
/-- two readings of one call's arguments -/
def rOr (r1 r2 : List V → Hp → VK → Prop) : List V → Hp → VK → Prop := fun vs H Q => r1 vs H Q ∨ r2 vs H Q
theorem call_or {v : Value} {r1 r2 : List V → Hp → VK → Prop} (h1 : CallR X v r1) (h2 : CallR X v r2) : CallR X v (rOr r1 r2) := fun pins s σ H xs us Q I r h => h.elim (h1 pins s σ H xs us Q I r) (h2 pins s σ H xs us Q I r)
end
end Pk
namespace Pk
open PySem L2 RZ
/-! ### zip of two tuples, walked -/
theorem walk_zipT {K : PySem.W.Frag} {a b : Addr} {xs ys : List V} {n : Nat} (hn : n = min xs.length ys.length) : Walk (ItzT K a b) n (fun H => SqT K H a xs ∧ SqT K H b ys) (YPair (fun i => xs[i]?) fun i => ys[i]?) :=
  ⟨fun i H hi ⟨h1, h2⟩ => ⟨xs, ys, _, _, h1, h2, List.getElem?_eq_getElem (by omega), List.getElem?_eq_getElem (by omega)⟩, fun H ⟨h1, h2⟩ => ⟨xs, ys, h1, h2, by omega⟩, fun i H x H' _ ⟨h1, h2⟩ ⟨T, x1, x2, e, nT, e2, f1, f2⟩ => ⟨T, x1, x2, e, nT, e2, f1 xs h1, f2 ys h2⟩⟩
end Pk
namespace Pk
open PySem L2
/-! ### papers.py -/
abbrev ExLine : List Value := [.type "Exception", .type "BaseException", .type "object"]
abbrev TxBP (K : PySem.W.Frag) (mg : Str → Option Value) (C fI : Addr) : Prop := Er_at.Tx K mg "BadPaper" "BadPaper.__init__" C fI "Exception" "Exception.__new__" "Exception.__init__" ExLine
def spIsIn (CB CQ : Addr) : Sp := fun vs H Q _ => ∃ (b k r d : Addr) (B : BD) (z : Str), vs = [.ref b, .str z] ∧ BankAt CB CQ H b k r d B ∧ Q (.bl (B.isIn z)) H
def spQsBy (CB CQ : Addr) : Sp := fun vs H Q _ => ∃ (b k r d a : Addr) (B : BD) (zs : List Str), vs = [.ref b, .ref a] ∧ BankAt CB CQ H b k r d B ∧ H a = some (.tup (zs.map V.str)) ∧ (∀ z ∈ zs, z ∈ B.ns) ∧ zs.length ≤ 64 ∧
  ∀ (p : Addr) (H' : Hp) (xs : List Addr), Same H H' → H p = none → H' p = some (.lst (xs.map V.ref)) → Qns CQ H' xs (zs.map B.f) → Q (.ref p) H'
def spNeedBank (K : PySem.W.Frag) (CB cK : Addr) : Sp := fun vs H Q E => ∃ y, vs = [y] ∧ ((∃ (b dx : Addr) (fs : List (Str × V)), y = .ref b ∧ H b = some (.ins CB dx fs) ∧ Q .non H) ∨ ∃ tb, TyX K H y tb ∧ PySem.W.kitOne K tb (.ref CB) = some false ∧ Err1 cK "wanted" (.str "Bank") H E)
def spAreNames : Sp := fun vs H Q _ => ∃ (a : Addr) (ws : List V), vs = [.ref a] ∧ (H a = some (.lst ws) ∨ H a = some (.tup ws)) ∧ (∀ v ∈ ws, Thg H v) ∧ ws.length ≤ 64 ∧ ∀ H', Same H H' → Q (.bl (namesL ws)) H'
def spIsPaper : Sp := fun vs H Q _ => ∃ x, vs = [x] ∧ ThP H x ∧ ∀ H', Same H H' → Q (.bl (paperV H x)) H'
def spPaperOf (cP : Addr) : Sp := fun vs H Q E => ∃ x, vs = [x] ∧ Thg H x ∧ (∀ ws, seqV H x = some ws → ws.length ≤ 64 ∧ ∀ v ∈ ws, Thg H v) ∧ (∀ v, dueN H x = some v → Err1 cP "at" v H E) ∧
  ∀ zs : List Str, seqV H x = some (zs.map V.str) → dueN H x = none → ∀ (p : Addr) (H' : Hp), Same H H' → H' p = some (.tup ((srt zs).map V.str)) → Q (.ref p) H'
def spQsOf (K : PySem.W.Frag) (CB CQ cK cP : Addr) : Sp := fun vs H Q E => ∃ (y x : V), vs = [y, x] ∧ ((∃ (b k r d : Addr) (B : BD), y = .ref b ∧ BankAt CB CQ H b k r d B ∧ GoodB B ∧ ThP H x ∧ (∀ zs : List Str, tupV H x = some (zs.map V.str) → Pap zs → dueP H B.isIn x = none → ∀ (p : Addr) (H' : Hp) (xs : List Addr), Same H H' → H p = none → H' p = some (.lst (xs.map V.ref)) → Qns CQ H' xs (zs.map B.f) → Q (.ref p) H') ∧ ∀ v, dueP H B.isIn x = some v → Err1 cP "at" v H E) ∨
  ∃ tb, TyX K H y tb ∧ PySem.W.kitOne K tb (.ref CB) = some false ∧ Err1 cK "wanted" (.str "Bank") H E)
def spShared (cP : Addr) : Sp := fun vs H Q E => ∃ x y, vs = [x, y] ∧ ThP H x ∧ ThP H y ∧ (paperV H x = false → Err1 cP "at" .non H E) ∧ (paperV H x = true → paperV H y = false → Err1 cP "at" .non H E) ∧
  ∀ xs ys : List Str, tupV H x = some (xs.map V.str) → tupV H y = some (ys.map V.str) → Pap xs → Pap ys → ∀ (p : Addr) (H' : Hp), Same H H' → H p = none → H' p = some (.lst ((xs.filter fun z => decide (z ∈ ys)).map V.str)) → Q (.ref p) H'
section
variable {P : Program} {w : World} {K : PySem.W.Frag} {mg : Str → Option Value} {base : Heap} {CB CQ : Addr}
abbrev NIsIn : List Str := ["self", "name"]
abbrev NQsBy : List Str := ["self", "names", "name"]
theorem scNeedBank : FnScope ["thing"] ["thing"] (defScope sNeedBank) := ⟨rfl, rfl, rfl, by decide +kernel, rfl, by decide +kernel, by decide +kernel⟩
theorem ok_needBank {f cK fJ : Addr} {fd : FuncData} (F : Fun K "need_bank" "need_bank" sNeedBank f fd) (O : OTy K CB) (TK : TxK K mg cK fJ) (mi : mg "isinstance" = none) (gB : mg "Bank" = some (.ref CB)) : FnOk P w K mg base (L2.CX P w) 3 f fd ["thing"] (spNeedBank K CB cK) := by
  refine F.okX scNeedBank (fun vs H Q E h => ?_) (fun cdv A outer s H vs Q E hr h => ?_)
  · obtain ⟨y, rfl, _⟩ := h
    rfl
  · obtain ⟨y, rfl, h⟩ := h
    refine ⟨_, pss_one (ps_if (pt_not (pt_val (pe_callB call_isi (by rfl) mi (by decide +kernel) (pa_cons (pv 0) (pa_cons (pe_glob (v := .ref CB) (by rfl) gB rfl (by decide)) pa_nil))))) (pss_one (ps_raiseE_wanted rfl TK hr (takes_of rfl rfl rfl rfl) (by exact (pa_cons pe_str pa_nil)))) pss_nil), ?_⟩
    rcases h with ⟨x, dx, fs, rfl, hx, k⟩ | ⟨tb, ty, kt, k⟩
    · exact ⟨_, rfl, _, _, _, _, true, rfl, .own _, O.ty hx, O.hk, _, rfl, iteF k⟩
    · exact ⟨_, rfl, _, _, tb, _, false, rfl, .own _, ty, kt, _, rfl, iteT ⟨_, rfl, fun d hd => k d _ (same_upd hd) upd_same⟩⟩
abbrev NAreNames : List Str := ["thing", "each"]
theorem scAreNames : FnScope NAreNames ["thing"] (defScope sAreNames) := ⟨rfl, rfl, rfl, by decide +kernel, rfl, by decide +kernel, by decide +kernel⟩
theorem ok_areNames {f fN : Addr} {fd fdN : FuncData} (F : Fun K "are_names" "are_names" sAreNames f fd) (ml : mg "len" = none) (ma : mg "all" = none) (g40 : ∃ t, mg "MOST_NAMES" = some (.int 40 t))
    (GN : FnOk P w K mg base CX0 1 fN fdN ["thing"] spIsName) (kN : PySem.W.keepIn K (.ref fN) = true) (bN : Binds K fdN ["thing"] []) (gN : mg "is_name" = some (.ref fN)) : FnOk P w K mg base CX0 2 f fd ["thing"] spAreNames := by
  obtain ⟨t40, g40⟩ := g40
  refine F.ok scAreNames (fun vs H Q E h => ?_) (fun cdv A outer s H vs Q E hr h => ?_)
  · obtain ⟨a, ws, rfl, _⟩ := h
    rfl
  · obtain ⟨a, ws, rfl, ha, hw, l64, q⟩ := h
    have r1 : Room 1 _ := hr.mono (by decide)
    refine ⟨_, pss_one (ps_ret (pe_and (pe_chain op_le op_le pe_int (pe_callB call_len_seq (by rfl) ml PySem.boot_len (pa_cons (pv 0) pa_nil)) (pe_glob (v := .int 40) (by rfl) g40 ⟨_, rfl⟩)) (pe_one (pe_callB (cr_all rfl) (by rfl) ma (by decide +kernel) (pa_cons (pe_lc (own := [("each", 1)]) (g := gName 1) (te := tCall spIsName [] E0 (tCons (tVar 1) tNil)) rfl scAreNames.nd (pi_or (pi_list (pv 0)) (pi_tup (pv 0))) (blkOk_by (N := NAreNames) (sc := defScope sAreNames) (by decide +kernel))
        (fun _ _ _ _ _ => pg_name (i := 1) scAreNames.nd rfl (Or.inl rfl)) (fun _ _ _ _ _ => pts_nil) (fun _ _ _ _ _ => pe_call GN r1 (by rfl) gN kN bN .nil pass0 (pa_cons (pv 1) pa_nil))) pa_nil))))), ?_⟩
    have hl : SqL K H a ws ∨ SqT K H a ws := ha.elim (fun h => .inl (SqL.of h)) fun h => .inr (SqT.of h)
    refine ⟨_, rfl, a, ws, rfl, hl, _, _, rfl, rfl, _, rfl, ?_⟩
    have q' : ∀ H', Same H H' → Q (.bl (decide (1 ≤ ws.length) && decide (ws.length ≤ 40) && ws.all nameV)) H' := q
    cases h1 : decide (1 ≤ ws.length) with
    | false =>
      rw [h1, Bool.false_and, Bool.false_and] at q'
      have e1 : decide ((1 : Int) ≤ ws.length) = false := by
        have := of_decide_eq_false h1
        exact decide_eq_false (by omega)
      rw [e1]
      exact iteF ⟨_, rfl, iteF (q' H (Same.refl H))⟩
    | true =>
    have e1 : decide ((1 : Int) ≤ ws.length) = true := by
      have := of_decide_eq_true h1
      exact decide_eq_true (by omega)
    rw [e1]
    refine iteT ⟨_, _, rfl, rfl, _, rfl, ?_⟩
    cases h2 : decide (ws.length ≤ 40) with
    | false =>
      rw [h1, h2, Bool.and_false, Bool.false_and] at q'
      have e2 : decide ((ws.length : Int) ≤ 40) = false := by
        have := of_decide_eq_false h2
        exact decide_eq_false (by omega)
      rw [e2]
      exact iteF (q' H (Same.refl H))
    | true =>
    have e2 : decide ((ws.length : Int) ≤ 40) = true := by
      have := of_decide_eq_true h2
      exact decide_eq_true (by omega)
    rw [e2]
    rw [h1, h2, Bool.true_and, Bool.true_and] at q'
    refine iteT ?_
    rcases ha with ha | ha
    · refine .inl ⟨_, rfl, a, rfl, ⟨_, SqL.of ha⟩, fun D nD => ?_⟩
      have aD : ∀ {a : Addr} {o : HO}, H a = some o → a ≠ D := fun {a o} e => ne_of_none e nD
      refine lc_it (walk_list (K := K) (a := a) (xs := ws)) (fun i G => (∀ a o, a ≠ D → H a = some o → G a = some o) ∧ G D = some (.lst (((ws.take i).map nameV).map V.bl))) ⟨fun a o n e => by rw [upd_ne n]; exact e, upd_same⟩ (fun i G _ h => SqL.of (h.1 _ _ (aD ha) ha)) ?_ ?_
      · rintro i x G G' hi ⟨kp, hd⟩ ⟨rfl, hx⟩
        have sG : Same H G' := fun a o e => kp a o (aD e) e
        refine ⟨rfl, _, rfl, x, rfl, (hw x (List.mem_of_getElem? hx)).same sG, fun H2 s2 => ⟨_, s2 _ _ hd, by simp only [List.length_map, List.length_take, sizeLine_eq]; omega, fun c o n e => by rw [upd_ne n]; exact s2 _ _ (kp c o n e), ?_⟩⟩
        rw [upd_same, List.take_add_one, hx, List.map_append, List.map_append]
        rfl
      · rintro G ⟨kp, hd⟩
        rw [List.take_of_length_le (Nat.le_refl _)] at hd
        have sG : Same H G := fun a o e => kp a o (aD e) e
        refine ⟨D, _, rfl, SqL.of hd, ?_⟩
        rw [List.all_map]
        exact q' G sG
    · refine .inr ⟨_, rfl, a, rfl, ⟨_, SqT.of ha⟩, fun D nD => ?_⟩
      have aD : ∀ {a : Addr} {o : HO}, H a = some o → a ≠ D := fun {a o} e => ne_of_none e nD
      refine lc_it (walk_tup (K := K) (a := a) (xs := ws)) (fun i G => (∀ a o, a ≠ D → H a = some o → G a = some o) ∧ G D = some (.lst (((ws.take i).map nameV).map V.bl))) ⟨fun a o n e => by rw [upd_ne n]; exact e, upd_same⟩ (fun i G _ h => SqT.of (h.1 _ _ (aD ha) ha)) ?_ ?_
      · rintro i x G G' hi ⟨kp, hd⟩ ⟨rfl, hx⟩
        have sG : Same H G' := fun a o e => kp a o (aD e) e
        refine ⟨rfl, _, rfl, x, rfl, (hw x (List.mem_of_getElem? hx)).same sG, fun H2 s2 => ⟨_, s2 _ _ hd, by simp only [List.length_map, List.length_take, sizeLine_eq]; omega, fun c o n e => by rw [upd_ne n]; exact s2 _ _ (kp c o n e), ?_⟩⟩
        rw [upd_same, List.take_add_one, hx, List.map_append, List.map_append]
        rfl
      · rintro G ⟨kp, hd⟩
        rw [List.take_of_length_le (Nat.le_refl _)] at hd
        have sG : Same H G := fun a o e => kp a o (aD e) e
        refine ⟨D, _, rfl, SqL.of hd, ?_⟩
        rw [List.all_map]
        exact q' G sG
abbrev NIsPaper : List Str := ["thing", "one", "other"]
theorem scIsPaper : FnScope NIsPaper ["thing"] (defScope sIsPaper) := ⟨rfl, rfl, rfl, by decide +kernel, rfl, by decide +kernel, by decide +kernel⟩
theorem ok_isPaper {f fN : Addr} {fd fdN : FuncData} (F : Fun K "is_paper" "is_paper" sIsPaper f fd) (mi : mg "isinstance" = none) (mt : mg "tuple" = none) (ma : mg "all" = none) (mz : mg "zip" = none)
    (GN : FnOk P w K mg base CX0 2 fN fdN ["thing"] spAreNames) (kN : PySem.W.keepIn K (.ref fN) = true) (bN : Binds K fdN ["thing"] []) (gN : mg "are_names" = some (.ref fN)) : FnOk P w K mg base CX0 3 f fd ["thing"] spIsPaper := by
  refine F.ok scIsPaper (fun vs H Q E h => ?_) (fun cdv A outer s H vs Q E hr h => ?_)
  · obtain ⟨x, rfl, _⟩ := h
    rfl
  · obtain ⟨x, rfl, hx, q⟩ := h
    have r2 : Room 2 _ := hr.mono (by decide)
    obtain ⟨t, ty, _, _, _, k4⟩ := hx.th.ty (K := K)
    refine ⟨_, pss_cons (ps_if (PW.pt (pw_or (pt_not (pt_val (isb (i := 0) mi mt PyProof.Rows.boot_tuple))) (pw_or1 (pt_not (pt_val (pe_call GN r2 (by rfl) gN kN bN .nil pass0 (pa_cons (pv 0) pa_nil))))))) (pss_one (ps_ret pe_bl)) pss_nil)
      (pss_one (ps_ret (pe_callB (cr_all rfl) (by rfl) ma (by decide +kernel) (pa_cons (pe_lc (own := [("one", 1), ("other", 2)]) (g := gTup K 2 (gCons (gName 1) (gCons (gName 2) gNil))) (te := tOp (fun x y H Q => ∃ i j, x = .str i ∧ y = .str j ∧ Q (.bl (decide (i.cps.toList < j.cps.toList))) H) (tVar 1) (tVar 2)) rfl scIsPaper.nd (RZ.pi_zipA (by rfl) mz (pa_cons (pv 0) (pa_cons (pe_slice sl_tupE (pv 0) (po_some pe_int) po_none) pa_nil))) (blkOk_by (N := NIsPaper) (sc := defScope sIsPaper) (by decide +kernel))
        (fun _ _ _ _ _ => pg_tup rfl (pgs_cons (pg_name (i := 1) scIsPaper.nd rfl (Or.inl rfl)) (pgs_cons (pg_name (i := 2) scIsPaper.nd rfl (Or.inl rfl)) pgs_nil))) (fun _ _ _ _ _ => pts_nil) (fun _ _ _ _ _ => by exact pe_cmpR op_lt_str (pv 1) (pv 2) (nomark _))) pa_nil)))), ?_⟩
    refine ⟨_, rfl, _, _, _, _, _, rfl, .ty "tuple", ty, kit_ty k4, _, rfl, ?_⟩
    unfold paperV at q
    cases ht : tupV H x with
    | none =>
      rw [ht] at q
      exact iteT (q H (Same.refl H))
    | some ws =>
    rw [ht] at q
    obtain ⟨a, rfl, ha⟩ := tupV_of ht
    obtain ⟨l64, hw⟩ := hx.all ws ht
    have q' : ∀ H', Same H H' → Q (.bl (namesL ws && risS (ws.map strV))) H' := q
    refine iteF ⟨_, rfl, a, ws, rfl, .inr ha, hw, l64, fun H1 s1 => ⟨_, rfl, ?_⟩⟩
    cases hn : namesL ws with
    | false =>
      rw [hn, Bool.false_and] at q'
      exact iteT (q' H1 s1)
    | true =>
    rw [hn, Bool.true_and] at q'
    obtain ⟨zs, rfl, n1, n40, nn⟩ := namesL_of hn
    rw [strV_map] at q'
    refine iteF ?_
    have ha1 := s1 _ _ ha
    refine ⟨_, rfl, _, rfl, 1, rfl, a, _, rfl, ha1, fun p H2 s2 hp => ?_⟩
    have ha2 := s2 _ _ ha1
    have e1 : cutV (zs.map V.str) (some 1) none = (zs.drop 1).map V.str := by rw [cutV_tail, List.map_drop]
    rw [e1] at hp
    refine ⟨a, p, _, _, rfl, .inr ⟨SqT.of ha2, SqT.of hp, fun D nD => ?_⟩⟩
    have aD : ∀ {a : Addr} {o : HO}, H2 a = some o → a ≠ D := fun {a o} e => ne_of_none e nD
    refine lc_it (walk_zipT (K := K) (a := a) (b := p) (xs := zs.map V.str) (ys := (zs.drop 1).map V.str) (n := zs.length - 1) (by rw [List.length_map, List.length_map, List.length_drop]; omega)) (fun i G => (∀ a o, a ≠ D → H2 a = some o → G a = some o) ∧ ∃ bs : List Bool, G D = some (.lst (bs.map V.bl)) ∧ bs.length = i ∧ bs.all id = risS (zs.take (i + 1))) ⟨fun a o n e => by rw [upd_ne n]; exact e, [], upd_same, rfl, by obtain ⟨z, r, rfl⟩ := List.exists_cons_of_length_pos (Nat.lt_of_lt_of_le Nat.zero_lt_one n1); rfl⟩ (fun i G _ h => ⟨SqT.of (h.1 _ _ (aD ha2) ha2), SqT.of (h.1 _ _ (aD hp) hp)⟩) ?_ ?_
    · rintro i x G G' hi ⟨kp, bs, hd, lb, hb⟩ ⟨T, y1, y2, rfl, nT, rfl, hx, hy⟩
      obtain ⟨z1, ez1, rfl⟩ := getD_map hx
      obtain ⟨z2, ez2, rfl⟩ := getD_map hy
      rw [List.getElem?_drop, Nat.add_comm] at ez2
      have sT := same_upd (o := .tup [V.str z1, V.str z2]) nT
      refine ⟨T, _, rfl, SqT.of upd_same, rfl, _, _, rfl, _, _, rfl, rfl, rfl, _, rfl, _, rfl, _, _, rfl, rfl, ?_⟩
      refine ⟨_, sT _ _ hd, by rw [List.length_map, lb, sizeLine_eq]; omega, fun c o n e => by rw [upd_ne n]; exact sT _ _ (kp c o n e), bs ++ [ltS z1 z2], by rw [upd_same, List.map_append]; rfl, by rw [List.length_append, lb]; rfl, ?_⟩
      rw [List.all_append, hb, ris_snoc ez1 ez2]
      simp
    · rintro G ⟨kp, bs, hd, lb, hb⟩
      rw [show zs.length - 1 + 1 = zs.length by omega, List.take_of_length_le (Nat.le_refl _)] at hb
      have sG : Same H G := fun b o e => kp b o (aD (s2 _ _ (s1 _ _ e))) (s2 _ _ (s1 _ _ e))
      refine ⟨D, bs, rfl, SqL.of hd, ?_⟩
      rw [hb]
      exact q' G sG
abbrev NNeedPaper : List Str := ["thing"]
abbrev NIsReady : List Str := ["bank", "paper", "ahead", "name"]
abbrev NNeedReady : List Str := ["bank", "paper", "name"]
abbrev NPaperOf : List Str := ["names", "seen", "name"]
def tSeen (P : Program) (w : World) (cP : Addr) (E : XK) : TS := fun Dn σ H => ∃ (a sS : Addr) (zs : List Str) (v2 : Option V), σ = [some (.ref a), some (.ref sS), v2] ∧ (H a = some (.lst (zs.map V.str)) ∨ H a = some (.tup (zs.map V.str))) ∧ H sS = some (SetK P w sS (fun _ => false) 0) ∧ zs.length ≤ 64 ∧ (∀ z, dup [] zs = some z → ∀ (d : Addr) (H' : Hp), Bt [sS] H H' → H' d = some (.xd [(("at" : Str), .str z)]) → E (.ref cP) (some d) H') ∧ (dup [] zs = none → ∀ (v2 : Option V) (H' : Hp), Bt [sS] H H' → Dn.nx [some (.ref a), some (.ref sS), v2] H')
theorem Thg.ty2 {K : PySem.W.Frag} {H : Hp} {x : V} (h : Thg H x) : ∃ T : String, TyX K H x (.type T) ∧ PySem.W.kitAny K (.type T) [.type "list", .type "tuple"] = some (seqV H x).isSome := by
  cases h with
  | non => exact ⟨_, .base .non, kit_two (by decide)⟩
  | bl b => exact ⟨_, .base (.bl b), kit_two (by decide)⟩
  | int i => exact ⟨_, .base (.int i), kit_two (by decide)⟩
  | str z hl ho => exact ⟨_, .base (.str z), kit_two (by decide)⟩
  | lst h => exact ⟨_, .base (.lst h), by rw [seqV_lst h]; exact kit_two (by decide)⟩
  | tup h => exact ⟨_, .base (.tup h), by rw [seqV_tup h]; exact kit_two (by decide)⟩
  | dct h =>
    refine ⟨_, .base (.dK h), ?_⟩
    rw [show seqV H (.ref _) = seqO (H _) from rfl, h]
    exact kit_two (by decide)
abbrev NQsOf : List Str := ["bank", "paper"]
abbrev NShared : List Str := ["one", "other", "name"]
end
end Pk
namespace Pk
open PySem L2
theorem keys_strs {kvs : List (Key × V)} {ns : List Str} {R : Str → V → Prop} (h : TbK kvs ns R) : (kvs.map fun kv => kV kv.1) = ns.map V.str := by
  have e := congrArg (List.map kV) h.1
  rw [List.map_map, List.map_map] at e
  exact e
section
variable {P : Program} {w : World} {K : PySem.W.Frag} {mg : Str → Option Value} {base : Heap} {CB CQ : Addr}
theorem scNamesB : FnScope ["self"] ["self"] (defScope sBNames) := ⟨rfl, rfl, rfl, by decide +kernel, rfl, by decide +kernel, by decide +kernel⟩
theorem ok_namesB {f : Addr} {fd : FuncData} (F : Fun K "names" "Bank.names" sBNames f fd) (C : BCls K CB) (mso : mg "sorted" = none) (mli : mg "list" = none) : FnOk P w K mg base CX0 1 f fd ["self"] (spNamesB CB CQ) := by
  refine F.ok scNamesB (fun vs H Q E h => ?_) (fun cdv A outer s H vs Q E hr h => ?_)
  · obtain ⟨b, k, r, d, B, rfl, _⟩ := h
    rfl
  · obtain ⟨b, k, r, d, B, rfl, hB, hl, q⟩ := h
    refine ⟨_, pss_one (ps_ret (pe_callB cr_sortedS (by rfl) mso (by decide +kernel) (pa_cons (pe_callTy (call_listD rfl) (by rfl) mli (by decide +kernel) (pa_cons (pe_fld (pv 0) rfl) pa_nil)) pa_nil))), ?_⟩
    obtain ⟨dx, hb⟩ := hB.at_
    obtain ⟨kk, ek, tk⟩ := hB.kept
    refine ⟨_, rfl, b, CB, dx, _, _, rfl, hb, C.cls, C.no _ (by decide), lb_kept _ _ _, k, kk, rfl, .inl ek, fun p np => ?_⟩
    rw [keys_strs tk]
    refine ⟨p, B.ns, rfl, SqL.of upd_same, hl, fun ys p2 pm so n2 => ?_⟩
    rw [srt_of pm so]
    have s1 : Same H (upd H p (.lst (B.ns.map V.str))) := same_upd np
    have np2 : H p2 = none := by
      by_cases z : p2 = p
      · subst z; exact np
      · rw [upd_ne z] at n2; exact n2
    exact q p2 _ (s1.trans (same_upd n2)) np2 upd_same
theorem scNamesIn : FnScope ["self", "name"] ["self"] (defScope sBNamesIn) := ⟨rfl, rfl, rfl, by decide +kernel, rfl, by decide +kernel, by decide +kernel⟩
theorem ok_namesIn {f fN : Addr} {fd fdN : FuncData} (F : Fun K "names_in" "Bank.names_in" sBNamesIn f fd) (C : BCls K CB)
    (GN : FnOk P w K mg base CX0 1 fN fdN ["self"] (spNamesB CB CQ)) (MN : Meth K CB "names" fN) (bN : Binds K fdN ["self"] []) : FnOk P w K mg base CX0 2 f fd ["self"] (spNamesInB CB CQ) := by
  refine F.ok scNamesIn (fun vs H Q E h => ?_) (fun cdv A outer s H vs Q E hr h => ?_)
  · obtain ⟨b, k, r, d, B, rfl, _⟩ := h
    rfl
  · obtain ⟨b, k, r, d, B, rfl, hB, hl, q⟩ := h
    have hu := hu_of hr
    refine ⟨_, pss_one (ps_ret (pe_lc (own := [("name", 1)]) (g := gName 1) (tt := tB (tDNotIn (tVar 1) (tFld K (tVar 0) "reasons"))) (te := tVar 1) rfl scNamesIn.nd (pi_list (pe_meth0 (pv 0) C.cls MN GN hr bN .nil pass0)) (blkOk_by (N := ["self", "name"]) (sc := defScope sBNamesIn) (by decide +kernel))
        (fun _ _ _ _ _ => pg_name (i := 1) scNamesIn.nd rfl (Or.inl rfl)) (fun _ _ _ _ _ => pts_one (pt_cmp (pc_dnotin hu (pv 1) (pe_fld (pv 0) rfl)))) (fun _ _ _ _ _ => pv 1))), ?_⟩
    obtain ⟨dx, hb⟩ := hB.at_
    refine ⟨_, rfl, b, dx, _, rfl, hb, lb_meth (by decide) _ _ _, b, k, r, d, B, rfl, hB, hl, fun p H1 s1 np hp => ⟨p, rfl, ⟨_, SqL.of hp⟩, fun D nD => ?_⟩⟩
    have hB1 := hB.same s1
    have hb1 := s1 _ _ hb
    have nD0 : H D = none := by
      cases e : H D with
      | none => rfl
      | some o => rw [s1 _ _ e] at nD; cases nD
    have aD : ∀ {a : Addr} {o : HO}, H1 a = some o → a ≠ D := fun {a o} e => ne_of_none e nD
    refine lc_it (walk_list (K := K) (a := p) (xs := (srt B.ns).map V.str)) (fun i G => (∀ a o, a ≠ D → H1 a = some o → G a = some o) ∧ G D = some (.lst ((((srt B.ns).take i).filter fun n => !decide (n ∈ B.os)).map V.str))) ⟨fun a o n e => by rw [upd_ne n]; exact e, upd_same⟩ (fun i G _ h => SqL.of (h.1 _ _ (aD hp) hp)) ?_ ?_
    · rintro i x G G' hi ⟨kp, hd⟩ ⟨rfl, hx⟩
      obtain ⟨n, hn, rfl⟩ := getD_map hx
      have hBG := hB1.same (H' := G') fun a o e => kp a o (aD e) e
      obtain ⟨o, ho, hs⟩ := hBG.outs.has n
      refine ⟨rfl, _, rfl, _, rfl, b, CB, dx, _, _, rfl, kp _ _ (aD hb1) hb1, C.cls, C.no _ (by decide), lb_reasons _ _ _, r, o, rfl, ho, _, rfl, ?_⟩
      rw [filter_snoc hn, hs]
      cases hno : decide (n ∈ B.os) with
      | true => exact ⟨kp, by rw [if_neg (by decide)]; exact hd⟩
      | false =>
        refine ⟨_, rfl, _, hd, ?_, fun a o n e => by rw [upd_ne n]; exact kp a o n e, by rw [upd_same, if_pos (by decide), List.map_append]; rfl⟩
        have l1 := List.length_filter_le (fun n => !decide (n ∈ B.os)) ((srt B.ns).take i)
        have l2 : ((srt B.ns).take i).length ≤ (srt B.ns).length := by rw [List.length_take]; omega
        rw [List.length_map, sizeLine_eq]
        rw [srt_len] at l2
        omega
    · rintro G ⟨kp, hd⟩
      rw [List.length_map, List.take_of_length_le (Nat.le_refl _)] at hd
      exact q D G (fun a o e => kp a o (aD (s1 _ _ e)) (s1 _ _ e)) nD0 hd
end
end Pk
namespace Pk
open PySem L2
/-- a walk, whatever is done at each step -/
theorem walk_it {J : It} {n : Nat} {G : Hp → Prop} {Y : Nat → Hp → V → Hp → Prop} (w : Walk J n G Y) {H1 : Hp} {Body : (Hp → Prop) → V → Hp → Prop} {Qd : Hp → Prop} (Pv : Nat → Hp → Prop) (h0 : Pv 0 H1) (hG : ∀ i H, i ≤ n → Pv i H → G H)
    (hs : ∀ i x H H', i < n → Pv i H → Y i H x H' → Body (Pv (i + 1)) x H') (hd : ∀ H, Pv n H → Qd H) :
    ∃ W : Nat → Nat → Hp → Prop, (∃ m, W 0 m H1) ∧ ∀ i m H, W i m H →
      (J.stop i H ∧ Qd H) ∨ (J.go i H ∧ ∃ Nx : Hp → Prop, (∀ H', Nx H' → ∃ m', m' < m ∧ W (i + 1) m' H') ∧ ∀ x H', J.yld i H x H' → Body Nx x H') := by
  refine ⟨fun i m H => m = n - i ∧ i ≤ n ∧ Pv i H, ⟨n, by simp, Nat.zero_le _, h0⟩, ?_⟩
  rintro i m H ⟨rfl, hi, p⟩
  have q := hG i H hi p
  by_cases hlt : i < n
  · exact .inr ⟨w.goes i H hlt q, Pv (i + 1), fun H' p' => ⟨n - (i + 1), by omega, rfl, hlt, p'⟩, fun x H' y => hs i x H H' hlt p (w.yields i H x H' hlt q y)⟩
  · have e : i = n := by omega
    subst e
    exact .inl ⟨w.stops H q, hd H p⟩
end Pk
/-! ### enumerate(tuple) -/
namespace Pk
open PySem PySem.Spec PyProof.Rows L2
/-- enumerate of a tuple is made: two new objects -/
theorem enumT_new {v : Value} {oi : Obj} {G : Heap → Prop} (B : Begins v oi G) : Meets (Builtin.«enumerate.__new__» ⟨[.type "enumerate", v], []⟩) (fun _ R s => G s.heap ∧ R (.ok (.ret (.ref (s.heap.push oi).objs.size))) { s with heap := (s.heap.push oi).push { cls := .type "enumerate", data := .fields #[.none, .bool false, .ref s.heap.objs.size, rawInt 0, .none, .none] } }) :=
  .of_wp fun prog w A R s h => by
    obtain ⟨hp, ge, dr, tks, oss⟩ := s
    obtain ⟨g1, g2⟩ := h
    have hsub := sub_enumerate
    have step : ∀ {A' : Around} {E : Value → Shared → Prop} {Q : Value → Shared → Prop}, Q (.ref hp.objs.size) ⟨hp.push oi, ge, dr, tks, oss⟩ → wpAny (model prog w) A' (pyIter v) Q E ⟨hp, ge, dr, tks, oss⟩ := fun q => B.iter prog w _ _ ⟨hp, ge, dr, tks, oss⟩ _ g1 q
    wp_walk using step
    refine wpAny_stack_any fun st => wpAny_pure ?_
    split
    · rename_i c _ _ _ _ _
      cases (c == Value.type "enumerate") <;> (wp_walk using step) <;> exact ⟨_, rfl, g2⟩
    · (wp_walk using step) <;> exact ⟨_, rfl, g2⟩
section
variable {prog : Program} {w : World} {A : Around} {E : Value → Shared → Prop} {s : Shared}
theorem enumT_call {t : Addr} {items : Array Value} {Q : Value → Shared → Prop} (ht : s.heap.IsTuple t items)
    (k : ∀ h', IsEnum h' (s.heap.objs.size + 1) s.heap.objs.size 0 .none → h'.IsTupleIter s.heap.objs.size t 0 → (∀ b o, s.heap.get? b = some o → h'.get? b = some o) → Q (.ref (s.heap.objs.size + 1)) { s with heap := h' }) :
    wpAny (model prog w) A (call (.type "enumerate") [.ref t]) Q E s := by
  refine callType_new F.called_enumerate (by decide) (F.typeCall_enumerate_1 _) (F.newCall_enumerate_1 _) (fun y => F.args_object_init_2 y _) F.entry_enumerate_new (enumT_new (begins_tuple t items)) ⟨ht, ?_⟩
  generalize hoi : ({ cls := .type "tuple_iterator", data := .fields #[.ref t, .int 0 0] } : Obj) = oi
  have sz : (s.heap.push oi).objs.size = s.heap.objs.size + 1 := Heap.size_push ..
  show _ ∧ _
  rw [sz]
  have en : IsEnum ((s.heap.push oi).push { cls := .type "enumerate", data := .fields #[.none, .bool false, .ref s.heap.objs.size, rawInt 0, .none, .none] }) (s.heap.objs.size + 1) s.heap.objs.size 0 .none := by
    have z := Heap.get?_push_size (s.heap.push oi) (o := { cls := .type "enumerate", data := .fields #[.none, .bool false, .ref s.heap.objs.size, rawInt 0, .none, .none] }) rfl
    rw [sz] at z
    exact z
  have nf : oi.isFreed = false := by rw [← hoi]; rfl
  refine ⟨⟨_, en, rfl⟩, k _ en ⟨oi, Heap.get?_push_of_some _ (Heap.get?_push_size _ nf), by rw [← hoi], by rw [← hoi]; rfl⟩ fun b o x => Heap.get?_push_of_some _ (Heap.get?_push_of_some _ x)⟩
end
/-- the tuple at a, each of its things in a new pair with its number -/
def IteT (K : PySem.W.Frag) (a : Addr) : It where
  go := fun i H => ∃ (xs : List V) (x : V), SqT K H a xs ∧ xs[i]? = some x
  yld := fun i H v H' => ∃ T x, v = .ref T ∧ H T = none ∧ H' = upd H T (.tup [.int (i : Nat), x]) ∧ ∀ xs, SqT K H a xs → xs[i]? = some x
  stop := fun i H => ∃ xs : List V, SqT K H a xs ∧ xs.length ≤ i
theorem turn_enumT {P : Program} {w : World} {K : PySem.W.Frag} {elts : List Expr} {kk : Nat} {tpos : Pos} (a e it : Addr) (nai : a ≠ it) (nae : a ≠ e) (nei : e ≠ it) :
    Turn P w K (.Tuple elts kk tpos) (IteT K a) [e, it] e (fun i h => (∃ old, IsEnum h e it ((i : Nat) : Int) old) ∧ h.IsTupleIter it a i) where
  mem := List.mem_cons_self
  obj := fun i h st b hb => by
    obtain ⟨⟨old, he⟩, ⟨oi, hoi, _, hdi⟩⟩ := st
    rcases List.mem_cons.mp hb with rfl | hb
    · exact ⟨_, he, fun v z => nomatch z⟩
    · rw [List.mem_singleton.mp hb]
      exact ⟨oi, hoi, fun v z => by rw [hdi] at z; cases z⟩
  keep := fun i h h' st k => ⟨st.1.imp fun old he => k e List.mem_cons_self _ he, st.2.at fun o z => k it (List.mem_cons_of_mem _ List.mem_cons_self) o z⟩
  item := by
    rintro Y rfl rfl rfl calm i pns s τ G Ex J fp ⟨⟨old, he⟩, hit⟩ ⟨xs, x, hq, hx⟩
    obtain ⟨its, rv, pt, _⟩ := J.tuple hq
    obtain ⟨u, hu, ru⟩ := rv.get hx
    have pt' : s.heap.IsTuple a its.toArray := pt
    have le : e < s.heap.objs.size := Heap.lt_size he
    have li : it < s.heap.objs.size := by obtain ⟨_, z, _⟩ := hit; exact Heap.lt_size z
    have lt : i < its.toArray.size := by
      rw [List.size_toArray]
      exact (List.getElem?_eq_some_iff.mp hu).1
    have hef : e ∉ [it, a] := fun z => by
      rcases List.mem_cons.mp z with z | z
      · exact nei z
      · exact nae (List.mem_singleton.mp z).symm
    refine wpAny_pyNext_enum_itemD (Draws.tuple (A := Y.A.in1) (J.ok.hd calm) it a nai its.toArray) he ⟨hit, pt'⟩ lt nei hef fun y h' tk py ho st' hT hsz hk => ?_
    have ey : y = u := by
      have z : its[i]? = some y := by simpa using py
      rw [hu] at z
      exact (Option.some.inj z).symm
    subst ey
    refine ⟨_, rfl, wpAny_letOwnedTupleGo_enum (s := { s with heap := h', toks := tk + 1 }) ho fun h2 he2 sb => ?_⟩
    have hT2 : h2.get? s.heap.objs.size = some { cls := .type "tuple", data := .seq #[.int i tk, y] } := (sb.2 _ (Nat.ne_of_gt le)).trans hT
    have ok : ObjOk Y.prog Y.w (upd G s.heap.objs.size (.tup [.int (i : Nat), x])) h2 s.heap.objs.size (.tup [.int (i : Nat), x]) := ⟨by show 2 ≤ sizeLine; decide, [.int i tk, y], .cons ⟨_, rfl⟩ (.cons ru .nil), ⟨_, hT2, rfl, _, rfl⟩⟩
    have J2 : Inv Y pns τ (upd G s.heap.objs.size (.tup [.int (i : Nat), x])) { s with heap := h2, toks := tk + 1 } :=
      J.turnedNew (ch := [e, it]) (fun b ob hb z => (sb.2 b fun z' => hb (by rw [z']; exact List.mem_cons_self)).trans (hk b ob (fun z' => hb (by rw [z']; exact List.mem_cons_self)) (fun z' => hb (by rw [z']; exact List.mem_cons_of_mem _ List.mem_cons_self)) z)) fp (Nat.le_refl _) ok
    refine ⟨.ref s.heap.objs.size, _, J2, rfl, ⟨_, x, rfl, J.hok.fresh (Nat.le_refl _), rfl, fun zs hz => by rw [J.tuple_inj hz hq]; exact hx⟩, ⟨⟨y, ?_⟩, st'.1.at fun o z => (sb.2 it (Ne.symm nei)).trans z⟩, fun b hb => ?_⟩
    · rw [show ((i + 1 : Nat) : Int) = (i : Int) + 1 by omega]
      exact he2
    · have lb : b < s.heap.objs.size := by
        rcases List.mem_cons.mp hb with z | z
        · rw [z]; exact le
        · rw [List.mem_singleton.mp z]; exact li
      rw [upd_ne (Nat.ne_of_lt lb)]
      exact (fp b hb).1
  done := by
    rintro Y rfl rfl rfl calm i pns s τ G Ex J fp ⟨⟨old, he⟩, hit⟩ ⟨xs, hq, hx⟩
    obtain ⟨its, rv, pt, _⟩ := J.tuple hq
    have pt' : s.heap.IsTuple a its.toArray := pt
    obtain ⟨f0, f1, f2, f3, f4, f5⟩ := fp it (List.mem_cons_of_mem _ List.mem_cons_self)
    have hl := rv.length
    unfold pyNext
    refine wpAny_bind (wpAny_attempt (wpAny_callSpecial?_slot (name := Str.ofString "__next__") (show s.TypeIs (.ref e) "enumerate" from ⟨_, he, rfl⟩) F.slot_enumerate_next (wpAny_call_entry F.slot_enumerate_next (show s.TypeIs (.ref e) "enumerate" from ⟨_, he, rfl⟩) F.entry_enumerate_next ?_ (F.args_enumerate_next_1 _))))
    show wpAny _ _ (field (.ref e) 2 >>= _) _ _ _
    refine wpAny_bind (wpAny_field he rfl (x := .ref it) rfl (wpAny_bind (wpAny_nextOf_tuple_end (J.ok.hd calm) hit pt' (by simp; omega) fun h' ex eb hxx => ?_)))
    obtain ⟨o, ho, hc⟩ := hxx
    refine wpAny_bind (wpAny_isInstance (T := "StopIteration") (b := true) ⟨o, ho, hc⟩ isSubtype_stop (wpAny_pure ?_))
    exact ⟨rfl, J.turned (t' := s.toks) (fun b o hb z => eb b o hb z) f0 f1 f3 f4 f5⟩
  self := fun A i s Q E st h => by
    obtain ⟨⟨_, he⟩, _⟩ := st
    exact wpAny_pyIter_enum he h
def iEnumT (K : PySem.W.Frag) (ta : TA) : TI := fun σ H R => ta σ H fun vs H1 => ∃ a xs, vs = [.ref a] ∧ SqT K H1 a xs ∧ R (IteT K a) H1
theorem pi_enumT {X : Cx} {e : Expr} {ta : TA} {p pos tpos : Pos} {elts : List Expr} {kk : Nat} (hg : Gl X "enumerate") (hm : X.mg "enumerate" = none) (ha : PA X [e] ta) (he1 : starEach [e] X.env = [(false, eval e X.env)] := by rfl) :
    PI X (.Tuple elts kk tpos) (.Call (.Name "enumerate" p) [e] [] pos) (iEnumT X.K ta) := by
  constructor
  intro pns s τ G R J want
  refine Call_ (ld_blt J hg hm boot_enumerate (PyProof.Rows.callWith_type1 (thn (ha.run pos pns s τ G _ J want) ?_) he1 rfl))
  rintro us s1 ⟨vs, G1, J1, r1, a, xs, rfl, hq, q⟩
  obtain ⟨u, rfl, ru⟩ := vals1 r1
  cases ru
  obtain ⟨its, rv, pt, _⟩ := J1.tuple hq
  obtain ⟨oa, hoa, _⟩ := id pt
  have la : a < s1.heap.objs.size := Heap.lt_size hoa
  refine enumT_call (show s1.heap.IsTuple a its.toArray from pt) fun h' hen hit hk => wpAny_pyIter_enum hen ?_
  have J2 : Inv X pns τ G1 { s1 with heap := h' } := J1.kept (t' := s1.toks) hk
  refine ⟨s1.heap.objs.size + 1, [s1.heap.objs.size + 1, s1.heap.objs.size], _, _, G1, rfl, J2, turn_enumT a (s1.heap.objs.size + 1) s1.heap.objs.size (Nat.ne_of_lt la) (Nat.ne_of_lt (Nat.lt_succ_of_lt la)) (Nat.succ_ne_self _), ⟨⟨.none, hen⟩, hit⟩, fun b hb => ?_, q⟩
  have hle : s1.heap.objs.size ≤ b := by
    rcases List.mem_cons.mp hb with z | z
    · rw [z]; exact Nat.le_add_right _ _
    · rw [List.mem_singleton.mp z]; exact Nat.le_refl _
  exact J1.fpOk hle (J1.hok.fresh hle)
theorem walk_enumT {K : PySem.W.Frag} {a : Addr} {xs : List V} : Walk (IteT K a) xs.length (fun H => SqT K H a xs) (YPair (fun i => some (.int (i : Nat))) (fun i => xs[i]?)) := by
  constructor
  · exact fun i _ hi q => ⟨xs, xs[i], q, by simp [hi]⟩
  · exact fun _ q => ⟨xs, q, Nat.le_refl _⟩
  · rintro i H v H' _ q ⟨T, x, h1, h2, h3, h4⟩
    exact ⟨T, .int (i : Nat), x, h1, h2, h3, rfl, h4 xs q⟩
end Pk
namespace Pk
open PySem L2
/-! ### papers handed together -/
/-- papers in a list or a tuple -/
structure PsAt (H : Hp) (a : Addr) (ps : List Addr) (zss : List (List Str)) : Prop where
  at_ : H a = some (.lst (ps.map V.ref)) ∨ H a = some (.tup (ps.map V.ref))
  pa : Paired (fun p zs => H p = some (.tup (zs.map V.str))) ps zss
  pap : ∀ zs ∈ zss, Pap zs
  le : zss.length ≤ 10
  few : ∀ zs ∈ zss, zs.length ≤ 5
theorem paired_by {α β : Type} {R R' : α → β → Prop} {xs : List α} {ys : List β} (p : Paired R xs ys) (k : ∀ a b, R a b → R' a b) : Paired R' xs ys := by
  induction p with
  | nil => exact .nil
  | cons h t ih => exact .cons (k _ _ h) ih
theorem paired_get {α β : Type} {R : α → β → Prop} : ∀ {xs : List α} {ys : List β} {i : Nat} {x : α}, Paired R xs ys → xs[i]? = some x → ∃ y, ys[i]? = some y ∧ R x y
  | _, _, _, _, .nil, e => by cases e
  | _, _, 0, _, .cons r _, e => by cases e; exact ⟨_, rfl, r⟩
  | _, _, i + 1, _, .cons _ t, e => paired_get (i := i) t e
theorem PsAt.by {H H' : Hp} {a : Addr} {ps : List Addr} {zss : List (List Str)} (h : PsAt H a ps zss) (s1 : ∀ L, H a = some (.lst L) → H' a = some (.lst L)) (s2 : ∀ q L, H q = some (.tup L) → H' q = some (.tup L)) : PsAt H' a ps zss := ⟨h.at_.imp (s1 _) (s2 _ _), paired_by h.pa fun p zs e => s2 _ _ e, h.pap, h.le, h.few⟩
theorem PsAt.same {H H' : Hp} {a : Addr} {ps : List Addr} {zss : List (List Str)} (h : PsAt H a ps zss) (s : Same H H') : PsAt H' a ps zss := h.by (fun _ e => s _ _ e) fun _ _ e => s _ _ e
theorem flat_le : ∀ {zss : List (List Str)}, (∀ zs ∈ zss, zs.length ≤ 5) → zss.flatten.length ≤ 5 * zss.length
  | [], _ => Nat.le_refl _
  | z :: r, h => by
    rw [List.flatten_cons, List.length_append, List.length_cons]
    have h1 := h z List.mem_cons_self
    have h2 := flat_le fun zs hz => h zs (List.mem_cons_of_mem _ hz)
    omega
def spNeedPs : Sp := fun vs H Q _ => ∃ (a : Addr) (ps : List Addr) (zss : List (List Str)), vs = [.ref a] ∧ PsAt H a ps zss ∧ ∀ H', Same H H' → Q .non H'
def spNamesOf : Sp := fun vs H Q _ => ∃ (a : Addr) (ps : List Addr) (zss : List (List Str)), vs = [.ref a] ∧ PsAt H a ps zss ∧ ∀ (D : Addr) (H' : Hp), Same H H' → H D = none → H' D = some (.lst (zss.flatten.map V.str)) → Q (.ref D) H'
def spApart : Sp := fun vs H Q _ => ∃ (a : Addr) (ps : List Addr) (zss : List (List Str)), vs = [.ref a] ∧ PsAt H a ps zss ∧ ∀ H', Same H H' → Q (.bl (decide zss.flatten.Nodup)) H'
def spWithout (K : PySem.W.Frag) : Sp := fun vs H Q _ => ∃ (a b : Addr) (ns os : List Str), vs = [.ref a, .ref b] ∧ H a = some (.lst (ns.map V.str)) ∧ H b = some (.lst (os.map V.str)) ∧ ns.length ≤ 1000 ∧ ∀ (p : Addr) (H' : Hp), Same H H' → H' p = some (.tup ((ns.filter fun n => !decide (n ∈ os)).map V.str)) → Q (.ref p) H'
def spLeft (CB CQ : Addr) : Sp := fun vs H Q _ => ∃ (b k r d a : Addr) (B : BD) (ps : List Addr) (zss : List (List Str)), vs = [.ref b, .ref a] ∧ BankAt CB CQ H b k r d B ∧ B.ns.length ≤ 60 ∧ PsAt H a ps zss ∧
  ∀ (p : Addr) (H' : Hp), Same H H' → H p = none → H' p = some (.lst ((B.ins.filter fun n => !decide (n ∈ zss.flatten)).map V.str)) → Q (.ref p) H'
theorem less_of {l : List Str} : ¬ l.Nodup → ∃ r : List Str, r.length < l.length ∧ ∀ z ∈ l, z ∈ r := by
  induction l with
  | nil => exact fun h => absurd List.nodup_nil h
  | cons x t ih =>
    intro h
    by_cases hx : x ∈ t
    · exact ⟨t, by simp, fun z hz => (List.mem_cons.mp hz).elim (fun e => by rw [e]; exact hx) id⟩
    · obtain ⟨r, l, k⟩ := ih fun n => h (List.nodup_cons.mpr ⟨hx, n⟩)
      exact ⟨x :: r, by simp; exact l, fun z hz => (List.mem_cons.mp hz).elim (fun e => by rw [e]; exact List.mem_cons_self) fun m => List.mem_cons_of_mem _ (k z m)⟩
section
variable {P : Program} {w : World} {K : PySem.W.Frag} {mg : Str → Option Value} {base : Heap} {CB CQ : Addr}
abbrev NNeedPs : List Str := ["thing", "number", "paper"]
theorem scNeedPs : FnScope NNeedPs ["thing"] (defScope sNeedPs) := ⟨rfl, rfl, rfl, by decide +kernel, rfl, by decide +kernel, by decide +kernel⟩
theorem ok_needPs {f fI cP fP : Addr} {fd fdP : FuncData} (F : Fun K "need_papers" "need_papers" sNeedPs f fd) (TP : TxBP K mg cP fI) (mi : mg "isinstance" = none) (mli : mg "list" = none) (mt : mg "tuple" = none) (me : mg "enumerate" = none)
    (GP : FnOk P w K mg base CX0 3 fP fdP ["thing"] spIsPaper) (kP : PySem.W.keepIn K (.ref fP) = true) (bP : Binds K fdP ["thing"] []) (gP : mg "is_paper" = some (.ref fP)) :
    FnOk P w K mg base (L2.CX P w) 4 f fd ["thing"] spNeedPs := by
  refine F.okX scNeedPs (fun vs H Q E h => ?_) (fun cdv A outer s H vs Q E hr h => ?_)
  · obtain ⟨a, ps, zss, rfl, _⟩ := h
    rfl
  · obtain ⟨a, ps, zss, rfl, hP, fin⟩ := h
    have r3 : Room 3 _ := hr.mono (by decide)
    refine ⟨_, pss_cons (ps_if (pt_not (pt_val (pe_callB call_isiT (by rfl) mi (by decide +kernel) (pa_cons (pv 0) (pa_cons (pe_tup (pa_cons (pe_bltn (v := .ty "list") (by rfl) mli PyProof.Rows.boot_list rfl) (pa_cons (pe_bltn (v := .ty "tuple") (by rfl) mt PyProof.Rows.boot_tuple rfl) pa_nil))) pa_nil))))) (pss_one (ps_raiseE_at rfl TP hr (takes_of rfl rfl rfl rfl) (by exact (pa_cons pe_non pa_nil)))) pss_nil)
      (pss_one (ps_for (passes_of rfl) rfl (pi_or (pi_enum (by rfl) me (pa_cons (pv 0) pa_nil)) (pi_enumT (by rfl) me (pa_cons (pv 0) pa_nil))) (pg_tup rfl (pgs_cons (pg_name (i := 1) scNeedPs.nd rfl (.inl rfl)) (pgs_cons (pg_name (i := 2) scNeedPs.nd rfl (.inl rfl)) pgs_nil)))
        (pss_one (ps_if (pt_not (pt_val (pe_call GP r3 (by rfl) gP kP bP .nil pass0 (pa_cons (pv 2) pa_nil))))
          (pss_one (ps_raiseE_at rfl TP hr (takes_of rfl rfl rfl rfl) (by exact (pa_cons (pv 1) pa_nil)))) pss_nil)))), ?_⟩
    refine ⟨_, rfl, by show 2 ≤ sizeLine; decide, fun t nt => ?_⟩
    have s1 := same_upd (o := .tup [.ty "list", .ty "tuple"]) nt
    have ht : upd H t (.tup [.ty "list", .ty "tuple"]) t = some (.tup [.ty "list", .ty "tuple"]) := upd_same
    generalize upd H t (.tup [.ty "list", .ty "tuple"]) = H1 at s1 ht ⊢
    have hP1 := hP.same s1
    have go : ∀ (j : Nat) (y : V) (G : Hp), Same H1 G → (ps.map V.ref)[j]? = some y → ThP G y ∧ paperV G y = true := by
      intro j y G sG fy
      obtain ⟨p, ep, rfl⟩ := getD_map fy
      obtain ⟨zs, ez, hp⟩ := paired_get hP1.pa ep
      have hp := sG _ _ hp
      have pz := hP1.pap zs (List.mem_of_getElem? ez)
      refine ⟨⟨.tup hp, fun ws e => ?_⟩, ?_⟩
      · rw [tupV_at hp] at e
        cases e
        refine ⟨by rw [List.length_map]; have := pz.most; omega, fun v hv => ?_⟩
        obtain ⟨z, hz, rfl⟩ := List.mem_map.mp hv
        exact name_thg (pz.nm z hz)
      · unfold paperV
        rw [tupV_at hp]
        exact paperL_str.mpr pz
    rcases hP1.at_ with hl1 | hl1
    · refine ⟨.ref a, t, [.ty "list", .ty "tuple"], .type "list", [.type "list", .type "tuple"], true, rfl, ht, .cons (.ty _) (.cons (.ty _) .nil), .base (.lst hl1), kit_two (by decide), _, rfl, iteF ?_⟩
      refine .inl ⟨_, rfl, a, _, rfl, SqL.of hl1, ?_⟩
      refine for_it (walk_enum (K := K) (a := a) (xs := ps.map V.ref)) (fun j σ G => (∃ v1 v2, σ = [some (.ref a), v1, v2]) ∧ Same H1 G) ⟨⟨_, _, rfl⟩, Same.refl _⟩ (fun j σ G _ ⟨_, e⟩ => SqL.of (e _ _ hl1)) ?_ ?_
      · rintro j x σ G G' hj ⟨⟨v1, v2, rfl⟩, sG⟩ ⟨T0, x1, x2, rfl, nT, rfl, f1, f2⟩
        dsimp only at f1 f2
        obtain rfl := Option.some.inj f1
        have sT := sG.trans (same_upd (o := .tup [.int (j : Nat), x2]) nT)
        refine ⟨T0, _, rfl, SqT.of upd_same, rfl, _, _, rfl, _, _, rfl, rfl, ?_⟩
        generalize upd G T0 (.tup [.int (j : Nat), x2]) = G1 at sT ⊢
        obtain ⟨th, pt⟩ := go j x2 G1 sT f2
        refine ⟨_, rfl, x2, rfl, th, fun G2 s2 => ⟨_, rfl, ?_⟩⟩
        rw [pt]
        exact iteF ⟨⟨_, _, rfl⟩, sT.trans s2⟩
      · rintro σ G ⟨⟨v1, v2, rfl⟩, sG⟩
        exact fin G (s1.trans sG)
    · refine ⟨.ref a, t, [.ty "list", .ty "tuple"], .type "tuple", [.type "list", .type "tuple"], true, rfl, ht, .cons (.ty _) (.cons (.ty _) .nil), .base (.tup hl1), kit_two (by decide), _, rfl, iteF ?_⟩
      refine .inr ⟨_, rfl, a, _, rfl, SqT.of hl1, ?_⟩
      refine for_it (walk_enumT (K := K) (a := a) (xs := ps.map V.ref)) (fun j σ G => (∃ v1 v2, σ = [some (.ref a), v1, v2]) ∧ Same H1 G) ⟨⟨_, _, rfl⟩, Same.refl _⟩ (fun j σ G _ ⟨_, e⟩ => SqT.of (e _ _ hl1)) ?_ ?_
      · rintro j x σ G G' hj ⟨⟨v1, v2, rfl⟩, sG⟩ ⟨T0, x1, x2, rfl, nT, rfl, f1, f2⟩
        dsimp only at f1 f2
        obtain rfl := Option.some.inj f1
        have sT := sG.trans (same_upd (o := .tup [.int (j : Nat), x2]) nT)
        refine ⟨T0, _, rfl, SqT.of upd_same, rfl, _, _, rfl, _, _, rfl, rfl, ?_⟩
        generalize upd G T0 (.tup [.int (j : Nat), x2]) = G1 at sT ⊢
        obtain ⟨th, pt⟩ := go j x2 G1 sT f2
        refine ⟨_, rfl, x2, rfl, th, fun G2 s2 => ⟨_, rfl, ?_⟩⟩
        rw [pt]
        exact iteF ⟨⟨_, _, rfl⟩, sT.trans s2⟩
      · rintro σ G ⟨⟨v1, v2, rfl⟩, sG⟩
        exact fin G (s1.trans sG)
abbrev NWithout : List Str := ["names", "others", "name"]
theorem scWithout : FnScope NWithout ["names", "others"] (defScope sWithout) := ⟨rfl, rfl, rfl, by decide +kernel, rfl, by decide +kernel, by decide +kernel⟩
theorem ok_without {f : Addr} {fd : FuncData} (F : Fun K "names_without" "names_without" sWithout f fd) (mt : mg "tuple" = none) : FnOk P w K mg base CX0 1 f fd ["names", "others"] (spWithout K) := by
  refine F.ok scWithout (fun vs H Q E h => ?_) (fun cdv A outer s H vs Q E hr h => ?_)
  · obtain ⟨a, b, ns, os, rfl, _⟩ := h
    rfl
  · obtain ⟨a, b, ns, os, rfl, ha, hb, l9, fin⟩ := h
    refine ⟨_, pss_one (ps_ret (pe_callTy call_tuple_of (by rfl) mt PyProof.Rows.boot_tuple (pa_cons (pe_lc (own := [("name", 2)]) (g := gName 2) (tt := tTest (tOp (rIn K true) (tVar 2) (tVar 1))) (te := tVar 2) rfl scWithout.nd (pi_list (pv 0)) (blkOk_by (N := NWithout) (sc := defScope sWithout) (by decide +kernel)) (fun _ _ _ _ _ => pg_name (i := 2) scWithout.nd rfl (Or.inl rfl)) (fun _ _ _ _ _ => by exact pts_one (pt_cmpR (r := rIn K true) (hm := by rfl) (by exact op_notIn_seq) (pv 2) (pv 1))) (fun _ _ _ _ _ => pv 2)) pa_nil))), ?_⟩
    refine ⟨_, rfl, a, rfl, ⟨_, SqL.of ha⟩, fun D nD => ?_⟩
    have aD : ∀ {a : Addr} {o : HO}, H a = some o → a ≠ D := fun {a o} e => ne_of_none e nD
    refine lc_it (walk_list (K := K) (a := a) (xs := ns.map V.str)) (fun i G => (∀ c u, c ≠ D → H c = some u → G c = some u) ∧ G D = some (.lst (((ns.take i).filter fun n => !decide (n ∈ os)).map V.str))) ⟨fun a u n e => by rw [upd_ne n]; exact e, upd_same⟩ (fun i G _ h => SqL.of (h.1 _ _ (aD ha) ha)) ?_ ?_
    · rintro i y G0 G hi ⟨kp, hd⟩ ⟨rfl, hy⟩
      obtain ⟨z, ez, rfl⟩ := getD_map hy
      have hb1 := kp _ _ (aD hb) hb
      have lf := List.length_filter_le (fun n => !decide (n ∈ os)) (ns.take i)
      rw [List.length_take] at lf
      refine ⟨rfl, _, rfl, _, rfl, b, _, rfl, .inl (SqL.of hb1), rfl, List.all_eq_true.mpr (fun v hv => by obtain ⟨z, _, rfl⟩ := List.mem_map.mp hv; rfl), _, rfl, ?_⟩
      rw [in_strs, filter_snoc ez]
      by_cases hm : z ∈ os
      · rw [if_neg (show ¬ (!decide (z ∈ os)) = true by simp [hm])]
        exact iteF' (by simp [hm]) ⟨kp, hd⟩
      · rw [if_pos (show (!decide (z ∈ os)) = true by simp [hm])]
        exact iteT' (by simp [hm]) ⟨_, rfl, _, hd, by rw [List.length_map, sizeLine_eq]; omega, fun c o n e => by rw [upd_ne n]; exact kp c o n e, by rw [upd_same, List.map_append]; rfl⟩
    rintro G ⟨kp, hd⟩
    rw [List.length_map, List.take_of_length_le (Nat.le_refl _)] at hd
    have sG : Same H G := fun a u e => kp a u (aD e) e
    exact ⟨D, _, rfl, .inl ⟨SqL.of hd, fun T nT => fin T _ (sG.trans (same_upd nT)) upd_same⟩⟩
abbrev NNamesOf : List Str := ["papers", "paper", "name"]
theorem scNamesOf : FnScope NNamesOf ["papers"] (defScope sNamesOf) := ⟨rfl, rfl, rfl, by decide +kernel, rfl, by decide +kernel, by decide +kernel⟩
theorem ok_namesOf {f : Addr} {fd : FuncData} (F : Fun K "names_of" "names_of" sNamesOf f fd) : FnOk P w K mg base CX0 1 f fd ["papers"] spNamesOf := by
  refine F.ok scNamesOf (fun vs H Q E h => ?_) (fun cdv A outer s H vs Q E hr h => ?_)
  · obtain ⟨a, ps, zss, rfl, _⟩ := h
    rfl
  · obtain ⟨a, ps, zss, rfl, hP, fin⟩ := h
    refine ⟨_, pss_one (ps_ret (pe_lc2 (own := [("paper", 1), ("name", 2)]) (vs1 := [2]) (g := gName 1) (g1 := gName 2) (wi1 := iTup K (tVar 1)) (tt := tYes) (tt1 := tYes) (te := tVar 2) rfl scNamesOf.nd (pi_or (pi_list (pv 0)) (pi_tup (pv 0))) (blkOk_by (N := NNamesOf) (sc := defScope sNamesOf) (by decide +kernel)) (by decide) (fun _ _ _ _ _ => pg_name (i := 1) scNamesOf.nd rfl (Or.inl rfl)) (fun _ _ _ _ _ => pts_nil) (fun _ _ _ _ _ => pi_tup (pv 1)) (fun _ _ _ _ _ => pg_name (i := 2) scNamesOf.nd rfl (Or.inl rfl)) (fun _ _ _ _ _ => pts_nil) (fun _ _ _ _ _ => pv 2))), ?_⟩
    have fl := flat_le hP.few
    have lp := Paired.length hP.pa
    have le := hP.le
    have main : ∀ (J : It) (Gd : Hp → Prop) (Yd : Nat → Hp → V → Hp → Prop), True := fun _ _ _ => trivial
    rcases hP.at_ with ha | ha
    · refine .inl ⟨_, rfl, a, rfl, ⟨_, SqL.of ha⟩, fun D nD => ?_⟩
      have aD : ∀ {a : Addr} {o : HO}, H a = some o → a ≠ D := fun {a o} e => ne_of_none e nD
      refine walk_it (walk_list (K := K) (a := a) (xs := ps.map V.ref)) (fun i G => (∀ c u, c ≠ D → H c = some u → G c = some u) ∧ G D = some (.lst ((zss.take i).flatten.map V.str))) ⟨fun a u n e => by rw [upd_ne n]; exact e, upd_same⟩ (fun i G _ h => SqL.of (h.1 _ _ (aD ha) ha)) ?_ ?_
      · rintro i y G0 G hi ⟨kp, hd⟩ ⟨rfl, hy⟩
        obtain ⟨p, ep, rfl⟩ := getD_map hy
        obtain ⟨zs, ez, hp⟩ := paired_get hP.pa ep
        have hp1 := kp _ _ (aD hp) hp
        have ft : (zss.take (i + 1)).flatten = (zss.take i).flatten ++ zs := by rw [List.take_add_one, ez, List.flatten_append]; simp
        have fle : (zss.take i).flatten.length ≤ 50 := by
          have := flat_le (zss := zss.take i) fun z hz => hP.few z (List.mem_of_mem_take hz)
          rw [List.length_take] at this
          omega
        have z5 := hP.few zs (List.mem_of_getElem? ez)
        refine ⟨rfl, _, rfl, p, rfl, ⟨_, SqT.of hp1⟩, ?_⟩
        refine walk_it (walk_tup (K := K) (a := p) (xs := zs.map V.str)) (fun j X => (∀ c u, c ≠ D → H c = some u → X c = some u) ∧ X D = some (.lst (((zss.take i).flatten ++ zs.take j).map V.str))) ⟨kp, by rw [List.take_zero, List.append_nil]; exact hd⟩ (fun j X _ h => SqT.of (h.1 _ _ (aD hp) hp)) ?_ ?_
        · rintro j y X0 X hj ⟨kp2, hd2⟩ ⟨rfl, hy2⟩
          obtain ⟨z, ezz, rfl⟩ := getD_map hy2
          refine ⟨rfl, _, rfl, _, hd2, by rw [List.length_map, List.length_append, List.length_take, sizeLine_eq]; omega, fun c o n e => by rw [upd_ne n]; exact kp2 c o n e, ?_⟩
          rw [upd_same, List.take_add_one, ezz, ← List.append_assoc, show (some z).toList = [z] from rfl, List.map_append (l₂ := [z])]
          rfl
        · rintro X ⟨kp2, hd2⟩
          rw [List.length_map, List.take_of_length_le (Nat.le_refl _), ← ft] at hd2
          exact ⟨kp2, hd2⟩
      rintro G ⟨kp, hd⟩
      rw [List.length_map, lp, List.take_of_length_le (Nat.le_refl _)] at hd
      exact fin D G (fun a u e => kp a u (aD e) e) nD hd
    · refine .inr ⟨_, rfl, a, rfl, ⟨_, SqT.of ha⟩, fun D nD => ?_⟩
      have aD : ∀ {a : Addr} {o : HO}, H a = some o → a ≠ D := fun {a o} e => ne_of_none e nD
      refine walk_it (walk_tup (K := K) (a := a) (xs := ps.map V.ref)) (fun i G => (∀ c u, c ≠ D → H c = some u → G c = some u) ∧ G D = some (.lst ((zss.take i).flatten.map V.str))) ⟨fun a u n e => by rw [upd_ne n]; exact e, upd_same⟩ (fun i G _ h => SqT.of (h.1 _ _ (aD ha) ha)) ?_ ?_
      · rintro i y G0 G hi ⟨kp, hd⟩ ⟨rfl, hy⟩
        obtain ⟨p, ep, rfl⟩ := getD_map hy
        obtain ⟨zs, ez, hp⟩ := paired_get hP.pa ep
        have hp1 := kp _ _ (aD hp) hp
        have ft : (zss.take (i + 1)).flatten = (zss.take i).flatten ++ zs := by rw [List.take_add_one, ez, List.flatten_append]; simp
        have fle : (zss.take i).flatten.length ≤ 50 := by
          have := flat_le (zss := zss.take i) fun z hz => hP.few z (List.mem_of_mem_take hz)
          rw [List.length_take] at this
          omega
        have z5 := hP.few zs (List.mem_of_getElem? ez)
        refine ⟨rfl, _, rfl, p, rfl, ⟨_, SqT.of hp1⟩, ?_⟩
        refine walk_it (walk_tup (K := K) (a := p) (xs := zs.map V.str)) (fun j X => (∀ c u, c ≠ D → H c = some u → X c = some u) ∧ X D = some (.lst (((zss.take i).flatten ++ zs.take j).map V.str))) ⟨kp, by rw [List.take_zero, List.append_nil]; exact hd⟩ (fun j X _ h => SqT.of (h.1 _ _ (aD hp) hp)) ?_ ?_
        · rintro j y X0 X hj ⟨kp2, hd2⟩ ⟨rfl, hy2⟩
          obtain ⟨z, ezz, rfl⟩ := getD_map hy2
          refine ⟨rfl, _, rfl, _, hd2, by rw [List.length_map, List.length_append, List.length_take, sizeLine_eq]; omega, fun c o n e => by rw [upd_ne n]; exact kp2 c o n e, ?_⟩
          rw [upd_same, List.take_add_one, ezz, ← List.append_assoc, show (some z).toList = [z] from rfl, List.map_append (l₂ := [z])]
          rfl
        · rintro X ⟨kp2, hd2⟩
          rw [List.length_map, List.take_of_length_le (Nat.le_refl _), ← ft] at hd2
          exact ⟨kp2, hd2⟩
      rintro G ⟨kp, hd⟩
      rw [List.length_map, lp, List.take_of_length_le (Nat.le_refl _)] at hd
      exact fin D G (fun a u e => kp a u (aD e) e) nD hd
abbrev NApart : List Str := ["papers", "names"]
theorem scApart : FnScope NApart ["papers"] (defScope sApart) := ⟨rfl, rfl, rfl, by decide +kernel, rfl, by decide +kernel, by decide +kernel⟩
theorem ok_apart {f fNp fNo : Addr} {fd fdNp fdNo : FuncData} (F : Fun K "are_apart" "are_apart" sApart f fd) (ml : mg "len" = none) (mse : mg "set" = none)
    (GNp : FnOk P w K mg base (L2.CX P w) 4 fNp fdNp ["thing"] spNeedPs) (kNp : PySem.W.keepIn K (.ref fNp) = true) (bNp : Binds K fdNp ["thing"] []) (gNp : mg "need_papers" = some (.ref fNp))
    (GNo : FnOk P w K mg base CX0 1 fNo fdNo ["papers"] spNamesOf) (kNo : PySem.W.keepIn K (.ref fNo) = true) (bNo : Binds K fdNo ["papers"] []) (gNo : mg "names_of" = some (.ref fNo)) : FnOk P w K mg base (L2.CX P w) 5 f fd ["papers"] spApart := by
  refine F.okX scApart (fun vs H Q E h => ?_) (fun cdv A outer s H vs Q E hr h => ?_)
  · obtain ⟨a, ps, zss, rfl, _⟩ := h
    rfl
  · obtain ⟨a, ps, zss, rfl, hP, fin⟩ := h
    have r1 : Room 1 _ := hr.mono (by decide)
    have r4 : Room 4 _ := hr.mono (by decide)
    refine ⟨_, pss_cons (ps_expr (pe_call (E := E) GNp r4 (by rfl) gNp kNp bNp .nil (passes_call (takes_of rfl rfl rfl rfl) fun _ _ _ _ h => h) (pa_cons (pv 0) pa_nil)))
      (pss_cons (ps_set (i := 1) scApart.nd rfl (.inl rfl) (pe_call (E := E) GNo r1 (by rfl) gNo kNo bNo .nil pass0 (pa_cons (pv 0) pa_nil)))
      (pss_one (ps_ret (pe_cmpR op_eq (pe_lenSetS (by rfl) ml (by rfl) mse (pv 1)) (pe_callB call_lenQ (by rfl) ml PySem.boot_len (pa_cons (pv 1) pa_nil)) (nomark _))))), ?_⟩
    refine ⟨_, rfl, a, ps, zss, rfl, hP, fun H1 s1 => ?_⟩
    refine ⟨_, rfl, a, ps, zss, rfl, hP.same s1, fun D H2 s2 nD hD => ?_⟩
    have fl := flat_le hP.few
    have le := hP.le
    dsimp only [gName]
    refine ⟨_, rfl, D, _, rfl, SqL.of hD, by omega, fun ds nd mm => ⟨_, rfl, D, _, rfl, .inl (SqL.of hD), ?_⟩⟩
    have e : decide (zss.flatten.Nodup) = decide (V.int ((ds.length : Nat) : Int) = V.int (((zss.flatten.map V.str).length : Nat) : Int)) := by
      rw [List.length_map]
      refine decide_eq_decide.mpr ⟨fun h => ?_, fun h => ?_⟩
      · have p := (List.perm_ext_iff_of_nodup nd h).mpr mm
        rw [p.length_eq]
      · have hl : ds.length = zss.flatten.length := by have := V.int.inj h; omega
        by_cases hn : zss.flatten.Nodup
        · exact hn
        · obtain ⟨r, l, k⟩ := less_of hn
          have := nd.length_le_of_subset fun z hz => k z ((mm z).mp hz)
          omega
    have f2 := fin H2 (s1.trans s2)
    rw [e] at f2
    exact ⟨rfl, f2⟩
abbrev NLeft : List Str := ["bank", "papers"]
theorem scLeft : FnScope NLeft ["bank", "papers"] (defScope sLeftOver) := ⟨rfl, rfl, rfl, by decide +kernel, rfl, by decide +kernel, by decide +kernel⟩
theorem ok_left {f fNp fNo fB fW fNi cK : Addr} {fd fdNp fdNo fdB fdW fdNi : FuncData} (F : Fun K "left_over" "left_over" sLeftOver f fd) (C : BCls K CB) (mli : mg "list" = none)
    (GNp : FnOk P w K mg base (L2.CX P w) 4 fNp fdNp ["thing"] spNeedPs) (kNp : PySem.W.keepIn K (.ref fNp) = true) (bNp : Binds K fdNp ["thing"] []) (gNp : mg "need_papers" = some (.ref fNp))
    (GNo : FnOk P w K mg base CX0 1 fNo fdNo ["papers"] spNamesOf) (kNo : PySem.W.keepIn K (.ref fNo) = true) (bNo : Binds K fdNo ["papers"] []) (gNo : mg "names_of" = some (.ref fNo))
    (GB : FnOk P w K mg base (L2.CX P w) 3 fB fdB ["thing"] (spNeedBank K CB cK)) (kB : PySem.W.keepIn K (.ref fB) = true) (bB : Binds K fdB ["thing"] []) (gB : mg "need_bank" = some (.ref fB))
    (GW : FnOk P w K mg base CX0 1 fW fdW ["names", "others"] (spWithout K)) (kW : PySem.W.keepIn K (.ref fW) = true) (bW : Binds K fdW ["names", "others"] []) (gW : mg "names_without" = some (.ref fW))
    (GNi : FnOk P w K mg base CX0 2 fNi fdNi ["self"] (spNamesInB CB CQ)) (MNi : Meth K CB "names_in" fNi) (bNi : Binds K fdNi ["self"] []) : FnOk P w K mg base (L2.CX P w) 5 f fd ["bank", "papers"] (spLeft CB CQ) := by
  refine F.okX scLeft (fun vs H Q E h => ?_) (fun cdv A outer s H vs Q E hr h => ?_)
  · obtain ⟨b, k, r, d, a, B, ps, zss, rfl, _⟩ := h
    rfl
  · obtain ⟨b, k, r, d, a, B, ps, zss, rfl, hB, l60, hP, fin⟩ := h
    have r1 : Room 1 _ := hr.mono (by decide)
    have r2 : Room 2 _ := hr.mono (by decide)
    have r3 : Room 3 _ := hr.mono (by decide)
    have r4 : Room 4 _ := hr.mono (by decide)
    refine ⟨_, pss_cons (ps_expr (pe_call (E := E) GB r3 (by rfl) gB kB bB .nil (passes_call (takes_of rfl rfl rfl rfl) fun _ _ _ _ h => h) (pa_cons (pv 0) pa_nil)))
      (pss_cons (ps_expr (pe_call (E := E) GNp r4 (by rfl) gNp kNp bNp .nil (passes_call (takes_of rfl rfl rfl rfl) fun _ _ _ _ h => h) (pa_cons (pv 1) pa_nil)))
      (pss_one (ps_ret (pe_callTy call_list_of (by rfl) mli (by decide +kernel) (pa_cons (pe_call (E := E) GW r1 (by rfl) gW kW bW .nil pass0 (pa_cons (pe_meth0 (E := E) (pv 0) C.cls MNi GNi r2 bNi .nil pass0) (pa_cons (pe_call (E := E) GNo r1 (by rfl) gNo kNo bNo .nil pass0 (pa_cons (pv 1) pa_nil)) pa_nil))) pa_nil))))), ?_⟩
    obtain ⟨dx, hb⟩ := id hB.at_
    refine ⟨_, rfl, _, rfl, .inl ⟨b, dx, _, rfl, hb, ?_⟩⟩
    refine ⟨_, rfl, a, ps, zss, rfl, hP, fun H1 s1 => ?_⟩
    refine ⟨_, rfl, b, dx, _, rfl, s1 _ _ hb, lb_meth (by decide) _ _ _, b, k, r, d, B, rfl, hB.same s1, by omega, fun p H2 s2 np hp => ?_⟩
    refine ⟨_, rfl, a, ps, zss, rfl, (hP.same s1).same s2, fun D H3 s3 nD hD => ?_⟩
    have li : B.ins.length ≤ B.ns.length := by
      unfold BD.ins
      exact Nat.le_trans (List.length_filter_le _ _) (by rw [srt_len]; exact Nat.le_refl _)
    refine ⟨p, D, _, _, rfl, s3 _ _ hp, hD, by omega, fun q H4 s4 hq => ?_⟩
    refine ⟨q, _, rfl, .inr (SqT.of hq), fun l nl => ?_⟩
    have s14 := ((s1.trans s2).trans s3).trans s4
    exact fin l _ (s14.trans (same_upd nl)) (none_of s14 nl) upd_same
end
end Pk
namespace Pk
open PySem L2
/-! ### some papers of a draw -/
def spSomeP : Sp := fun vs H Q _ => ∃ (e L : Addr) (t : Int) (ns : List Str), vs = [.ref e, .ref L] ∧ DrawAt H e t ∧ 0 ≤ t ∧ t < 80000 ∧ H L = some (.lst (ns.map V.str)) ∧ 1 ≤ ns.length ∧ ns.length ≤ 60 ∧ (∀ z ∈ ns, nameT z = true) ∧
  ∀ (D : Addr) (ps : List Addr) (zss : List (List Str)) (H' : Hp) (t' : Int), Bt [e] H H' → H D = none → H' D = some (.lst (ps.map V.ref)) → PsAt H' D ps zss → DrawAt H' e t' → t ≤ t' → t' ≤ t + 60 → Q (.ref D) H'
theorem paired_snoc {α β : Type} {R : α → β → Prop} {x : α} {y : β} (r : R x y) : ∀ {xs : List α} {ys : List β}, Paired R xs ys → Paired R (xs ++ [x]) (ys ++ [y]) := fun p => by
  induction p with
  | nil => exact .cons r .nil
  | cons h t ih => exact .cons h ih
section
variable {P : Program} {w : World} {K : PySem.W.Frag} {mg : Str → Option Value} {base : Heap}
abbrev NSomeP : List Str := ["_law_draw", "_law_names_here", "_law_found", "_law_turn", "_law_some", "_law_one"]
theorem scSomeP : FnScope NSomeP ["_law_draw", "_law_names_here"] (defScope sSomeP) := ⟨rfl, rfl, rfl, by decide +kernel, rfl, by decide +kernel, by decide +kernel⟩
theorem ok_someP {f fT fO : Addr} {fd fdT fdO : FuncData} (F : Fun K "_law_some_papers" "_law_some_papers" sSomeP f fd) (mra : mg "range" = none) (mt : mg "tuple" = none) (mso : mg "sorted" = none) (mse : mg "set" = none)
    (GT : FnOk P w K mg base CX0 1 fT fdT ["_law_draw", "_law_many"] spTake) (kT : PySem.W.keepIn K (.ref fT) = true) (bT : Binds K fdT ["_law_draw", "_law_many"] []) (gT : mg "_law_take" = some (.ref fT))
    (GO : FnOk P w K mg base CX0 2 fO fdO ["_law_draw", "_law_some"] spOf) (kO : PySem.W.keepIn K (.ref fO) = true) (bO : Binds K fdO ["_law_draw", "_law_some"] []) (gO : mg "_law_of" = some (.ref fO)) : FnOk P w K mg base CX0 3 f fd ["_law_draw", "_law_names_here"] spSomeP := by
  refine F.ok scSomeP (fun vs H Q E h => ?_) (fun cdv A outer s H vs Q E hr h => ?_)
  · obtain ⟨e, L, t, ns, rfl, _⟩ := h
    rfl
  · obtain ⟨e, L, t, ns, rfl, D, t0, t8, hL, n1, n60, nm, fin⟩ := h
    have r1 : Room 1 _ := hr.mono (by decide)
    have r2 : Room 2 _ := hr.mono (by decide)
    refine ⟨_, pss_cons (ps_set (i := 2) scSomeP.nd rfl (.inl rfl) (pe_lst pa_nil))
      (pss_cons (ps_for PassesOwn.never rfl (pi_range1 (by rfl) mra (pa_cons (pe_call (E := E0) GT r1 (by rfl) gT kT bT .nil pass0 (pa_cons (pv 0) (pa_cons pe_int pa_nil))) pa_nil)) (pg_name (i := 3) scSomeP.nd rfl (.inl rfl))
        (pss_cons (ps_setLc (i := 4) (own := [("_law_one", 5)]) (g := gName 5) (te := tCall spOf [] E0 (tCons (tVar 0) (tCons (tVar 1) tNil))) rfl scSomeP.nd rfl rfl (sw_true rfl rfl rfl (by decide +kernel)) (pi_range1 (by rfl) mra (pa_cons (pe_op op_add pe_int (pe_call (E := E0) GT r1 (by rfl) gT kT bT .nil pass0 (pa_cons (pv 0) (pa_cons pe_int pa_nil)))) pa_nil)) (blkOk_by (N := NSomeP) (sc := defScope sSomeP) (by decide +kernel)) (fun _ _ _ _ _ => pg_name (i := 5) scSomeP.nd rfl (Or.inl rfl)) (fun _ _ _ _ _ => pts_nil) (fun _ _ _ _ _ => by exact (pe_call (E := E0) GO r2 (by rfl) gO kO bO .nil pass0 (pa_cons (pv 0) (pa_cons (pv 1) pa_nil)))))
        (pss_one (ps_expr (pe_bm PySem.F.plainAttrs_list PySem.F.slot_list_append PySem.F.type_list_append mt_append (pv 2) (pa_cons (pe_callTy call_tuple_of (by rfl) mt PyProof.Rows.boot_tuple (pa_cons (pe_sortSetS (by rfl) mso (by rfl) mse (pv 4)) pa_nil)) pa_nil))))))
      (pss_one (ps_ret (pv 2)))), ?_⟩
    refine ⟨by show 0 ≤ sizeLine; exact Nat.zero_le _, fun Df nDf => ?_⟩
    have s1 := same_upd (o := .lst []) nDf
    have hf1 : upd H Df (.lst []) Df = some (.lst []) := upd_same
    have D1 := D.same s1
    have De : Df ≠ e := D.new nDf
    have hL1 := s1 _ _ hL
    dsimp only [gName]
    show tSeq _ _ _ _ (upd H Df (.lst []))
    generalize upd H Df (.lst []) = H1 at s1 hf1 D1 hL1 ⊢
    have Le : L ≠ e := D.lst hL
    have LD : L ≠ Df := ne_of_none hL nDf
    refine ⟨_, rfl, e, t, 9, rfl, D1, t0, by omega, by decide, by decide, fun c t2 H2 c0 c9 u2 D2 ta tb => ⟨c, rfl, by omega, by omega, ?_⟩⟩
    have hf2 := u2.at De hf1
    have hL2 := u2.at Le hL1
    have b2 : Bt [e] H H2 := (Bt.same s1).trans u2
    obtain ⟨INV, hINV⟩ : ∃ INV : Nat → List (Option V) → Hp → Prop, INV = fun (i : Nat) σ G => ∃ (v3 v4 : Option V) (ps : List Addr) (zss : List (List Str)) (t' : Int), σ = [some (.ref e), some (.ref L), some (.ref Df), v3, v4, none] ∧ Bt [e] H G ∧ DrawAt G e t' ∧ G L = some (.lst (ns.map V.str)) ∧ G Df = some (.lst (ps.map V.ref)) ∧ Paired (fun p zs => G p = some (.tup (zs.map V.str))) ps zss ∧ zss.length = i ∧ (∀ zs ∈ zss, Pap zs) ∧ (∀ zs ∈ zss, zs.length ≤ 5) ∧ t2 ≤ t' ∧ t' ≤ t2 + 5 * i := ⟨_, rfl⟩
    refine for_it walk_range INV (by rw [hINV]; exact ⟨_, _, [], [], t2, rfl, b2, D2, hL2, hf2, .nil, rfl, (fun _ h => nomatch h), (fun _ h => nomatch h), Int.le_refl _, by omega⟩) (fun _ _ _ _ _ => trivial) ?_ ?_
    · rintro i y σ G0 G hi hI ⟨rfl, rfl⟩
      rw [hINV] at hI
      obtain ⟨v3, v4, ps, zss, t', rfl, bG, DG, hLG, hfG, pa, lz, pap, few, tc, td⟩ := hI
      have i9 : (i : Int) < 9 := by omega
      refine ⟨_, rfl, e, t', 4, rfl, DG, by omega, by omega, by decide, by decide, fun m t3 H3 m0 m4 u3 D3 te tf => ⟨1, m, rfl, rfl, 1 + m, rfl, by omega, by omega, fun Dl nDl => ?_⟩⟩
      have Dle : Dl ≠ e := D3.new nDl
      have sDl := same_upd (o := .lst []) nDl
      have hL3 := u3.at Le hLG
      have LDl : L ≠ Dl := ne_of_none hL3 nDl
      refine lc_it walk_range (fun j X => (∀ b o, b ≠ e → b ≠ Dl → H3 b = some o → X b = some o) ∧ (∃ tj, DrawAt X e tj ∧ t3 ≤ tj ∧ tj ≤ t3 + j) ∧ ∃ ws : List Str, ws.length = j ∧ (∀ x ∈ ws, x ∈ ns) ∧ X Dl = some (.lst (ws.map V.str))) ⟨fun b o _ nb x => by rw [upd_ne nb]; exact x, ⟨t3, D3.same sDl, Int.le_refl _, by omega⟩, [], rfl, (fun _ h => nomatch h), upd_same⟩ (fun _ _ _ _ => trivial) ?_ ?_
      · rintro j x X X' hj ⟨kp, ⟨tj, DX, tg, th⟩, ws, lw, bw, hz⟩ ⟨rfl, rfl⟩
        have j4 : (j : Int) < 5 := by omega
        refine ⟨rfl, _, rfl, _, rfl, e, L, tj, _, rfl, DX, by omega, by omega, kp _ _ Le LDl hL3, by rw [List.length_map]; omega, by rw [List.length_map]; omega, fun k xk t4 X2 hx uX DX2 ti tj' => ?_⟩
        obtain ⟨z, ez, rfl⟩ := getD_map hx
        have hz' := uX.at Dle hz
        refine ⟨_, hz', by rw [List.length_map, lw, sizeLine_eq]; omega, fun b o n1 n2 x => by rw [upd_ne n2]; exact uX.at n1 (kp b o n1 n2 x), ⟨t4, DX2.put Dle, by omega, by omega⟩, ws ++ [z], by rw [List.length_append, lw]; rfl, fun x hx => ?_, by rw [upd_same, List.map_append]; rfl⟩
        rcases List.mem_append.mp hx with h | h
        · exact bw x h
        · rw [List.mem_singleton.mp h]
          exact List.mem_of_getElem? ez
      rintro X ⟨kp, ⟨t4, DX, tg, th⟩, ws, lw, bw, hz⟩
      have m5 : (1 + m).toNat ≤ 4 := by omega
      have m1 : 1 ≤ (1 + m).toNat := by omega
      have bX : Bt [e] G X := fun b o nb x => kp b o (fun z => nb (by rw [z]; exact List.mem_cons_self)) (ne_of_none (u3 b o nb x) nDl) (u3 b o nb x)
      have hfX := bX.at De hfG
      dsimp only [gName]
      refine ⟨_, rfl, .inl ⟨rfl, _, SqL.of hfX⟩, _, rfl, Dl, ws, rfl, SqL.of hz, by omega, fun q ys X5 s5 nq hq so nd mm => ⟨q, _, rfl, .inl ⟨SqL.of hq, fun T nT => ?_⟩⟩⟩
      have s6 := same_upd (o := .tup (ys.map V.str)) nT
      have hT : upd X5 T (.tup (ys.map V.str)) T = some (.tup (ys.map V.str)) := upd_same
      have s56 := s5.trans s6
      have hf6 := s56 _ _ hfX
      have lyw : ys.length ≤ ws.length := nd.length_le_of_subset fun z hz => (mm z).mp hz
      have y1 : 1 ≤ ys.length := by
        cases ws with
        | nil => rw [List.length_nil] at lw; omega
        | cons w0 wr => exact List.length_pos_of_mem ((mm w0).mpr List.mem_cons_self)
      have py : Pap ys := ⟨y1, by omega, fun z hz => nm z (bw z ((mm z).mp hz)), (so.and nd).imp fun {a b} k => ltS_of k.1 k.2⟩
      have lps := Paired.length pa
      refine ⟨Df, _, _, rfl, rfl, hf6, by rw [List.length_map, sizeLine_eq]; omega, ?_⟩
      have off : ∀ {p : Addr} {L' M : List V}, upd X5 T (.tup (ys.map V.str)) p = some (.tup L') → upd (upd X5 T (.tup (ys.map V.str))) Df (.lst M) p = some (.tup L') := fun {p L' M} x => by rw [upd_ne (fun z => by rw [z, hf6] at x; cases x)]; exact x
      show INV (i + 1) _ _
      rw [hINV]
      refine ⟨_, _, ps ++ [T], zss ++ [ys], t4, rfl, ?_, (DX.same s56).put De, ?_, by rw [upd_same, List.map_append]; rfl, paired_snoc (R := fun (p : Addr) (zs : List Str) => upd (upd X5 T (.tup (ys.map V.str))) Df (.lst (ps.map V.ref ++ [.ref T])) p = some (.tup (zs.map V.str))) (off hT) (paired_by pa fun p zs x => off (s56 _ _ (bX.at (DG.ne x fun _ z => by cases z) x))), by rw [List.length_append, lz]; rfl, fun zs hz => ?_, fun zs hz => ?_, by omega, by push_cast; omega⟩
      · exact Bt.putN nDf ((bG.trans bX).trans (Bt.same s56))
      · rw [upd_ne LD]
        exact s56 _ _ (bX.at Le hLG)
      · rcases List.mem_append.mp hz with h | h
        · exact pap zs h
        · rw [List.mem_singleton.mp h]; exact py
      · rcases List.mem_append.mp hz with h | h
        · exact few zs h
        · rw [List.mem_singleton.mp h]; omega
    rintro σ G hI
    rw [hINV] at hI
    obtain ⟨v3, v4, ps, zss, t', rfl, bG, DG, hLG, hfG, pa, lz, pap, few, tc, td⟩ := hI
    refine ⟨_, rfl, fin Df ps zss G t' bG nDf hfG ⟨.inl hfG, pa, pap, by omega, few⟩ DG (by omega) (by omega)⟩
end
end Pk
namespace Pk
open PySem L2
/-! ### _law_right -/
theorem strs_shapedL {ws : List Str} (h : ws.all PyData.strOk = true) : SeqAt.shaped (.list (ws.map .str)) = true := by
  have e := PyProof.Rows.canLayAll_strs' ws
  rw [h] at e
  simp [SeqAt.shaped, PyData.canLay0, PyData.depth, e, strs_depthA]
theorem str_shaped {z : Str} (h : PyData.strOk z = true) : SeqAt.shaped (.str z) = true := by
  simp [SeqAt.shaped, PyData.canLay0, PyData.depth, h]
theorem names_ok {zs : List Str} (nm : ∀ z ∈ zs, nameT z = true) : zs.all PyData.strOk = true := List.all_eq_true.mpr fun z hz => name_strOk (nm z hz)
theorem strs_eqvL (a b : List Str) : PyData.eqv (.list (a.map .str)) (.list (b.map .str)) = decide (a = b) := by
  rw [← strs_eqvA]
  simp [PyData.eqv]
theorem count_strs (z : Str) : ∀ l : List Str, ((l.map PyData.str).countP fun y => PyData.eqv y (.str z)) = l.count z
  | [] => rfl
  | x :: l => by
    rw [List.map_cons, List.countP_cons, List.count_cons, count_strs z l]
    simp [PyData.eqv]
theorem name_shows {z : Str} (h : nameT z = true) : z.length ≤ 100 ∧ Sgn z := ⟨by have := (name_len h).2; omega, name_sgn h⟩
theorem ps_showsL {K : PySem.W.Frag} {H : Hp} : ∀ {ps : List Addr} {zss : List (List Str)}, Paired (fun p zs => H p = some (.tup (zs.map V.str))) ps zss → (∀ zs ∈ zss, (∀ z ∈ zs, nameT z = true) ∧ zs.length ≤ 5) → ShowsL K H (ps.map V.ref) (zss.map fun zs => .tuple (zs.map .str)) (5025 * zss.length) 5
  | [], [], _, _ => .nil
  | [], _ :: _, h, _ => by cases h
  | _ :: _, [], h, _ => by cases h
  | p :: ps, zs :: zss, h, g => by
    cases h with
    | cons h1 h2 =>
      obtain ⟨g1, g2⟩ := g zs List.mem_cons_self
      have ih := ps_showsL (K := K) h2 fun x hx => g x (List.mem_cons_of_mem _ hx)
      have w := ShowsL.tup (k := 5) h1 (ShowsL.strs (K := K) (k := 4) fun z hz => name_shows (g1 z hz)) (by omega) ih
      exact { w with sz := Nat.le_trans w.sz (by rw [List.length_cons]; omega) }
theorem ps_show {K : PySem.W.Frag} {H : Hp} {a : Addr} {ps : List Addr} {zss : List (List Str)} (h : PsAt H a ps zss) : ∃ d : PyData, ∀ H', Same H H' → Shows K H' (.ref a) d := by
  have g : ∀ zs ∈ zss, (∀ z ∈ zs, nameT z = true) ∧ zs.length ≤ 5 := fun zs hz => ⟨(h.pap zs hz).nm, h.few zs hz⟩
  have le := h.le
  rcases h.at_ with ha | ha
  · exact ⟨_, fun H' s => (ps_showsL (K := K) (h.same s).pa g).allX (s _ _ ha) (by omega) (by omega)⟩
  · exact ⟨_, fun H' s => (ps_showsL (K := K) (h.same s).pa g).allT (s _ _ ha) (by omega) (by omega)⟩
def spRight (CB CQ : Addr) : Sp := fun vs H Q _ => ∃ (b k r d a I : Addr) (B : BD) (ps : List Addr) (zss : List (List Str)) (is : List Str), vs = [.ref b, .ref a, .ref I] ∧ BankAt CB CQ H b k r d B ∧ GoodB B ∧ PsAt H a ps zss ∧ H I = some (.lst (is.map V.str)) ∧ is.Perm B.ins ∧ ∀ H', Same H H' → Q (.bl true) H'
def tEvery : TS := fun Dn σ H => ∃ (v0 v2 v4 : Option V) (a D0 : Addr) (ps : List Addr) (zss : List (List Str)), σ = [v0, some (.ref a), v2, some (.ref D0), v4, none, none, none, none, none] ∧ PsAt H a ps zss ∧ H D0 = some (.lst []) ∧
  ∀ (v5 : Option V) (D : Addr) (G : Hp), Same H G → G D = some (.lst (zss.flatten.map V.str)) → Dn.nx [v0, some (.ref a), v2, some (.ref D), v4, v5, none, none, none, none] G
theorem kLeft {K : PySem.W.Frag} {f : Addr} {fd : FuncData} (F : Fun K "left_over" "left_over" sLeftOver f fd) : KBn K fd ["bank", "papers"] 0 ["papers", "bank"] (fun us ws => us ++ (ws.drop 1 ++ ws.take 1)) (fun vs zs => vs ++ (zs.drop 1 ++ zs.take 1)) := by
  obtain ⟨oc, od, kV, doc, pm, an, cdv, ct, osl, rfl, lk, hcd⟩ := F.ex
  exact ⟨fun s us ws X l1 l2 => match us, ws, l1, l2 with
    | [], [v, x], _, _ => .of_eq rfl, fun r1 r2 => r1.append ((r2.drop 1).append (r2.take 1))⟩
section
variable {P : Program} {w : World} {K : PySem.W.Frag} {mg : Str → Option Value} {base : Heap} {CB CQ : Addr}
abbrev NRight : List Str := ["_law_store", "_law_taken", "_law_inside", "_law_every", "_law_kept", "_law_paper", "_law_twice", "_law_due", "_law_found", "_law_name"]
theorem scRight : FnScope NRight ["_law_store", "_law_taken", "_law_inside"] (defScope sRight) := ⟨rfl, rfl, rfl, by decide +kernel, rfl, by decide +kernel, by decide +kernel⟩
theorem ok_right {f fA fL : Addr} {fd fdA fdL : FuncData} (F : Fun K "_law_right" "_law_right" sRight f fd) (mre : mg "repr" = none) (mli : mg "list" = none) (mso : mg "sorted" = none) (mi : mg "isinstance" = none)
    (FA : Fun K "are_apart" "are_apart" sApart fA fdA) (GA : FnOk P w K mg base (L2.CX P w) 5 fA fdA ["papers"] spApart) (kA : PySem.W.keepIn K (.ref fA) = true) (bA : Binds K fdA ["papers"] []) (gA : mg "are_apart" = some (.ref fA))
    (FL : Fun K "left_over" "left_over" sLeftOver fL fdL) (GL : FnOk P w K mg base (L2.CX P w) 5 fL fdL ["bank", "papers"] (spLeft CB CQ)) (kL : PySem.W.keepIn K (.ref fL) = true) (bL : Binds K fdL ["bank", "papers"] []) (gL : mg "left_over" = some (.ref fL)) : FnG P w K mg base CX0 6 f fd ["_law_store", "_law_taken", "_law_inside"] (spRight CB CQ) := by
  refine okG F scRight (fun vs H Q E h => ?_) (fun cdv A calm outer s H vs Q E hr h => ?_)
  · obtain ⟨b, k, r, d, a, I, B, ps, zss, is, rfl, _⟩ := h
    rfl
  · obtain ⟨b, k, r, d, a, I, B, ps, zss, is, rfl, hB, gB, hP, hI, pm, fin⟩ := h
    have hu70 := room_show hr
    have hu64 : _ + 64 < cLine := Nat.lt_of_le_of_lt (Nat.add_le_add_left (by decide) _) (room_show hr)
    have hu65 : _ + 65 < cLine := Nat.lt_of_le_of_lt (Nat.add_le_add_left (by decide) _) (room_show hr)
    have r5 : Room 5 _ := hr
    have kwA : KBinds K fdA ["papers"] ["papers"] (fun us ws => us ++ ws) (fun vs zs => vs ++ zs) := kbinds_one FA (fun _ _ _ _ _ _ _ => rfl) (fun _ _ _ _ _ _ _ => rfl)
    refine ⟨_, pss_cons (ps_asg (pe_tup (pa_cons (pe_lst pa_nil) (pa_cons (pe_callB (call_show (by exact calm) hu70) (by rfl) mre (by decide +kernel) (pa_cons (pv 1) pa_nil)) pa_nil))) (pg_tup rfl (pgs_cons (pg_name (i := 3) scRight.nd rfl (.inr rfl)) (pgs_cons (pg_name (i := 4) scRight.nd rfl (.inl rfl)) pgs_nil))))
      (pss_cons (ps_imp tEvery (ps_for PassesOwn.never rfl (pi_or (pi_list (pv 1)) (pi_tup (pv 1))) (pg_name (i := 5) scRight.nd rfl (.inl rfl))
        (pss_one (ps_set (i := 3) scRight.nd rfl (.inr rfl) (pe_op op_cat (pv 3) (pe_callTy call_list_of (by rfl) mli (by decide +kernel) (pa_cons (pv 5) pa_nil)))))) (by
            rintro Dn σ H ⟨v0, v2, v4, a, D0, ps, zss, rfl, hP, hD0, fin⟩
            have lp := Paired.length hP.pa
            have le := hP.le
            obtain ⟨INV, hINV⟩ : ∃ INV : Nat → List (Option V) → Hp → Prop, INV = fun (i : Nat) σ G => ∃ (v5 : Option V) (D : Addr), σ = [v0, some (.ref a), v2, some (.ref D), v4, v5, none, none, none, none] ∧ Same H G ∧ G D = some (.lst ((zss.take i).flatten.map V.str)) := ⟨_, rfl⟩
            rcases hP.at_ with ha | ha
            · refine .inl ⟨_, rfl, a, rfl, ⟨_, SqL.of ha⟩, ?_⟩
              refine for_it (walk_list (K := K) (a := a) (xs := ps.map V.ref)) INV (by rw [hINV]; exact ⟨_, D0, rfl, Same.refl _, hD0⟩) (fun i σ G _ h => by rw [hINV] at h; obtain ⟨_, _, _, h, _⟩ := h; exact SqL.of (h _ _ ha)) ?_ ?_
              · rintro i y σ G0 G hi hI ⟨rfl, hy⟩
                rw [hINV] at hI
                obtain ⟨v5, D, rfl, sG, hD⟩ := hI
                obtain ⟨p, ep, rfl⟩ := getD_map hy
                obtain ⟨zs, ez, hp⟩ := paired_get hP.pa ep
                have ft : (zss.take (i + 1)).flatten = (zss.take i).flatten ++ zs := by rw [List.take_add_one, ez, List.flatten_append]; simp
                have fle : (zss.take i).flatten.length ≤ 50 := by
                  have := flat_le (zss := zss.take i) fun z hz => hP.few z (List.mem_of_mem_take hz)
                  rw [List.length_take] at this
                  omega
                have z5 := hP.few zs (List.mem_of_getElem? ez)
                refine ⟨_, rfl, _, rfl, p, _, rfl, .inr (SqT.of (sG _ _ hp)), fun l nl => ?_⟩
                have s2 := same_upd (o := .lst (zs.map V.str)) nl
                refine ⟨D, l, _, _, rfl, rfl, s2 _ _ hD, upd_same, by rw [List.length_map, List.length_map, sizeLine_eq]; omega, fun q nq => ?_⟩
                have s3 := same_upd (o := .lst ((zss.take i).flatten.map V.str ++ zs.map V.str)) nq
                show INV (i + 1) _ _
                rw [hINV]
                exact ⟨_, q, rfl, (sG.trans s2).trans s3, by rw [upd_same, ft, List.map_append]⟩
              rintro σ G hI
              rw [hINV] at hI
              obtain ⟨v5, D, rfl, sG, hD⟩ := hI
              rw [List.length_map, lp, List.take_of_length_le (Nat.le_refl _)] at hD
              exact fin v5 D G sG hD
            · refine .inr ⟨_, rfl, a, rfl, ⟨_, SqT.of ha⟩, ?_⟩
              refine for_it (walk_tup (K := K) (a := a) (xs := ps.map V.ref)) INV (by rw [hINV]; exact ⟨_, D0, rfl, Same.refl _, hD0⟩) (fun i σ G _ h => by rw [hINV] at h; obtain ⟨_, _, _, h, _⟩ := h; exact SqT.of (h _ _ ha)) ?_ ?_
              · rintro i y σ G0 G hi hI ⟨rfl, hy⟩
                rw [hINV] at hI
                obtain ⟨v5, D, rfl, sG, hD⟩ := hI
                obtain ⟨p, ep, rfl⟩ := getD_map hy
                obtain ⟨zs, ez, hp⟩ := paired_get hP.pa ep
                have ft : (zss.take (i + 1)).flatten = (zss.take i).flatten ++ zs := by rw [List.take_add_one, ez, List.flatten_append]; simp
                have fle : (zss.take i).flatten.length ≤ 50 := by
                  have := flat_le (zss := zss.take i) fun z hz => hP.few z (List.mem_of_mem_take hz)
                  rw [List.length_take] at this
                  omega
                have z5 := hP.few zs (List.mem_of_getElem? ez)
                refine ⟨_, rfl, _, rfl, p, _, rfl, .inr (SqT.of (sG _ _ hp)), fun l nl => ?_⟩
                have s2 := same_upd (o := .lst (zs.map V.str)) nl
                refine ⟨D, l, _, _, rfl, rfl, s2 _ _ hD, upd_same, by rw [List.length_map, List.length_map, sizeLine_eq]; omega, fun q nq => ?_⟩
                have s3 := same_upd (o := .lst ((zss.take i).flatten.map V.str ++ zs.map V.str)) nq
                show INV (i + 1) _ _
                rw [hINV]
                exact ⟨_, q, rfl, (sG.trans s2).trans s3, by rw [upd_same, ft, List.map_append]⟩
              rintro σ G hI
              rw [hINV] at hI
              obtain ⟨v5, D, rfl, sG, hD⟩ := hI
              rw [List.length_map, lp, List.take_of_length_le (Nat.le_refl _)] at hD
              exact fin v5 D G sG hD))
      (pss_cons (ps_setLc (i := 6) (own := [("_law_name", 9)]) (g := gName 9) (tt := tTest (tOp (rI0 fun i j => .bl (decide (j < i))) (tBM K "list" (rCountD K) (tVar 3) (tCons (tVar 9) tNil)) (tC (.int 1)))) (te := tVar 9) rfl scRight.nd rfl rfl (sw_true rfl rfl rfl (by decide +kernel)) (pi_list (pv 3)) (blkOk_by (N := NRight) (sc := defScope sRight) (by decide +kernel)) (fun _ _ _ _ _ => pg_name (i := 9) scRight.nd rfl (Or.inl rfl)) (fun _ _ _ _ _ => by exact pts_one (pt_cmpR op_gt (pe_bm PySem.F.plainAttrs_list PySem.F.slot_list_count PySem.F.type_list_count (mt_countD hu65) (pv 3) (pa_cons (pv 9) pa_nil)) pe_int (nomark _))) (fun _ _ _ _ _ => pv 9))
      (pss_cons (ps_if (pt_cmpR op_ne (pe_callB (call_show (by exact calm) hu70) (by rfl) mre (by decide +kernel) (pa_cons (pe_lst (pa_cons (pe_call (E := E0) GA r5 (by rfl) gA kA bA .nil pass_no (pa_cons (pv 1) pa_nil)) (pa_cons (pe_callK0 (E := E0) GA r5 (by rfl) gA kA kwA pass_no (pk_cons (pv 1) pk_nil)) pa_nil))) pa_nil)) (pe_callB (call_show (by exact calm) hu70) (by rfl) mre (by decide +kernel) (pa_cons (pe_lst (pa_cons (pe_cmpR (op_eqD hu64) (pv 6) (pe_lst pa_nil) (nomark _)) (pa_cons (pe_cmpR (op_eqD hu64) (pv 6) (pe_lst pa_nil) (nomark _)) pa_nil))) pa_nil)) (nomark _)) (pss_one (ps_ret pe_bl)) pss_nil)
      (pss_cons (ps_setLc (i := 7) (own := [("_law_name", 9)]) (g := gName 9) (tt := tTest (tOp (rIn K true) (tVar 9) (tVar 3))) (te := tVar 9) rfl scRight.nd rfl rfl (sw_true rfl rfl rfl (by decide +kernel)) (pi_list (pe_callB cr_sortedS (by rfl) mso (by decide +kernel) (pa_cons (pv 2) pa_nil))) (blkOk_by (N := NRight) (sc := defScope sRight) (by decide +kernel)) (fun _ _ _ _ _ => pg_name (i := 9) scRight.nd rfl (Or.inl rfl)) (fun _ _ _ _ _ => by exact pts_one (pt_cmpR (r := rIn K true) (hm := by rfl) (by exact op_notIn_seq) (pv 9) (pv 3))) (fun _ _ _ _ _ => pv 9))
      (pss_cons (ps_set (i := 8) scRight.nd rfl (.inl rfl) (pe_callN0 (E := E0) GL r5 (by rfl) gL kL (kLeft FL) pass_no (by exact (pk_cons (pv 1) (pk_cons (pv 0) pk_nil)))))
      (pss_cons (ps_if (PW.pt (pw_or (pt_not (pt_val (isb (i := 8) mi mli PyProof.Rows.boot_list))) (pw_or1 (pt_cmpR (op_neD hu64) (pv 8) (pv 7) (nomark _))))) (pss_one (ps_ret pe_bl)) pss_nil)
      (pss_cons (ps_expr (pe_bm PySem.F.plainAttrs_list PySem.F.slot_list_append PySem.F.type_list_append mt_append (pv 8) (pa_cons pe_str pa_nil)))
      (pss_one (ps_ret (pe_and (pe_cmpR (op_eqD hu64) (pe_call (E := E0) GL r5 (by rfl) gL kL bL .nil pass_no (pa_cons (pv 0) (pa_cons (pv 1) pa_nil))) (pv 7) (nomark _)) (pe_one (pe_cmpR op_eq (pe_callB (call_show (by exact calm) hu70) (by rfl) mre (by decide +kernel) (pa_cons (pv 1) pa_nil)) (pv 4) (nomark _))))))))))))), ?_⟩
    obtain ⟨dd, hsh⟩ := ps_show (K := K) hP
    refine ⟨by show 0 ≤ sizeLine; exact Nat.zero_le _, fun D0 nD0 => ?_⟩
    have s1 := same_upd (o := .lst []) nD0
    have hD0 : upd H D0 (.lst []) D0 = some (.lst []) := upd_same
    have w1 := hsh _ s1
    refine ⟨_, rfl, _, _, rfl, w1.dq, w1.sh, w1.dp, w1.sz, by show 2 ≤ sizeLine; decide, fun T nT => ⟨T, _, rfl, SqT.of upd_same, rfl, _, _, rfl, _, _, rfl, rfl, ?_⟩⟩
    have s2 := same_upd (o := .tup [.ref D0, .str dd.shown]) nT
    have hD1 := s2 _ _ hD0
    have s12 := s1.trans s2
    dsimp only [gName]
    show tSeq _ _ _ _ (upd (upd H D0 (.lst [])) T (.tup [.ref D0, .str dd.shown]))
    generalize upd (upd H D0 (.lst [])) T (.tup [.ref D0, .str dd.shown]) = H1 at s12 hD1 ⊢
    clear s1 s2 hD0 w1
    have hP1 := hP.same s12
    have lp := Paired.length hP.pa
    have le := hP.le
    have fl := flat_le hP.few
    -- all names
    refine ⟨_, _, _, a, D0, ps, zss, rfl, hP1, hD1, fun v5 D H2 s2 hD => ?_⟩
    obtain ⟨fs, hfs⟩ : ∃ fs, fs = zss.flatten := ⟨_, rfl⟩
    rw [← hfs] at hD fl
    have nf : ∀ z ∈ fs, nameT z = true := fun z hz => by
      rw [hfs] at hz
      obtain ⟨zs, m1, m2⟩ := List.mem_flatten.mp hz
      exact (hP.pap zs m1).nm z m2
    have fok := names_ok nf
    have f50 : fs.length ≤ 50 := by omega
    -- twice
    refine ⟨_, rfl, D, rfl, ⟨_, SqL.of hD⟩, fun D6 n6 => ?_⟩
    have aD : ∀ {a : Addr} {o : HO}, H2 a = some o → a ≠ D6 := fun {a o} e => ne_of_none e n6
    refine lc_it (walk_list (K := K) (a := D) (xs := fs.map V.str)) (fun i G => (∀ c u, c ≠ D6 → H2 c = some u → G c = some u) ∧ G D6 = some (.lst (((fs.take i).filter fun z => decide (1 < (fs.count z : Int))).map V.str))) ⟨fun a u n e => by rw [upd_ne n]; exact e, upd_same⟩ (fun i G _ h => SqL.of (h.1 _ _ (aD hD) hD)) ?_ ?_
    · rintro i y G0 G hi ⟨kp, hd⟩ ⟨rfl, hy⟩
      obtain ⟨z, ez, rfl⟩ := getD_map hy
      have hD2 := kp _ _ (aD hD) hD
      have lf := List.length_filter_le (fun z => decide (1 < (fs.count z : Int))) (fs.take i)
      rw [List.length_take] at lf
      refine ⟨rfl, _, rfl, .inl ⟨rfl, _, SqL.of hD2⟩, _, rfl, D, .str z, .str z, fs.map .str, rfl, rfl, .lst (SqL.of hD2) (strs_dpA fs), .str z, strs_shapedL fok, str_shaped (name_strOk (nf z (List.mem_of_getElem? ez))), ?_⟩
      rw [count_strs]
      refine ⟨_, 1, rfl, rfl, _, rfl, ?_⟩
      rw [filter_snoc ez]
      by_cases hm : (1 : Int) < (fs.count z : Int)
      · rw [if_pos (show decide (1 < (fs.count z : Int)) = true from decide_eq_true hm)]
        exact iteT' (by simpa using hm) ⟨_, rfl, _, hd, by rw [List.length_map, sizeLine_eq]; omega, fun c o n e => by rw [upd_ne n]; exact kp c o n e, by rw [upd_same, List.map_append]; rfl⟩
      · rw [if_neg (show ¬ decide (1 < (fs.count z : Int)) = true by rw [decide_eq_false hm]; exact Bool.false_ne_true)]
        exact iteF' (by simpa using hm) ⟨kp, hd⟩
    rintro H3 ⟨kp, hd6⟩
    rw [List.length_map, List.take_of_length_le (Nat.le_refl _)] at hd6
    have s3 : Same H2 H3 := fun a u e => kp a u (aD e) e
    have tw : (fs.filter fun z => decide (1 < (fs.count z : Int))) = [] ↔ fs.Nodup := by
      rw [List.filter_eq_nil_iff, List.nodup_iff_count]
      constructor
      · intro h z
        by_cases hz : z ∈ fs
        · have := h z hz
          simp at this
          omega
        · rw [List.count_eq_zero_of_not_mem hz]
          exact Nat.zero_le _
      · intro h z _
        have := h z
        simp
        omega
    have tok : (fs.filter fun z => decide (1 < (fs.count z : Int))).all PyData.strOk = true := names_ok fun z hz => nf z (List.mem_filter.mp hz).1
    generalize (fs.filter fun z => decide (1 < (fs.count z : Int))) = tws at hd6 tw tok
    dsimp only [gName]
    have s23 := s2.trans s3
    have hP3 := hP1.same s23
    refine ⟨_, rfl, a, ps, zss, rfl, hP3, fun H4 s4 => ?_⟩
    refine ⟨_, rfl, a, ps, zss, rfl, hP3.same s4, fun H5 s5 => ⟨by show 2 ≤ sizeLine; decide, fun p1 n1 => ?_⟩⟩
    rw [← hfs]
    have s6 := same_upd (o := .lst [.bl (decide fs.Nodup), .bl (decide fs.Nodup)]) n1
    have hp1 : upd H5 p1 (.lst [.bl (decide fs.Nodup), .bl (decide fs.Nodup)]) p1 = some (.lst ([decide fs.Nodup, decide fs.Nodup].map V.bl)) := upd_same
    have s36 := (s4.trans s5).trans s6
    have hd7 := s36 _ _ hd6
    generalize upd H5 p1 (.lst [.bl (decide fs.Nodup), .bl (decide fs.Nodup)]) = H6 at hp1 s36 hd7 ⊢
    have w1 := shows_bools (K := K) [decide fs.Nodup, decide fs.Nodup] hp1 (by show 2 ≤ 100; decide)
    refine ⟨_, _, rfl, w1.dq, w1.sh, w1.dp, w1.sz, ?_⟩
    refine ⟨_, rfl, by show 0 ≤ sizeLine; exact Nat.zero_le _, fun q1 m1 => ?_⟩
    have s7 := same_upd (o := .lst []) m1
    refine ⟨.list (tws.map .str), .list ([].map .str), .lst (SqL.of (s7 _ _ hd7)) (strs_dpA tws), .lst (SqL.of upd_same) .nil, strs_shapedL tok, strs_shapedL rfl, ?_⟩
    rw [strs_eqvL]
    refine ⟨_, rfl, by show 0 ≤ sizeLine; exact Nat.zero_le _, fun q2 m2 => ?_⟩
    have s8 := same_upd (o := .lst []) m2
    have s78 := s7.trans s8
    refine ⟨.list (tws.map .str), .list ([].map .str), .lst (SqL.of (s78 _ _ hd7)) (strs_dpA tws), .lst (SqL.of upd_same) .nil, strs_shapedL tok, strs_shapedL rfl, ?_⟩
    rw [strs_eqvL]
    refine ⟨by show 2 ≤ sizeLine; decide, fun p2 n2 => ?_⟩
    have s9 := same_upd (o := .lst [.bl (decide (tws = [])), .bl (decide (tws = []))]) n2
    have hp2 : upd (upd (upd H6 q1 (.lst [])) q2 (.lst [])) p2 (.lst [.bl (decide (tws = [])), .bl (decide (tws = []))]) p2 = some (.lst ([decide (tws = []), decide (tws = [])].map V.bl)) := upd_same
    have w2 := shows_bools (K := K) [decide (tws = []), decide (tws = [])] hp2 (by show 2 ≤ 100; decide)
    have et : decide (tws = []) = decide fs.Nodup := decide_eq_decide.mpr tw
    have s39 := (s36.trans s78).trans s9
    refine ⟨_, _, rfl, w2.dq, w2.sh, w2.dp, w2.sz, rfl, _, rfl, iteF' (by rw [et]; simp) ?_⟩
    generalize upd (upd (upd H6 q1 (.lst [])) q2 (.lst [])) p2 (.lst [.bl (decide (tws = [])), .bl (decide (tws = []))]) = H9 at s39 ⊢
    clear w1 w2 hp1 hp2 s36 s78 s9 s7 s8 s6
    -- what is due
    have s19 := s23.trans s39
    have s09 := s12.trans s19
    have hI9 := s09 _ _ hI
    have hD9 := s39 _ _ (s3 _ _ hD)
    have lI : is.length ≤ 60 := by
      rw [pm.length_eq]
      unfold BD.ins
      exact Nat.le_trans (List.length_filter_le _ _) (by rw [srt_len]; exact gB.le)
    have snd : (srt B.ns).Nodup := (srt_perm B.ns).nodup_iff.mpr gB.nd
    have bnm : ∀ z ∈ B.ins, nameT z = true := fun z hz => by
      have hz2 := srt_mem.mp (List.mem_filter.mp hz).1
      obtain ⟨v, e⟩ := gB.nm z hz2
      have := v.nm
      rw [e] at this
      exact this
    refine ⟨_, rfl, I, is, rfl, SqL.of hI9, by omega, fun ys p1 pm2 so np1 => ?_⟩
    have ey : ys = B.ins := perm_eq (pm2.trans pm) (sorted_pair so) ((srt_pair B.ns).filter _)
    subst ey
    have sA := same_upd (o := .lst (B.ins.map V.str)) np1
    have hpA : upd H9 p1 (.lst (B.ins.map V.str)) p1 = some (.lst (B.ins.map V.str)) := upd_same
    have hDA := sA _ _ hD9
    have s0A := s09.trans sA
    have s1A := s19.trans sA
    generalize upd H9 p1 (.lst (B.ins.map V.str)) = HA at sA hpA hDA s0A s1A ⊢
    have lB : B.ins.length ≤ 60 := by rw [← pm.length_eq]; exact lI
    refine ⟨p1, rfl, ⟨_, SqL.of hpA⟩, fun D7 n7 => ?_⟩
    have aD7 : ∀ {a : Addr} {o : HO}, HA a = some o → a ≠ D7 := fun {a o} e => ne_of_none e n7
    refine lc_it (walk_list (K := K) (a := p1) (xs := B.ins.map V.str)) (fun i G => (∀ c u, c ≠ D7 → HA c = some u → G c = some u) ∧ G D7 = some (.lst (((B.ins.take i).filter fun n => !decide (n ∈ fs)).map V.str))) ⟨fun a u n e => by rw [upd_ne n]; exact e, upd_same⟩ (fun i G _ h => SqL.of (h.1 _ _ (aD7 hpA) hpA)) ?_ ?_
    · rintro i y G0 G hi ⟨kp, hd⟩ ⟨rfl, hy⟩
      obtain ⟨z, ez, rfl⟩ := getD_map hy
      have hD2 := kp _ _ (aD7 hDA) hDA
      have lf := List.length_filter_le (fun n => !decide (n ∈ fs)) (B.ins.take i)
      rw [List.length_take] at lf
      refine ⟨rfl, _, rfl, _, rfl, D, _, rfl, .inl (SqL.of hD2), rfl, List.all_eq_true.mpr (fun v hv => by obtain ⟨z, _, rfl⟩ := List.mem_map.mp hv; rfl), _, rfl, ?_⟩
      rw [in_strs, filter_snoc ez]
      by_cases hm : z ∈ fs
      · rw [if_neg (show ¬ (!decide (z ∈ fs)) = true by simp [hm])]
        exact iteF' (by simp [hm]) ⟨kp, hd⟩
      · rw [if_pos (show (!decide (z ∈ fs)) = true by simp [hm])]
        exact iteT' (by simp [hm]) ⟨_, rfl, _, hd, by rw [List.length_map, sizeLine_eq]; omega, fun c o n e => by rw [upd_ne n]; exact kp c o n e, by rw [upd_same, List.map_append]; rfl⟩
    rintro HB ⟨kp, hd7⟩
    rw [List.length_map, List.take_of_length_le (Nat.le_refl _)] at hd7
    have sB : Same HA HB := fun a u e => kp a u (aD7 e) e
    have s0B := s0A.trans sB
    have s1B := s1A.trans sB
    have dnm : ∀ z ∈ B.ins.filter (fun n => !decide (n ∈ fs)), nameT z = true := fun z hz => bnm z (List.mem_filter.mp hz).1
    have dok := names_ok dnm
    have ldu : (B.ins.filter fun n => !decide (n ∈ fs)).length ≤ 60 := Nat.le_trans (List.length_filter_le _ _) lB
    -- what is left over
    dsimp only [gName]
    refine ⟨_, rfl, _, rfl, rfl, rfl, b, k, r, d, a, B, ps, zss, rfl, hB.same s0B, gB.le, hP1.same s1B, fun q1 HC sC nq1 hq1 => ?_⟩
    rw [← hfs] at hq1
    have hd7C := sC _ _ hd7
    dsimp only [gName]
    refine ⟨_, rfl, _, _, _, _, true, rfl, .ty "list", .base (.lst hq1), kit_ty (by decide +kernel), _, rfl, iteF ?_⟩
    refine ⟨_, rfl, _, rfl, .list ((B.ins.filter fun n => !decide (n ∈ fs)).map .str), .list ((B.ins.filter fun n => !decide (n ∈ fs)).map .str), .lst (SqL.of hq1) (strs_dpA _), .lst (SqL.of hd7C) (strs_dpA _), strs_shapedL dok, strs_shapedL dok, _, rfl, ?_⟩
    rw [strs_eqvL, decide_eq_true rfl]
    refine iteF ?_
    -- more
    refine ⟨_, rfl, .inl ⟨rfl, _, SqL.of hq1⟩, q1, _, _, rfl, rfl, hq1, by rw [List.length_map, sizeLine_eq]; omega, ?_⟩
    have q7 : D7 ≠ q1 := ne_of_none hd7 nq1
    have hd7D : upd HC q1 (.lst ((B.ins.filter fun n => !decide (n ∈ fs)).map V.str ++ [.str "more"])) D7 = some (.lst ((B.ins.filter fun n => !decide (n ∈ fs)).map V.str)) := by rw [upd_ne q7]; exact hd7C
    have sBD : Same HB (upd HC q1 (.lst ((B.ins.filter fun n => !decide (n ∈ fs)).map V.str ++ [.str "more"]))) := fun a u e => by rw [upd_ne (ne_of_none e nq1)]; exact sC _ _ e
    have s0D := s0B.trans sBD
    have s1D := s1B.trans sBD
    dsimp only
    generalize upd HC q1 (.lst ((B.ins.filter fun n => !decide (n ∈ fs)).map V.str ++ [.str "more"])) = HD at hd7D sBD s0D s1D ⊢
    refine ⟨_, rfl, _, rfl, b, k, r, d, a, B, ps, zss, rfl, hB.same s0D, gB.le, hP1.same s1D, fun q2 HE sE nq2 hq2 => ?_⟩
    rw [← hfs] at hq2
    refine ⟨_, rfl, .list ((B.ins.filter fun n => !decide (n ∈ fs)).map .str), .list ((B.ins.filter fun n => !decide (n ∈ fs)).map .str), .lst (SqL.of hq2) (strs_dpA _), .lst (SqL.of (sE _ _ hd7D)) (strs_dpA _), strs_shapedL dok, strs_shapedL dok, ?_⟩
    rw [strs_eqvL, decide_eq_true rfl]
    refine ⟨true, rfl, ?_⟩
    rw [if_pos rfl]
    have w9 := hsh _ (s0D.trans sE)
    refine ⟨_, rfl, _, _, rfl, w9.dq, w9.sh, w9.dp, w9.sz, _, rfl, rfl, ?_⟩
    have f9 := fin HE (s0D.trans sE)
    simpa using f9
end
end Pk
namespace Pk
open PySem L2
/-! ### the law -/
section
variable {CB CQ cN cX cG : Addr} {H : Hp} {b k r d : Addr} {B : BD} {n : Str} {Q : VK}
theorem back_go (hB : BankAt CB CQ H b k r d B) (hn : n ∈ B.ns) (ho : n ∈ B.os) (q : ∀ H', Bt [r] H H' → BankAt CB CQ H' b k r d (B.back n) → Q .non H') : spBackB CB CQ cN cG [.ref b, .str n] H Q E0 :=
  ⟨b, k, r, d, B, .str n, rfl, hB, .inl ⟨n, hn, rfl, fun _ H' u hb' => q H' u hb', fun h => absurd ho h⟩⟩
theorem drop_go (hB : BankAt CB CQ H b k r d B) (g : GoodB B) (hn : n ∈ B.ns) (q : ∀ H', Bt [k, r, d] H H' → BankAt CB CQ H' b k r d (B.drop n) → Q .non H') : spDroppedB CB CQ cN [.ref b, .str n] H Q E0 :=
  ⟨b, k, r, d, B, .str n, rfl, hB, g.os, .inl ⟨n, hn, rfl, fun H' u hb => q H' u hb⟩⟩
end
theorem dropN_len {ns : List Str} {n : Str} (nd : ns.Nodup) (h : n ∈ ns) : (dropN ns n).length + 1 = ns.length := by
  have p : (n :: dropN ns n).Perm ns := by
    refine (List.perm_ext_iff_of_nodup (List.nodup_cons.mpr ⟨fun z => (dropN_mem.mp z).2 rfl, nd.filter _⟩) nd).mpr fun m => ?_
    rw [List.mem_cons, dropN_mem]
    exact ⟨fun z => z.elim (fun e => e ▸ h) And.left, fun z => if e : m = n then .inl e else .inr ⟨z, e⟩⟩
  have := p.length_eq
  rw [List.length_cons] at this
  exact this
theorem bO2 {K : PySem.W.Frag} {f : Addr} {fd : FuncData} (F : FunD K "taken_out" "Bank.taken_out" (defArgs sBOut) (defBody sBOut) (defScope sBOut) [.str "wrong"] [] f fd) : ∃ ds, Vals ([.str "wrong"] : List V) ds ∧ Binds K fd ["self", "name", "why"] ds :=
  F.binds1 2 0 (fun z => nomatch z) rfl fun T kV doc pm an cdv ct us its l1 l2 => match us, its, l1, l2 with
    | [_, _], [_], _, _ => ⟨_, rfl, rfl⟩

theorem ins_iff {B : BD} {z : Str} : z ∈ B.ins ↔ z ∈ B.ns ∧ z ∉ B.os := by
  unfold BD.ins
  rw [List.mem_filter, srt_mem]
  simp
theorem GoodB.ins_nd {B : BD} (g : GoodB B) : B.ins.Nodup := (srt_nd g.nd).filter _
theorem perm_mem {a b : List Str} (h1 : a.Nodup) (h2 : b.Nodup) (h : ∀ z, z ∈ a ↔ z ∈ b) : a.Perm b := (List.perm_ext_iff_of_nodup h1 h2).mpr h
theorem out_ins {B : BD} {is : List Str} {z w : Str} (g : GoodB B) (p : is.Perm B.ins) (hz : z ∈ B.ns) : (is.filter fun x => !decide (x = z)).Perm (B.out z w).ins :=
  perm_mem ((p.nodup_iff.mpr g.ins_nd).filter _) (srt_nd g.nd |>.filter _) fun x => by
    rw [List.mem_filter, p.mem_iff, ins_iff, ins_iff]
    show _ ↔ x ∈ B.ns ∧ x ∉ putN B.os z
    rw [putN_mem]
    simp only [Bool.not_eq_true', decide_eq_false_iff_not, not_or]
    exact ⟨fun h => ⟨h.1.1, h.1.2, h.2⟩, fun h => ⟨⟨h.1, h.2.1⟩, h.2.2⟩⟩
theorem back_ins {B : BD} {is : List Str} {z : Str} (g : GoodB B) (p : is.Perm B.ins) (hz : z ∈ B.ns) (n : z ∉ is) : (is ++ [z]).Perm (B.back z).ins :=
  perm_mem (List.nodup_append.mpr ⟨p.nodup_iff.mpr g.ins_nd, List.nodup_cons.mpr ⟨List.not_mem_nil, List.nodup_nil⟩, fun x hx y hy e => n (by rw [List.mem_singleton.mp hy] at e; rw [← e]; exact hx)⟩) (srt_nd g.nd |>.filter _) fun x => by
    rw [List.mem_append, p.mem_iff, ins_iff, ins_iff, List.mem_singleton]
    show _ ↔ x ∈ B.ns ∧ x ∉ dropN B.os z
    rw [dropN_mem]
    refine ⟨fun h => ?_, fun h => ?_⟩
    · rcases h with h | rfl
      · exact ⟨h.1, fun y => h.2 y.1⟩
      · exact ⟨hz, fun y => y.2 rfl⟩
    · by_cases e : x = z
      · exact .inr e
      · exact .inl ⟨h.1, fun y => h.2 ⟨y, e⟩⟩
theorem drop_ins {B : BD} {is : List Str} {z : Str} (g : GoodB B) (p : is.Perm B.ins) : (is.filter fun x => !decide (x = z)).Perm (B.drop z).ins :=
  perm_mem ((p.nodup_iff.mpr g.ins_nd).filter _) (g.drop.ins_nd) fun x => by
    rw [List.mem_filter, p.mem_iff, ins_iff, ins_iff]
    show _ ↔ x ∈ dropN B.ns z ∧ x ∉ dropN B.os z
    rw [dropN_mem, dropN_mem]
    simp only [Bool.not_eq_true', decide_eq_false_iff_not]
    exact ⟨fun h => ⟨⟨h.1.1, h.2⟩, fun y => h.1.2 y.1⟩, fun h => ⟨⟨h.1.1, fun y => h.2 ⟨y, h.1.2⟩⟩, h.1.2⟩⟩
def tLead (CB CQ : Addr) : TS := fun Dn σ H => ∃ (v0 v1 v2 v4 v6 v7 v8 v9 : Option V) (b k r d I : Addr) (B : BD) (z : Str) (is : List Str), σ = [v0, v1, v2, some (.ref b), v4, some (.ref I), v6, v7, v8, v9, some (.str z), none] ∧ BankAt CB CQ H b k r d B ∧ GoodB B ∧ z ∈ B.ns ∧ H I = some (.lst (is.map V.str)) ∧ is.Perm B.ins ∧
  ∀ (B' : BD) (J : Addr) (js : List Str) (G : Hp), Bt [k, r, d] H G → BankAt CB CQ G b k r d B' → GoodB B' → B'.ns = B.ns → G J = some (.lst (js.map V.str)) → js.Perm B'.ins → Dn.nx [v0, v1, v2, some (.ref b), v4, some (.ref J), v6, v7, v8, v9, some (.str z), none] G
def tDrp (CB CQ : Addr) : TS := fun Dn σ H => ∃ (v0 v1 v2 v4 v7 v8 v9 : Option V) (t : Int) (b k r d I : Addr) (B : BD) (z : Str) (is : List Str), σ = [v0, v1, v2, some (.ref b), v4, some (.ref I), some (.int t), v7, v8, v9, some (.str z), none] ∧ BankAt CB CQ H b k r d B ∧ GoodB B ∧ z ∈ B.ns ∧ H I = some (.lst (is.map V.str)) ∧ is.Perm B.ins ∧
  ∀ (B' : BD) (J : Addr) (js : List Str) (G : Hp), Bt [k, r, d] H G → BankAt CB CQ G b k r d B' → GoodB B' → (t = 2 → B'.ns.length + 1 = B.ns.length) → (t ≠ 2 → B'.ns = B.ns) → B'.ns.length ≤ B.ns.length → G J = some (.lst (js.map V.str)) → js.Perm B'.ins → Dn.nx [v0, v1, v2, some (.ref b), v4, some (.ref J), some (.int t), v7, v8, v9, some (.str z), none] G
theorem PsAt.bt {H H' : Hp} {a : Addr} {ps : List Addr} {zss : List (List Str)} {L : List Addr} (h : PsAt H a ps zss) (u : Bt L H H') (n : ∀ p ∈ L, ∃ kv, H p = some (.dK kv)) : PsAt H' a ps zss :=
  have off : ∀ {q : Addr} {o : HO}, H q = some o → (∀ kv, o ≠ .dK kv) → H' q = some o := fun {q o} e z => u _ _ (fun m => by obtain ⟨kv, e2⟩ := n _ m; rw [e] at e2; cases e2; exact z _ rfl) e
  ⟨h.at_.elim (fun e => .inl (off e (fun _ z => by cases z))) (fun e => .inr (off e (fun _ z => by cases z))), paired_by h.pa (fun p zs e => off e (fun _ z => by cases z)), h.pap, h.le, h.few⟩
theorem PsAt.none {H : Hp} {a : Addr} (h : H a = some (.lst []) ∨ H a = some (.tup [])) : PsAt H a [] [] := ⟨h, .nil, (fun _ z => nomatch z), by decide, (fun _ z => nomatch z)⟩
/-- where a bank of a draw is led -/
structure Ls (CB CQ e b k r d : Addr) (H0 G : Hp) (B : BD) (t : Int) : Prop where
  bt : Bt [e, k, r, d] H0 G
  D : DrawAt G e t
  bk : BankAt CB CQ G b k r d B
section
variable {CB CQ e b k r d : Addr} {H0 G G' : Hp} {B B' : BD} {t t' : Int}
theorem Ls.eb (h : Ls CB CQ e b k r d H0 G B t) : e ∉ [k, r, d] := h.bk.nv fun z1 z2 => (h.D.tb z1 z2).symm
theorem Ls.same (h : Ls CB CQ e b k r d H0 G B t) (s : Same G G') : Ls CB CQ e b k r d H0 G' B t := ⟨h.bt.trans (.same s), h.D.same s, h.bk.same s⟩
theorem Ls.take (h : Ls CB CQ e b k r d H0 G B t) (u : Bt [e] G G') (D' : DrawAt G' e t') : Ls CB CQ e b k r d H0 G' B t' :=
  ⟨h.bt.trans (u.mono fun x hx => by rw [List.mem_singleton.mp hx]; exact List.mem_cons_self), D', h.bk.draw h.D u⟩
theorem Ls.deed (h : Ls CB CQ e b k r d H0 G B t) (u : Bt [k, r, d] G G') (hb : BankAt CB CQ G' b k r d B') : Ls CB CQ e b k r d H0 G' B' t :=
  ⟨h.bt.trans (u.mono fun x hx => List.mem_cons_of_mem _ hx), h.D.bt u h.eb, hb⟩
theorem Ls.dk (h : Ls CB CQ e b k r d H0 G B t) : ∀ p ∈ [k, r, d], ∃ kv, G p = some (.dK kv) := h.bk.dk
end
def spLaw (K : PySem.W.Frag) : Sp := fun vs H Q _ => ∃ (a : Addr) (ns : List Int), vs = [.ref a] ∧ SqL K H a (ns.map V.int) ∧ ns.length ≤ 63 ∧ ∀ H', Q (.bl true) H'
section
variable {P : Program} {w : World} {K : PySem.W.Frag} {mg : Str → Option Value} {base : Heap} {CB CQ cN cX cG : Addr}
abbrev NLaw : List Str := ["_law_script", "_law_k", "_law_draw", "_law_store", "_law_rows", "_law_inside", "_law_turn", "_law_names_here", "_law_taken", "_law_handed", "_law_name", "_law_one"]
theorem scLaw : FnScope NLaw ["_law_script"] (defScope sLaw) := ⟨rfl, rfl, rfl, by decide +kernel, rfl, by decide +kernel, by decide +kernel⟩
theorem ok_law {f fBe fBa fS fO fR fA fNa fO2 fB2 fD2 : Addr} {fd fdBe fdBa fdS fdO fdR fdA fdNa fdO2 fdB2 fdD2 : FuncData} (F : Fun K "law" "law" sLaw f fd) (C : BCls K CB)
    (mra : mg "range" = none) (mmi : mg "min" = none) (ml : mg "len" = none) (mso : mg "sorted" = none) (mt : mg "tuple" = none)
    (GBe : FnOk P w K mg base CX0 1 fBe fdBe ["_law_script", "_law_k"] (spBegun K)) (kBe : PySem.W.keepIn K (.ref fBe) = true) (bBe : Binds K fdBe ["_law_script", "_law_k"] []) (gBe : mg "_law_begun" = some (.ref fBe))
    (GBa : FnOk P w K mg base CX0 8 fBa fdBa ["_law_draw", "_law_high"] (spBank CB CQ)) (kBa : PySem.W.keepIn K (.ref fBa) = true) (bBa : Binds K fdBa ["_law_draw", "_law_high"] []) (gBa : mg "_law_bank" = some (.ref fBa))
    (GS : FnOk P w K mg base CX0 3 fS fdS ["_law_draw", "_law_names_here"] spSomeP) (kS : PySem.W.keepIn K (.ref fS) = true) (bS : Binds K fdS ["_law_draw", "_law_names_here"] []) (gS : mg "_law_some_papers" = some (.ref fS))
    (GO : FnOk P w K mg base CX0 2 fO fdO ["_law_draw", "_law_some"] spOf) (kO : PySem.W.keepIn K (.ref fO) = true) (bO : Binds K fdO ["_law_draw", "_law_some"] []) (gO : mg "_law_of" = some (.ref fO))
    (GR : FnG P w K mg base CX0 6 fR fdR ["_law_store", "_law_taken", "_law_inside"] (spRight CB CQ)) (kR : PySem.W.keepIn K (.ref fR) = true) (bR : Binds K fdR ["_law_store", "_law_taken", "_law_inside"] []) (gR : mg "_law_right" = some (.ref fR))
    (GA : FnOk P w K mg base (L2.CX P w) 5 fA fdA ["papers"] spApart) (kA : PySem.W.keepIn K (.ref fA) = true) (bA : Binds K fdA ["papers"] []) (gA : mg "are_apart" = some (.ref fA))
    (GNa : FnOk P w K mg base CX0 1 fNa fdNa ["self"] (spNamesB CB CQ)) (MNa : Meth K CB "names" fNa) (bNa : Binds K fdNa ["self"] [])
    (FO2 : FunD K "taken_out" "Bank.taken_out" (defArgs sBOut) (defBody sBOut) (defScope sBOut) [.str "wrong"] [] fO2 fdO2) (GO2 : FnOk P w K mg base (L2.CX P w) 5 fO2 fdO2 ["self", "name", "why"] (spOutB CB CQ cN cX)) (MO : Meth K CB "taken_out" fO2)
    (GB2 : FnOk P w K mg base (L2.CX P w) 5 fB2 fdB2 ["self", "name"] (spBackB CB CQ cN cG)) (MB : Meth K CB "put_back" fB2) (bB : Binds K fdB2 ["self", "name"] [])
    (GD2 : FnOk P w K mg base (L2.CX P w) 5 fD2 fdD2 ["self", "name"] (spDroppedB CB CQ cN)) (MD : Meth K CB "dropped" fD2) (bD : Binds K fdD2 ["self", "name"] []) : FnG P w K mg base CX0 9 f fd ["_law_script"] (spLaw K) := by
  obtain ⟨dOu, hOu, bOu⟩ := bO2 FO2
  refine okG F scLaw (fun vs H Q E h => ?_) (fun cdv A calm outer s H vs Q E hr h => ?_)
  · obtain ⟨a, ns, rfl, _⟩ := h
    rfl
  · obtain ⟨a, ns, rfl, hS, hlen, fin⟩ := h
    have r1 : Room 1 _ := hr.mono (by decide)
    have r2 : Room 2 _ := hr.mono (by decide)
    have r3 : Room 3 _ := hr.mono (by decide)
    have r5 : Room 5 _ := hr.mono (by decide)
    have r6 : Room 6 _ := hr.mono (by decide)
    have r8 : Room 8 _ := hr
    refine ⟨_, pss_cons (ps_for PassesOwn.never rfl (pi_range1 (by rfl) mra (pa_cons (pe_op op_add pe_int (pe_callB (call_min2 rfl) (by rfl) mmi (by decide +kernel) (pa_cons pe_int (pa_cons (pe_callB call_lenQ (by rfl) ml PySem.boot_len (pa_cons (pv 0) pa_nil)) pa_nil)))) pa_nil)) (pg_name (i := 1) scLaw.nd rfl (.inl rfl))
        (pss_cons (ps_set (i := 2) scLaw.nd rfl (.inl rfl) (pe_call (E := E0) GBe r1 (by rfl) gBe kBe bBe .nil pass0 (pa_cons (pv 0) (pa_cons (pv 1) pa_nil))))
        (pss_cons (ps_asg (pe_call (E := E0) GBa r8 (by rfl) gBa kBa bBa .nil pass0 (pa_cons (pv 2) (pa_cons pe_int pa_nil))) (pg_tup rfl (pgs_cons (pg_name (i := 3) scLaw.nd rfl (.inl rfl)) (pgs_cons (pg_name (i := 4) scLaw.nd rfl (.inl rfl)) pgs_nil))))
        (pss_cons (ps_set (i := 5) scLaw.nd rfl (.inl rfl) (pe_callB (call_sortedD rfl) (by rfl) mso (by decide +kernel) (pa_cons (pv 4) pa_nil)))
        (pss_one (ps_for PassesOwn.never rfl (pi_range1 (by rfl) mra (pa_cons pe_int pa_nil)) (pg_name (i := 6) scLaw.nd rfl (.inl rfl))
        (pss_cons (ps_set (i := 7) scLaw.nd rfl (.inl rfl) (pe_op op_cat (pe_meth0 (E := E0) (pv 3) C.cls MNa GNa r1 bNa .nil pass0) (pe_lst (pa_cons pe_str pa_nil))))
        (pss_cons (ps_set (i := 8) scLaw.nd rfl (.inl rfl) (pe_call (E := E0) GS r3 (by rfl) gS kS bS .nil pass0 (pa_cons (pv 2) (pa_cons (pv 7) pa_nil))))
        (pss_cons (ps_set (i := 9) scLaw.nd rfl (.inl rfl) (pe_call (E := E0) GO r2 (by rfl) gO kO bO .nil pass0 (pa_cons (pv 2) (pa_cons (pe_lst (pa_cons (pv 8) (pa_cons (pe_callTy call_tuple_of (by rfl) mt PyProof.Rows.boot_tuple (pa_cons (pv 8) pa_nil)) pa_nil))) pa_nil))))
        (pss_cons (ps_if (pt_not (pt_val (pe_callG GR (show Calm _ from calm) r6 (by rfl) gR kR bR .nil pass0 (pa_cons (pv 3) (pa_cons (pv 9) (pa_cons (pv 5) pa_nil)))))) (pss_one (ps_ret pe_bl)) pss_nil)
        (pss_cons (ps_set (i := 10) scLaw.nd rfl (.inr rfl) (pe_call (E := E0) GO r2 (by rfl) gO kO bO .nil pass0 (pa_cons (pv 2) (pa_cons (pe_meth0 (E := E0) (pv 3) C.cls MNa GNa r1 bNa .nil pass0) pa_nil))))
        (pss_cons (ps_imp (tLead CB CQ) (ps_if (pt_cmpR (r := rIn K false) (hm := by rfl) (by exact op_in_seq) (pv 10) (pv 5)) (pss_cons (ps_expr (pe_meth (E := E0) (pv 3) C.cls MO GO2 r5 bOu hOu pass_no (pa_cons (pv 10) pa_nil)))
      (pss_one (ps_setLc (i := 5) (own := [("_law_one", 11)]) (g := gName 11) (tt := tTest (tOp rNe (tVar 11) (tVar 10))) (te := tVar 11) rfl scLaw.nd rfl rfl (sw_true rfl rfl rfl (by decide +kernel)) (pi_list (pv 5)) (blkOk_by (N := NLaw) (sc := defScope sLaw) (by decide +kernel)) (fun _ _ _ _ _ => pg_name (i := 11) scLaw.nd rfl (Or.inl rfl)) (fun _ _ _ _ _ => by exact pts_one (pt_cmpR op_ne (pv 11) (pv 10) (nomark _))) (fun _ _ _ _ _ => pv 11)))) (pss_cons (ps_expr (pe_meth (E := E0) (pv 3) C.cls MB GB2 r5 bB .nil pass_no (pa_cons (pv 10) pa_nil)))
      (pss_one (ps_set (i := 5) scLaw.nd rfl (.inl rfl) (pe_op op_cat (pv 5) (pe_lst (pa_cons (pv 10) pa_nil))))))) (by
            rintro Dn σ H ⟨v0, v1, v2, v4, v6, v7, v8, v9, b, k, r, d, I, B, z, is, rfl, hB, gB, hz, hI, pm, fin⟩
            obtain ⟨dx, hb⟩ := id hB.at_
            have li : is.length ≤ 60 := by
              rw [pm.length_eq]
              exact Nat.le_trans (List.length_filter_le _ _) (by rw [srt_len]; exact gB.le)
            have In : ∀ x ∈ [k, r, d], I ≠ x := fun x hx y => by
              obtain ⟨kv, e⟩ := hB.dk x hx
              rw [← y, hI] at e
              cases e
            have rm : r ∈ [k, r, d] := by simp
            refine ⟨_, rfl, _, rfl, I, _, rfl, .inl (SqL.of hI), rfl, List.all_eq_true.mpr (fun v hv => by obtain ⟨z, _, rfl⟩ := List.mem_map.mp hv; rfl), _, rfl, ?_⟩
            rw [in_strs]
            by_cases hm : z ∈ is
            · refine iteT' (by simpa using hm) ⟨_, rfl, b, dx, _, rfl, hb, lb_meth (by decide) _ _ _, _, rfl, ?_⟩
              have lo : B.os.length ≤ 1000 := Nat.le_trans (gB.od.length_le_of_subset gB.os) (Nat.le_trans gB.le (by decide))
              dsimp only [tNil, tCons, List.cons_append, List.nil_append]
              refine out_go (z := "wrong") hB hz lo (by decide +kernel) fun H1 u1 hB1 => ?_
              have hI1 := u1.at (In r rm) hI
              refine ⟨_, rfl, I, rfl, ⟨_, SqL.of hI1⟩, fun J nJ => ?_⟩
              have aJ : ∀ {a : Addr} {o : HO}, H1 a = some o → a ≠ J := fun {a o} e => ne_of_none e nJ
              refine lc_it (walk_list (K := K) (a := I) (xs := is.map V.str)) (fun i G => (∀ c u, c ≠ J → H1 c = some u → G c = some u) ∧ G J = some (.lst (((is.take i).filter fun x => !decide (x = z)).map V.str))) ⟨fun a u n e => by rw [upd_ne n]; exact e, upd_same⟩ (fun i G _ h => SqL.of (h.1 _ _ (aJ hI1) hI1)) ?_ ?_
              · rintro i y G0 G hi ⟨kp, hd⟩ ⟨rfl, hy⟩
                obtain ⟨x, ex, rfl⟩ := getD_map hy
                have lf := List.length_filter_le (fun x => !decide (x = z)) (is.take i)
                rw [List.length_take] at lf
                refine ⟨rfl, _, rfl, _, rfl, rfl, _, rfl, ?_⟩
                rw [filter_snoc ex]
                by_cases hx : x = z
                · rw [if_neg (show ¬ (!decide (x = z)) = true by simp [hx])]
                  exact iteF' (by simp [hx]) ⟨kp, hd⟩
                · rw [if_pos (show (!decide (x = z)) = true by simp [hx])]
                  exact iteT' (by simp [hx]) ⟨_, rfl, _, hd, by rw [List.length_map, sizeLine_eq]; omega, fun c o n e => by rw [upd_ne n]; exact kp c o n e, by rw [upd_same, List.map_append]; rfl⟩
              rintro H2 ⟨kp, hJ⟩
              rw [List.length_map, List.take_of_length_le (Nat.le_refl _)] at hJ
              have s2 : Same H1 H2 := fun a u e => kp a u (aJ e) e
              exact fin (B.out z "wrong") J _ _ ((u1.mono fun x hx => by rw [List.mem_singleton.mp hx]; exact rm).trans (.same s2)) (hB1.same s2) (gB.out hz (by decide +kernel)) rfl hJ (out_ins gB pm hz)
            · refine iteF' (by simpa using hm) ⟨_, rfl, b, dx, _, rfl, hb, lb_meth (by decide) _ _ _, _, rfl, ?_⟩
              have ho : z ∈ B.os := Classical.byContradiction fun h => hm (pm.mem_iff.mpr (ins_iff.mpr ⟨hz, h⟩))
              dsimp only [tNil, tCons, List.cons_append, List.nil_append]
              refine back_go hB hz ho fun H1 u1 hB1 => ?_
              have hI1 := u1.at (In r rm) hI
              refine ⟨_, rfl, _, rfl, by show 1 ≤ sizeLine; decide, fun p np => ?_⟩
              have s2 := same_upd (o := .lst [.str z]) np
              refine ⟨I, p, _, _, rfl, rfl, s2 _ _ hI1, upd_same, by rw [List.length_map, sizeLine_eq]; show is.length + 1 ≤ _; omega, fun q nq => ?_⟩
              have s3 := same_upd (o := .lst (is.map V.str ++ [.str z])) nq
              exact fin (B.back z) q (is ++ [z]) _ ((u1.mono fun x hx => by rw [List.mem_singleton.mp hx]; exact rm).trans (.same (s2.trans s3))) (hB1.same (s2.trans s3)) gB.back rfl (by rw [upd_same, List.map_append]; rfl) (back_ins gB pm hz hm)))
        (pss_cons (ps_imp (tDrp CB CQ) (ps_if (pt_cmpR op_eq (pv 6) pe_int (nomark _)) (pss_cons (ps_expr (pe_meth (E := E0) (pv 3) C.cls MD GD2 r5 bD .nil pass_no (pa_cons (pv 10) pa_nil)))
      (pss_one (ps_setLc (i := 5) (own := [("_law_one", 11)]) (g := gName 11) (tt := tTest (tOp rNe (tVar 11) (tVar 10))) (te := tVar 11) rfl scLaw.nd rfl rfl (sw_true rfl rfl rfl (by decide +kernel)) (pi_list (pv 5)) (blkOk_by (N := NLaw) (sc := defScope sLaw) (by decide +kernel)) (fun _ _ _ _ _ => pg_name (i := 11) scLaw.nd rfl (Or.inl rfl)) (fun _ _ _ _ _ => by exact pts_one (pt_cmpR op_ne (pv 11) (pv 10) (nomark _))) (fun _ _ _ _ _ => pv 11)))) pss_nil) (by
            rintro Dn σ H ⟨v0, v1, v2, v4, v7, v8, v9, t, b, k, r, d, I, B, z, is, rfl, hB, gB, hz, hI, pm, fin⟩
            obtain ⟨dx, hb⟩ := id hB.at_
            have li : is.length ≤ 60 := by
              rw [pm.length_eq]
              exact Nat.le_trans (List.length_filter_le _ _) (by rw [srt_len]; exact gB.le)
            have In : ∀ x ∈ [k, r, d], I ≠ x := fun x hx y => by
              obtain ⟨kv, e⟩ := hB.dk x hx
              rw [← y, hI] at e
              cases e
            refine ⟨_, rfl, rfl, _, rfl, ite2 (fun ht => ?_) (fun ht => ?_)⟩
            · refine ⟨_, rfl, b, dx, _, rfl, hb, lb_meth (by decide) _ _ _, _, rfl, ?_⟩
              dsimp only [tNil, tCons, List.cons_append, List.nil_append]
              refine drop_go hB gB hz fun H1 u1 hB1 => ?_
              have hI1 := u1 _ _ (fun h => In _ h rfl) hI
              refine ⟨_, rfl, I, rfl, ⟨_, SqL.of hI1⟩, fun J nJ => ?_⟩
              have aJ : ∀ {a : Addr} {o : HO}, H1 a = some o → a ≠ J := fun {a o} e => ne_of_none e nJ
              refine lc_it (walk_list (K := K) (a := I) (xs := is.map V.str)) (fun i G => (∀ c u, c ≠ J → H1 c = some u → G c = some u) ∧ G J = some (.lst (((is.take i).filter fun x => !decide (x = z)).map V.str))) ⟨fun a u n e => by rw [upd_ne n]; exact e, upd_same⟩ (fun i G _ h => SqL.of (h.1 _ _ (aJ hI1) hI1)) ?_ ?_
              · rintro i y G0 G hi ⟨kp, hd⟩ ⟨rfl, hy⟩
                obtain ⟨x, ex, rfl⟩ := getD_map hy
                have lf := List.length_filter_le (fun x => !decide (x = z)) (is.take i)
                rw [List.length_take] at lf
                refine ⟨rfl, _, rfl, _, rfl, rfl, _, rfl, ?_⟩
                rw [filter_snoc ex]
                by_cases hx : x = z
                · rw [if_neg (show ¬ (!decide (x = z)) = true by simp [hx])]
                  exact iteF' (by simp [hx]) ⟨kp, hd⟩
                · rw [if_pos (show (!decide (x = z)) = true by simp [hx])]
                  exact iteT' (by simp [hx]) ⟨_, rfl, _, hd, by rw [List.length_map, sizeLine_eq]; omega, fun c o n e => by rw [upd_ne n]; exact kp c o n e, by rw [upd_same, List.map_append]; rfl⟩
              rintro H2 ⟨kp, hJ⟩
              rw [List.length_map, List.take_of_length_le (Nat.le_refl _)] at hJ
              have s2 : Same H1 H2 := fun a u e => kp a u (aJ e) e
              have ln : (B.drop z).ns.length + 1 = B.ns.length := dropN_len gB.nd hz
              exact fin (B.drop z) J _ _ (u1.trans (.same s2)) (hB1.same s2) gB.drop (fun _ => ln) (fun h => absurd (by simpa using ht) h) (by omega) hJ (drop_ins gB pm)
            · exact fin B I is H Bt.refl hB gB (fun h => absurd h (by simpa using ht)) (fun _ => rfl) (Nat.le_refl _) hI pm))
        (pss_one (ps_if (pt_not (pt_val (pe_callG GR (show Calm _ from calm) r6 (by rfl) gR kR bR .nil pass0 (pa_cons (pv 3) (pa_cons (pv 9) (pa_cons (pv 5) pa_nil)))))) (pss_one (ps_ret pe_bl)) pss_nil)))))))))))))))
      (pss_one (ps_ret (pe_and (pe_cmpR op_isBl (pe_call (E := E0) GA r5 (by rfl) gA kA bA .nil pass_no (pa_cons (pe_lst pa_nil) pa_nil)) pe_bl (nomark _)) (pe_one (pe_cmpR op_isBl (pe_call (E := E0) GA r5 (by rfl) gA kA bA .nil pass_no (pa_cons (pe_tup pa_nil) pa_nil)) pe_bl (nomark _)))))), ?_⟩
    refine ⟨_, rfl, a, _, rfl, .inl hS, _, _, rfl, 1, _, rfl, rfl, ?_⟩
    rw [List.length_map]
    obtain ⟨NN, eN, N6⟩ : ∃ NN : Nat, (1 + (if (ns.length : Int) < 5 then (ns.length : Int) else 5) : Int) = (NN : Int) ∧ NN ≤ 6 := by
      by_cases h1 : (ns.length : Int) < 5
      · rw [if_pos h1]; exact ⟨1 + ns.length, by push_cast; rfl, by omega⟩
      · rw [if_neg h1]; exact ⟨6, by decide, Nat.le_refl _⟩
    refine ⟨NN, by rw [← eN], by omega, by omega, ?_⟩
    rw [Int.toNat_natCast]
    refine for_it (walk_range (lo := 0) (n := NN)) (fun i σ G => (∃ v1 v2 v3 v4 v5 v6 v7 v8 v9 v10 : Option V, σ = [some (.ref a), v1, v2, v3, v4, v5, v6, v7, v8, v9, v10, none]) ∧ SqL K G a (ns.map V.int)) ⟨⟨_, _, _, _, _, _, _, _, _, _, rfl⟩, hS⟩ (fun _ _ _ _ _ => trivial) ?_ ?_
    · rintro iK x σ G1_ G hi ⟨⟨v1, v2, v3, v4, v5, v6, v7, v8, v9, v10, rfl⟩, hS⟩ ⟨rfl, rfl⟩
      refine ⟨_, rfl, _, rfl, a, iK, ns, by show [V.ref a, V.int (0 + (iK : Int))] = _; rw [Int.zero_add], hS, by omega, by omega, fun e H1 s1 n1 D1 => ?_⟩
      refine ⟨_, rfl, e, _, rfl, D1, by omega, by omega, fun p b k r d R B ks H2 t2 u2 nb nk nr nd nR hp hB gB n2 n9 hR pm D2 c2 d2 => ⟨p, _, rfl, SqT.of hp, rfl, _, _, rfl, _, _, rfl, rfl, ?_⟩⟩
      obtain ⟨kvs, hRk, tk⟩ := hR
      refine ⟨_, rfl, R, kvs, ks, rfl, .inl hRk, tk.1, ?_, fun ys I pmy so nI => ?_⟩
      · have := pm.length_eq
        have l2 : B.ins.length ≤ B.ns.length := Nat.le_trans (List.length_filter_le _ _) (by rw [srt_len]; exact Nat.le_refl _)
        omega
      have s3 := same_upd (o := .lst (ys.map V.str)) nI
      have hI : upd H2 I (.lst (ys.map V.str)) I = some (.lst (ys.map V.str)) := upd_same
      have ls : Ls CB CQ e b k r d G (upd H2 I (.lst (ys.map V.str))) B t2 := ⟨(Bt.same s1).trans ((u2.mono fun x hx => by rw [List.mem_singleton.mp hx]; exact List.mem_cons_self).trans (.same s3)), D2.same s3, hB.same s3⟩
      have pmI : ys.Perm B.ins := pmy.trans pm
      have nG : ∀ p ∈ [e, k, r, d], G p = none := fun p hp => by
        simp only [List.mem_cons, List.not_mem_nil, or_false] at hp
        rcases hp with rfl | rfl | rfl | rfl
        · exact n1
        · exact none_of s1 nk
        · exact none_of s1 nr
        · exact none_of s1 nd
      generalize upd H2 I (.lst (ys.map V.str)) = H3 at hI ls ⊢
      clear s3 hp hB D2 hRk u2
      have tb : t2 ≤ 800 := by omega
      have ta : 0 ≤ t2 := by omega
      refine ⟨4, rfl, by decide, by decide, ?_⟩
      obtain ⟨JNV, hJNV⟩ : ∃ JNV : Nat → List (Option V) → Hp → Prop, JNV = fun (i : Nat) σ X => ∃ (w6 w7 w8 w9 w10 : Option V) (I : Addr) (is : List Str) (B : BD) (t : Int), σ = [some (.ref a), some (.int (0 + (iK : Int))), some (.ref e), some (.ref b), some (.ref R), some (.ref I), w6, w7, w8, w9, w10, none] ∧ Ls CB CQ e b k r d G X B t ∧ GoodB B ∧ 1 ≤ B.ns.length ∧ (i ≤ 2 → 2 ≤ B.ns.length) ∧ B.ns.length ≤ 9 ∧ X I = some (.lst (is.map V.str)) ∧ is.Perm B.ins ∧ t2 ≤ t ∧ t ≤ t2 + 70 * i := ⟨_, rfl⟩
      refine for_it (walk_range (lo := 0) (n := 4)) JNV (by rw [hJNV]; exact ⟨_, _, _, _, _, I, ys, B, t2, rfl, ls, gB, by omega, fun _ => n2, n9, hI, pmI, by omega, by omega⟩) (fun _ _ _ _ _ => trivial) ?_ ?_
      · rintro i x σ X0 X hi4 hJ ⟨rfl, rfl⟩
        rw [hJNV] at hJ
        clear hI ls gB n2 n9 pmI pmy pm
        obtain ⟨w6, w7, w8, w9, w10, I, is, B, t, rfl, ls, gB, n1', n2, n9, hI, pm, ta1, tb1⟩ := hJ
        have nms : ∀ z ∈ srt B.ns, nameT z = true := fun z hz => by
          obtain ⟨v, e⟩ := gB.nm z (srt_mem.mp hz)
          have := v.nm
          rw [e] at this
          exact this
        obtain ⟨dx, hb⟩ := id ls.bk.at_
        have l9 : (srt B.ns).length = B.ns.length := srt_len _
        refine ⟨_, rfl, b, dx, _, rfl, hb, lb_meth (by decide) _ _ _, b, k, r, d, B, rfl, ls.bk, by omega, fun p1 X1 s1 np1 hp1 => ⟨by show 1 ≤ sizeLine; decide, fun p2 np2 => ?_⟩⟩
        have s2 := same_upd (o := .lst [.str "nobody"]) np2
        refine ⟨p1, p2, _, _, rfl, rfl, s2 _ _ hp1, upd_same, by rw [List.length_map, sizeLine_eq]; show (srt B.ns).length + 1 ≤ _; omega, fun q nq => ?_⟩
        have s3 := same_upd (o := .lst ((srt B.ns).map V.str ++ [.str "nobody"])) nq
        have hq : upd (upd X1 p2 (.lst [.str "nobody"])) q (.lst ((srt B.ns).map V.str ++ [.str "nobody"])) q = some (.lst ((srt B.ns ++ (["nobody"] : List Str)).map V.str)) := by rw [upd_same, List.map_append]; rfl
        have ls3 := ((ls.same s1).same s2).same s3
        have hI3 := s3 _ _ (s2 _ _ (s1 _ _ hI))
        have s13 := (s1.trans s2).trans s3
        generalize upd (upd X1 p2 (.lst [.str "nobody"])) q (.lst ((srt B.ns).map V.str ++ [.str "nobody"])) = X3 at hq ls3 hI3 ⊢
        clear s2 s3
        have ln1 : (srt B.ns ++ (["nobody"] : List Str)).length = B.ns.length + 1 := by rw [List.length_append, l9]; rfl
        refine ⟨_, rfl, _, rfl, e, q, t, srt B.ns ++ (["nobody"] : List Str), rfl, ls3.D, by omega, by omega, hq, by omega, by omega, fun z hz => ?_, fun Df ps zss X4 t4 u4 nDf hDf hP D4 ta4 tb4 => ?_⟩
        · rcases List.mem_append.mp hz with h | h
          · exact nms z h
          · rw [List.mem_singleton.mp h]; decide +kernel
        have ls4 := ls3.take u4 D4
        have hI4 := u4.at (ls3.D.lst hI3) hI3
        refine ⟨_, rfl, _, rfl, _, rfl, Df, _, rfl, .inl ⟨SqL.of hDf, fun T nT => ⟨by show 2 ≤ sizeLine; decide, fun p3 np3 => ?_⟩⟩⟩
        have s5 := same_upd (o := .tup (ps.map V.ref)) nT
        have s6 := same_upd (o := .lst [.ref Df, .ref T]) np3
        have hT5 := s6 _ _ (show upd X4 T (.tup (ps.map V.ref)) T = some (.tup (ps.map V.ref)) from upd_same)
        have hP6 := hP.same (s5.trans s6)
        have ls6 := ls4.same (s5.trans s6)
        have hI6 := (s5.trans s6) _ _ hI4
        have hp3 : upd (upd X4 T (.tup (ps.map V.ref))) p3 (.lst [.ref Df, .ref T]) p3 = some (.lst [.ref Df, .ref T]) := upd_same
        generalize upd (upd X4 T (.tup (ps.map V.ref))) p3 (.lst [.ref Df, .ref T]) = X6 at hT5 hP6 ls6 hI6 hp3 ⊢
        refine ⟨e, p3, t4, [.ref Df, .ref T], rfl, ls6.D, by omega, by omega, hp3, by show 0 < 2; decide, by show 2 ≤ 1000; decide, fun ix x t7 X7 hx u7 D7 ta7 tb7 => ?_⟩
        obtain ⟨hd, rfl, hPh⟩ : ∃ hd, x = .ref hd ∧ PsAt X6 hd ps zss := by
          match ix, hx with
          | 0, hx => exact ⟨Df, (Option.some.inj hx).symm, hP6⟩
          | 1, hx => exact ⟨T, (Option.some.inj hx).symm, ⟨.inr hT5, hP6.pa, hP6.pap, hP6.le, hP6.few⟩⟩
        clear hx hP hP6 hT5 hp3
        have ls7 := ls6.take u7 D7
        have hI7 := u7.at (ls6.D.lst hI6) hI6
        have hP7 := hPh.bt u7 fun p hp => by rw [List.mem_singleton.mp hp]; exact ls6.D.isD
        refine ⟨_, rfl, _, rfl, _, rfl, b, k, r, d, hd, I, B, ps, zss, is, rfl, ls7.bk, gB, hP7, hI7, pm, fun X8 s8 => ⟨_, rfl, iteF ?_⟩⟩
        have ls8 := ls7.same s8
        have hI8 := s8 _ _ hI7
        have hP8 := hP7.same s8
        obtain ⟨dx8, hb8⟩ := id ls8.bk.at_
        refine ⟨_, rfl, _, rfl, b, dx8, _, rfl, hb8, lb_meth (by decide) _ _ _, b, k, r, d, B, rfl, ls8.bk, by omega, fun p9 X9 s9 np9 hp9 => ⟨e, p9, t7, _, rfl, (ls8.same s9).D, by omega, by omega, hp9, by rw [List.length_map]; omega, by rw [List.length_map]; omega, fun iy y tA XA hy uA DA taA tbA => ?_⟩⟩
        obtain ⟨z, ez, rfl⟩ := getD_map hy
        have ls9 := ls8.same s9
        have hI9 := s9 _ _ hI8
        have hP9 := hP8.same s9
        have lsA := ls9.take uA DA
        have hIA := uA.at (ls9.D.lst hI9) hI9
        have hPA := hP9.bt uA fun p hp => by rw [List.mem_singleton.mp hp]; exact ls9.D.isD
        have mz : z ∈ B.ns := srt_mem.mp (List.mem_of_getElem? ez)
        refine ⟨_, _, _, _, _, _, _, _, b, k, r, d, I, B, z, is, rfl, lsA.bk, gB, mz, hIA, pm, fun B1 J js XB uB hB1 gB1 nB1 hJ pmJ => ?_⟩
        have lsB := lsA.deed uB hB1
        have hPB := hPA.bt uB lsA.dk
        refine ⟨_, _, _, _, _, _, _, _, b, k, r, d, J, B1, z, js, rfl, hB1, gB1, by rw [nB1]; exact mz, hJ, pmJ, fun B2 J2 j2 XC uC hB2 gB2 l2 l2' l3 hJ2 pm2 => ?_⟩
        have lsC := lsB.deed uC hB2
        have hPC := hPB.bt uC lsB.dk
        refine ⟨_, rfl, _, rfl, _, rfl, b, k, r, d, hd, J2, B2, ps, zss, j2, rfl, hB2, gB2, hPC, hJ2, pm2, fun XD sD => ⟨_, rfl, iteF ?_⟩⟩
        show JNV (i + 1) _ _
        rw [hJNV]
        rw [nB1] at l2 l2' l3
        exact ⟨_, _, _, _, _, J2, j2, B2, tA, rfl, lsC.same sD, gB2, (by
          by_cases h : (0 + (i : Int)) = 2
          · have := l2 h; have := n2 (by omega); omega
          · rw [l2' h]; exact n1'), (fun h => by rw [l2' (by omega)]; exact n2 (by omega)), by omega, sD _ _ hJ2, pm2, by omega, by push_cast; omega⟩
      rintro σ X hJ
      rw [hJNV] at hJ
      obtain ⟨w6, w7, w8, w9, w10, I, is, B, t, rfl, ls, gB, n1', n2', n9', hI', pm', ta1, tb1⟩ := hJ
      exact ⟨⟨_, _, _, _, _, _, _, _, _, _, rfl⟩, SqL.ext hS (Bt.fresh (Same.refl G) ls.bt nG)⟩
    · rintro σ G ⟨⟨v1, v2, v3, v4, v5, v6, v7, v8, v9, v10, rfl⟩, hS⟩
      refine ⟨by show 0 ≤ sizeLine; exact Nat.zero_le _, fun pA nA => ⟨pA, [], [], rfl, PsAt.none (.inl upd_same), fun G1 s1 => ?_⟩⟩
      refine ⟨_, _, rfl, rfl, _, rfl, ?_⟩
      rw [if_pos (by simp)]
      refine ⟨by show 0 ≤ sizeLine; exact Nat.zero_le _, fun pB nB => ⟨pB, [], [], rfl, PsAt.none (.inr upd_same), fun G2 s2 => ⟨_, _, rfl, rfl, ?_⟩⟩⟩
      have f9 := fin G2
      simpa using f9
end
end Pk
/-! ### facts that the top has left, by looks -/
namespace Pk
open PySem L2
def pick (l : List Addr) : Nat → Addr := fun i => l.getD i 0
def isNone : Option (Option Value) → Bool
  | some none => true
  | _ => false
theorem isNone_of {x : Option (Option Value)} (h : isNone x = true) : x = some none := by
  cases x with
  | none => cases h
  | some y =>
    cases y with
    | none => rfl
    | some z => cases h
def isBlt (s : String) : Option (Option Value) → Bool
  | some (some (.builtin b)) => decide (b = s)
  | _ => false
theorem isBlt_of {s : String} {x : Option (Option Value)} (h : isBlt s x = true) : x = some (some (.builtin s)) := by
  unfold isBlt at h
  split at h
  · rw [of_decide_eq_true h]
  · cases h
def isTyp (s : String) : Option Value → Bool
  | some (.type b) => decide (b = s)
  | _ => false
theorem isTyp_of {s : String} {x : Option Value} (h : isTyp s x = true) : x = some (.type s) := by
  unfold isTyp at h
  split at h
  · rw [of_decide_eq_true h]
  · cases h
/-- a class of errors, by one look -/
def excB (K : PySem.W.Frag) (D : Addr) : Bool := isBlt "BaseException.__getattribute__" (PySem.W.findIn K (.ref D) "__getattribute__") && (isNone (PySem.W.findIn K (.ref D) "__getattr__") && (PySem.W.subIn K (.ref D) (.type "BaseException") == some true && (PySem.W.hasDictIn K D && (isBlt "object.__class__" (PySem.W.findIn K (.ref D) "__class__") && (PySem.W.mroIn K D (.type "object") == some true && (isBlt "object.__setattr__" (PySem.W.findIn K (.ref D) "__setattr__") && (PySem.W.keepIn K (.ref D) && (isTyp "type" (PySem.W.typeIn K (.ref D)) && PySem.W.kitOne K (.ref D) (.type "Exception") == some true))))))))
structure ExcK (K : PySem.W.Frag) (D : Addr) : Prop where
  h1 : PySem.W.findIn K (.ref D) "__getattribute__" = some (some (.builtin "BaseException.__getattribute__"))
  h2 : PySem.W.findIn K (.ref D) "__getattr__" = some none
  h3 : PySem.W.subIn K (.ref D) (.type "BaseException") = some true
  h4 : PySem.W.hasDictIn K D = true
  h5 : PySem.W.findIn K (.ref D) "__class__" = some (some (.builtin "object.__class__"))
  h8 : PySem.W.mroIn K D (.type "object") = some true
  sa : PySem.W.findIn K (.ref D) "__setattr__" = some (some (.builtin "object.__setattr__"))
  kp : PySem.W.keepIn K (.ref D) = true
  ty : PySem.W.typeIn K (.ref D) = some (.type "type")
  xx : PySem.W.kitOne K (.ref D) (.type "Exception") = some true
theorem exc_of {K : PySem.W.Frag} {D : Addr} (h : excB K D = true) : ExcK K D := by
  unfold excB at h
  simp only [Bool.and_eq_true] at h
  obtain ⟨a1, a2, a3, a4, a5, a6, a7, a8, a9, a10⟩ := h
  exact ⟨isBlt_of a1, isNone_of a2, beq_iff_eq.mp a3, a4, isBlt_of a5, beq_iff_eq.mp a6, isBlt_of a7, a8, isTyp_of a9, beq_iff_eq.mp a10⟩
/-- what isinstance tells of errors of the class D, class by class -/
def kitsL (K : PySem.W.Frag) (D : Addr) (l : List (Addr × Bool)) : Bool := l.all fun p => PySem.W.kitOne K (.ref D) (.ref p.1) == some p.2
theorem kits_at {K : PySem.W.Frag} {D : Addr} {l : List (Addr × Bool)} (h : kitsL K D l = true) {c : Addr} {b : Bool} (hm : (c, b) ∈ l) : PySem.W.kitOne K (.ref D) (.ref c) = some b := beq_iff_eq.mp (List.all_eq_true.mp h _ hm)
/-- an own class, by one look: its fields, what it has of object -/
def clsB (K : PySem.W.Frag) (C : Addr) (fs : List Str) : Bool := PySem.W.plainGet K C Str.empty && (PySem.W.hasDictIn K C && (PySem.W.plainOver K C && (isBlt "object.__setattr__" (PySem.W.findIn K (.ref C) "__setattr__") && ((fs.all fun f => isNone (PySem.W.findIn K (.ref C) f)) && (PySem.W.makesIn K C && (PySem.W.keepIn K (.ref C) && (isBlt "object.__class__" (PySem.W.findIn K (.ref C) "__class__") && (PySem.W.mroIn K C (.type "object") == some true && (PySem.W.kitOne K (.ref C) (.ref C) == some true && (PySem.W.kitAny K (.ref C) [.type "list", .type "tuple"] == some false && oddB K C))))))))))
structure ClsK (K : PySem.W.Frag) (C : Addr) (fs : List Str) : Prop where
  cls : Cls K C
  no : ∀ f ∈ fs, NoAttr K C f
  mks : PySem.W.makesIn K C = true
  kp : PySem.W.keepIn K (.ref C) = true
  hc : PySem.W.findIn K (.ref C) "__class__" = some (some (.builtin "object.__class__"))
  hm : PySem.W.mroIn K C (.type "object") = some true
  hk : PySem.W.kitOne K (.ref C) (.ref C) = some true
  hl : PySem.W.kitAny K (.ref C) [.type "list", .type "tuple"] = some false
  odd : oddB K C = true
theorem cls_of {K : PySem.W.Frag} {C : Addr} {fs : List Str} (h : clsB K C fs = true) : ClsK K C fs := by
  unfold clsB at h
  simp only [Bool.and_eq_true] at h
  obtain ⟨a1, a2, a3, a4, a5, a6, a7, a8, a9, a10, a11, a12⟩ := h
  exact ⟨⟨a1, a2, a3, isBlt_of a4⟩, fun f hf => isNone_of (List.all_eq_true.mp a5 f hf), a6, a7, isBlt_of a8, beq_iff_eq.mp a9, beq_iff_eq.mp a10, beq_iff_eq.mp a11, a12⟩
theorem ClsK.oty {K : PySem.W.Frag} {C : Addr} {fs : List Str} (h : ClsK K C fs) (hn : PySem.W.specialIn K (.builtin "object.__class__") "__get__" = some (some (.builtin "getset_descriptor.__get__"))) (ht : PySem.W.takesIn K (.builtin "object.__class__") = some true) : OTy K C := ⟨h.cls, h.hc, hn, ht, h.hm, h.hk, h.hl, h.odd⟩
/-- a tuple of texts among the constants -/
theorem texts_at {K : PySem.W.Frag} {a : Addr} {oc : Value} {od : Option Addr} {its : Array Value} {n : Nat} {sl : Array (Option Value)} {zs : List Str} (h : K.lookup a = some ⟨oc, od, .seq its n, sl⟩) (hc : oc = .type "tuple") (hs : its.size ≤ 1000) (hv : Vals (zs.map V.str) its.toList) (H : Hp) : SqT K H a (zs.map V.str) :=
  .inr ⟨_, its, n, h, hc, rfl, Nat.le_trans hs (by decide), hv⟩
theorem el_Exception : ErrLine "Exception" [.type "Exception", .type "BaseException", .type "object"] := ⟨⟨by decide +kernel, by decide +kernel, by decide +kernel⟩, F.store_Exception.passes, by decide +kernel⟩
theorem el_ValueError : ErrLine "ValueError" [.type "ValueError", .type "Exception", .type "BaseException", .type "object"] := ⟨⟨by decide +kernel, by decide +kernel, by decide +kernel⟩, F.store_ValueError.passes, by decide +kernel⟩
theorem el_TypeError : ErrLine "TypeError" [.type "TypeError", .type "Exception", .type "BaseException", .type "object"] := ⟨⟨by decide +kernel, by decide +kernel, by decide +kernel⟩, F.store_TypeError.passes, by decide +kernel⟩
theorem el_IndexError : ErrLine "IndexError" [.type "IndexError", .type "LookupError", .type "Exception", .type "BaseException", .type "object"] := ⟨⟨by decide +kernel, by decide +kernel, by decide +kernel⟩, F.store_IndexError.passes, by decide +kernel⟩
theorem el_LookupError : ErrLine "LookupError" [.type "LookupError", .type "Exception", .type "BaseException", .type "object"] := ⟨⟨by decide +kernel, by decide +kernel, by decide +kernel⟩, F.store_LookupError.passes, by decide +kernel⟩
theorem el_KeyError : ErrLine "LookupError" [.type "KeyError", .type "LookupError", .type "Exception", .type "BaseException", .type "object"] := ⟨ky_line, fun self => by kernel_rfl, by decide +kernel⟩
theorem el_OverflowError : ErrLine "OverflowError" [.type "OverflowError", .type "ArithmeticError", .type "Exception", .type "BaseException", .type "object"] := ⟨⟨by decide +kernel, by decide +kernel, by decide +kernel⟩, F.store_OverflowError.passes, by decide +kernel⟩
theorem el_RuntimeError : ErrLine "RuntimeError" [.type "RuntimeError", .type "Exception", .type "BaseException", .type "object"] := ⟨⟨by decide +kernel, by decide +kernel, by decide +kernel⟩, F.store_RuntimeError.passes, by decide +kernel⟩
end Pk
/-! The end of a law that holds lambdas and shows things: tables of code objects are tracked, nothing is being shown around. -/
namespace Pk
open PySem PySem.Spec PyProof.Rows L2
def emptyT : Obj := { cls := .none, data := .fields #[] }
section
variable {P : Program} {w : World} {K : PySem.W.Frag} {mg mb : Str → Option Value} {k : Nat} {fa a : Addr} {cs : List (Addr × Addr)} {fd : FuncData} {x : Str} {sp : Sp} {s : Shared} {vs : List Value} {ns : List Int}
/-- what the head tells of the tables -/
structure TabsE (K : PySem.W.Frag) (mg : Str → Option Value) (h : Heap) (cs : List (Addr × Addr)) : Prop where
  empty : ∀ p ∈ cs, h.get? p.2 = some emptyT
  out : ∀ p ∈ cs, K.lookup p.2 = none
  code : ∀ p ∈ cs, PySem.W.CodeHd h p.1 p.2
theorem lawT_at (H : Hp) (T : TabsE K mg s.heap cs) (tr : ∀ p ∈ cs, H p.2 = some (.tbl #[])) (only : ∀ b, H b = none ∨ (∃ p ∈ cs, p.2 = b) ∨ ∃ o xs, H b = some (.frz o (.lst xs))) (just : ∀ b, H b ≠ none → b = a ∨ ∃ p ∈ cs, p.2 = b) (apart : H a ≠ none → K.lookup a = none)
    (hok : HOk P w H s.heap) (kin : K.In s.heap) (gl : s.heap.Ns mainGlobals mg) (bl : s.heap.Ns builtinsNs mb) (bb : ∀ x : Str, x ≠ "__name__" → mb x = bootBuiltins x) (lim : s.heap.NoLimit) (gens : s.gens = #[])
    (mod : ∃ (bm : Addr) (ob : Obj), mg "__builtins__" = some (.ref bm) ∧ bm ≠ builtinsNs ∧ s.heap.get? bm = some ob ∧ ob.cls = .type "module" ∧ ob.dict = some builtinsNs ∧ ob.data = .plain)
    (obj : s.heap.get? a = some { cls := .type "list", data := .seq vs.toArray }) (room : Room k callerA) (F : ∀ base : Heap, K.In base → base.Ns mainGlobals mg → (∀ p ∈ cs, LamX.TabB base mg p.1 p.2) → FnG P w K mg base CX0 k fa fd [x] sp)
    (bind : ∀ (s : Shared) (u : Value), BindsTo s fd ⟨[u], []⟩ [(x, u)]) (hsp : sp [.ref a] H (fun v _ => v = .bl true) fun _ _ _ => False) :
    codeAny (model P w) callerA (.call (.ref fa) ⟨[.ref a], []⟩) (fun r s' => r = .ok (.ret (.bool true)) ∧ OldK s.heap s'.heap ∧ s'.os = s.os ∧ AllBare s'.gens) s := by
  -- what is neither a sequence nor an empty table is not tracked
  have plain : ∀ {b : Addr} {o : Obj}, s.heap.get? b = some o → (∀ us n, o.data ≠ .seq us n) → o.data ≠ .fields #[] → H b = none := by
    intro b o e n1 n2
    cases q : H b with
    | none => rfl
    | some u =>
      rcases just b (by rw [q]; exact fun z => nomatch z) with rfl | ⟨p, hp, rfl⟩
      · rw [obj] at e
        cases e
        exact absurd rfl (n1 _ _)
      · rw [T.empty p hp] at e
        cases e
        exact absurd rfl n2
  have names : ∀ {b : Addr} {m : Str → Option Value}, s.heap.Ns b m → (hidT s.heap H).Ns b m := by
    rintro b m ⟨o, es, n, e, d, r⟩
    exact ⟨o, es, n, hidT_get e (plain e (fun _ _ z => by rw [d] at z; cases z) fun z => by rw [d] at z; cases z), d, r⟩
  have kin' : K.In (hidT s.heap H) := by
    intro b o e
    refine hidT_get (kin b o e) ?_
    cases q : H b with
    | none => rfl
    | some u =>
      have nn : H b ≠ none := by rw [q]; exact fun z => nomatch z
      rcases just b nn with rfl | ⟨p, hp, rfl⟩
      · rw [apart nn] at e
        cases e
      · rw [T.out p hp] at e
        cases e
  obtain ⟨mc, lm, lv⟩ := lim
  have md : Mod K mg (hidT s.heap H) := ⟨kin', names gl, ⟨mb, names bl, bb⟩, ⟨mc, names lm, lv⟩⟩
  have tabs : ∀ p ∈ cs, LamX.TabB (hidT s.heap H) mg p.1 p.2 := by
    intro p hp
    have e0 := T.empty p hp
    have notG : ∀ {b : Addr} {m : Str → Option Value}, s.heap.Ns b m → b ≠ p.2 := by
      rintro b m ⟨o, es, n, e, d, _⟩ rfl
      rw [e0] at e
      cases e
      cases d
    constructor
    · obtain ⟨oc, us, fl, tf, fg, tg, nf, tx, tt, c1, c2, c3, c4, c5, c6, c7, c8, c9, c10⟩ := T.code p hp
      exact ⟨oc, us, fl, tf, fg, tg, nf, tx, tt, hidT_get c1 (plain c1 (fun _ _ z => by rw [c3] at z; cases z) fun z => by rw [c3] at z; cases z; simp at c4), c2, c3, c4, c5, c6, c7, c8, c9, c10⟩
    · obtain ⟨bm, ob, m1, m2, m3, m4, m5, m6⟩ := mod
      refine ⟨bm, ob, m1, m2, fun z => ?_, fun z => ?_, hidT_get m3 (plain m3 (fun _ _ z => by rw [m6] at z; cases z) fun z => by rw [m6] at z; cases z), m4, m5, m6⟩
      · obtain ⟨o, es, n, e, d, _⟩ := gl
        rw [z, e] at m3
        cases m3
        rw [d] at m6
        cases m6
      · rw [z, e0] at m3
        cases m3
        cases m6
    · exact notG gl
  have env : Env0 P w K mg (hidT s.heap H) callerA [] s H := ⟨rfl, md, fun b o e => of_hidT e, Nat.le_of_eq (hidT_size _ _), trivial, (fun b hb => by cases hb), hok, AllBare.of_eq gens⟩
  refine codeAny_mono ((F _ kin' (names gl) tabs).go callerA rfl room [] s H ⟨[.ref a], []⟩ [.ref a] [.ref a] _ _ env (bind s (.ref a)) (.cons rfl .nil) hsp) ?_
  intro r s' h
  match r, h with
  | .error e, h => exact h.elim
  | .ok .next, h => exact h.elim
  | .ok .brk, h => exact h.elim
  | .ok .cont, h => exact h.elim
  | .ok (.ret u), ⟨v, H', os, bare, un, hok', rv, q⟩ =>
    have q' : v = .bl true := q
    subst q'
    cases (show u = Value.bool true from rv)
    have stay : ∀ b o, (¬ ∃ p ∈ cs, p.2 = b) → s.heap.get? b = some o → s'.heap.get? b = some o := by
      intro b o nb e
      rcases only b with z | z | ⟨ob, xs, z⟩
      · exact un.keep b o e z (fun m => by cases m) (fun m => by cases m)
      · exact absurd z nb
      · have e1 := (hok b _ z).1
        have e2 := (hok' b _ (un.frzs b ob _ z)).1
        rw [e] at e1
        cases e1
        exact e2
    have grow : ∀ p ∈ cs, ∃ more : Array Value, s'.heap.get? p.2 = some { cls := .none, data := .fields more } := by
      intro p hp
      obtain ⟨more, z⟩ := un.tbls p.2 #[] (tr p hp)
      exact ⟨_, hok' p.2 _ z⟩
    refine ⟨rfl, ⟨fun b o e => ?_, fun b o e => ?_⟩, os, bare⟩
    · by_cases hb : ∃ p ∈ cs, p.2 = b
      · obtain ⟨p, hp, rfl⟩ := hb
        obtain ⟨more, hm⟩ := grow p hp
        rw [T.empty p hp] at e
        cases e
        exact .inr (.inl ⟨((T.code p hp).tab (T.empty p hp)).isCodeTable, rfl, #[], more, rfl, by rw [Array.empty_append]; exact hm⟩)
      · exact .inl (stay b o hb e)
    · by_cases hb : ∃ p ∈ cs, p.2 = b
      · obtain ⟨p, hp, rfl⟩ := hb
        obtain ⟨more, hm⟩ := grow p hp
        exact ⟨_, hm⟩
      · exact ⟨o, stay b o hb e⟩
/-- the heap ahead: the script, if it isn't written, and the empty tables -/
noncomputable def ahead (cs : List (Addr × Addr)) (a : Addr) (u : Option HO) : Hp := fun b => open Classical in if ∃ p ∈ cs, p.2 = b then some (.tbl #[]) else if b = a then u else none
theorem ahead_tab {cs : List (Addr × Addr)} {a : Addr} {u : Option HO} {b : Addr} (h : ∃ p ∈ cs, p.2 = b) : ahead cs a u b = some (.tbl #[]) := if_pos h
theorem ahead_at {cs : List (Addr × Addr)} {a : Addr} {u : Option HO} (h : ¬ ∃ p ∈ cs, p.2 = a) : ahead cs a u a = u := (if_neg h).trans (if_pos rfl)
theorem ahead_no {cs : List (Addr × Addr)} {a : Addr} {u : Option HO} {b : Addr} (h : ¬ ∃ p ∈ cs, p.2 = b) (n : b ≠ a) : ahead cs a u b = none := (if_neg h).trans (if_neg n)
theorem lawT_call (T : TabsE K mg s.heap cs) (kin : K.In s.heap) (gl : s.heap.Ns mainGlobals mg) (bl : s.heap.Ns builtinsNs mb) (bb : ∀ x : Str, x ≠ "__name__" → mb x = bootBuiltins x) (lim : s.heap.NoLimit) (gens : s.gens = #[])
    (mod : ∃ (bm : Addr) (ob : Obj), mg "__builtins__" = some (.ref bm) ∧ bm ≠ builtinsNs ∧ s.heap.get? bm = some ob ∧ ob.cls = .type "module" ∧ ob.dict = some builtinsNs ∧ ob.data = .plain)
    (obj : s.heap.get? a = some { cls := .type "list", data := .seq vs.toArray }) (hin : IntsAre vs ns) (short : ns.length ≤ sizeLine) (room : Room k callerA) (F : ∀ base : Heap, K.In base → base.Ns mainGlobals mg → (∀ p ∈ cs, LamX.TabB base mg p.1 p.2) → FnG P w K mg base CX0 k fa fd [x] sp)
    (bind : ∀ (s : Shared) (u : Value), BindsTo s fd ⟨[u], []⟩ [(x, u)]) (hsp : ∀ H : Hp, (∀ p ∈ cs, H p.2 = some (.tbl #[])) → SqL K H a (ns.map V.int) → sp [.ref a] H (fun v _ => v = .bl true) fun _ _ _ => False) :
    codeAny (model P w) callerA (.call (.ref fa) ⟨[.ref a], []⟩) (fun r s' => r = .ok (.ret (.bool true)) ∧ OldK s.heap s'.heap ∧ s'.os = s.os ∧ AllBare s'.gens) s := by
  have rv := vals_ints hin
  have len := hin.length
  have na : ¬ ∃ p ∈ cs, p.2 = a := by
    rintro ⟨p, hp, e⟩
    have z := T.empty p hp
    rw [e, obj] at z
    have z' : Data.seq vs.toArray _ = Data.fields #[] := congrArg Obj.data (Option.some.inj z)
    cases z'
  have tr : ∀ {u : Option HO}, ∀ p ∈ cs, ahead cs a u p.2 = some (.tbl #[]) := fun p hp => ahead_tab ⟨p, hp, rfl⟩
  have just : ∀ {u : Option HO}, ∀ b, ahead cs a u b ≠ none → b = a ∨ ∃ p ∈ cs, p.2 = b := by
    intro u b z
    by_cases h1 : ∃ p ∈ cs, p.2 = b
    · exact .inr h1
    · by_cases h2 : b = a
      · exact .inl h2
      · exact absurd (ahead_no h1 h2) z
  cases hk : K.lookup a with
  | some o =>
    have e := kin a o hk
    rw [obj] at e
    cases e
    refine lawT_at (ahead cs a none) T tr (fun b => ?_) just (fun z => absurd (ahead_at na) z) (fun b u z => ?_) kin gl bl bb lim gens mod obj room F bind (hsp _ tr (.inr ⟨_, vs.toArray, _, hk, rfl, rfl, rfl, by rw [List.size_toArray, len]; exact short, by simpa using rv⟩))
    · by_cases h1 : ∃ p ∈ cs, p.2 = b
      · exact .inr (.inl h1)
      · by_cases h2 : b = a
        · exact .inl (by rw [h2]; exact ahead_at na)
        · exact .inl (ahead_no h1 h2)
    · by_cases h1 : ∃ p ∈ cs, p.2 = b
      · rw [ahead_tab h1] at z
        cases z
        obtain ⟨p, hp, rfl⟩ := h1
        exact T.empty p hp
      · by_cases h2 : b = a
        · rw [h2, ahead_at na] at z
          cases z
        · rw [ahead_no h1 h2] at z
          cases z
  | none =>
    let ob : Obj := { cls := .type "list", data := .seq vs.toArray }
    have at_a : ahead cs a (some (.frz ob (.lst (ns.map V.int)))) a = some (.frz ob (.lst (ns.map V.int))) := ahead_at na
    refine lawT_at (ahead cs a (some (.frz ob (.lst (ns.map V.int))))) T tr (fun b => ?_) just (fun _ => hk) (fun b u z => ?_) kin gl bl bb lim gens mod obj room F bind (hsp _ tr (.inl (.inr ⟨ob, at_a⟩)))
    · by_cases h1 : ∃ p ∈ cs, p.2 = b
      · exact .inr (.inl h1)
      · by_cases h2 : b = a
        · exact .inr (.inr ⟨ob, ns.map V.int, by rw [h2]; exact at_a⟩)
        · exact .inl (ahead_no h1 h2)
    · by_cases h1 : ∃ p ∈ cs, p.2 = b
      · rw [ahead_tab h1] at z
        cases z
        obtain ⟨p, hp, rfl⟩ := h1
        exact T.empty p hp
      · by_cases h2 : b = a
        · rw [h2, at_a] at z
          cases z
          rw [h2]
          exact ⟨obj, by rw [List.length_map]; exact short, vs, _, rv, obj⟩
        · rw [ahead_no h1 h2] at z
          cases z
end
/-- a def by its body, its code object known -/
theorem okGc {P : Program} {w : World} {K : PySem.W.Frag} {mg : Str → Option Value} {base : Heap} {k : Nat} {f : Addr} {fd : FuncData} {ps : List Str} {sp : Sp} {x qual : Str} {st : Stmt} {N : List Str} {cv : Value} (F : Fun K x qual st f fd) (hc : fd.code = cv) (S : FnScope N ps (defScope st)) (size : ∀ vs H Q E, sp vs H Q E → vs.length = ps.length)
    (body : ∀ (A : Around), Calm A → ∀ (outer : List Env) (s : Shared) (H : Hp) (vs : List V) (Q : VK) (E : XK), Room k (A.deeper (envOfC qual (defScope st) s.heap.objs.size f cv)) → sp vs H Q E → ∃ t, PSs (cxOf CX0 P w K mg base N qual (defScope st) f cv A outer s H E).nox (defBody st) t ∧ t { nx := fun _ H' => Q .non H', rt := Q } (start N vs) H) :
    FnG P w K mg base CX0 (k + 1) f fd ps sp := by
  obtain ⟨oc, od, kV, doc, pm, an, cdv, ct, osl, rfl, lk, hcd⟩ := F.ex
  cases (show cdv = cv from hc)
  refine fnG_of lk hcd S size fun A calm outer s H vs Q E hr hsp => ?_
  obtain ⟨t, h, q⟩ := body A calm outer s H vs Q E hr hsp
  exact ⟨t, h.nox, q⟩
theorem walkT {l : PySem.W.OpenLaw} {n k : Nat} {q : Program} {loose : List Str} {XP : (Str → Option Value) → Heap → Prop} {YP : World → Heap → Prop} {d : DefRec} {K : Params → PySem.W.Frag} {x : Str} (hn : l.most = some n) (hn2 : n ≤ sizeLine) (hdf : d.params.defaults = []) (hr : Room k callerA)
    (hY : ∀ (w : World) (h : Heap), YP w h → (K w.params).In h)
    (F : ∀ (w : World) (mg : Str → Option Value) (fa : Addr) (h : Heap), YP w h → (K w.params).In h → h.Ns mainGlobals mg → mg d.name = some (.ref fa) → (∀ (y : Str) (c T : Addr), ((recsOf q).find? fun e => e.name == y).isSome = true → PySem.W.tabIn (K w.params) y = some (c, T) → PySem.W.CodeHd h c T ∧ h.get? T = some emptyT) →
      ∃ (fd : FuncData) (cs : List (Addr × Addr)) (sp : Sp), TabsE (K w.params) mg h cs ∧ (∀ (s : Shared) (u : Value), BindsTo s fd ⟨[u], []⟩ [(x, u)]) ∧
        (∀ (H : Hp) (a : Addr) (ns : List Int), ns.length ≤ n → (∀ z ∈ ns, Builtin.Int.intBits z ≤ 1048576) → (∀ p ∈ cs, H p.2 = some (.tbl #[])) → SqL (K w.params) H a (ns.map V.int) → sp [.ref a] H (fun v _ => v = .bl true) fun _ _ _ => False) ∧
        ∀ base : Heap, (K w.params).In base → base.Ns mainGlobals mg → (∀ p ∈ cs, LamX.TabB base mg p.1 p.2) → FnG l.prog w (K w.params) mg base CX0 k fa fd [x] sp) :
    PySem.W.WalkO q loose XP YP l.row.toRowW d [] (fun f vs => PySem.call f vs) := by
  refine Att.attach_callB hn hdf ?_
  intro w s₀ s₁ mg mb fa o pm cd doc a vs ns G Y ho hd hcd hmg hobj hints hlen hbits hg
  have kin := hY w _ Y
  obtain ⟨fd, cs, sp, T, hb, hsp, hF⟩ := F w mg fa _ Y kin G.T.g hmg fun y c tb hy ht => by
    obtain ⟨r, hr1⟩ := Option.isSome_iff_exists.mp hy
    exact PySem.W.tab_of G.T kin hr1 ht
  exact lawT_call T kin G.T.g G.T.b G.T.builtins G.T.nolimit hg G.T.bmain hobj hints (Nat.le_trans hlen hn2) hr hF hb fun H hH hS => hsp H a ns hlen hbits hH hS
end Pk
namespace Pk
open PySem L2
/-! ### what the top has left -/
theorem va_line : Line VaLine VaLine := ⟨fun _ => rfl, F.store_ValueError.passes, by decide +kernel⟩
abbrev TxQ (K : PySem.W.Frag) (mg : Str → Option Value) (C fI : Addr) : Prop := Of_part.Tx K mg "BadQuestion" "BadQuestion.__init__" C fI "ValueError" "ValueError.__new__" "ValueError.__init__" VaLine
theorem all_mk {l : PySem.W.OpenLaw} {w : World} {K : PySem.W.Frag} {h : Heap} {mg : Str → Option Value} {fa cB c1 c4 c5 c6 c7 c8 c9 c10 c13 fIc1 fIc5 fIc7 fIc8 fIc9 fIc10 fIc13 CQ CB fQI tQI fQE fBI tBI fBK fBA fBU fBT tBT f1 f2 t2 f3 f4 f5 f6 f7 f8 f9 f10 f11 f12 fBR fBX fBN fBJ f13 f14 f15 f16 f17 f18 f19 f20 f21 f22 f23 f24 f25 f26 : Addr} (X : K.In h) (G : h.Ns mainGlobals mg) (hfa : mg "law" = some (.ref fa))
    {odIc1 anIc1 odIc5 anIc5 odIc7 anIc7 odIc8 anIc8 odIc9 anIc9 odIc10 anIc10 odIc13 anIc13 odQI anQI odTQI odQE anQE odBI anBI odTBI odBK anBK odBA anBA odBU anBU odBT anBT odTBT od1 an1 od2 an2 odT2 od3 an3 od4 an4 od5 an5 od6 an6 od7 an7 od8 an8 od9 an9 od10 an10 od11 an11 od12 an12 odBR anBR odBX anBX odBN anBN odBJ anBJ od13 an13 od14 an14 od15 an15 od16 an16 od17 an17 od18 an18 od19 an19 od20 an20 od21 an21 od22 an22 od23 an23 od24 an24 od25 an25 od26 an26 : Option Addr} {slIc1 slIc5 slIc7 slIc8 slIc9 slIc10 slIc13 slQI slTQI slQE slBI slTBI slBK slBA slBU slBT slTBT sl1 sl2 slT2 sl3 sl4 sl5 sl6 sl7 sl8 sl9 sl10 sl11 sl12 slBR slBX slBN slBJ sl13 sl14 sl15 sl16 sl17 sl18 sl19 sl20 sl21 sl22 sl23 sl24 sl25 sl26 : Array (Option Value)} {ocIc1 dcIc1 pmIc1 cdIc1 ctIc1 ocIc5 dcIc5 pmIc5 cdIc5 ctIc5 ocIc7 dcIc7 pmIc7 cdIc7 ctIc7 ocIc8 dcIc8 pmIc8 cdIc8 ctIc8 ocIc9 dcIc9 pmIc9 cdIc9 ctIc9 ocIc10 dcIc10 pmIc10 cdIc10 ctIc10 ocIc13 dcIc13 pmIc13 cdIc13 ctIc13 ocQI dcQI pmQI cdQI ctQI kVQI ocTQI ocQE dcQE pmQE cdQE ctQE kVQE ocBI dcBI pmBI cdBI ctBI kVBI ocTBI ocBK dcBK pmBK cdBK ctBK kVBK ocBA dcBA pmBA cdBA ctBA kVBA ocBU dcBU pmBU cdBU ctBU kVBU ocBT dcBT pmBT cdBT ctBT kVBT ocTBT oc1 dc1 pm1 cd1 ct1 kV1 oc2 dc2 pm2 cd2 ct2 kV2 ocT2 oc3 dc3 pm3 cd3 ct3 kV3 oc4 dc4 pm4 cd4 ct4 kV4 oc5 dc5 pm5 cd5 ct5 kV5 oc6 dc6 pm6 cd6 ct6 kV6 oc7 dc7 pm7 cd7 ct7 kV7 oc8 dc8 pm8 cd8 ct8 kV8 oc9 dc9 pm9 cd9 ct9 kV9 oc10 dc10 pm10 cd10 ct10 kV10 oc11 dc11 pm11 cd11 ct11 kV11 oc12 dc12 pm12 cd12 ct12 kV12 ocBR dcBR pmBR cdBR ctBR kVBR ocBX dcBX pmBX cdBX ctBX kVBX ocBN dcBN pmBN cdBN ctBN kVBN ocBJ dcBJ pmBJ cdBJ ctBJ kVBJ oc13 dc13 pm13 cd13 ct13 kV13 oc14 dc14 pm14 cd14 ct14 kV14 oc15 dc15 pm15 cd15 ct15 kV15 oc16 dc16 pm16 cd16 ct16 kV16 oc17 dc17 pm17 cd17 ct17 kV17 oc18 dc18 pm18 cd18 ct18 kV18 oc19 dc19 pm19 cd19 ct19 kV19 oc20 dc20 pm20 cd20 ct20 kV20 oc21 dc21 pm21 cd21 ct21 kV21 oc22 dc22 pm22 cd22 ct22 kV22 oc23 dc23 pm23 cd23 ct23 kV23 oc24 dc24 pm24 cd24 ct24 kV24 oc25 dc25 pm25 cd25 ct25 kV25 oc26 dc26 pm26 cd26 ct26 kV26 : Value} {uMOST_LETTERS uMOST_SIGNS uPERCENT uLEAST_ANSWERS uMOST_ANSWERS uMOST_QUESTIONS uMOST_NAMES uQI_0 uQI_1 uQI_2 uQI_3 uBT_0 u2_0 u2_1 : Tok} {nTQI nTBI nTBT nT2 : Nat} {zQI_3 zBT_0 : Str} {nmIc1 qlIc1 : Str} {NIc1 : Addr} {bsIc1 : List Value} {snIc1 : List Str} {subIc1 : List Value} {abIc1 : Bool} {colIc1 : Option Bool} {ddIc1 : Option Addr} {m0Ic1 m1Ic1 m2Ic1 m3Ic1 m5Ic1 : Option Value} {nmIc5 qlIc5 : Str} {NIc5 : Addr} {bsIc5 : List Value} {snIc5 : List Str} {subIc5 : List Value} {abIc5 : Bool} {colIc5 : Option Bool} {ddIc5 : Option Addr} {m0Ic5 m1Ic5 m2Ic5 m3Ic5 m5Ic5 : Option Value} {nmIc7 qlIc7 : Str} {NIc7 : Addr} {bsIc7 : List Value} {snIc7 : List Str} {subIc7 : List Value} {abIc7 : Bool} {colIc7 : Option Bool} {ddIc7 : Option Addr} {m0Ic7 m1Ic7 m2Ic7 m3Ic7 m5Ic7 : Option Value} {nmIc8 qlIc8 : Str} {NIc8 : Addr} {bsIc8 : List Value} {snIc8 : List Str} {subIc8 : List Value} {abIc8 : Bool} {colIc8 : Option Bool} {ddIc8 : Option Addr} {m0Ic8 m1Ic8 m2Ic8 m3Ic8 m5Ic8 : Option Value} {nmIc9 qlIc9 : Str} {NIc9 : Addr} {bsIc9 : List Value} {snIc9 : List Str} {subIc9 : List Value} {abIc9 : Bool} {colIc9 : Option Bool} {ddIc9 : Option Addr} {m0Ic9 m1Ic9 m2Ic9 m3Ic9 m5Ic9 : Option Value} {nmIc10 qlIc10 : Str} {NIc10 : Addr} {bsIc10 : List Value} {snIc10 : List Str} {subIc10 : List Value} {abIc10 : Bool} {colIc10 : Option Bool} {ddIc10 : Option Addr} {m0Ic10 m1Ic10 m2Ic10 m3Ic10 m5Ic10 : Option Value} {nmIc13 qlIc13 : Str} {NIc13 : Addr} {bsIc13 : List Value} {snIc13 : List Str} {subIc13 : List Value} {abIc13 : Bool} {colIc13 : Option Bool} {ddIc13 : Option Addr} {m0Ic13 m1Ic13 m2Ic13 m3Ic13 m5Ic13 : Option Value}
    (e6 : PySem.W.specialIn K (.builtin "object.__class__") "__get__" = some (some (.builtin "getset_descriptor.__get__")))
    (e7 : PySem.W.takesIn K (.builtin "object.__class__") = some true)
    (gcB : PySem.W.nsIn K mainGlobals "BankError" = some (some (.ref cB)))
    (gc1 : PySem.W.nsIn K mainGlobals "BadPaper" = some (some (.ref c1)))
    (gc4 : PySem.W.nsIn K mainGlobals "Gone" = some (some (.ref c4)))
    (gc5 : PySem.W.nsIn K mainGlobals "BadQuestion" = some (some (.ref c5)))
    (gc6 : PySem.W.nsIn K mainGlobals "BadText" = some (some (.ref c6)))
    (gc7 : PySem.W.nsIn K mainGlobals "NoSuch" = some (some (.ref c7)))
    (gc8 : PySem.W.nsIn K mainGlobals "NoPlace" = some (some (.ref c8)))
    (gc9 : PySem.W.nsIn K mainGlobals "TooMany" = some (some (.ref c9)))
    (gc10 : PySem.W.nsIn K mainGlobals "BadKind" = some (some (.ref c10)))
    (gc13 : PySem.W.nsIn K mainGlobals "Twice" = some (some (.ref c13)))
    (xkIc1 : excB K c1 = true)
    (xLIc1 : K.lookup c1 = some (excClassObj nmIc1 qlIc1 c1 NIc1 bsIc1 (.ref cB :: [.type "Exception", .type "BaseException", .type "object"]) true snIc1 subIc1 abIc1 colIc1 ddIc1 m0Ic1 m1Ic1 m2Ic1 m3Ic1 m5Ic1 "Exception.__new__"))
    (nbIc1 : PySem.W.findIn K (.ref c1) "at" = some none)
    (aIc1 : PySem.W.findIn K (.ref c1) "__init__" = some (some (.ref fIc1)))
    (tIc1 : PySem.W.typeIn K (.ref fIc1) = some (.type "function"))
    (lIc1 : K.lookup fIc1 = some ⟨ocIc1, odIc1, .func (PySem.W.fnOf "__init__" "BadPaper.__init__" (Of_at.iA ⟨9, 17, 9, 21⟩ ⟨9, 23, 9, 25⟩) (Of_at.iB ⟨10, 8, 10, 12⟩ ⟨10, 8, 10, 15⟩ ⟨10, 18, 10, 20⟩ ⟨10, 8, 10, 20⟩) Of_at.iS .none .none dcIc1 pmIc1 anIc1 cdIc1 ctIc1), slIc1⟩)
    (qIc1 : PySem.W.codeIn K cdIc1 "BadPaper.__init__" = true)
    (xkIc5 : excB K c5 = true)
    (xLIc5 : K.lookup c5 = some (excClassObj nmIc5 qlIc5 c5 NIc5 bsIc5 [.type "ValueError", .type "Exception", .type "BaseException", .type "object"] true snIc5 subIc5 abIc5 colIc5 ddIc5 m0Ic5 m1Ic5 m2Ic5 m3Ic5 m5Ic5 "ValueError.__new__"))
    (nbIc5 : PySem.W.findIn K (.ref c5) "part" = some none)
    (aIc5 : PySem.W.findIn K (.ref c5) "__init__" = some (some (.ref fIc5)))
    (tIc5 : PySem.W.typeIn K (.ref fIc5) = some (.type "function"))
    (lIc5 : K.lookup fIc5 = some ⟨ocIc5, odIc5, .func (PySem.W.fnOf "__init__" "BadQuestion.__init__" (Of_part.iA ⟨15, 17, 15, 21⟩ ⟨15, 23, 15, 27⟩) (Of_part.iB ⟨16, 8, 16, 12⟩ ⟨16, 8, 16, 17⟩ ⟨16, 20, 16, 24⟩ ⟨16, 8, 16, 24⟩) Of_part.iS .none .none dcIc5 pmIc5 anIc5 cdIc5 ctIc5), slIc5⟩)
    (qIc5 : PySem.W.codeIn K cdIc5 "BadQuestion.__init__" = true)
    (xkIc7 : excB K c7 = true)
    (xLIc7 : K.lookup c7 = some (excClassObj nmIc7 qlIc7 c7 NIc7 bsIc7 [.type "KeyError", .type "LookupError", .type "Exception", .type "BaseException", .type "object"] true snIc7 subIc7 abIc7 colIc7 ddIc7 m0Ic7 m1Ic7 m2Ic7 m3Ic7 m5Ic7 "LookupError.__new__"))
    (nbIc7 : PySem.W.findIn K (.ref c7) "name" = some none)
    (aIc7 : PySem.W.findIn K (.ref c7) "__init__" = some (some (.ref fIc7)))
    (tIc7 : PySem.W.typeIn K (.ref fIc7) = some (.type "function"))
    (lIc7 : K.lookup fIc7 = some ⟨ocIc7, odIc7, .func (PySem.W.fnOf "__init__" "NoSuch.__init__" (Of_name.iA ⟨24, 17, 24, 21⟩ ⟨24, 23, 24, 27⟩) (Of_name.iB ⟨25, 8, 25, 12⟩ ⟨25, 8, 25, 17⟩ ⟨25, 20, 25, 24⟩ ⟨25, 8, 25, 24⟩) Of_name.iS .none .none dcIc7 pmIc7 anIc7 cdIc7 ctIc7), slIc7⟩)
    (qIc7 : PySem.W.codeIn K cdIc7 "NoSuch.__init__" = true)
    (xkIc8 : excB K c8 = true)
    (xLIc8 : K.lookup c8 = some (excClassObj nmIc8 qlIc8 c8 NIc8 bsIc8 [.type "IndexError", .type "LookupError", .type "Exception", .type "BaseException", .type "object"] true snIc8 subIc8 abIc8 colIc8 ddIc8 m0Ic8 m1Ic8 m2Ic8 m3Ic8 m5Ic8 "IndexError.__new__"))
    (nbIc8 : PySem.W.findIn K (.ref c8) "at" = some none)
    (aIc8 : PySem.W.findIn K (.ref c8) "__init__" = some (some (.ref fIc8)))
    (tIc8 : PySem.W.typeIn K (.ref fIc8) = some (.type "function"))
    (lIc8 : K.lookup fIc8 = some ⟨ocIc8, odIc8, .func (PySem.W.fnOf "__init__" "NoPlace.__init__" (Of_at.iA ⟨31, 17, 31, 21⟩ ⟨31, 23, 31, 25⟩) (Of_at.iB ⟨32, 8, 32, 12⟩ ⟨32, 8, 32, 15⟩ ⟨32, 18, 32, 20⟩ ⟨32, 8, 32, 20⟩) Of_at.iS .none .none dcIc8 pmIc8 anIc8 cdIc8 ctIc8), slIc8⟩)
    (qIc8 : PySem.W.codeIn K cdIc8 "NoPlace.__init__" = true)
    (xkIc9 : excB K c9 = true)
    (xLIc9 : K.lookup c9 = some (excClassObj nmIc9 qlIc9 c9 NIc9 bsIc9 [.type "OverflowError", .type "ArithmeticError", .type "Exception", .type "BaseException", .type "object"] true snIc9 subIc9 abIc9 colIc9 ddIc9 m0Ic9 m1Ic9 m2Ic9 m3Ic9 m5Ic9 "OverflowError.__new__"))
    (nbIc9 : PySem.W.findIn K (.ref c9) "most" = some none)
    (aIc9 : PySem.W.findIn K (.ref c9) "__init__" = some (some (.ref fIc9)))
    (tIc9 : PySem.W.typeIn K (.ref fIc9) = some (.type "function"))
    (lIc9 : K.lookup fIc9 = some ⟨ocIc9, odIc9, .func (PySem.W.fnOf "__init__" "TooMany.__init__" (Of_most.iA ⟨35, 17, 35, 21⟩ ⟨35, 23, 35, 27⟩) (Of_most.iB ⟨36, 8, 36, 12⟩ ⟨36, 8, 36, 17⟩ ⟨36, 20, 36, 24⟩ ⟨36, 8, 36, 24⟩) Of_most.iS .none .none dcIc9 pmIc9 anIc9 cdIc9 ctIc9), slIc9⟩)
    (qIc9 : PySem.W.codeIn K cdIc9 "TooMany.__init__" = true)
    (xkIc10 : excB K c10 = true)
    (xLIc10 : K.lookup c10 = some (excClassObj nmIc10 qlIc10 c10 NIc10 bsIc10 [.type "TypeError", .type "Exception", .type "BaseException", .type "object"] true snIc10 subIc10 abIc10 colIc10 ddIc10 m0Ic10 m1Ic10 m2Ic10 m3Ic10 m5Ic10 "TypeError.__new__"))
    (nbIc10 : PySem.W.findIn K (.ref c10) "wanted" = some none)
    (aIc10 : PySem.W.findIn K (.ref c10) "__init__" = some (some (.ref fIc10)))
    (tIc10 : PySem.W.typeIn K (.ref fIc10) = some (.type "function"))
    (lIc10 : K.lookup fIc10 = some ⟨ocIc10, odIc10, .func (PySem.W.fnOf "__init__" "BadKind.__init__" (Of_wanted.iA ⟨42, 17, 42, 21⟩ ⟨42, 23, 42, 29⟩) (Of_wanted.iB ⟨43, 8, 43, 12⟩ ⟨43, 8, 43, 19⟩ ⟨43, 22, 43, 28⟩ ⟨43, 8, 43, 28⟩) Of_wanted.iS .none .none dcIc10 pmIc10 anIc10 cdIc10 ctIc10), slIc10⟩)
    (qIc10 : PySem.W.codeIn K cdIc10 "BadKind.__init__" = true)
    (xkIc13 : excB K c13 = true)
    (xLIc13 : K.lookup c13 = some (excClassObj nmIc13 qlIc13 c13 NIc13 bsIc13 [.type "RuntimeError", .type "Exception", .type "BaseException", .type "object"] true snIc13 subIc13 abIc13 colIc13 ddIc13 m0Ic13 m1Ic13 m2Ic13 m3Ic13 m5Ic13 "RuntimeError.__new__"))
    (nbIc13 : PySem.W.findIn K (.ref c13) "name" = some none)
    (aIc13 : PySem.W.findIn K (.ref c13) "__init__" = some (some (.ref fIc13)))
    (tIc13 : PySem.W.typeIn K (.ref fIc13) = some (.type "function"))
    (lIc13 : K.lookup fIc13 = some ⟨ocIc13, odIc13, .func (PySem.W.fnOf "__init__" "Twice.__init__" (Of_name.iA ⟨46, 17, 46, 21⟩ ⟨46, 23, 46, 27⟩) (Of_name.iB ⟨47, 8, 47, 12⟩ ⟨47, 8, 47, 17⟩ ⟨47, 20, 47, 24⟩ ⟨47, 8, 47, 24⟩) Of_name.iS .none .none dcIc13 pmIc13 anIc13 cdIc13 ctIc13), slIc13⟩)
    (qIc13 : PySem.W.codeIn K cdIc13 "Twice.__init__" = true)
    (xk6 : excB K c6 = true)
    (xi6 : PySem.W.excIn K c6 [.type "ValueError", .type "Exception", .type "BaseException", .type "object"] "ValueError.__new__" = true)
    (z0 : PySem.W.nsIn K mainGlobals "isinstance" = some none)
    (z1 : PySem.W.nsIn K mainGlobals "int" = some none)
    (z2 : PySem.W.nsIn K mainGlobals "bool" = some none)
    (z3 : PySem.W.nsIn K mainGlobals "str" = some none)
    (z4 : PySem.W.nsIn K mainGlobals "len" = some none)
    (z5 : PySem.W.nsIn K mainGlobals "list" = some none)
    (z6 : PySem.W.nsIn K mainGlobals "tuple" = some none)
    (z7 : PySem.W.nsIn K mainGlobals "range" = some none)
    (z8 : PySem.W.nsIn K mainGlobals "all" = some none)
    (z9 : PySem.W.nsIn K mainGlobals "ord" = some none)
    (z10 : PySem.W.nsIn K mainGlobals "set" = some none)
    (z11 : PySem.W.nsIn K mainGlobals "sorted" = some none)
    (z12 : PySem.W.nsIn K mainGlobals "repr" = some none)
    (z13 : PySem.W.nsIn K mainGlobals "enumerate" = some none)
    (z14 : PySem.W.nsIn K mainGlobals "zip" = some none)
    (z15 : PySem.W.nsIn K mainGlobals "min" = some none)
    (cMOST_LETTERS : PySem.W.nsIn K mainGlobals "MOST_LETTERS" = some (some (.int 8 uMOST_LETTERS)))
    (cMOST_SIGNS : PySem.W.nsIn K mainGlobals "MOST_SIGNS" = some (some (.int 30 uMOST_SIGNS)))
    (cPERCENT : PySem.W.nsIn K mainGlobals "PERCENT" = some (some (.int 37 uPERCENT)))
    (cLEAST_ANSWERS : PySem.W.nsIn K mainGlobals "LEAST_ANSWERS" = some (some (.int 2 uLEAST_ANSWERS)))
    (cMOST_ANSWERS : PySem.W.nsIn K mainGlobals "MOST_ANSWERS" = some (some (.int 6 uMOST_ANSWERS)))
    (cMOST_QUESTIONS : PySem.W.nsIn K mainGlobals "MOST_QUESTIONS" = some (some (.int 60 uMOST_QUESTIONS)))
    (cMOST_NAMES : PySem.W.nsIn K mainGlobals "MOST_NAMES" = some (some (.int 40 uMOST_NAMES)))
    (gCQ : PySem.W.nsIn K mainGlobals "Question" = some (some (.ref CQ)))
    (cbCQ : clsB K CQ ["name", "matter", "answers", "right", "toil", "marks", "kin"] = true)
    (gCB : PySem.W.nsIn K mainGlobals "Bank" = some (some (.ref CB)))
    (cbCB : clsB K CB ["kept", "reasons", "days"] = true)
    (aQI : PySem.W.findIn K (.ref CQ) "__init__" = some (some (.ref fQI)))
    (hQI : PySem.W.isFn K (.ref fQI) = true)
    (lQI : K.lookup fQI = some ⟨ocQI, odQI, .func (PySem.W.fnOf "__init__" "Question.__init__" (defArgs sQInit) (defBody sQInit) (defScope sQInit) (.ref tQI) kVQI dcQI pmQI anQI cdQI ctQI), slQI⟩)
    (qQI : PySem.W.codeIn K cdQI "Question.__init__" = true)
    (kQI : PySem.W.keepIn K (.ref fQI) = true)
    (lTQI : K.lookup tQI = some ⟨ocTQI, odTQI, .seq #[.int 0 uQI_0, .int 5 uQI_1, .int 1 uQI_2, .str zQI_3 uQI_3] nTQI, slTQI⟩)
    (yzQI_3 : zQI_3 = "")
    (ykQI : kVQI = .none)
    (aQE : PySem.W.findIn K (.ref CQ) "__eq__" = some (some (.ref fQE)))
    (hQE : PySem.W.isFn K (.ref fQE) = true)
    (lQE : K.lookup fQE = some ⟨ocQE, odQE, .func (PySem.W.fnOf "__eq__" "Question.__eq__" (defArgs sQEq) (defBody sQEq) (defScope sQEq) .none kVQE dcQE pmQE anQE cdQE ctQE), slQE⟩)
    (qQE : PySem.W.codeIn K cdQE "Question.__eq__" = true)
    (kQE : PySem.W.keepIn K (.ref fQE) = true)
    (aBI : PySem.W.findIn K (.ref CB) "__init__" = some (some (.ref fBI)))
    (hBI : PySem.W.isFn K (.ref fBI) = true)
    (lBI : K.lookup fBI = some ⟨ocBI, odBI, .func (PySem.W.fnOf "__init__" "Bank.__init__" (defArgs sBInit) (defBody sBInit) (defScope sBInit) (.ref tBI) kVBI dcBI pmBI anBI cdBI ctBI), slBI⟩)
    (qBI : PySem.W.codeIn K cdBI "Bank.__init__" = true)
    (kBI : PySem.W.keepIn K (.ref fBI) = true)
    (lTBI : K.lookup tBI = some ⟨ocTBI, odTBI, .seq #[.none] nTBI, slTBI⟩)
    (ykBI : kVBI = .none)
    (aBK : PySem.W.findIn K (.ref CB) "need_known" = some (some (.ref fBK)))
    (hBK : PySem.W.isFn K (.ref fBK) = true)
    (lBK : K.lookup fBK = some ⟨ocBK, odBK, .func (PySem.W.fnOf "need_known" "Bank.need_known" (defArgs sBKnown) (defBody sBKnown) (defScope sBKnown) .none kVBK dcBK pmBK anBK cdBK ctBK), slBK⟩)
    (qBK : PySem.W.codeIn K cdBK "Bank.need_known" = true)
    (kBK : PySem.W.keepIn K (.ref fBK) = true)
    (aBA : PySem.W.findIn K (.ref CB) "added" = some (some (.ref fBA)))
    (hBA : PySem.W.isFn K (.ref fBA) = true)
    (lBA : K.lookup fBA = some ⟨ocBA, odBA, .func (PySem.W.fnOf "added" "Bank.added" (defArgs sBAdded) (defBody sBAdded) (defScope sBAdded) .none kVBA dcBA pmBA anBA cdBA ctBA), slBA⟩)
    (qBA : PySem.W.codeIn K cdBA "Bank.added" = true)
    (kBA : PySem.W.keepIn K (.ref fBA) = true)
    (aBU : PySem.W.findIn K (.ref CB) "used_on" = some (some (.ref fBU)))
    (hBU : PySem.W.isFn K (.ref fBU) = true)
    (lBU : K.lookup fBU = some ⟨ocBU, odBU, .func (PySem.W.fnOf "used_on" "Bank.used_on" (defArgs sBUsed) (defBody sBUsed) (defScope sBUsed) .none kVBU dcBU pmBU anBU cdBU ctBU), slBU⟩)
    (qBU : PySem.W.codeIn K cdBU "Bank.used_on" = true)
    (kBU : PySem.W.keepIn K (.ref fBU) = true)
    (aBT : PySem.W.findIn K (.ref CB) "taken_out" = some (some (.ref fBT)))
    (hBT : PySem.W.isFn K (.ref fBT) = true)
    (lBT : K.lookup fBT = some ⟨ocBT, odBT, .func (PySem.W.fnOf "taken_out" "Bank.taken_out" (defArgs sBOut) (defBody sBOut) (defScope sBOut) (.ref tBT) kVBT dcBT pmBT anBT cdBT ctBT), slBT⟩)
    (qBT : PySem.W.codeIn K cdBT "Bank.taken_out" = true)
    (kBT : PySem.W.keepIn K (.ref fBT) = true)
    (lTBT : K.lookup tBT = some ⟨ocTBT, odTBT, .seq #[.str zBT_0 uBT_0] nTBT, slTBT⟩)
    (yzBT_0 : zBT_0 = "wrong")
    (ykBT : kVBT = .none)
    (a1 : PySem.W.nsIn K mainGlobals "is_number" = some (some (.ref f1)))
    (l1 : K.lookup f1 = some ⟨oc1, od1, .func (PySem.W.fnOf "is_number" "is_number" (defArgs sIsNumber) (defBody sIsNumber) (defScope sIsNumber) .none kV1 dc1 pm1 an1 cd1 ct1), sl1⟩)
    (q1 : PySem.W.codeIn K cd1 "is_number" = true)
    (k1 : PySem.W.keepIn K (.ref f1) = true)
    (a2 : PySem.W.nsIn K mainGlobals "is_whole" = some (some (.ref f2)))
    (l2 : K.lookup f2 = some ⟨oc2, od2, .func (PySem.W.fnOf "is_whole" "is_whole" (defArgs sIsWhole) (defBody sIsWhole) (defScope sIsWhole) (.ref t2) kV2 dc2 pm2 an2 cd2 ct2), sl2⟩)
    (q2 : PySem.W.codeIn K cd2 "is_whole" = true)
    (k2 : PySem.W.keepIn K (.ref f2) = true)
    (lT2 : K.lookup t2 = some ⟨ocT2, odT2, .seq #[.int 0 u2_0, .int 9999 u2_1] nT2, slT2⟩)
    (a3 : PySem.W.nsIn K mainGlobals "is_name" = some (some (.ref f3)))
    (l3 : K.lookup f3 = some ⟨oc3, od3, .func (PySem.W.fnOf "is_name" "is_name" (defArgs sIsName) (defBody sIsName) (defScope sIsName) .none kV3 dc3 pm3 an3 cd3 ct3), sl3⟩)
    (q3 : PySem.W.codeIn K cd3 "is_name" = true)
    (k3 : PySem.W.keepIn K (.ref f3) = true)
    (a4 : PySem.W.nsIn K mainGlobals "is_name_or_empty" = some (some (.ref f4)))
    (l4 : K.lookup f4 = some ⟨oc4, od4, .func (PySem.W.fnOf "is_name_or_empty" "is_name_or_empty" (defArgs sIsNameE) (defBody sIsNameE) (defScope sIsNameE) .none kV4 dc4 pm4 an4 cd4 ct4), sl4⟩)
    (q4 : PySem.W.codeIn K cd4 "is_name_or_empty" = true)
    (k4 : PySem.W.keepIn K (.ref f4) = true)
    (a5 : PySem.W.nsIn K mainGlobals "is_text" = some (some (.ref f5)))
    (l5 : K.lookup f5 = some ⟨oc5, od5, .func (PySem.W.fnOf "is_text" "is_text" (defArgs sIsText) (defBody sIsText) (defScope sIsText) .none kV5 dc5 pm5 an5 cd5 ct5), sl5⟩)
    (q5 : PySem.W.codeIn K cd5 "is_text" = true)
    (k5 : PySem.W.keepIn K (.ref f5) = true)
    (a6 : PySem.W.nsIn K mainGlobals "are_answers" = some (some (.ref f6)))
    (l6 : K.lookup f6 = some ⟨oc6, od6, .func (PySem.W.fnOf "are_answers" "are_answers" (defArgs sAreAnswers) (defBody sAreAnswers) (defScope sAreAnswers) .none kV6 dc6 pm6 an6 cd6 ct6), sl6⟩)
    (q6 : PySem.W.codeIn K cd6 "are_answers" = true)
    (k6 : PySem.W.keepIn K (.ref f6) = true)
    (a7 : PySem.W.nsIn K mainGlobals "need_question" = some (some (.ref f7)))
    (l7 : K.lookup f7 = some ⟨oc7, od7, .func (PySem.W.fnOf "need_question" "need_question" (defArgs sNeedQ) (defBody sNeedQ) (defScope sNeedQ) .none kV7 dc7 pm7 an7 cd7 ct7), sl7⟩)
    (q7 : PySem.W.codeIn K cd7 "need_question" = true)
    (k7 : PySem.W.keepIn K (.ref f7) = true)
    (a8 : PySem.W.nsIn K mainGlobals "listed" = some (some (.ref f8)))
    (l8 : K.lookup f8 = some ⟨oc8, od8, .func (PySem.W.fnOf "listed" "listed" (defArgs sListed) (defBody sListed) (defScope sListed) .none kV8 dc8 pm8 an8 cd8 ct8), sl8⟩)
    (q8 : PySem.W.codeIn K cd8 "listed" = true)
    (k8 : PySem.W.keepIn K (.ref f8) = true)
    (a9 : PySem.W.nsIn K mainGlobals "need_day" = some (some (.ref f9)))
    (l9 : K.lookup f9 = some ⟨oc9, od9, .func (PySem.W.fnOf "need_day" "need_day" (defArgs sNeedDay) (defBody sNeedDay) (defScope sNeedDay) .none kV9 dc9 pm9 an9 cd9 ct9), sl9⟩)
    (q9 : PySem.W.codeIn K cd9 "need_day" = true)
    (k9 : PySem.W.keepIn K (.ref f9) = true)
    (a10 : PySem.W.nsIn K mainGlobals "need_bank" = some (some (.ref f10)))
    (l10 : K.lookup f10 = some ⟨oc10, od10, .func (PySem.W.fnOf "need_bank" "need_bank" (defArgs sNeedBank) (defBody sNeedBank) (defScope sNeedBank) .none kV10 dc10 pm10 an10 cd10 ct10), sl10⟩)
    (q10 : PySem.W.codeIn K cd10 "need_bank" = true)
    (k10 : PySem.W.keepIn K (.ref f10) = true)
    (a11 : PySem.W.nsIn K mainGlobals "are_names" = some (some (.ref f11)))
    (l11 : K.lookup f11 = some ⟨oc11, od11, .func (PySem.W.fnOf "are_names" "are_names" (defArgs sAreNames) (defBody sAreNames) (defScope sAreNames) .none kV11 dc11 pm11 an11 cd11 ct11), sl11⟩)
    (q11 : PySem.W.codeIn K cd11 "are_names" = true)
    (k11 : PySem.W.keepIn K (.ref f11) = true)
    (a12 : PySem.W.nsIn K mainGlobals "is_paper" = some (some (.ref f12)))
    (l12 : K.lookup f12 = some ⟨oc12, od12, .func (PySem.W.fnOf "is_paper" "is_paper" (defArgs sIsPaper) (defBody sIsPaper) (defScope sIsPaper) .none kV12 dc12 pm12 an12 cd12 ct12), sl12⟩)
    (q12 : PySem.W.codeIn K cd12 "is_paper" = true)
    (k12 : PySem.W.keepIn K (.ref f12) = true)
    (xk4 : excB K c4 = true)
    (xi4 : PySem.W.excIn K c4 [.type "Exception", .type "BaseException", .type "object"] "Exception.__new__" = true)
    (aBR : PySem.W.findIn K (.ref CB) "put_back" = some (some (.ref fBR)))
    (hBR : PySem.W.isFn K (.ref fBR) = true)
    (lBR : K.lookup fBR = some ⟨ocBR, odBR, .func (PySem.W.fnOf "put_back" "Bank.put_back" (defArgs sBBack) (defBody sBBack) (defScope sBBack) .none kVBR dcBR pmBR anBR cdBR ctBR), slBR⟩)
    (qBR : PySem.W.codeIn K cdBR "Bank.put_back" = true)
    (kBR : PySem.W.keepIn K (.ref fBR) = true)
    (aBX : PySem.W.findIn K (.ref CB) "dropped" = some (some (.ref fBX)))
    (hBX : PySem.W.isFn K (.ref fBX) = true)
    (lBX : K.lookup fBX = some ⟨ocBX, odBX, .func (PySem.W.fnOf "dropped" "Bank.dropped" (defArgs sBDropped) (defBody sBDropped) (defScope sBDropped) .none kVBX dcBX pmBX anBX cdBX ctBX), slBX⟩)
    (qBX : PySem.W.codeIn K cdBX "Bank.dropped" = true)
    (kBX : PySem.W.keepIn K (.ref fBX) = true)
    (aBN : PySem.W.findIn K (.ref CB) "names" = some (some (.ref fBN)))
    (hBN : PySem.W.isFn K (.ref fBN) = true)
    (lBN : K.lookup fBN = some ⟨ocBN, odBN, .func (PySem.W.fnOf "names" "Bank.names" (defArgs sBNames) (defBody sBNames) (defScope sBNames) .none kVBN dcBN pmBN anBN cdBN ctBN), slBN⟩)
    (qBN : PySem.W.codeIn K cdBN "Bank.names" = true)
    (kBN : PySem.W.keepIn K (.ref fBN) = true)
    (aBJ : PySem.W.findIn K (.ref CB) "names_in" = some (some (.ref fBJ)))
    (hBJ : PySem.W.isFn K (.ref fBJ) = true)
    (lBJ : K.lookup fBJ = some ⟨ocBJ, odBJ, .func (PySem.W.fnOf "names_in" "Bank.names_in" (defArgs sBNamesIn) (defBody sBNamesIn) (defScope sBNamesIn) .none kVBJ dcBJ pmBJ anBJ cdBJ ctBJ), slBJ⟩)
    (qBJ : PySem.W.codeIn K cdBJ "Bank.names_in" = true)
    (kBJ : PySem.W.keepIn K (.ref fBJ) = true)
    (a13 : PySem.W.nsIn K mainGlobals "names_without" = some (some (.ref f13)))
    (l13 : K.lookup f13 = some ⟨oc13, od13, .func (PySem.W.fnOf "names_without" "names_without" (defArgs sWithout) (defBody sWithout) (defScope sWithout) .none kV13 dc13 pm13 an13 cd13 ct13), sl13⟩)
    (q13 : PySem.W.codeIn K cd13 "names_without" = true)
    (k13 : PySem.W.keepIn K (.ref f13) = true)
    (a14 : PySem.W.nsIn K mainGlobals "need_papers" = some (some (.ref f14)))
    (l14 : K.lookup f14 = some ⟨oc14, od14, .func (PySem.W.fnOf "need_papers" "need_papers" (defArgs sNeedPs) (defBody sNeedPs) (defScope sNeedPs) .none kV14 dc14 pm14 an14 cd14 ct14), sl14⟩)
    (q14 : PySem.W.codeIn K cd14 "need_papers" = true)
    (k14 : PySem.W.keepIn K (.ref f14) = true)
    (a15 : PySem.W.nsIn K mainGlobals "names_of" = some (some (.ref f15)))
    (l15 : K.lookup f15 = some ⟨oc15, od15, .func (PySem.W.fnOf "names_of" "names_of" (defArgs sNamesOf) (defBody sNamesOf) (defScope sNamesOf) .none kV15 dc15 pm15 an15 cd15 ct15), sl15⟩)
    (q15 : PySem.W.codeIn K cd15 "names_of" = true)
    (k15 : PySem.W.keepIn K (.ref f15) = true)
    (a16 : PySem.W.nsIn K mainGlobals "are_apart" = some (some (.ref f16)))
    (l16 : K.lookup f16 = some ⟨oc16, od16, .func (PySem.W.fnOf "are_apart" "are_apart" (defArgs sApart) (defBody sApart) (defScope sApart) .none kV16 dc16 pm16 an16 cd16 ct16), sl16⟩)
    (q16 : PySem.W.codeIn K cd16 "are_apart" = true)
    (k16 : PySem.W.keepIn K (.ref f16) = true)
    (a17 : PySem.W.nsIn K mainGlobals "left_over" = some (some (.ref f17)))
    (l17 : K.lookup f17 = some ⟨oc17, od17, .func (PySem.W.fnOf "left_over" "left_over" (defArgs sLeftOver) (defBody sLeftOver) (defScope sLeftOver) .none kV17 dc17 pm17 an17 cd17 ct17), sl17⟩)
    (q17 : PySem.W.codeIn K cd17 "left_over" = true)
    (k17 : PySem.W.keepIn K (.ref f17) = true)
    (a18 : PySem.W.nsIn K mainGlobals "_law_begun" = some (some (.ref f18)))
    (l18 : K.lookup f18 = some ⟨oc18, od18, .func (PySem.W.fnOf "_law_begun" "_law_begun" (defArgs sBegun) (defBody sBegun) (defScope sBegun) .none kV18 dc18 pm18 an18 cd18 ct18), sl18⟩)
    (q18 : PySem.W.codeIn K cd18 "_law_begun" = true)
    (k18 : PySem.W.keepIn K (.ref f18) = true)
    (a19 : PySem.W.nsIn K mainGlobals "_law_take" = some (some (.ref f19)))
    (l19 : K.lookup f19 = some ⟨oc19, od19, .func (PySem.W.fnOf "_law_take" "_law_take" (defArgs sTake) (defBody sTake) (defScope sTake) .none kV19 dc19 pm19 an19 cd19 ct19), sl19⟩)
    (q19 : PySem.W.codeIn K cd19 "_law_take" = true)
    (k19 : PySem.W.keepIn K (.ref f19) = true)
    (a20 : PySem.W.nsIn K mainGlobals "_law_of" = some (some (.ref f20)))
    (l20 : K.lookup f20 = some ⟨oc20, od20, .func (PySem.W.fnOf "_law_of" "_law_of" (defArgs sOf) (defBody sOf) (defScope sOf) .none kV20 dc20 pm20 an20 cd20 ct20), sl20⟩)
    (q20 : PySem.W.codeIn K cd20 "_law_of" = true)
    (k20 : PySem.W.keepIn K (.ref f20) = true)
    (a21 : PySem.W.nsIn K mainGlobals "_law_turned" = some (some (.ref f21)))
    (l21 : K.lookup f21 = some ⟨oc21, od21, .func (PySem.W.fnOf "_law_turned" "_law_turned" (defArgs sTurned) (defBody sTurned) (defScope sTurned) .none kV21 dc21 pm21 an21 cd21 ct21), sl21⟩)
    (q21 : PySem.W.codeIn K cd21 "_law_turned" = true)
    (k21 : PySem.W.keepIn K (.ref f21) = true)
    (a22 : PySem.W.nsIn K mainGlobals "_law_names" = some (some (.ref f22)))
    (l22 : K.lookup f22 = some ⟨oc22, od22, .func (PySem.W.fnOf "_law_names" "_law_names" (defArgs sNames) (defBody sNames) (defScope sNames) .none kV22 dc22 pm22 an22 cd22 ct22), sl22⟩)
    (q22 : PySem.W.codeIn K cd22 "_law_names" = true)
    (k22 : PySem.W.keepIn K (.ref f22) = true)
    (a23 : PySem.W.nsIn K mainGlobals "_law_bank" = some (some (.ref f23)))
    (l23 : K.lookup f23 = some ⟨oc23, od23, .func (PySem.W.fnOf "_law_bank" "_law_bank" (defArgs sBankL) (defBody sBankL) (defScope sBankL) .none kV23 dc23 pm23 an23 cd23 ct23), sl23⟩)
    (q23 : PySem.W.codeIn K cd23 "_law_bank" = true)
    (k23 : PySem.W.keepIn K (.ref f23) = true)
    (a24 : PySem.W.nsIn K mainGlobals "_law_some_papers" = some (some (.ref f24)))
    (l24 : K.lookup f24 = some ⟨oc24, od24, .func (PySem.W.fnOf "_law_some_papers" "_law_some_papers" (defArgs sSomeP) (defBody sSomeP) (defScope sSomeP) .none kV24 dc24 pm24 an24 cd24 ct24), sl24⟩)
    (q24 : PySem.W.codeIn K cd24 "_law_some_papers" = true)
    (k24 : PySem.W.keepIn K (.ref f24) = true)
    (a25 : PySem.W.nsIn K mainGlobals "_law_right" = some (some (.ref f25)))
    (l25 : K.lookup f25 = some ⟨oc25, od25, .func (PySem.W.fnOf "_law_right" "_law_right" (defArgs sRight) (defBody sRight) (defScope sRight) .none kV25 dc25 pm25 an25 cd25 ct25), sl25⟩)
    (q25 : PySem.W.codeIn K cd25 "_law_right" = true)
    (k25 : PySem.W.keepIn K (.ref f25) = true)
    (a26 : PySem.W.nsIn K mainGlobals "law" = some (some (.ref f26)))
    (l26 : K.lookup f26 = some ⟨oc26, od26, .func (PySem.W.fnOf "law" "law" (defArgs sLaw) (defBody sLaw) (defScope sLaw) .none kV26 dc26 pm26 an26 cd26 ct26), sl26⟩)
    (q26 : PySem.W.codeIn K cd26 "law" = true)
    (k26 : PySem.W.keepIn K (.ref f26) = true) :
    ∃ fd : FuncData, (∀ (s : Shared) (v : Value), BindsTo s fd ⟨[v], []⟩ [("_law_script", v)]) ∧ ∀ base : Heap, K.In base → base.Ns mainGlobals mg → FnG l.prog w K mg base CX0 9 fa fd ["_law_script"] (spLaw K) := by
  have e := hfa.symm.trans (PySem.W.mg_of X G a26)
  cases e
  subst yzQI_3 ykQI ykBI yzBT_0 ykBT
  have yIc1 := exc_of xkIc1
  have wIc1 : ExcC K c1 := ⟨yIc1.h1, yIc1.h2, yIc1.h3, yIc1.h4, yIc1.h5, e6, e7, yIc1.h8⟩
  have TIc1 : TxBP K mg c1 fIc1 := { base := PySem.F.excBase_Exception, gC := PySem.W.mg_of X G gc1, cls := ⟨nmIc1, qlIc1, NIc1, bsIc1, _, snIc1, subIc1, abIc1, colIc1, ddIc1, m0Ic1, m1Ic1, m2Ic1, m3Ic1, m5Ic1, xLIc1, el_Exception.own⟩, sa := yIc1.sa, ex := wIc1, noN := nbIc1, iC := aIc1, tC := tIc1, kC := yIc1.kp, tyC := yIc1.ty, fn := ⟨_, _, _, _, _, _, _, _, _, _, _, _, _, _, lIc1, qIc1⟩ }
  have yIc5 := exc_of xkIc5
  have wIc5 : ExcC K c5 := ⟨yIc5.h1, yIc5.h2, yIc5.h3, yIc5.h4, yIc5.h5, e6, e7, yIc5.h8⟩
  have TIc5 : TxQ K mg c5 fIc5 := { base := PySem.F.excBase_ValueError, gC := PySem.W.mg_of X G gc5, cls := ⟨nmIc5, qlIc5, NIc5, bsIc5, _, snIc5, subIc5, abIc5, colIc5, ddIc5, m0Ic5, m1Ic5, m2Ic5, m3Ic5, m5Ic5, xLIc5, va_line⟩, sa := yIc5.sa, ex := wIc5, noN := nbIc5, iC := aIc5, tC := tIc5, kC := yIc5.kp, tyC := yIc5.ty, fn := ⟨_, _, _, _, _, _, _, _, _, _, _, _, _, _, lIc5, qIc5⟩ }
  have yIc7 := exc_of xkIc7
  have wIc7 : ExcC K c7 := ⟨yIc7.h1, yIc7.h2, yIc7.h3, yIc7.h4, yIc7.h5, e6, e7, yIc7.h8⟩
  have TIc7 : TxN K mg c7 fIc7 := { base := PySem.F.excBase_LookupError, gC := PySem.W.mg_of X G gc7, cls := ⟨nmIc7, qlIc7, NIc7, bsIc7, _, snIc7, subIc7, abIc7, colIc7, ddIc7, m0Ic7, m1Ic7, m2Ic7, m3Ic7, m5Ic7, xLIc7, el_KeyError⟩, sa := yIc7.sa, ex := wIc7, noN := nbIc7, iC := aIc7, tC := tIc7, kC := yIc7.kp, tyC := yIc7.ty, fn := ⟨_, _, _, _, _, _, _, _, _, _, _, _, _, _, lIc7, qIc7⟩ }
  have yIc8 := exc_of xkIc8
  have wIc8 : ExcC K c8 := ⟨yIc8.h1, yIc8.h2, yIc8.h3, yIc8.h4, yIc8.h5, e6, e7, yIc8.h8⟩
  have TIc8 : TxP K mg c8 fIc8 := { base := PySem.F.excBase_IndexError, gC := PySem.W.mg_of X G gc8, cls := ⟨nmIc8, qlIc8, NIc8, bsIc8, _, snIc8, subIc8, abIc8, colIc8, ddIc8, m0Ic8, m1Ic8, m2Ic8, m3Ic8, m5Ic8, xLIc8, el_IndexError⟩, sa := yIc8.sa, ex := wIc8, noN := nbIc8, iC := aIc8, tC := tIc8, kC := yIc8.kp, tyC := yIc8.ty, fn := ⟨_, _, _, _, _, _, _, _, _, _, _, _, _, _, lIc8, qIc8⟩ }
  have yIc9 := exc_of xkIc9
  have wIc9 : ExcC K c9 := ⟨yIc9.h1, yIc9.h2, yIc9.h3, yIc9.h4, yIc9.h5, e6, e7, yIc9.h8⟩
  have TIc9 : TxM K mg c9 fIc9 := { base := PySem.F.excBase_OverflowError, gC := PySem.W.mg_of X G gc9, cls := ⟨nmIc9, qlIc9, NIc9, bsIc9, _, snIc9, subIc9, abIc9, colIc9, ddIc9, m0Ic9, m1Ic9, m2Ic9, m3Ic9, m5Ic9, xLIc9, el_OverflowError⟩, sa := yIc9.sa, ex := wIc9, noN := nbIc9, iC := aIc9, tC := tIc9, kC := yIc9.kp, tyC := yIc9.ty, fn := ⟨_, _, _, _, _, _, _, _, _, _, _, _, _, _, lIc9, qIc9⟩ }
  have yIc10 := exc_of xkIc10
  have wIc10 : ExcC K c10 := ⟨yIc10.h1, yIc10.h2, yIc10.h3, yIc10.h4, yIc10.h5, e6, e7, yIc10.h8⟩
  have TIc10 : TxK K mg c10 fIc10 := { base := PySem.F.excBase_TypeError, gC := PySem.W.mg_of X G gc10, cls := ⟨nmIc10, qlIc10, NIc10, bsIc10, _, snIc10, subIc10, abIc10, colIc10, ddIc10, m0Ic10, m1Ic10, m2Ic10, m3Ic10, m5Ic10, xLIc10, el_TypeError⟩, sa := yIc10.sa, ex := wIc10, noN := nbIc10, iC := aIc10, tC := tIc10, kC := yIc10.kp, tyC := yIc10.ty, fn := ⟨_, _, _, _, _, _, _, _, _, _, _, _, _, _, lIc10, qIc10⟩ }
  have yIc13 := exc_of xkIc13
  have wIc13 : ExcC K c13 := ⟨yIc13.h1, yIc13.h2, yIc13.h3, yIc13.h4, yIc13.h5, e6, e7, yIc13.h8⟩
  have TIc13 : TxT K mg c13 fIc13 := { base := PySem.F.excBase_RuntimeError, gC := PySem.W.mg_of X G gc13, cls := ⟨nmIc13, qlIc13, NIc13, bsIc13, _, snIc13, subIc13, abIc13, colIc13, ddIc13, m0Ic13, m1Ic13, m2Ic13, m3Ic13, m5Ic13, xLIc13, el_RuntimeError⟩, sa := yIc13.sa, ex := wIc13, noN := nbIc13, iC := aIc13, tC := tIc13, kC := yIc13.kp, tyC := yIc13.ty, fn := ⟨_, _, _, _, _, _, _, _, _, _, _, _, _, _, lIc13, qIc13⟩ }
  have y6 := exc_of xk6
  have B6 : BadTxt K mg c6 := ⟨PySem.W.mg_of X G gc6, xi6, y6.kp, y6.h3, y6.ty⟩
  have CCQ := cls_of cbCQ
  have OCQ := CCQ.oty e6 e7
  have CCB := cls_of cbCB
  have OCB := CCB.oty e6 e7
  have FQI : FunQ K fQI _ := ⟨⟨ocQI, odQI, .ref tQI, .none, dcQI, pmQI, anQI, cdQI, ctQI, slQI, rfl, lQI, qQI, .inr ⟨(fun z => nomatch z), tQI, _, [.int 0 uQI_0, .int 5 uQI_1, .int 1 uQI_2, .str "" uQI_3], nTQI, rfl, lTQI, rfl, (.cons ⟨_, rfl⟩ (.cons ⟨_, rfl⟩ (.cons ⟨_, rfl⟩ (.cons ⟨_, rfl⟩ .nil))))⟩, .inl rfl⟩, kQI⟩
  have FQE := fun_mk (st := sQEq) lQE qQE kQE
  have bQE := FQE.binds (ps := (["self", "other"] : List Str)) fun _ _ _ _ _ _ us hl => match us, hl with | [_, _], _ => rfl
  have FBI : FunB K fBI _ := ⟨⟨ocBI, odBI, .ref tBI, .none, dcBI, pmBI, anBI, cdBI, ctBI, slBI, rfl, lBI, qBI, .inr ⟨(fun z => nomatch z), tBI, _, [.none], nTBI, rfl, lTBI, rfl, (.cons rfl .nil)⟩, .inl rfl⟩, kBI⟩
  have FBK := fun_mk (st := sBKnown) lBK qBK kBK
  have bBK := FBK.binds (ps := (["self", "name"] : List Str)) fun _ _ _ _ _ _ us hl => match us, hl with | [_, _], _ => rfl
  have FBA := fun_mk (st := sBAdded) lBA qBA kBA
  have bBA := FBA.binds (ps := (["self", "question"] : List Str)) fun _ _ _ _ _ _ us hl => match us, hl with | [_, _], _ => rfl
  have FBU := fun_mk (st := sBUsed) lBU qBU kBU
  have bBU := FBU.binds (ps := (["self", "name", "day"] : List Str)) fun _ _ _ _ _ _ us hl => match us, hl with | [_, _, _], _ => rfl
  have FBT : FunO K fBT _ := ⟨⟨ocBT, odBT, .ref tBT, .none, dcBT, pmBT, anBT, cdBT, ctBT, slBT, rfl, lBT, qBT, .inr ⟨(fun z => nomatch z), tBT, _, [.str "wrong" uBT_0], nTBT, rfl, lTBT, rfl, (.cons ⟨_, rfl⟩ .nil)⟩, .inl rfl⟩, kBT⟩
  have F1 := fun_mk (st := sIsNumber) l1 q1 k1
  have b1 := F1.binds (ps := (["thing"] : List Str)) fun _ _ _ _ _ _ us hl => match us, hl with | [_], _ => rfl
  have F2 : FunDf K "is_whole" sIsWhole [.int 0, .int 9999] f2 _ := ⟨⟨oc2, od2, .ref t2, kV2, dc2, pm2, an2, cd2, ct2, sl2, rfl, l2, q2, .inr ⟨(fun z => nomatch z), t2, _, [.int 0 u2_0, .int 9999 u2_1], nT2, rfl, lT2, rfl, (.cons ⟨_, rfl⟩ (.cons ⟨_, rfl⟩ .nil))⟩, .inl rfl⟩, k2⟩
  have b2_3 : ∃ ds, Vals ([] : List V) ds ∧ Binds K _ ["thing", "least", "most"] ds := F2.binds1 3 2 (fun z => nomatch z) rfl fun T kV doc pm an cdv ct us its l1 l2 => match us, its, l1, l2 with
    | [_, _, _], [_, _], _, _ => ⟨_, rfl, rfl⟩
  have F3 := fun_mk (st := sIsName) l3 q3 k3
  have b3 := F3.binds (ps := (["thing"] : List Str)) fun _ _ _ _ _ _ us hl => match us, hl with | [_], _ => rfl
  have F4 := fun_mk (st := sIsNameE) l4 q4 k4
  have b4 := F4.binds (ps := (["thing"] : List Str)) fun _ _ _ _ _ _ us hl => match us, hl with | [_], _ => rfl
  have F5 := fun_mk (st := sIsText) l5 q5 k5
  have b5 := F5.binds (ps := (["thing"] : List Str)) fun _ _ _ _ _ _ us hl => match us, hl with | [_], _ => rfl
  have F6 := fun_mk (st := sAreAnswers) l6 q6 k6
  have b6 := F6.binds (ps := (["thing"] : List Str)) fun _ _ _ _ _ _ us hl => match us, hl with | [_], _ => rfl
  have F7 := fun_mk (st := sNeedQ) l7 q7 k7
  have b7 := F7.binds (ps := (["thing"] : List Str)) fun _ _ _ _ _ _ us hl => match us, hl with | [_], _ => rfl
  have F8 := fun_mk (st := sListed) l8 q8 k8
  have b8 := F8.binds (ps := (["questions"] : List Str)) fun _ _ _ _ _ _ us hl => match us, hl with | [_], _ => rfl
  have F9 := fun_mk (st := sNeedDay) l9 q9 k9
  have b9 := F9.binds (ps := (["thing"] : List Str)) fun _ _ _ _ _ _ us hl => match us, hl with | [_], _ => rfl
  have F10 := fun_mk (st := sNeedBank) l10 q10 k10
  have b10 := F10.binds (ps := (["thing"] : List Str)) fun _ _ _ _ _ _ us hl => match us, hl with | [_], _ => rfl
  have F11 := fun_mk (st := sAreNames) l11 q11 k11
  have b11 := F11.binds (ps := (["thing"] : List Str)) fun _ _ _ _ _ _ us hl => match us, hl with | [_], _ => rfl
  have F12 := fun_mk (st := sIsPaper) l12 q12 k12
  have b12 := F12.binds (ps := (["thing"] : List Str)) fun _ _ _ _ _ _ us hl => match us, hl with | [_], _ => rfl
  have y4 := exc_of xk4
  have GX_ : GoneX K mg c4 := ⟨PySem.W.mg_of X G gc4, xi4, y4.kp, y4.h3, y4.ty⟩
  have FBR := fun_mk (st := sBBack) lBR qBR kBR
  have bBR := FBR.binds (ps := (["self", "name"] : List Str)) fun _ _ _ _ _ _ us hl => match us, hl with | [_, _], _ => rfl
  have FBX := fun_mk (st := sBDropped) lBX qBX kBX
  have bBX := FBX.binds (ps := (["self", "name"] : List Str)) fun _ _ _ _ _ _ us hl => match us, hl with | [_, _], _ => rfl
  have FBN := fun_mk (st := sBNames) lBN qBN kBN
  have bBN := FBN.binds (ps := (["self"] : List Str)) fun _ _ _ _ _ _ us hl => match us, hl with | [_], _ => rfl
  have FBJ := fun_mk (st := sBNamesIn) lBJ qBJ kBJ
  have bBJ := FBJ.binds (ps := (["self"] : List Str)) fun _ _ _ _ _ _ us hl => match us, hl with | [_], _ => rfl
  have F13 := fun_mk (st := sWithout) l13 q13 k13
  have b13 := F13.binds (ps := (["names", "others"] : List Str)) fun _ _ _ _ _ _ us hl => match us, hl with | [_, _], _ => rfl
  have F14 := fun_mk (st := sNeedPs) l14 q14 k14
  have b14 := F14.binds (ps := (["thing"] : List Str)) fun _ _ _ _ _ _ us hl => match us, hl with | [_], _ => rfl
  have F15 := fun_mk (st := sNamesOf) l15 q15 k15
  have b15 := F15.binds (ps := (["papers"] : List Str)) fun _ _ _ _ _ _ us hl => match us, hl with | [_], _ => rfl
  have F16 := fun_mk (st := sApart) l16 q16 k16
  have b16 := F16.binds (ps := (["papers"] : List Str)) fun _ _ _ _ _ _ us hl => match us, hl with | [_], _ => rfl
  have F17 := fun_mk (st := sLeftOver) l17 q17 k17
  have b17 := F17.binds (ps := (["bank", "papers"] : List Str)) fun _ _ _ _ _ _ us hl => match us, hl with | [_, _], _ => rfl
  have F18 := fun_mk (st := sBegun) l18 q18 k18
  have b18 := F18.binds (ps := (["_law_script", "_law_k"] : List Str)) fun _ _ _ _ _ _ us hl => match us, hl with | [_, _], _ => rfl
  have F19 := fun_mk (st := sTake) l19 q19 k19
  have b19 := F19.binds (ps := (["_law_draw", "_law_many"] : List Str)) fun _ _ _ _ _ _ us hl => match us, hl with | [_, _], _ => rfl
  have F20 := fun_mk (st := sOf) l20 q20 k20
  have b20 := F20.binds (ps := (["_law_draw", "_law_some"] : List Str)) fun _ _ _ _ _ _ us hl => match us, hl with | [_, _], _ => rfl
  have F21 := fun_mk (st := sTurned) l21 q21 k21
  have b21 := F21.binds (ps := (["_law_draw", "_law_some"] : List Str)) fun _ _ _ _ _ _ us hl => match us, hl with | [_, _], _ => rfl
  have F22 := fun_mk (st := sNames) l22 q22 k22
  have b22 := F22.binds (ps := (["_law_draw", "_law_many"] : List Str)) fun _ _ _ _ _ _ us hl => match us, hl with | [_, _], _ => rfl
  have F23 := fun_mk (st := sBankL) l23 q23 k23
  have b23 := F23.binds (ps := (["_law_draw", "_law_high"] : List Str)) fun _ _ _ _ _ _ us hl => match us, hl with | [_, _], _ => rfl
  have F24 := fun_mk (st := sSomeP) l24 q24 k24
  have b24 := F24.binds (ps := (["_law_draw", "_law_names_here"] : List Str)) fun _ _ _ _ _ _ us hl => match us, hl with | [_, _], _ => rfl
  have F25 := fun_mk (st := sRight) l25 q25 k25
  have b25 := F25.binds (ps := (["_law_store", "_law_taken", "_law_inside"] : List Str)) fun _ _ _ _ _ _ us hl => match us, hl with | [_, _, _], _ => rfl
  have F26 := fun_mk (st := sLaw) l26 q26 k26
  refine ⟨PySem.W.fnOf "law" "law" (defArgs sLaw) (defBody sLaw) (defScope sLaw) .none kV26 dc26 pm26 an26 cd26 ct26, fun s v => .of_eq rfl, fun base _ _ => ?_⟩
  have G_is_number : FnOk l.prog w K mg base CX0 1 f1 _ ["thing"] spIsNumber := ok_isNumber F1 (PySem.W.mg_none_of X G z0) (PySem.W.mg_none_of X G z1) (PySem.W.mg_none_of X G z2)
  have G_is_whole : FnOk l.prog w K mg base CX0 2 f2 _ ["thing", "least", "most"] spIsWhole := ok_isWhole F2 F1 b1 (PySem.W.mg_of X G a1) (PySem.W.mg_none_of X G z0) (PySem.W.mg_none_of X G z1) (PySem.W.mg_none_of X G z2)
  have G_is_name : FnOk l.prog w K mg base CX0 1 f3 _ ["thing"] spIsName := ok_isName F3 (PySem.W.mg_none_of X G z0) (PySem.W.mg_none_of X G z3) (PySem.W.mg_none_of X G z4) ⟨_, PySem.W.mg_of X G cMOST_LETTERS⟩
  have G_is_text : FnOk l.prog w K mg base CX0 2 f5 _ ["thing"] spIsText := ok_isText F5 (PySem.W.mg_none_of X G z0) (PySem.W.mg_none_of X G z3) (PySem.W.mg_none_of X G z4) (PySem.W.mg_none_of X G z8) (PySem.W.mg_none_of X G z9) ⟨_, PySem.W.mg_of X G cPERCENT⟩ ⟨_, PySem.W.mg_of X G cMOST_SIGNS⟩
  have G_is_name_or_empty : FnOk l.prog w K mg base CX0 2 f4 _ ["thing"] spIsNameE := ok_isNameE F4 F3 b3 (PySem.W.mg_of X G a3) (PySem.W.mg_none_of X G z0) (PySem.W.mg_none_of X G z3) (PySem.W.mg_none_of X G z4) ⟨_, PySem.W.mg_of X G cMOST_LETTERS⟩
  have G_are_answers : FnOk l.prog w K mg base CX0 3 f6 _ ["thing"] spAreAnswers := ok_areAnswers F6 G_is_text k5 b5 (PySem.W.mg_of X G a5) (PySem.W.mg_none_of X G z0) (PySem.W.mg_none_of X G z6) (PySem.W.mg_none_of X G z4) (PySem.W.mg_none_of X G z8) (PySem.W.mg_none_of X G z10) ⟨_, PySem.W.mg_of X G cLEAST_ANSWERS⟩ ⟨_, PySem.W.mg_of X G cMOST_ANSWERS⟩
  have QC : QCls K CQ := ⟨CCQ.cls, fun f hf => CCQ.no _ (List.mem_map_of_mem hf)⟩
  have BC : BCls K CB := ⟨CCB.cls, fun f hf => CCB.no _ (List.mem_map_of_mem hf)⟩
  have QT : QTy K CQ := ⟨OCQ.ha, OCQ.hn, OCQ.ht, OCQ.hm, OCQ.hk⟩
  have G_qinit : FnOk l.prog w K mg base (L2.CX l.prog w) 5 fQI _ psQ (spQInit CQ c5) := ok_qInit FQI TIc5 QC G_is_name k3 b3 (PySem.W.mg_of X G a3) G_are_answers k6 b6 (PySem.W.mg_of X G a6) G_is_whole k2 b2_3 (PySem.W.mg_of X G a2) G_is_name_or_empty k4 b4 (PySem.W.mg_of X G a4) (PySem.W.mg_none_of X G z4) (PySem.W.mg_none_of X G z6)
  have MQ : Mk K CQ fQI := ⟨CCQ.mks, aQI, hQI, CCQ.kp⟩
  have G_qeq : FnOk l.prog w K mg base CX0 2 fQE _ ["self", "other"] (spQEq K CQ) := ok_qEq FQE QC QT (PySem.W.mg_none_of X G z0) (PySem.W.mg_of X G gCQ)
  have G_need_question : FnOk l.prog w K mg base (L2.CX l.prog w) 3 f7 _ ["thing"] (spNeedQ K CQ c10) := ok_needQ F7 OCQ TIc10 (PySem.W.mg_none_of X G z0) (PySem.W.mg_of X G gCQ)
  have G_known : FnOk l.prog w K mg base (L2.CX l.prog w) 3 fBK _ ["self", "name"] (spKnown CB CQ c7) := ok_known FBK BC TIc7 (PySem.W.mg_none_of X G z0) (PySem.W.mg_none_of X G z3)
  have G_added : FnOk l.prog w K mg base (L2.CX l.prog w) 5 fBA _ ["self", "question"] (spAddedB K CB CQ c10 c13 c9) := ok_added FBA BC QC TIc13 TIc9 (PySem.W.mg_none_of X G z4) ⟨_, PySem.W.mg_of X G cMOST_QUESTIONS⟩ G_need_question k7 b7 (PySem.W.mg_of X G a7)
  have G_out : FnOk l.prog w K mg base (L2.CX l.prog w) 5 fBT _ ["self", "name", "why"] (spOutB CB CQ c7 c6) := ok_outB FBT BC B6 G_is_text k5 b5 (PySem.W.mg_of X G a5) G_known ⟨aBK, hBK, kBK⟩ bBK
  have G_listed : FnOk l.prog w K mg base (L2.CX l.prog w) 3 f8 _ ["questions"] (spListed K c10) := ok_listed F8 TIc10 (PySem.W.mg_none_of X G z0) (PySem.W.mg_none_of X G z5) (PySem.W.mg_none_of X G z6)
  have G_binit : FnOk l.prog w K mg base (L2.CX l.prog w) 6 fBI _ ["self", "questions"] (spInitB K CB CQ c10 c13 c9) := ok_initB FBI BC G_listed k8 b8 (PySem.W.mg_of X G a8) G_added ⟨aBA, hBA, kBA⟩ bBA
  have MB : Mk K CB fBI := ⟨CCB.mks, aBI, hBI, CCB.kp⟩
  have G_need_day : FnOk l.prog w K mg base (L2.CX l.prog w) 3 f9 _ ["thing"] (spNeedDay c8) := ok_needDay F9 TIc8 F2 G_is_whole k2 (PySem.W.mg_of X G a2)
  have G_used : FnOk l.prog w K mg base (L2.CX l.prog w) 5 fBU _ ["self", "name", "day"] (spUsedB CB CQ c7 c8) := ok_usedB FBU BC (PySem.W.mg_none_of X G z11) G_need_day k9 b9 (PySem.W.mg_of X G a9) G_known ⟨aBK, hBK, kBK⟩ bBK
  have G_need_bank : FnOk l.prog w K mg base (L2.CX l.prog w) 3 f10 _ ["thing"] (spNeedBank K CB c10) := ok_needBank F10 OCB TIc10 (PySem.W.mg_none_of X G z0) (PySem.W.mg_of X G gCB)
  have G_are_names : FnOk l.prog w K mg base CX0 2 f11 _ ["thing"] spAreNames := ok_areNames F11 (PySem.W.mg_none_of X G z4) (PySem.W.mg_none_of X G z8) ⟨_, PySem.W.mg_of X G cMOST_NAMES⟩ G_is_name k3 b3 (PySem.W.mg_of X G a3)
  have G_is_paper : FnOk l.prog w K mg base CX0 3 f12 _ ["thing"] spIsPaper := ok_isPaper F12 (PySem.W.mg_none_of X G z0) (PySem.W.mg_none_of X G z6) (PySem.W.mg_none_of X G z8) (PySem.W.mg_none_of X G z14) G_are_names k11 b11 (PySem.W.mg_of X G a11)
  have G_back : FnOk l.prog w K mg base (L2.CX l.prog w) 5 fBR _ ["self", "name"] (spBackB CB CQ c7 c4) := ok_backB FBR BC GX_ G_known ⟨aBK, hBK, kBK⟩ bBK
  have G_dropped : FnOk l.prog w K mg base (L2.CX l.prog w) 5 fBX _ ["self", "name"] (spDroppedB CB CQ c7) := ok_dropped FBX BC G_known ⟨aBK, hBK, kBK⟩ bBK
  have G_names : FnOk l.prog w K mg base CX0 1 fBN _ ["self"] (spNamesB CB CQ) := ok_namesB FBN BC (PySem.W.mg_none_of X G z11) (PySem.W.mg_none_of X G z5)
  have G_names_in : FnOk l.prog w K mg base CX0 2 fBJ _ ["self"] (spNamesInB CB CQ) := ok_namesIn FBJ BC G_names ⟨aBN, hBN, kBN⟩ bBN
  have G_names_without : FnOk l.prog w K mg base CX0 1 f13 _ ["names", "others"] (spWithout K) := ok_without F13 (PySem.W.mg_none_of X G z6)
  have G_need_papers : FnOk l.prog w K mg base (L2.CX l.prog w) 4 f14 _ ["thing"] spNeedPs := ok_needPs F14 TIc1 (PySem.W.mg_none_of X G z0) (PySem.W.mg_none_of X G z5) (PySem.W.mg_none_of X G z6) (PySem.W.mg_none_of X G z13) G_is_paper k12 b12 (PySem.W.mg_of X G a12)
  have G_names_of : FnOk l.prog w K mg base CX0 1 f15 _ ["papers"] spNamesOf := ok_namesOf F15
  have G_are_apart : FnOk l.prog w K mg base (L2.CX l.prog w) 5 f16 _ ["papers"] spApart := ok_apart F16 (PySem.W.mg_none_of X G z4) (PySem.W.mg_none_of X G z10) G_need_papers k14 b14 (PySem.W.mg_of X G a14) G_names_of k15 b15 (PySem.W.mg_of X G a15)
  have G_left_over : FnOk l.prog w K mg base (L2.CX l.prog w) 5 f17 _ ["bank", "papers"] (spLeft CB CQ) := ok_left F17 BC (PySem.W.mg_none_of X G z5) G_need_papers k14 b14 (PySem.W.mg_of X G a14) G_names_of k15 b15 (PySem.W.mg_of X G a15) G_need_bank k10 b10 (PySem.W.mg_of X G a10) G_names_without k13 b13 (PySem.W.mg_of X G a13) G_names_in ⟨aBJ, hBJ, kBJ⟩ bBJ
  have BL_ : BkL l.prog w K mg base CB CQ c7 c10 c13 c9 c6 c8 c5 := ⟨BC, ⟨_, _, FQI, G_qinit, MQ⟩, (PySem.W.mg_of X G gCQ), ⟨_, _, FBI, G_binit, MB⟩, (PySem.W.mg_of X G gCB), ⟨_, _, G_added, ⟨aBA, hBA, kBA⟩, bBA⟩, ⟨_, _, FBU, G_used, ⟨aBU, hBU, kBU⟩⟩, ⟨_, _, FBT, G_out, ⟨aBT, hBT, kBT⟩⟩⟩
  have G__law_take : FnOk l.prog w K mg base CX0 1 f19 _ ["_law_draw", "_law_many"] spTake := ok_take F19
  have G__law_begun : FnOk l.prog w K mg base CX0 1 f18 _ ["_law_script", "_law_k"] (spBegun K) := ok_begun F18
  have G__law_of : FnOk l.prog w K mg base CX0 2 f20 _ ["_law_draw", "_law_some"] spOf := ok_of F20 (PySem.W.mg_none_of X G z4) G__law_take k19 b19 (PySem.W.mg_of X G a19)
  have G__law_turned : FnOk l.prog w K mg base CX0 2 f21 _ ["_law_draw", "_law_some"] spTurned := ok_turned F21 (PySem.W.mg_none_of X G z4) (PySem.W.mg_none_of X G z5) G__law_take k19 b19 (PySem.W.mg_of X G a19)
  have G__law_names : FnOk l.prog w K mg base CX0 3 f22 _ ["_law_draw", "_law_many"] spNames := ok_names F22 (PySem.W.mg_none_of X G z7) G__law_take k19 b19 (PySem.W.mg_of X G a19) G__law_of k20 b20 (PySem.W.mg_of X G a20)
  have G__law_bank : FnOk l.prog w K mg base CX0 8 f23 _ ["_law_draw", "_law_high"] (spBank CB CQ) := ok_bank F23 BL_ (PySem.W.mg_none_of X G z7) (PySem.W.mg_none_of X G z11) (PySem.W.mg_none_of X G z10) G__law_take k19 b19 (PySem.W.mg_of X G a19) G__law_of k20 b20 (PySem.W.mg_of X G a20) G__law_turned k21 b21 (PySem.W.mg_of X G a21) G__law_names k22 b22 (PySem.W.mg_of X G a22)
  have G__law_some_papers : FnOk l.prog w K mg base CX0 3 f24 _ ["_law_draw", "_law_names_here"] spSomeP := ok_someP F24 (PySem.W.mg_none_of X G z7) (PySem.W.mg_none_of X G z6) (PySem.W.mg_none_of X G z11) (PySem.W.mg_none_of X G z10) G__law_take k19 b19 (PySem.W.mg_of X G a19) G__law_of k20 b20 (PySem.W.mg_of X G a20)
  have G__law_right : FnG l.prog w K mg base CX0 6 f25 _ ["_law_store", "_law_taken", "_law_inside"] (spRight CB CQ) := ok_right F25 (PySem.W.mg_none_of X G z12) (PySem.W.mg_none_of X G z5) (PySem.W.mg_none_of X G z11) (PySem.W.mg_none_of X G z0) F16 G_are_apart k16 b16 (PySem.W.mg_of X G a16) F17 G_left_over k17 b17 (PySem.W.mg_of X G a17)
  exact ok_law F26 BC (PySem.W.mg_none_of X G z7) (PySem.W.mg_none_of X G z15) (PySem.W.mg_none_of X G z4) (PySem.W.mg_none_of X G z11) (PySem.W.mg_none_of X G z6) G__law_begun k18 b18 (PySem.W.mg_of X G a18) G__law_bank k23 b23 (PySem.W.mg_of X G a23) G__law_some_papers k24 b24 (PySem.W.mg_of X G a24) G__law_of k20 b20 (PySem.W.mg_of X G a20) G__law_right k25 b25 (PySem.W.mg_of X G a25) G_are_apart k16 b16 (PySem.W.mg_of X G a16) G_names ⟨aBN, hBN, kBN⟩ bBN FBT G_out ⟨aBT, hBT, kBT⟩ G_back ⟨aBR, hBR, kBR⟩ bBR G_dropped ⟨aBX, hBX, kBX⟩ bBX
end Pk
open PySem PySem.W PyProof.Rows
theorem PySem.W.Fast.tw11985697028085052866 : True := trivial
theorem PySem.W.Fast.tw9176933240493092349 : True := trivial
theorem PySem.W.Fast.tw16847427789016395416 : True := trivial
theorem PySem.W.Fast.tw6611007310054775669 : True := trivial
theorem PySem.W.Fast.tw1032844485039494329 : True := trivial
theorem PySem.W.Fast.tw5293071714684108007 : True := trivial
theorem PySem.W.Fast.tw13774254390977701222 : True := trivial
theorem PySem.W.Fast.tw4035855352074243776 : True := trivial
theorem PySem.W.Fast.tw15540917908140423203 : True := trivial
theorem PySem.W.Fast.tw2771088125221833269 : True := trivial
theorem PySem.W.Fast.tw2839033914771449726 : True := trivial
theorem PySem.W.Fast.tw52559503049361376 : True := trivial
theorem PySem.W.Fast.tw4639430034315194794 : True := trivial
theorem PySem.W.Fast.tw6572650710173930072 : True := trivial
theorem PySem.W.Fast.tw9896683309446662973 : True := trivial
theorem PySem.W.Fast.tw10589730176794856060 : True := trivial
theorem PySem.W.Fast.tw159908099699065096 : True := trivial
theorem PySem.W.Fast.tw6215840263084189124 : True := trivial
theorem PySem.W.Fast.tw6942386994513581818 : True := trivial
theorem PySem.W.Fast.tw316815821778480196 : True := trivial
theorem PySem.W.Fast.tw11757840033953153453 : True := trivial
set_option maxRecDepth 100000 in
set_option maxHeartbeats 0 in
theorem PySem.Challenge.cw_paperkin_k34_apart_and_left_over_holds : PySem.Challenge.rw_paperkin_k34_apart_and_left_over.Holds := by
  w_on; o_law; k_head; (case hw => w_witness2)
  k_fill
  refine Pk.walkG (l := PySem.Challenge.rw_paperkin_k34_apart_and_left_over) (n := 63) (k := 9) (x := "_law_script") (sp := Pk.spLaw) rfl (by decide) rfl ⟨rfl, by decide, by decide⟩ (fun w h Y => PySem.W.kIn_of Y) ?F (fun _ _ a ns hl hS => ⟨a, ns, rfl, hS, hl, fun _ => rfl⟩)
  case F =>
    intro w mg fa h KX G hmg
    refine' Pk.all_mk KX G hmg ?pk_e6 ?pk_e7 ?pk_gcB ?pk_gc1 ?pk_gc4 ?pk_gc5 ?pk_gc6 ?pk_gc7 ?pk_gc8 ?pk_gc9 ?pk_gc10 ?pk_gc13 ?pk_xkIc1 ?pk_xLIc1 ?pk_nbIc1 ?pk_aIc1 ?pk_tIc1 ?pk_lIc1 ?pk_qIc1 ?pk_xkIc5 ?pk_xLIc5 ?pk_nbIc5 ?pk_aIc5 ?pk_tIc5 ?pk_lIc5 ?pk_qIc5 ?pk_xkIc7 ?pk_xLIc7 ?pk_nbIc7 ?pk_aIc7 ?pk_tIc7 ?pk_lIc7 ?pk_qIc7 ?pk_xkIc8 ?pk_xLIc8 ?pk_nbIc8 ?pk_aIc8 ?pk_tIc8 ?pk_lIc8 ?pk_qIc8 ?pk_xkIc9 ?pk_xLIc9 ?pk_nbIc9 ?pk_aIc9 ?pk_tIc9 ?pk_lIc9 ?pk_qIc9 ?pk_xkIc10 ?pk_xLIc10 ?pk_nbIc10 ?pk_aIc10 ?pk_tIc10 ?pk_lIc10 ?pk_qIc10 ?pk_xkIc13 ?pk_xLIc13 ?pk_nbIc13 ?pk_aIc13 ?pk_tIc13 ?pk_lIc13 ?pk_qIc13 ?pk_xk6 ?pk_xi6 ?pk_z0 ?pk_z1 ?pk_z2 ?pk_z3 ?pk_z4 ?pk_z5 ?pk_z6 ?pk_z7 ?pk_z8 ?pk_z9 ?pk_z10 ?pk_z11 ?pk_z12 ?pk_z13 ?pk_z14 ?pk_z15 ?pk_cMOST_LETTERS ?pk_cMOST_SIGNS ?pk_cPERCENT ?pk_cLEAST_ANSWERS ?pk_cMOST_ANSWERS ?pk_cMOST_QUESTIONS ?pk_cMOST_NAMES ?pk_gCQ ?pk_cbCQ ?pk_gCB ?pk_cbCB ?pk_aQI ?pk_hQI ?pk_lQI ?pk_qQI ?pk_kQI ?pk_lTQI ?pk_yzQI_3 ?pk_ykQI ?pk_aQE ?pk_hQE ?pk_lQE ?pk_qQE ?pk_kQE ?pk_aBI ?pk_hBI ?pk_lBI ?pk_qBI ?pk_kBI ?pk_lTBI ?pk_ykBI ?pk_aBK ?pk_hBK ?pk_lBK ?pk_qBK ?pk_kBK ?pk_aBA ?pk_hBA ?pk_lBA ?pk_qBA ?pk_kBA ?pk_aBU ?pk_hBU ?pk_lBU ?pk_qBU ?pk_kBU ?pk_aBT ?pk_hBT ?pk_lBT ?pk_qBT ?pk_kBT ?pk_lTBT ?pk_yzBT_0 ?pk_ykBT ?pk_a1 ?pk_l1 ?pk_q1 ?pk_k1 ?pk_a2 ?pk_l2 ?pk_q2 ?pk_k2 ?pk_lT2 ?pk_a3 ?pk_l3 ?pk_q3 ?pk_k3 ?pk_a4 ?pk_l4 ?pk_q4 ?pk_k4 ?pk_a5 ?pk_l5 ?pk_q5 ?pk_k5 ?pk_a6 ?pk_l6 ?pk_q6 ?pk_k6 ?pk_a7 ?pk_l7 ?pk_q7 ?pk_k7 ?pk_a8 ?pk_l8 ?pk_q8 ?pk_k8 ?pk_a9 ?pk_l9 ?pk_q9 ?pk_k9 ?pk_a10 ?pk_l10 ?pk_q10 ?pk_k10 ?pk_a11 ?pk_l11 ?pk_q11 ?pk_k11 ?pk_a12 ?pk_l12 ?pk_q12 ?pk_k12 ?pk_xk4 ?pk_xi4 ?pk_aBR ?pk_hBR ?pk_lBR ?pk_qBR ?pk_kBR ?pk_aBX ?pk_hBX ?pk_lBX ?pk_qBX ?pk_kBX ?pk_aBN ?pk_hBN ?pk_lBN ?pk_qBN ?pk_kBN ?pk_aBJ ?pk_hBJ ?pk_lBJ ?pk_qBJ ?pk_kBJ ?pk_a13 ?pk_l13 ?pk_q13 ?pk_k13 ?pk_a14 ?pk_l14 ?pk_q14 ?pk_k14 ?pk_a15 ?pk_l15 ?pk_q15 ?pk_k15 ?pk_a16 ?pk_l16 ?pk_q16 ?pk_k16 ?pk_a17 ?pk_l17 ?pk_q17 ?pk_k17 ?pk_a18 ?pk_l18 ?pk_q18 ?pk_k18 ?pk_a19 ?pk_l19 ?pk_q19 ?pk_k19 ?pk_a20 ?pk_l20 ?pk_q20 ?pk_k20 ?pk_a21 ?pk_l21 ?pk_q21 ?pk_k21 ?pk_a22 ?pk_l22 ?pk_q22 ?pk_k22 ?pk_a23 ?pk_l23 ?pk_q23 ?pk_k23 ?pk_a24 ?pk_l24 ?pk_q24 ?pk_k24 ?pk_a25 ?pk_l25 ?pk_q25 ?pk_k25 ?pk_a26 ?pk_l26 ?pk_q26 ?pk_k26
    (case pk_e6 => k_is)
    (case pk_e7 => k_is)
    (case pk_gcB => k_is)
    (case pk_gc1 => k_is)
    (case pk_gc4 => k_is)
    (case pk_gc5 => k_is)
    (case pk_gc6 => k_is)
    (case pk_gc7 => k_is)
    (case pk_gc8 => k_is)
    (case pk_gc9 => k_is)
    (case pk_gc10 => k_is)
    (case pk_gc13 => k_is)
    (case pk_xkIc1 => kernel_rfl)
    (case pk_xLIc1 => k_is)
    (case pk_nbIc1 => k_is)
    (case pk_aIc1 => k_is)
    (case pk_tIc1 => k_is)
    (case pk_lIc1 => k_is)
    (case pk_qIc1 => k_is)
    (case pk_xkIc5 => kernel_rfl)
    (case pk_xLIc5 => k_is)
    (case pk_nbIc5 => k_is)
    (case pk_aIc5 => k_is)
    (case pk_tIc5 => k_is)
    (case pk_lIc5 => k_is)
    (case pk_qIc5 => k_is)
    (case pk_xkIc7 => kernel_rfl)
    (case pk_xLIc7 => k_is)
    (case pk_nbIc7 => k_is)
    (case pk_aIc7 => k_is)
    (case pk_tIc7 => k_is)
    (case pk_lIc7 => k_is)
    (case pk_qIc7 => k_is)
    (case pk_xkIc8 => kernel_rfl)
    (case pk_xLIc8 => k_is)
    (case pk_nbIc8 => k_is)
    (case pk_aIc8 => k_is)
    (case pk_tIc8 => k_is)
    (case pk_lIc8 => k_is)
    (case pk_qIc8 => k_is)
    (case pk_xkIc9 => kernel_rfl)
    (case pk_xLIc9 => k_is)
    (case pk_nbIc9 => k_is)
    (case pk_aIc9 => k_is)
    (case pk_tIc9 => k_is)
    (case pk_lIc9 => k_is)
    (case pk_qIc9 => k_is)
    (case pk_xkIc10 => kernel_rfl)
    (case pk_xLIc10 => k_is)
    (case pk_nbIc10 => k_is)
    (case pk_aIc10 => k_is)
    (case pk_tIc10 => k_is)
    (case pk_lIc10 => k_is)
    (case pk_qIc10 => k_is)
    (case pk_xkIc13 => kernel_rfl)
    (case pk_xLIc13 => k_is)
    (case pk_nbIc13 => k_is)
    (case pk_aIc13 => k_is)
    (case pk_tIc13 => k_is)
    (case pk_lIc13 => k_is)
    (case pk_qIc13 => k_is)
    (case pk_xk6 => kernel_rfl)
    (case pk_xi6 => kernel_rfl)
    (case pk_z0 => k_is)
    (case pk_z1 => k_is)
    (case pk_z2 => k_is)
    (case pk_z3 => k_is)
    (case pk_z4 => k_is)
    (case pk_z5 => k_is)
    (case pk_z6 => k_is)
    (case pk_z7 => k_is)
    (case pk_z8 => k_is)
    (case pk_z9 => k_is)
    (case pk_z10 => k_is)
    (case pk_z11 => k_is)
    (case pk_z12 => k_is)
    (case pk_z13 => k_is)
    (case pk_z14 => k_is)
    (case pk_z15 => k_is)
    (case pk_cMOST_LETTERS => k_is)
    (case pk_cMOST_SIGNS => k_is)
    (case pk_cPERCENT => k_is)
    (case pk_cLEAST_ANSWERS => k_is)
    (case pk_cMOST_ANSWERS => k_is)
    (case pk_cMOST_QUESTIONS => k_is)
    (case pk_cMOST_NAMES => k_is)
    (case pk_gCQ => k_is)
    (case pk_cbCQ => kernel_rfl)
    (case pk_gCB => k_is)
    (case pk_cbCB => kernel_rfl)
    (case pk_aQI => k_is)
    (case pk_hQI => k_is)
    (case pk_lQI => k_is)
    (case pk_qQI => k_is)
    (case pk_kQI => k_is)
    (case pk_lTQI => k_is)
    (case pk_yzQI_3 => decide +kernel)
    (case pk_ykQI => rfl)
    (case pk_aQE => k_is)
    (case pk_hQE => k_is)
    (case pk_lQE => k_is)
    (case pk_qQE => k_is)
    (case pk_kQE => k_is)
    (case pk_aBI => k_is)
    (case pk_hBI => k_is)
    (case pk_lBI => k_is)
    (case pk_qBI => k_is)
    (case pk_kBI => k_is)
    (case pk_lTBI => k_is)
    (case pk_ykBI => rfl)
    (case pk_aBK => k_is)
    (case pk_hBK => k_is)
    (case pk_lBK => k_is)
    (case pk_qBK => k_is)
    (case pk_kBK => k_is)
    (case pk_aBA => k_is)
    (case pk_hBA => k_is)
    (case pk_lBA => k_is)
    (case pk_qBA => k_is)
    (case pk_kBA => k_is)
    (case pk_aBU => k_is)
    (case pk_hBU => k_is)
    (case pk_lBU => k_is)
    (case pk_qBU => k_is)
    (case pk_kBU => k_is)
    (case pk_aBT => k_is)
    (case pk_hBT => k_is)
    (case pk_lBT => k_is)
    (case pk_qBT => k_is)
    (case pk_kBT => k_is)
    (case pk_lTBT => k_is)
    (case pk_yzBT_0 => decide +kernel)
    (case pk_ykBT => rfl)
    (case pk_a1 => k_is)
    (case pk_l1 => k_is)
    (case pk_q1 => k_is)
    (case pk_k1 => k_is)
    (case pk_a2 => k_is)
    (case pk_l2 => k_is)
    (case pk_q2 => k_is)
    (case pk_k2 => k_is)
    (case pk_lT2 => k_is)
    (case pk_a3 => k_is)
    (case pk_l3 => k_is)
    (case pk_q3 => k_is)
    (case pk_k3 => k_is)
    (case pk_a4 => k_is)
    (case pk_l4 => k_is)
    (case pk_q4 => k_is)
    (case pk_k4 => k_is)
    (case pk_a5 => k_is)
    (case pk_l5 => k_is)
    (case pk_q5 => k_is)
    (case pk_k5 => k_is)
    (case pk_a6 => k_is)
    (case pk_l6 => k_is)
    (case pk_q6 => k_is)
    (case pk_k6 => k_is)
    (case pk_a7 => k_is)
    (case pk_l7 => k_is)
    (case pk_q7 => k_is)
    (case pk_k7 => k_is)
    (case pk_a8 => k_is)
    (case pk_l8 => k_is)
    (case pk_q8 => k_is)
    (case pk_k8 => k_is)
    (case pk_a9 => k_is)
    (case pk_l9 => k_is)
    (case pk_q9 => k_is)
    (case pk_k9 => k_is)
    (case pk_a10 => k_is)
    (case pk_l10 => k_is)
    (case pk_q10 => k_is)
    (case pk_k10 => k_is)
    (case pk_a11 => k_is)
    (case pk_l11 => k_is)
    (case pk_q11 => k_is)
    (case pk_k11 => k_is)
    (case pk_a12 => k_is)
    (case pk_l12 => k_is)
    (case pk_q12 => k_is)
    (case pk_k12 => k_is)
    (case pk_xk4 => kernel_rfl)
    (case pk_xi4 => kernel_rfl)
    (case pk_aBR => k_is)
    (case pk_hBR => k_is)
    (case pk_lBR => k_is)
    (case pk_qBR => k_is)
    (case pk_kBR => k_is)
    (case pk_aBX => k_is)
    (case pk_hBX => k_is)
    (case pk_lBX => k_is)
    (case pk_qBX => k_is)
    (case pk_kBX => k_is)
    (case pk_aBN => k_is)
    (case pk_hBN => k_is)
    (case pk_lBN => k_is)
    (case pk_qBN => k_is)
    (case pk_kBN => k_is)
    (case pk_aBJ => k_is)
    (case pk_hBJ => k_is)
    (case pk_lBJ => k_is)
    (case pk_qBJ => k_is)
    (case pk_kBJ => k_is)
    (case pk_a13 => k_is)
    (case pk_l13 => k_is)
    (case pk_q13 => k_is)
    (case pk_k13 => k_is)
    (case pk_a14 => k_is)
    (case pk_l14 => k_is)
    (case pk_q14 => k_is)
    (case pk_k14 => k_is)
    (case pk_a15 => k_is)
    (case pk_l15 => k_is)
    (case pk_q15 => k_is)
    (case pk_k15 => k_is)
    (case pk_a16 => k_is)
    (case pk_l16 => k_is)
    (case pk_q16 => k_is)
    (case pk_k16 => k_is)
    (case pk_a17 => k_is)
    (case pk_l17 => k_is)
    (case pk_q17 => k_is)
    (case pk_k17 => k_is)
    (case pk_a18 => k_is)
    (case pk_l18 => k_is)
    (case pk_q18 => k_is)
    (case pk_k18 => k_is)
    (case pk_a19 => k_is)
    (case pk_l19 => k_is)
    (case pk_q19 => k_is)
    (case pk_k19 => k_is)
    (case pk_a20 => k_is)
    (case pk_l20 => k_is)
    (case pk_q20 => k_is)
    (case pk_k20 => k_is)
    (case pk_a21 => k_is)
    (case pk_l21 => k_is)
    (case pk_q21 => k_is)
    (case pk_k21 => k_is)
    (case pk_a22 => k_is)
    (case pk_l22 => k_is)
    (case pk_q22 => k_is)
    (case pk_k22 => k_is)
    (case pk_a23 => k_is)
    (case pk_l23 => k_is)
    (case pk_q23 => k_is)
    (case pk_k23 => k_is)
    (case pk_a24 => k_is)
    (case pk_l24 => k_is)
    (case pk_q24 => k_is)
    (case pk_k24 => k_is)
    (case pk_a25 => k_is)
    (case pk_l25 => k_is)
    (case pk_q25 => k_is)
    (case pk_k25 => k_is)
    (case pk_a26 => k_is)
    (case pk_l26 => k_is)
    (case pk_q26 => k_is)
    (case pk_k26 => k_is)
