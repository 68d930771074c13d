import PyProof.Rows.All
import Wide.All
import OpenK.AllK
import Wide.FinOn
import KE.KTryMore
import HandS.Base
import HandS.Call
import HandS.List
import HandS.Exc
import HandS.Text
import HandS.ForMost
import HandS.ForExc
import HandS.Walk
import HandS.ExcIs
import HandS.IsInst
import PySem.Challenge.RW_paperkin_k02_squeezed
set_option Elab.async false
set_option linter.all false
set_option maxRecDepth 100000
set_option maxHeartbeats 4000000
namespace Pk
open PySem PySem.Spec PyProof.Rows L2
open PySem.W (Looks Frag exmOne exmAny)
/-! ### a text, so many times -/
theorem op_times {X : Cx} : OpR X (binaryOp .Mult) (fun x y H Q => ∃ z n, x = .str z ∧ y = .int n ∧ MulOk z n ∧ Q (.str (Txt.mul z n)) H) := by
  rintro pins s σ H x y v u Q I rx ry ⟨z, n, ex, ey, ok, q⟩
  subst ex ey
  obtain ⟨t1, rfl⟩ := rx
  obtain ⟨t2, rfl⟩ := ry
  exact SB.mul ok fun t3 k => ⟨.str (Txt.mul z n), H, I.tok k, ⟨t3, rfl⟩, q⟩
/-! ### except (A, B, ..): the tuple's classes, one after the other -/
section
variable {M : Model} {K : Frag} {h : Heap}
theorem looks_every {β : Type} {cs : List Value} {b0 : β} {f : Value → β → Sem (ForInStep β)} (hf : ∀ c ∈ cs, Looks M h (f c b0) (.yield b0)) : Looks M h (forIn cs b0 f) b0 := by
  induction cs with
  | nil =>
    rw [List.forIn_nil]
    exact .now
  | cons c r ih =>
    rw [List.forIn_cons]
    exact (hf c List.mem_cons_self).andThen (ih fun d hd => hf d (List.mem_cons_of_mem _ hd))
theorem looks_first {β : Type} {b0 b1 : β} {f : Value → β → Sem (ForInStep β)} {g : Value → Bool} : ∀ {cs : List Value}, (∀ c ∈ cs, Looks M h (f c b0) (if g c = true then .done b1 else .yield b0)) → Looks M h (forIn cs b0 f) (if cs.any g = true then b1 else b0)
  | [], _ => by
    rw [List.forIn_nil]
    exact .now
  | c :: r, hf => by
    rw [List.forIn_cons]
    have h1 := hf c List.mem_cons_self
    have h2 := looks_first (cs := r) fun d hd => hf d (List.mem_cons_of_mem _ hd)
    rw [List.any_cons]
    cases hg : g c with
    | true =>
      rw [hg] at h1
      exact h1.andThen .now
    | false =>
      rw [hg] at h1
      rw [Bool.false_or]
      exact h1.andThen h2
theorem exm_all {cls : Value} : ∀ {cs : List Value} {b : Bool}, exmAny K cls cs = some b → ∀ c ∈ cs, exmOne K cls c = some ((exmOne K cls c).getD false)
  | [], _, _, _, hc => by cases hc
  | d :: r, b, e, c, hc => by
    obtain ⟨b1, d1, x1, y1, _⟩ := PySem.W.exmAny_cons e
    rcases List.mem_cons.mp hc with q | q
    · subst q
      rw [x1]
      rfl
    · exact exm_all y1 c q
theorem exm_any {cls : Value} : ∀ {cs : List Value} {b : Bool}, exmAny K cls cs = some b → b = cs.any fun c => (exmOne K cls c).getD false
  | [], b, e => (Option.some.inj e).symm
  | d :: r, b, e => by
    obtain ⟨b1, d1, x1, y1, z⟩ := PySem.W.exmAny_cons e
    rw [List.any_cons, x1, ← exm_any y1, z]
    rfl
/-- an exception held against a tuple of classes, however many -/
theorem exm_tuple {cls : Value} {cs : List Value} {tp e : Addr} {b : Bool} {n : Nat} {ot : Obj} (X : K.In h) (LT : Looks M h (typeOf (.ref e)) cls) (hp : h.get? tp = some ot) (hc : ot.cls = .type "tuple") (hd : ot.data = .seq cs.toArray n) (hx : exmAny K cls cs = some b) :
    Looks M h (excMatches (.ref e) (.ref tp)) b := by
  have LT0 : Looks M h (isInstance (.ref tp) (.type "tuple")) true := ((Looks.ld hp).andThen (by rw [hc]; exact .now)).andThen (Looks.of_pure isSubtype_tuple_tuple)
  have LS : Looks M h (seqItems? (.ref tp)) (some cs.toArray) := fun A Q E s k q => wpAny_seqItems (k _ _ hp) hd q
  have hall := exm_all hx
  have hany := exm_any hx
  unfold excMatches
  refine LT0.andThen ?_
  dsimp only
  rw [if_pos rfl]
  refine LS.andThen (Looks.andThen (a := cs) (by rw [Option.getD_some, List.toList_toArray]; exact .now) ?_)
  refine (looks_every (b0 := PUnit.unit) fun c hc => ?_).andThen ?_
  · refine (PySem.W.exm_cls X (hall c hc)).1.andThen ?_
    exact .now
  · refine LT.andThen ?_
    refine (looks_first (b0 := ((none, ()) : Option Bool × Unit)) (b1 := (some true, ())) (g := fun c => (exmOne K cls c).getD false) fun c hc => ?_).andThen ?_
    · refine (PySem.W.exm_cls X (hall c hc)).2.andThen ?_
      cases (exmOne K cls c).getD false with
      | true => exact .now
      | false => exact .now
    · rw [← hany]
      cases b with
      | true => exact .now
      | false => exact .now
end

/-! ### a caught exception that is kept -/
/-- an exception that was caught and is held as a value at a: its class, its own dict -/
def ExH (cls : Value) (d : Option Addr) (a : Addr) : HO := .ext fun h => ∃ (oe : Obj) (vs : Array Value), h.get? a = some oe ∧ Zc cls d oe ∧ oe.data = .fields vs
section
variable {X : Cx} {pins : List (Addr × Obj)} {σ : L2.St} {H : Hp} {s : Shared}
theorem held_ok {P : Program} {w : World} {h : Heap} {a : Addr} {cls : Value} {d : Option Addr} {oe : Obj} {vs : Array Value} (e : h.get? a = some oe) (z : Zc cls d oe) (hv : oe.data = .fields vs) : ObjOk P w H h a (ExH cls d a) :=
  ⟨⟨oe, vs, e, z, hv⟩, ⟨oe, e⟩, fun _ _ ⟨o, v, q, r⟩ k => ⟨o, v, k o q, r⟩⟩
/-- what was pinned is tracked -/
theorem inv_hold {a : Addr} {oe : Obj} {vs : Array Value} {cls : Value} {d : Option Addr} (J : Inv X ((a, oe) :: pins) σ H s) (z : Zc cls d oe) (hv : oe.data = .fields vs)
    (n0 : ∀ b o, X.s_0.heap.get? b = some o → b ∉ X.ex → b ≠ a) (nc : ∀ x c, X.env.cells.lookup x = some c → c ≠ a) (np : ∀ p ∈ X.pn ++ pins, p.1 ≠ a) : Inv X pins σ (upd H a (ExH cls d a)) s := by
  obtain ⟨ea, na, aL, aF, _⟩ := J.pin (a, oe) (List.mem_append_right _ List.mem_cons_self)
  have ne : ∀ {b : Addr} {o : HO}, H b = some o → b ≠ a := fun {b o} q => ne_of_none q na
  refine ⟨J.ok, J.os, J.bare, ⟨J.base.keep, J.base.slot, ?_, J.base.there, ?_, ?_, ?_⟩, J.loc, J.cell, ?_, ?_, ?_, ?_, J.len⟩
  · intro b o e n hx
    rw [upd_ne (n0 b o e hx)]
    exact J.base.free b o e n hx
  · intro b xs e
    have q := J.base.tups b xs e
    rw [upd_ne (ne q)]
    exact q
  · intro b o u e
    have q := J.base.frzs b o u e
    rw [upd_ne (ne q)]
    exact q
  · intro b ps e
    obtain ⟨m, q⟩ := J.base.tbls b ps e
    exact ⟨m, by rw [upd_ne (ne q)]; exact q⟩
  · rw [upd_ne (Ne.symm aL)]
    exact J.free
  · intro x c e
    rw [upd_ne (nc x c e)]
    exact J.freeC x c e
  · intro p hp
    have hq : p ∈ X.pn ++ (a, oe) :: pins := by
      rcases List.mem_append.mp hp with q | q
      · exact List.mem_append_left _ q
      · exact List.mem_append_right _ (List.mem_cons_of_mem _ q)
    obtain ⟨e, n, r⟩ := J.pin p hq
    exact ⟨e, by rw [upd_ne (np p hp)]; exact n, r⟩
  · intro b u e
    by_cases hb : b = a
    · subst hb
      rw [upd_same] at e
      cases e
      exact held_ok ea z hv
    · rw [upd_ne hb] at e
      exact (J.hok b u e).stay (fun _ _ _ q => q) (fun c q => by rw [upd_ne (ne q)]; exact q) fun c xs q => by rw [upd_ne (ne q)]; exact q
end
/-- what 'except (A, B, ..) as n: suite' wishes of an exception of the body, where the suite may keep it: behind the suite it is tracked -/
def wHeld (K : Frag) (cs : List Value) (i : Nat) (ts : Addr → Value → Option Addr → TS) (Wout : WX) (D : Ends) : WX := fun cls d σ H =>
  ∃ b, exmAny K cls cs = some b ∧
    (b = true → ∀ a, H a = none → ts a cls d { nx := fun σ' H' => H' a = none → D.nx (σ'.set i none) (upd H' a (ExH cls d a)), rt := fun _ _ => False, bk := fun _ _ => False, ct := fun _ _ => False } (σ.set i (some (.ref a))) H) ∧
    (b = false → Wout cls d σ H)
/-- the names of a written tuple of classes -/
inductive NamesAll (X : Cx) : List Expr → List Value → Prop
  | nil : NamesAll X [] []
  | cons {x : Str} {c : Value} {np : Pos} {es : List Expr} {cs : List Value} (hg : Gl X x) (hd : (x == ("__debug__" : Str)) = false) (hm : X.mg x = some c) (r : NamesAll X es cs) : NamesAll X (.Name x np :: es) (c :: cs)
section
variable {X : Cx} {n : Str} {cs : List Value} {es : List Expr} {i kk : Nat} {body suite : List Stmt} {b₀ : Stmt} {tpos pos pos' : Pos} {tb : WX → TS} {ts : Addr → Value → Option Addr → TS} {Wout : WX}
/-- the tuple of the clause is laid, nothing else is done -/
theorem names_run {a : Addr} {pn : List (Addr × Obj)} {σ : L2.St} {H : Hp} {s : Shared} {pins : List (Addr × Obj)} {E : Value → Shared → Prop} (S : Inv (X.suite a pn) pins σ H s) : ∀ {es : List Expr} {cs : List Value}, NamesAll X es cs → ∀ {Q : List Value → Shared → Prop}, Q cs s →
    wpAny (model X.prog X.w) (X.A.mark (some (.ref a))) (spliced (backTo tpos (starEach es X.env))) Q E s
  | _, _, .nil, Q, q => wpAny_items_nil q
  | _, _, .cons hg hd hm r, Q, q => wpAny_items_cons (ld_glob (X := X.suite a pn) S hg hm (names_run S r q) hd)
theorem names_len : ∀ {es : List Expr} {cs : List Value}, NamesAll X es cs → cs.length = es.length
  | _, _, .nil => rfl
  | _, _, .cons _ _ _ r => by rw [List.length_cons, List.length_cons, names_len r]
theorem flying_more {B : Heap} {l : List Env} {a : Addr} {Z : Obj → Prop} {h h' : Heap} (k : ∀ b o, h.get? b = some o → h'.get? b = some o) (f : HandSPX.FlyingZ B l a Z h) : HandSPX.FlyingZ B l a Z h' := by
  obtain ⟨f1, f2, f3, oe, vs, T, oT, tts, e1, e2, e3, e4, e5, e6, e7, e8⟩ := f
  exact ⟨fun b o q => k b o (f1 b o q), f2, f3.of_keeps fun b o q _ => ⟨o, k b o q, rfl⟩, oe, vs, T, oT, tts, k _ _ e1, e2, e3, e4, e5, e6, k _ _ e7, e8⟩
theorem ps_try_held (hs : X.stack = X.env :: X.outer) (hf : X.env.frame = some X.env.locals) (hN : X.N.Nodup) (hi : X.N[i]? = some n) (hln : X.env.kindOf n = some .local) (hc : NamesAll X es cs) (hz : es.length ≤ 1000) (tk : Takes X Wout)
    (hb : ∀ (W : WX) (pn : List (Addr × Obj)) (xe : Value → Shared → Prop), Takes (X.tr pn xe) W → PassesOwn (model X.prog X.w) X.A X.env xe → PSs (X.tr pn xe) body (tb W))
    (hsu : ∀ (a : Addr) (oe : Obj) (cls : Value) (d : Option Addr) (pn : List (Addr × Obj)), Zc cls d oe → (∃ vs, oe.data = .fields vs) → PSs (X.suite a ((a, oe) :: pn)) (b₀ :: suite) (ts a cls d)) :
    PS X (.Try body [.ExceptHandler (some (.Tuple es kk tpos)) (some n) (b₀ :: suite) pos'] [] [] pos) (fun D σ H => tb (wHeld X.K cs i ts Wout D) D σ H) := by
  constructor
  intro pins s σ H D I h
  have ok := I.ok
  have hfr : X.A.frames = some (X.env :: X.outer) := ok.frames.trans (congrArg some hs)
  refine wpAny_Try_except ?_
  have body_ := hb (wHeld X.K cs i ts Wout D) (X.pn ++ pins) (fun e s₁ => wpAny (model X.prog X.w) X.A (noteFrame e X.env) (fun _ s₂ => wpAny (model X.prog X.w) X.A (setFlight e none)
    (fun _ s₃ => wpAny (model X.prog X.w) X.A (handleBy e X.env [.ExceptHandler (some (.Tuple es kk tpos)) (some n) (b₀ :: suite) pos']) (SP X pins D) X.xe s₃) X.xe s₂) X.xe s₁) ?caught PassesOwn.looking
  refine wpAny_mono (body_.run [] s σ H D (I.toTry _) h) ?through fun e s1 he => he
  case through =>
    intro f s1 hsp
    cases f with
    | next =>
      obtain ⟨σ', H', J', q⟩ := hsp
      exact wpAny_execs_nil ⟨σ', H', J'.ofTry ok, q⟩
    | brk =>
      obtain ⟨σ', H', J', q⟩ := hsp
      exact ⟨σ', H', J'.ofTry ok, q⟩
    | cont =>
      obtain ⟨σ', H', J', q⟩ := hsp
      exact ⟨σ', H', J'.ofTry ok, q⟩
    | ret u =>
      obtain ⟨v, σ', H', J', r, q⟩ := hsp
      exact ⟨v, σ', H', J'.ofTry ok, r, q⟩
  case caught =>
    rintro u s' ⟨a, B, sI, pins', σ', H', cls, d, rfl, J', nb, up, sky, na, os, ag, b, hb1, hyes, hno⟩
    have J : Inv X pins σ' H' sI := J'.ofTry ok
    rw [hs] at sky
    show wpAny (model X.prog X.w) X.A (noteFrame (.ref a) X.env) _ _ _
    refine Sky.land Zc.steady hfr hf sky fun h3 fl3 up3 => ?_
    obtain ⟨oe3, vs3, he3, hz3, hd3⟩ := fl3.there
    -- where the exception stands: in no frame, new
    have nfr : a ∉ frs (X.env :: X.outer) := fun hm => by
      obtain ⟨_, o', e', hnf⟩ := fl3.2.2.1.mem hm
      rw [he3] at e'
      cases e'
      exact hnf _ hd3
    have nL : a ≠ X.env.locals := fun z => nfr (List.mem_filterMap.mpr ⟨X.env, List.mem_cons_self, by rw [hf, z]⟩)
    have nF : a ∉ X.fs := fun hm => by
      obtain ⟨e, he, q⟩ := List.mem_filterMap.mp hm
      exact nfr (List.mem_filterMap.mpr ⟨e, List.mem_cons_of_mem _ he, q⟩)
    have new : sI.heap.get? a = none := by
      cases q : sI.heap.get? a with
      | none => rfl
      | some o =>
        have z := nb a o q (by rw [hs]; exact nfr)
        rw [fl3.2.1] at z
        cases z
    have ne_ : ∀ {b : Addr} {o : Obj}, sI.heap.get? b = some o → b ≠ a := fun {b o} q z => by
      rw [z, new] at q
      cases q
    have n0 : ∀ b o, X.s_0.heap.get? b = some o → b ∉ X.ex → b ≠ a := fun b o e hx => by
      obtain ⟨o', q⟩ := J.base.there b o e hx
      exact ne_ q
    have nc : ∀ x c, X.env.cells.lookup x = some c → c ≠ a := fun x c e => by
      obtain ⟨v, o, q, _⟩ := J.cell x c e
      exact ne_ q
    have np : ∀ p ∈ X.pn ++ pins, p.1 ≠ a := fun p hp => ne_ (J.pin p hp).1
    have J3 : Inv X pins σ' H' { s' with heap := h3 } := J.landed nb fl3.1 (up.trans up3) os ag
    have S3 := J3.suite he3 hd3 na nL nF
    refine wpAny_handleBy_cons (codeAny_handlers_test ?_) (by intro q; cases q)
    -- the tuple
    refine wpAny_Tuple (names_run S3 hc ⟨by rw [names_len hc]; exact Nat.le_trans hz (by decide), ?_⟩)
    have kp : ∀ q o, h3.get? q = some o → (h3.push { cls := .type "tuple", data := .seq cs.toArray }).get? q = some o := fun _ _ z => Heap.get?_push_of_some _ z
    have fl5 := flying_more kp fl3
    have up5 : sI.heap.UpToSlots (h3.push { cls := .type "tuple", data := .seq cs.toArray }) := (up.trans up3).trans (.of_keeps kp)
    generalize hh5 : h3.push { cls := .type "tuple", data := .seq cs.toArray } = h5 at kp fl5 up5
    have htp : h5.get? h3.objs.size = some { cls := .type "tuple", data := .seq cs.toArray } := by
      rw [← hh5]
      exact Heap.get?_push_size h3 rfl
    have J5 : Inv X pins σ' H' { s' with heap := h5 } := J.landed nb fl5.1 up5 os ag
    have LT : Looks (model X.prog X.w) h5 (typeOf (.ref a)) cls := fun A Q E s k q => wpAny_typeOf_ref (k _ _ (kp _ _ he3)) (by rw [hz3.1]; exact q)
    refine (exm_tuple J5.kIn LT htp rfl rfl hb1).here ?_
    cases b with
    | true =>
      refine codeAny_handlers_suite_as ?_
      refine HandSPX.lands_againZ fl5 fun h4 fl4 up4 => ?_
      have J4 : Inv X pins σ' H' { s' with heap := h4 } := J.landed nb fl4.1 (up5.trans up4) os ag
      obtain ⟨oe4, vs4, he4, hz4, hd4⟩ := fl4.there
      have S4 := J4.suite he4 hd4 na nL nF
      refine store_ok (X := X.suite a ((a, oe4) :: (X.pn ++ pins))) (v := .ref a) S4 hN hi (.inl hln) rfl (fun s5 S5 => ?_) (.inr hln)
      refine wpAny_mono ((hsu a oe4 cls d (X.pn ++ pins) hz4 ⟨_, hd4⟩).run [] s5 _ H' _ S5 (hyes rfl a na)) (fun f s6 hsp => ?_) fun _ _ z => False.elim z
      cases f with
      | next =>
        obtain ⟨σ6, H6, S6, q6⟩ := hsp
        have U6 : Inv X ((a, oe4) :: pins) σ6 H6 s6 := ⟨ok, S6.os, S6.bare, S6.base, S6.loc, S6.cell, S6.free, S6.freeC, fun p hp => S6.pin p (by
          rw [List.append_nil]
          rcases List.mem_append.mp hp with q | q
          · exact List.mem_cons_of_mem _ (List.mem_append_left _ q)
          · rcases List.mem_cons.mp q with q | q
            · rw [q]
              exact List.mem_cons_self
            · exact List.mem_cons_of_mem _ (List.mem_append_right _ q)), S6.hok, S6.len⟩
        refine gone_ok U6 hN hi hln fun s7 J7 => ?_
        have na7 := (J7.pin (a, oe4) (List.mem_append_right _ List.mem_cons_self)).2.1
        exact ⟨_, _, inv_hold J7 hz4 hd4 n0 nc np, q6 na7⟩
      | brk =>
        obtain ⟨σ6, H6, S6, q6⟩ := hsp
        exact q6.elim
      | cont =>
        obtain ⟨σ6, H6, S6, q6⟩ := hsp
        exact q6.elim
      | ret u =>
        obtain ⟨v6, σ6, H6, S6, r6, q6⟩ := hsp
        exact q6.elim
    | false =>
      show wpAny _ X.A (handleBy (.ref a) X.env []) _ _ _
      refine wpAny_handleBy_nil ?_
      obtain ⟨k1, k2, k3, oe, vs, T, oT, tts, he, hz, hd, h1, hr⟩ := id fl5
      unfold PySem.passOn
      refine wpAny_bind (wpAny_field he hd h1 ?_)
      rw [if_neg (show ¬ ((Value.ref T == Value.none) = true) from by simp)]
      have fin : wpAny (model X.prog X.w) X.A (setFlight (.ref a) X.env.frame) (fun _ s4 => wpAny (model X.prog X.w) X.A (throw (.ref a) : Sem Flow) (SP X pins D) X.xe s4) X.xe { s' with heap := h5 } := by
        rw [hf]
        refine HandSPX.setFlight_upZ fl5 fun h4 hh4 up4 => wpAny_throw (tk _ _ ?_)
        exact ⟨a, B, sI, pins, σ', H', cls, d, rfl, J, nb, up5.trans up4, .inr (.inr (by rw [hs]; exact hh4)), na, os, ag, hno rfl⟩
      first
        | exact wpAny_bind (wpAny_pure (wpAny_bind fin))
        | exact wpAny_bind fin
end
end Pk
/-! Texts squeezed: the words of a row between blanks, and the same by going sign by sign. -/
namespace Pk
open TL
/-- one sign more: what is found so far, and whether a blank waits -/
def stp (s : List Nat × Bool) (c : Nat) : List Nat × Bool :=
  if c = 32 then (s.1, !decide (s.1 = [])) else ((s.1 ++ (if s.2 = true then [32] else [])) ++ [c], false)
def due (l : List Nat) : List Nat := (l.foldl stp ([], false)).1
def some_ (p : List Nat) : Bool := !decide (p = [])
def wrd (l : List Nat) : List (List Nat) := (spl [32] 0 [] l).filter some_
theorem some_nil : some_ [] = false := rfl
theorem some_cons {c : Nat} {r : List Nat} : some_ (c :: r) = true := rfl
theorem some_of {p : List Nat} (h : p ≠ []) : some_ p = true := by
  cases p with
  | nil => exact absurd rfl h
  | cons c r => rfl
theorem spl_cons (acc : List Nat) (c : Nat) (r : List Nat) : spl [32] 0 acc (c :: r) = if c = 32 then acc :: spl [32] 0 [] r else spl [32] 0 (acc ++ [c]) r := by
  show (if pre [32] (c :: r) = true then acc :: spl [32] 0 [] r else spl [32] 0 (acc ++ [c]) r) = _
  have e : (pre [32] (c :: r) = true) ↔ c = 32 := by
    unfold pre
    simp
  by_cases h : c = 32
  · rw [if_pos (e.mpr h), if_pos h]
  · rw [if_neg (fun q => h (e.mp q)), if_neg h]
theorem joinL_snoc : ∀ (ws : List (List Nat)) (p : List Nat), ws ≠ [] → joinL [32] (ws ++ [p]) = joinL [32] ws ++ [32] ++ p
  | [], _, h => absurd rfl h
  | [w], p, _ => by simp [joinL]
  | w :: v :: r, p, _ => by
    have ih := joinL_snoc (v :: r) p (by simp)
    show w ++ ([32] ++ joinL [32] ((v :: r) ++ [p])) = (w ++ ([32] ++ joinL [32] (v :: r))) ++ [32] ++ p
    rw [ih]
    simp [List.append_assoc]
theorem joinL_grow (ws : List (List Nat)) (p : List Nat) (c : Nat) : joinL [32] (ws ++ [p]) ++ [c] = joinL [32] (ws ++ [p ++ [c]]) := by
  cases ws with
  | nil => rfl
  | cons w r =>
    rw [joinL_snoc (w :: r) p (by simp), joinL_snoc (w :: r) (p ++ [c]) (by simp)]
    simp [List.append_assoc]
theorem joinL_nil_iff : ∀ (ws : List (List Nat)), (∀ w ∈ ws, w ≠ []) → (joinL [32] ws = [] ↔ ws = [])
  | [], _ => by simp [joinL]
  | [w], h => by
    have := h w (by simp)
    simp [joinL, this]
  | w :: v :: r, h => by simp [joinL]
theorem fold_spl : ∀ (l : List Nat) (ws : List (List Nat)) (acc : List Nat), (∀ w ∈ ws, w ≠ []) →
    joinL [32] (ws ++ (spl [32] 0 acc l).filter some_) = (l.foldl stp (joinL [32] (ws ++ [acc].filter some_), decide (acc = []) && !decide (ws = []))).1
  | [], ws, acc, _ => rfl
  | c :: r, ws, acc, h => by
    rw [spl_cons, List.foldl_cons]
    by_cases hc : c = 32
    · rw [if_pos hc]
      have hw : ∀ w ∈ ws ++ [acc].filter some_, w ≠ [] := fun w hm => by
        rcases List.mem_append.mp hm with q | q
        · exact h w q
        · intro z
          subst z
          have := (List.mem_filter.mp q).2
          cases this
      have ih := fold_spl r (ws ++ [acc].filter some_) [] hw
      have e1 : ws ++ (acc :: spl [32] 0 [] r).filter some_ = (ws ++ [acc].filter some_) ++ (spl [32] 0 [] r).filter some_ := by
        rw [show acc :: spl [32] 0 [] r = [acc] ++ spl [32] 0 [] r from rfl, List.filter_append, List.append_assoc]
      rw [e1, ih]
      have e2 : stp (joinL [32] (ws ++ [acc].filter some_), decide (acc = []) && !decide (ws = [])) c = (joinL [32] (ws ++ [acc].filter some_), !decide (joinL [32] (ws ++ [acc].filter some_) = [])) := by
        unfold stp
        rw [if_pos hc]
      rw [e2]
      have e3 : (ws ++ [acc].filter some_) ++ [([] : List Nat)].filter some_ = ws ++ [acc].filter some_ := by
        rw [show [([] : List Nat)].filter some_ = [] from rfl, List.append_nil]
      rw [e3]
      have e4 := joinL_nil_iff _ hw
      have e5 : (decide (([] : List Nat) = []) && !decide (ws ++ [acc].filter some_ = [])) = !decide (joinL [32] (ws ++ [acc].filter some_) = []) := by
        rw [decide_eq_true (rfl : ([] : List Nat) = []), Bool.true_and]
        congr 1
        exact decide_eq_decide.mpr e4.symm
      rw [e5]
    · rw [if_neg hc]
      have ih := fold_spl r ws (acc ++ [c]) h
      rw [ih]
      have e1 : [acc ++ [c]].filter some_ = [acc ++ [c]] := by
        rw [List.filter_cons, if_pos (some_of (by simp))]
        rfl
      have e2 : (decide (acc ++ [c] = []) && !decide (ws = [])) = false := by simp
      rw [e1, e2]
      have e3 : stp (joinL [32] (ws ++ [acc].filter some_), decide (acc = []) && !decide (ws = [])) c = (joinL [32] (ws ++ [acc ++ [c]]), false) := by
        unfold stp
        rw [if_neg hc]
        refine Prod.ext ?_ rfl
        by_cases ha : acc = []
        · subst ha
          by_cases hw : ws = []
          · subst hw
            rfl
          · have : (decide (([] : List Nat) = []) && !decide (ws = [])) = true := by simp [hw]
            show (joinL [32] (ws ++ [([] : List Nat)].filter some_) ++ (if (decide (([] : List Nat) = []) && !decide (ws = [])) = true then [32] else [])) ++ [c] = _
            rw [if_pos this, show [([] : List Nat)].filter some_ = [] from rfl, List.append_nil, List.nil_append, joinL_snoc ws [c] hw]
        · have : (decide (acc = []) && !decide (ws = [])) = false := by simp [ha]
          simp only [this]
          rw [show [acc].filter some_ = [acc] by rw [List.filter_cons, if_pos (some_of ha)]; rfl]
          rw [if_neg Bool.false_ne_true, List.append_nil, joinL_grow]
      rw [e3]
theorem join_wrd (l : List Nat) : joinL [32] (wrd l) = due l := fold_spl l [] [] (fun _ h => by cases h)
theorem spl_free : ∀ (l acc : List Nat), 32 ∉ acc → ∀ p ∈ spl [32] 0 acc l, 32 ∉ p
  | [], acc, h, p, hp => by
    have : p = acc := by simpa [spl] using hp
    rw [this]
    exact h
  | c :: r, acc, h, p, hp => by
    rw [spl_cons] at hp
    by_cases hc : c = 32
    · rw [if_pos hc] at hp
      rcases List.mem_cons.mp hp with q | q
      · rw [q]
        exact h
      · exact spl_free r [] (by simp) p q
    · rw [if_neg hc] at hp
      refine spl_free r (acc ++ [c]) (fun q => ?_) p hp
      rcases List.mem_append.mp q with q | q
      · exact h q
      · exact hc (List.mem_singleton.mp q).symm
theorem wrd_free (l : List Nat) : ∀ p ∈ wrd l, 32 ∉ p := fun p hp => spl_free l [] (by simp) p (List.mem_filter.mp hp).1
theorem wrd_some (l : List Nat) : ∀ p ∈ wrd l, some_ p = true := fun p hp => (List.mem_filter.mp hp).2
theorem due_due (l : List Nat) : due (due l) = due l := by
  by_cases h : wrd l = []
  · have e : due l = [] := by
      rw [← join_wrd, h]
      rfl
    rw [e]
    rfl
  · have e : wrd (due l) = wrd l := by
      show (spl [32] 0 [] (due l)).filter some_ = wrd l
      rw [← join_wrd, spl_join h (wrd_free l)]
      exact List.filter_eq_self.mpr (wrd_some l)
    rw [← join_wrd (due l), e, join_wrd]
theorem stp_len (s : List Nat × Bool) (c : Nat) : (stp s c).1.length + (if (stp s c).2 = true then 1 else 0) ≤ s.1.length + (if s.2 = true then 1 else 0) + 1 := by
  obtain ⟨f, b⟩ := s
  unfold stp
  by_cases hc : c = 32
  · rw [if_pos hc]
    simp only
    split <;> split <;> omega
  · rw [if_neg hc]
    simp only [List.length_append, List.length_singleton]
    cases b <;> simp
theorem fold_len : ∀ (l : List Nat) (s : List Nat × Bool), (l.foldl stp s).1.length ≤ s.1.length + (if s.2 = true then 1 else 0) + l.length
  | [], s => by
    show s.1.length ≤ _
    omega
  | c :: r, s => by
    have h1 := fold_len r (stp s c)
    have h2 := stp_len s c
    rw [List.foldl_cons, List.length_cons]
    omega
theorem due_len (l : List Nat) : (due l).length ≤ l.length := by
  have := fold_len l ([], false)
  unfold due
  simpa using this
theorem spl_sum : ∀ (l acc : List Nat), ((spl [32] 0 acc l).map List.length).sum ≤ acc.length + l.length
  | [], acc => by simp [spl]
  | c :: r, acc => by
    rw [spl_cons]
    by_cases hc : c = 32
    · rw [if_pos hc]
      have := spl_sum r []
      simp at this ⊢
      omega
    · rw [if_neg hc]
      have := spl_sum r (acc ++ [c])
      simp at this ⊢
      omega
theorem spl_len : ∀ (l acc : List Nat), (spl [32] 0 acc l).length ≤ l.length + 1
  | [], acc => by simp [spl]
  | c :: r, acc => by
    rw [spl_cons]
    by_cases hc : c = 32
    · rw [if_pos hc]
      have := spl_len r []
      simp at this ⊢
      omega
    · rw [if_neg hc]
      have := spl_len r (acc ++ [c])
      simp at this ⊢
      omega
theorem sum_filter (f : List Nat → Bool) : ∀ l : List (List Nat), ((l.filter f).map List.length).sum ≤ (l.map List.length).sum
  | [] => by simp
  | p :: r => by
    have := sum_filter f r
    rw [List.filter_cons]
    split
    · simp
      omega
    · simp
      omega
theorem wrd_sum (l : List Nat) : ((wrd l).map List.length).sum ≤ l.length := by
  have h1 := spl_sum l []
  have h2 := sum_filter some_ (spl [32] 0 [] l)
  simp at h1
  unfold wrd
  omega
theorem wrd_len (l : List Nat) : (wrd l).length ≤ l.length + 1 := Nat.le_trans (List.length_filter_le _ _) (spl_len l [])
end Pk
namespace Pk
open PySem L2
def top (i : Nat) : Stmt := PySem.Challenge.pw_paperkin_k02_squeezed.main.body.getD i (.Pass ⟨0, 0, 0, 0⟩)
abbrev sSqueezed : Stmt := top 19
abbrev sNeedAny : Stmt := top 17
abbrev sWordsIn : Stmt := top 18
abbrev sMixed : Stmt := top 21
abbrev sStream : Stmt := top 22
abbrev sTake : Stmt := top 23
abbrev sWord : Stmt := top 24
abbrev sSaid : Stmt := top 25
abbrev sDue : Stmt := top 26
abbrev sTextBy : Stmt := top 27
abbrev sLaw : Stmt := top 28
/-! ### promises of the law's helpers -/
/-- some number that isn't negative -/
def spMixed : Sp := fun vs H Q _ => ∃ (n k : Int), vs = [.int n, .int k] ∧ 0 ≤ k ∧ k ≤ 100000 ∧ ∀ v : Int, 0 ≤ v → Q (.int v) H
/-- a stream's list, t numbers taken -/
def StrmAt (H : Hp) (s : Addr) (t : Int) : Prop := ∃ (b : Bool) (c m : Int), H s = some (.lst [.bl b, .int c, .int t, .int m])
def spStream : Sp := fun vs H Q _ => ∃ (c k : Int), vs = [.int c, .int k] ∧ 0 ≤ k ∧ k ≤ 100000 ∧ ∀ (p : Addr) (o : HO), H p = none → StrmAt (upd H p o) p 0 → Q (.ref p) (upd H p o)
/-- a number below many; only the stream's own list is otherwise -/
def But (s : Addr) (H H' : Hp) : Prop := ∀ q o, q ≠ s → H q = some o → H' q = some o
theorem But.refl {s : Addr} {H : Hp} : But s H H := fun _ _ _ h => h
theorem But.trans {s : Addr} {H H1 H2 : Hp} (a : But s H H1) (b : But s H1 H2) : But s H H2 := fun q o n h => b q o n (a q o n h)
theorem But.new {s p : Addr} {H : Hp} {o : HO} (h : H p = none) : But s H (upd H p o) := fun q u _ e => by
  rw [upd_ne (ne_of_none e h)]
  exact e
theorem But.at {s : Addr} {H : Hp} {o : HO} : But s H (upd H s o) := fun q u n e => by
  rw [upd_ne n]
  exact e
theorem But.same {s : Addr} {H H' : Hp} (a : Same H H') : But s H H' := fun q o _ e => a q o e
def spTake : Sp := fun vs H Q _ => ∃ (s : Addr) (t many : Int), vs = [.ref s, .int many] ∧ StrmAt H s t ∧ 0 ≤ t ∧ t < 100000 ∧ 0 < many ∧ many < 1000000 ∧
  ∀ (v : Int) (H' : Hp), 0 ≤ v → v < many → But s H H' → StrmAt H' s (t + 1) → Q (.int v) H'
section
variable {P : Program} {w : World} {K : PySem.W.Frag} {mg : Str → Option Value} {base : Heap}
theorem scMixed : FnScope ["_law_number", "_law_k"] ["_law_number", "_law_k"] (defScope sMixed) := ⟨rfl, rfl, rfl, by decide +kernel, rfl, by decide +kernel, by decide +kernel⟩
theorem ok_mixed {f : Addr} {fd : FuncData} (F : Fun K "_law_mixed" "_law_mixed" sMixed f fd) : FnOk P w K mg base CX0 1 f fd ["_law_number", "_law_k"] spMixed := by
  refine F.ok scMixed (fun vs H Q E h => ?_) (fun cdv A outer s H vs Q E hr h => ?_)
  · obtain ⟨n, k, rfl, _⟩ := h
    rfl
  · obtain ⟨n, k, rfl, k0, k1, q⟩ := h
    refine ⟨_, pss_cons (ps_set (i := 0) scMixed.nd rfl (.inl rfl) (pe_op op_mod (pe_op op_pow (pe_op op_add (pe_op op_add (pe_op op_add (pe_op op_mod (pv 0) pe_int) (pe_op op_mul (pe_op op_mul pe_int (pv 1)) (pv 1))) (pe_op op_mul pe_int (pv 1))) pe_int) pe_int) pe_int))
      (pss_one (ps_ret (pe_op op_fdiv (pe_op op_mod (pe_op op_mul (pv 0) (pe_op op_add pe_int (pe_op op_mul pe_int (pv 1)))) pe_int) pe_int))), ?_⟩
    have b1 : n % 2147483647 < 2147483647 := Int.emod_lt_of_pos _ (by decide)
    have b0 : 0 ≤ n % 2147483647 := Int.emod_nonneg _ (by decide)
    have kk : 7919 * k * k ≤ 7919 * 100000 * 100000 := Int.mul_le_mul (by omega) k1 k0 (by decide)
    have kk0 : 0 ≤ 7919 * k * k := Int.mul_nonneg (by omega) k0
    refine ⟨_, rfl, _, _, rfl, rfl, (by show (0 : Int) < 2147483647; decide), _, rfl, _, _, rfl, rfl, .inl ⟨by decide, by decide⟩, _, rfl, _, _, rfl, rfl, .inl ⟨by omega, by omega⟩, _, _, rfl, rfl, _, rfl, _, _, rfl, rfl, .inl ⟨by decide, by decide⟩, _, _, rfl, rfl, _, _, rfl, rfl, _, _, rfl, rfl, ⟨by decide, by decide, by omega⟩, _, _, rfl, rfl, (by show (0 : Int) < 2147483629; decide), ?_⟩
    refine ⟨_, rfl, _, rfl, _, _, rfl, rfl, .inl ⟨by decide, by decide⟩, _, _, rfl, rfl, _, _, rfl, rfl, .inr ⟨by omega, by omega⟩, _, _, rfl, rfl, (by show (0 : Int) < 2147483587; decide), _, _, rfl, rfl, ⟨by decide, by decide⟩, ?_⟩
    exact q _ (Int.ediv_nonneg (Int.emod_nonneg _ (by decide)) (by decide))
theorem scStream : FnScope ["_law_cell", "_law_k"] ["_law_cell", "_law_k"] (defScope sStream) := ⟨rfl, rfl, rfl, by decide +kernel, rfl, by decide +kernel, by decide +kernel⟩
theorem ok_stream {f fM : Addr} {fd fdM : FuncData} (F : Fun K "_law_stream" "_law_stream" sStream f fd) (FM : Fun K "_law_mixed" "_law_mixed" sMixed fM fdM) (bM : Binds K fdM ["_law_number", "_law_k"] []) (gM : mg "_law_mixed" = some (.ref fM)) :
    FnOk P w K mg base CX0 2 f fd ["_law_cell", "_law_k"] spStream := by
  have GM : FnOk P w K mg base CX0 1 fM fdM ["_law_number", "_law_k"] spMixed := ok_mixed FM
  refine F.ok scStream (fun vs H Q E h => ?_) (fun cdv A outer s H vs Q E hr h => ?_)
  · obtain ⟨n, k, rfl, _⟩ := h
    rfl
  · obtain ⟨c, k, rfl, k0, k1, q⟩ := h
    refine ⟨_, pss_one (ps_ret (pe_lst (pa_cons (pe_cmpR op_ge (pv 0) (pe_op op_pow pe_int pe_int) (nomark _)) (pa_cons (pv 0) (pa_cons pe_int (pa_cons (pe_call GM hr (by rfl) gM FM.kp bM .nil pass0 (pa_cons (pv 0) (pa_cons (pv 1) pa_nil))) pa_nil)))))), ?_⟩
    refine ⟨_, rfl, _, _, rfl, rfl, ⟨by decide, by decide, by decide⟩, _, _, rfl, rfl, _, rfl, _, rfl, _, rfl, c, k, rfl, k0, k1, fun v v0 => ?_⟩
    exact ⟨by show 4 ≤ sizeLine; decide, fun p hp => q p _ hp ⟨_, _, _, upd_same⟩⟩
theorem scTake : FnScope ["_law_stream_here", "_law_many", "_law_number"] ["_law_stream_here", "_law_many"] (defScope sTake) := ⟨rfl, rfl, rfl, by decide +kernel, rfl, by decide +kernel, by decide +kernel⟩
theorem upd_upd {H : Hp} {a : Addr} {o o' : HO} : upd (upd H a o) a o' = upd H a o' := by
  funext b
  unfold upd
  by_cases h : b = a
  · rw [if_pos h, if_pos h]
  · rw [if_neg h, if_neg h, if_neg h]
theorem ok_take {f fM : Addr} {fd fdM : FuncData} (F : Fun K "_law_take" "_law_take" sTake f fd) (FM : Fun K "_law_mixed" "_law_mixed" sMixed fM fdM) (bM : Binds K fdM ["_law_number", "_law_k"] []) (gM : mg "_law_mixed" = some (.ref fM)) :
    FnOk P w K mg base CX0 2 f fd ["_law_stream_here", "_law_many"] spTake := by
  have GM : FnOk P w K mg base CX0 1 fM fdM ["_law_number", "_law_k"] spMixed := ok_mixed FM
  refine F.ok scTake (fun vs H Q E h => ?_) (fun cdv A outer s H vs Q E hr h => ?_)
  · obtain ⟨n, k, m, rfl, _⟩ := h
    rfl
  · obtain ⟨a, t, many, rfl, ⟨b, c, m, ha⟩, t0, t1, m0, m1, q⟩ := h
    refine ⟨_, pss_cons (ps_asg (pe_op op_add (pe_ix ix_list (pv 0) pe_int (fun _ _ => rfl)) pe_int) (pg_sub (pv 0) pe_int set_list))
      (pss_cons (ps_if (PW.pt (pw_or (pt_not (pt_val (pe_ix ix_list (pv 0) pe_int (fun _ _ => rfl)))) (pw_or (pt_cmpR op_in_seq (pe_ix ix_list (pv 0) pe_int (fun _ _ => rfl)) (pe_tup (pa_cons pe_int (pa_cons (pe_un un_neg pe_int) pa_nil))) (by rfl))
          (pw_or1 (pt_cmpR op_gt (pe_ix ix_list (pv 0) pe_int (fun _ _ => rfl)) pe_int (nomark _))))))
        (pss_one (ps_ret (pe_op op_mod (pe_op op_fdiv (pe_call GM hr (by rfl) gM FM.kp bM .nil pass0 (pa_cons (pe_op op_add (pe_ix ix_list (pv 0) pe_int (fun _ _ => rfl)) (pe_op op_mul pe_int (pe_ix ix_list (pv 0) pe_int (fun _ _ => rfl)))) (pa_cons (pe_ix ix_list (pv 0) pe_int (fun _ _ => rfl)) pa_nil))) pe_int) (pv 1)))) pss_nil)
      (pss_cons (ps_set (i := 2) scTake.nd rfl (.inl rfl) (pe_op op_mod (pe_ix ix_list (pv 0) pe_int (fun _ _ => rfl)) (pv 1)))
      (pss_cons (ps_asg (pe_op op_fdiv (pe_ix ix_list (pv 0) pe_int (fun _ _ => rfl)) (pv 1)) (pg_sub (pv 0) pe_int set_list))
      (pss_one (ps_ret (pv 2)))))), ?_⟩
    refine ⟨_, rfl, a, _, _, _, rfl, rfl, SqL.of ha, atI_nat (j := 2) rfl, _, _, rfl, rfl, _, rfl, a, _, _, 2, rfl, rfl, ha, rfl, ?_⟩
    have h1 : upd H a (.lst [.bl b, .int c, .int (t + 1), .int m]) a = some (.lst [.bl b, .int c, .int (t + 1), .int m]) := upd_same
    have u1 : But a H (upd H a (.lst [.bl b, .int c, .int (t + 1), .int m])) := But.at
    show tSeq _ _ _ _ (upd H a (.lst [.bl b, .int c, .int (t + 1), .int m]))
    generalize upd H a (.lst [.bl b, .int c, .int (t + 1), .int m]) = H1 at h1 u1
    -- not stream[0]
    refine ⟨_, rfl, a, _, _, _, rfl, rfl, SqL.of h1, atI_nat (j := 0) rfl, _, rfl, ?_⟩
    cases b with
    | false =>
      refine iteT ?_
      have h2 := h1
      have u2 := u1
      refine ⟨_, rfl, a, _, _, _, rfl, rfl, SqL.of h2, atI_nat (j := 3) rfl, _, rfl, a, _, _, _, rfl, rfl, SqL.of h2, atI_nat (j := 2) rfl, _, _, rfl, rfl, .inl ⟨by decide, by decide⟩, _, _, rfl, rfl, _, rfl, a, _, _, _, rfl, rfl, SqL.of h2, atI_nat (j := 2) rfl, _, _, rfl, by omega, by omega, fun v v0 => ?_⟩
      exact ⟨_, _, rfl, rfl, ⟨by decide, by decide⟩, _, rfl, _, _, rfl, rfl, m0, q _ _ (Int.emod_nonneg _ (by omega)) (Int.emod_lt_of_pos _ m0) u2 ⟨_, _, _, h2⟩⟩
    | true =>
      refine iteF ?_
      -- stream[1] in (0, -1)
      refine ⟨_, rfl, a, _, _, _, rfl, rfl, SqL.of h1, atI_nat (j := 1) rfl, _, rfl, by show 2 ≤ sizeLine; decide, fun p hp => ?_⟩
      have h2 : upd H1 p (.tup [.int 0, .int (-1)]) a = some (.lst [.bl true, .int c, .int (t + 1), .int m]) := by
        rw [upd_ne (ne_of_none h1 hp)]
        exact h1
      have u2 : But a H (upd H1 p (.tup [.int 0, .int (-1)])) := u1.trans (But.new hp)
      refine ⟨p, _, rfl, .inr (SqT.of upd_same), rfl, rfl, _, rfl, ?_⟩
      generalize upd H1 p (.tup [.int 0, .int (-1)]) = H2 at h2 u2
      refine ite2 (fun _ => ?_) (fun _ => ?_)
      · refine ⟨_, rfl, a, _, _, _, rfl, rfl, SqL.of h2, atI_nat (j := 3) rfl, _, rfl, a, _, _, _, rfl, rfl, SqL.of h2, atI_nat (j := 2) rfl, _, _, rfl, rfl, .inl ⟨by decide, by decide⟩, _, _, rfl, rfl, _, rfl, a, _, _, _, rfl, rfl, SqL.of h2, atI_nat (j := 2) rfl, _, _, rfl, by omega, by omega, fun v v0 => ?_⟩
        exact ⟨_, _, rfl, rfl, ⟨by decide, by decide⟩, _, rfl, _, _, rfl, rfl, m0, q _ _ (Int.emod_nonneg _ (by omega)) (Int.emod_lt_of_pos _ m0) u2 ⟨_, _, _, h2⟩⟩
      · -- stream[2] > 60
        refine ⟨_, rfl, a, _, _, _, rfl, rfl, SqL.of h2, atI_nat (j := 2) rfl, _, _, rfl, rfl, _, rfl, ?_⟩
        refine ite2 (fun _ => ?_) (fun _ => ?_)
        · refine ⟨_, rfl, a, _, _, _, rfl, rfl, SqL.of h2, atI_nat (j := 3) rfl, _, rfl, a, _, _, _, rfl, rfl, SqL.of h2, atI_nat (j := 2) rfl, _, _, rfl, rfl, .inl ⟨by decide, by decide⟩, _, _, rfl, rfl, _, rfl, a, _, _, _, rfl, rfl, SqL.of h2, atI_nat (j := 2) rfl, _, _, rfl, by omega, by omega, fun v v0 => ?_⟩
          exact ⟨_, _, rfl, rfl, ⟨by decide, by decide⟩, _, rfl, _, _, rfl, rfl, m0, q _ _ (Int.emod_nonneg _ (by omega)) (Int.emod_lt_of_pos _ m0) u2 ⟨_, _, _, h2⟩⟩
        · refine ⟨_, rfl, a, _, _, _, rfl, rfl, SqL.of h2, atI_nat (j := 1) rfl, _, rfl, _, _, rfl, rfl, m0, ?_⟩
          refine ⟨_, rfl, a, _, _, _, rfl, rfl, SqL.of h2, atI_nat (j := 1) rfl, _, rfl, _, _, rfl, rfl, ⟨m0, by omega⟩, _, rfl, a, _, _, 1, rfl, rfl, h2, rfl, ?_⟩
          exact ⟨_, rfl, q _ _ (Int.emod_nonneg _ (by omega)) (Int.emod_lt_of_pos _ m0) (u2.trans But.at) ⟨_, _, _, upd_same⟩⟩
end
end Pk
namespace Pk
open PySem L2
/-! ### squeezed -/
/-- the text squeezed -/
def sq (z : Str) : Str := ⟨(due z.cps.toList).toArray⟩
theorem sq_tl (z : Str) : (sq z).cps.toList = due z.cps.toList := rfl
theorem sq_sq (z : Str) : sq (sq z) = sq z := by
  unfold sq
  rw [List.toList_toArray, due_due]
theorem len_is (z : Str) : z.length = z.cps.toList.length := TL.len_tl z
theorem sq_len (z : Str) : (sq z).length ≤ z.length := by
  rw [len_is, len_is, sq_tl]
  exact due_len _
def blank : Str := " "
theorem blank_tl : TL.tl (" " : Str) = [32] := by decide +kernel
/-- the words that stay -/
def kept (z : Str) : List Str := (Txt.split z " ").filter fun p => !decide (p = ("" : Str))
theorem empty_tl : TL.tl ("" : Str) = [] := by decide +kernel
theorem split_tl (z : Str) : (Txt.split z " ").map TL.tl = TL.spl [32] 0 [] (TL.tl z) := by
  have h := TL.split_spl z " " (by rw [blank_tl]; simp) (TL.kind_ok (by decide +kernel))
  rw [blank_tl] at h
  exact h
theorem filter_tl : ∀ l : List Str, (l.filter fun p => !decide (p = ("" : Str))).map TL.tl = (l.map TL.tl).filter some_
  | [] => rfl
  | p :: r => by
    have ih := filter_tl r
    have e : (!decide (p = ("" : Str))) = some_ (TL.tl p) := by
      unfold some_
      congr 1
      refine decide_eq_decide.mpr ⟨fun q => by rw [q, empty_tl], fun q => TL.ext_tl (by rw [q, empty_tl])⟩
    rw [List.filter_cons, List.map_cons, List.filter_cons, e]
    cases some_ (TL.tl p) with
    | true => rw [if_pos rfl, if_pos rfl, List.map_cons, ih]
    | false => rw [if_neg Bool.false_ne_true, if_neg Bool.false_ne_true, ih]
theorem kept_tl (z : Str) : (kept z).map TL.tl = wrd (TL.tl z) := by
  unfold kept wrd
  rw [filter_tl, split_tl]
theorem kept_join (z : Str) : Txt.join " " (kept z) = sq z := by
  refine TL.ext_tl ?_
  rw [TL.join_eq, TL.tl_join, kept_tl, blank_tl, join_wrd]
  rfl
theorem kept_sum (z : Str) : ((kept z).map (·.length)).sum ≤ z.length := by
  have h := wrd_sum (TL.tl z)
  rw [← kept_tl, List.map_map] at h
  have e : (kept z).map (·.length) = (kept z).map (List.length ∘ TL.tl) := List.map_congr_left fun p _ => TL.len_tl p
  rw [e, TL.len_tl]
  exact h
theorem kept_len (z : Str) : (kept z).length ≤ z.length + 1 := by
  have h := wrd_len (TL.tl z)
  rw [← kept_tl, List.length_map] at h
  rw [TL.len_tl]
  exact h
theorem same_upd {H : Hp} {p : Addr} {o : HO} (h : H p = none) : Same H (upd H p o) := fun b x e => by
  rw [upd_ne (ne_of_none e h)]
  exact e
/-- what is no text, by its type's name -/
def NoText (K : PySem.W.Frag) (H : Hp) (x : V) : Prop := ∃ t : String, TyX K H x (.type t) ∧ kitB t "str" = some false
def spSqueezed (K : PySem.W.Frag) (C : Addr) : Sp := fun vs H Q E => ∃ x, vs = [x] ∧
  ((∃ z, x = .str z ∧ z.length ≤ 10000 ∧ ∀ H' : Hp, Same H H' → Q (.str (sq z)) H') ∨ (NoText K H x ∧ E (.ref C) none H))
def spNeedAny (K : PySem.W.Frag) (C : Addr) : Sp := fun vs H Q E => ∃ x, vs = [x] ∧ ((∃ z, x = .str z ∧ Q .non H) ∨ (NoText K H x ∧ E (.ref C) none H))
def spWordsIn : Sp := fun vs H Q _ => ∃ z : Str, vs = [.str z] ∧ z.length ≤ 10000 ∧ ∀ (D : Addr) (H' : Hp), Same H H' → H' D = some (.lst ((kept z).map V.str)) → Q (.ref D) H'
/-- BadText as the top has left it -/
structure BadTxt (K : PySem.W.Frag) (mg : Str → Option Value) (C : Addr) : Prop where
  g : mg "BadText" = some (.ref C)
  x : PySem.W.excIn K C [.type "ValueError", .type "Exception", .type "BaseException", .type "object"] "ValueError.__new__" = true
  k : PySem.W.keepIn K (.ref C) = true
  b : PySem.W.subIn K (.ref C) (.type "BaseException") = some true
  t : PySem.W.typeIn K (.ref C) = some (.type "type")
section
variable {P : Program} {w : World} {K : PySem.W.Frag} {mg : Str → Option Value} {base : Heap}
theorem scNeedAny : FnScope ["thing"] ["thing"] (defScope sNeedAny) := ⟨rfl, rfl, rfl, by decide +kernel, rfl, by decide +kernel, by decide +kernel⟩
theorem ok_needAny {f C : Addr} {fd : FuncData} (F : Fun K "need_any_text" "need_any_text" sNeedAny f fd) (B : BadTxt K mg C) (mi : mg "isinstance" = none) (ms : mg "str" = none) : FnOk P w K mg base (L2.CX P w) 1 f fd ["thing"] (spNeedAny K C) := by
  refine F.okX scNeedAny (fun vs H Q E h => ?_) (fun cdv A outer s H vs Q E hr h => ?_)
  · obtain ⟨x, rfl, _⟩ := h
    rfl
  · obtain ⟨x, rfl, h⟩ := h
    refine ⟨_, pss_one (ps_if (pt_not (pt_val (pe_callB call_isi (by rfl) mi (by decide +kernel) (pa_cons (pv 0) (pa_cons (pe_bltn (v := .ty "str") (by rfl) ms PyProof.Rows.boot_str rfl) pa_nil)))))
        (pss_one (ps_raise rfl (takes_of rfl rfl rfl rfl) (pmk_own PySem.F.excBase_ValueError B.x B.g B.k (raises_own B.b B.t) (by exact rfl)))) pss_nil), ?_⟩
    rcases h with ⟨z, rfl, q⟩ | ⟨⟨t, ty, hb⟩, e⟩
    · refine ⟨_, rfl, _, _, _, _, true, rfl, .ty "str", .base (.str z), kit_ty (by decide +kernel), _, rfl, ?_⟩
      exact iteF q
    · refine ⟨_, rfl, _, _, _, _, false, rfl, .ty "str", ty, kit_ty hb, _, rfl, ?_⟩
      refine iteT ?_
      exact e
theorem scWordsIn : FnScope ["text", "word"] ["text"] (defScope sWordsIn) := ⟨rfl, rfl, rfl, by decide +kernel, rfl, by decide +kernel, by decide +kernel⟩
theorem ok_wordsIn {f : Addr} {fd : FuncData} (F : Fun K "words_in" "words_in" sWordsIn f fd) : FnOk P w K mg base CX0 1 f fd ["text"] spWordsIn := by
  refine F.ok scWordsIn (fun vs H Q E h => ?_) (fun cdv A outer s H vs Q E hr h => ?_)
  · obtain ⟨z, rfl, _⟩ := h
    rfl
  · obtain ⟨z, rfl, hz, q⟩ := h
    refine ⟨_, pss_one (ps_ret (pe_lc (own := [("word", 1)]) (g := gName 1) rfl scWordsIn.nd (pi_list (pe_split (pv 0) pe_str)) (blkOk_by (N := ["text", "word"]) (sc := defScope sWordsIn) (by decide +kernel))
        (fun _ _ _ _ _ => pg_name (i := 1) scWordsIn.nd rfl (Or.inl rfl)) (fun _ _ _ _ _ => pts_one (pt_cmpR op_ne (pv 1) pe_str (nomark _))) (fun _ _ _ _ _ => pv 1))), ?_⟩
    -- text.split(' ')
    refine ⟨_, rfl, ⟨_, rfl⟩, z, _, rfl, rfl, by decide +kernel, by have := hz; rw [sizeLine_eq]; omega, fun p hp => ?_⟩
    have s1 : Same H (upd H p (.lst ((Txt.split z " ").map V.str))) := same_upd hp
    refine ⟨p, rfl, ⟨_, SqL.of upd_same⟩, fun D hD => ?_⟩
    have s2 := same_upd (o := .lst []) hD
    have npD : p ≠ D := fun e => by
      rw [← e, upd_same] at hD
      cases hD
    have hp1 : upd H p (.lst ((Txt.split z " ").map V.str)) p = some (.lst ((Txt.split z " ").map V.str)) := upd_same
    generalize upd H p (.lst ((Txt.split z " ").map V.str)) = H1 at s1 hD s2 hp1
    have hlen : (Txt.split z " ").length ≤ z.length + 2 := PyProof.Rows.split_le z " "
    refine lc_list (K := K) (a := p) (xs := (Txt.split z " ").map V.str) (fun i H' => (∀ b o, b ≠ D → H1 b = some o → H' b = some o) ∧ H' D = some (.lst ((((Txt.split z " ").take i).filter fun p => !decide (p = ("" : Str))).map V.str))) ⟨fun b o n e => ?_, ?_⟩ ?_ ?_ ?_
    · rw [upd_ne n]
      exact e
    · exact upd_same
    · exact fun i H' _ h => SqL.of (h.1 p _ npD hp1)
    · rintro i x H' hi ⟨k, hd⟩
      rw [List.getElem?_map] at hi
      obtain ⟨y, hy, rfl⟩ : ∃ y, (Txt.split z " ")[i]? = some y ∧ x = V.str y := by
        cases e : (Txt.split z " ")[i]? with
        | none =>
          rw [e] at hi
          cases hi
        | some y =>
          rw [e] at hi
          exact ⟨y, rfl, (Option.some.inj hi).symm⟩
      have hi2 : i < (Txt.split z " ").length := (List.getElem?_eq_some_iff.mp hy).1
      have tk : (Txt.split z " ").take (i + 1) = (Txt.split z " ").take i ++ [y] := by
        rw [List.take_add_one, hy]
        rfl
      refine ⟨rfl, _, rfl, rfl, _, rfl, ?_⟩
      by_cases hy0 : y = ""
      · subst hy0
        rw [decide_eq_true (rfl : V.str "" = V.str "")]
        refine iteF ⟨k, ?_⟩
        rw [hd, tk, List.filter_append, show [("" : Str)].filter (fun p => !decide (p = ("" : Str))) = [] from by decide +kernel, List.append_nil]
      · rw [decide_eq_false (fun q => hy0 (V.str.inj q))]
        refine iteT ⟨_, rfl, _, hd, ?_, fun b o n e => ?_, ?_⟩
        · rw [List.length_map]
          refine Nat.lt_of_le_of_lt (List.length_filter_le _ _) ?_
          rw [List.length_take, sizeLine_eq]
          omega
        · rw [upd_ne n]
          exact k b o n e
        · rw [upd_same, tk, List.filter_append, List.map_append, List.filter_cons, if_pos (by rw [decide_eq_false hy0]; rfl)]
          rfl
    · rintro H' ⟨k, hd⟩
      rw [List.length_map, List.take_length] at hd
      refine q D H' (fun b o e => k b o (fun z => ?_) (s1 b o e)) hd
      rw [z] at e
      rw [s1 _ _ e] at hD
      cases hD
/-- the two defs that squeezed calls -/
def Sqz (K : PySem.W.Frag) (mg : Str → Option Value) : Prop := ∃ (fA fI : Addr) (fdA fdI : FuncData), (Fun K "need_any_text" "need_any_text" sNeedAny fA fdA ∧ Binds K fdA ["thing"] [] ∧ mg "need_any_text" = some (.ref fA)) ∧ Fun K "words_in" "words_in" sWordsIn fI fdI ∧ Binds K fdI ["text"] [] ∧ mg "words_in" = some (.ref fI)
theorem scSqueezed : FnScope ["text"] ["text"] (defScope sSqueezed) := ⟨rfl, rfl, rfl, by decide +kernel, rfl, by decide +kernel, by decide +kernel⟩
theorem ok_squeezed {f C : Addr} {fd : FuncData} (F : Fun K "squeezed" "squeezed" sSqueezed f fd) (Z : Sqz K mg) (B : BadTxt K mg C) (mi : mg "isinstance" = none) (ms : mg "str" = none) : FnOk P w K mg base (L2.CX P w) 2 f fd ["text"] (spSqueezed K C) := by
  obtain ⟨fA, fI, fdA, fdI, ⟨FA, bA, gA⟩, FI, bI, gI⟩ := Z
  have GA : FnOk P w K mg base (L2.CX P w) 1 fA fdA ["thing"] (spNeedAny K C) := ok_needAny FA B mi ms
  have GI : FnOk P w K mg base CX0 1 fI fdI ["text"] spWordsIn := ok_wordsIn FI
  refine F.okX scSqueezed (fun vs H Q E h => ?_) (fun cdv A outer s H vs Q E hr h => ?_)
  · obtain ⟨x, rfl, _⟩ := h
    rfl
  · obtain ⟨x, rfl, h⟩ := h
    refine ⟨_, pss_cons (ps_expr (pe_call (E := E) GA hr (by rfl) gA FA.kp bA .nil (passes_call (takes_of rfl rfl rfl rfl) fun _ _ _ _ h => h) (pa_cons (pv 0) pa_nil)))
      (pss_one (ps_ret (pe_join pe_str (pe_call GI hr (by rfl) gI FI.kp bI .nil pass0 (pa_cons (pv 0) pa_nil))))), ?_⟩
    rcases h with ⟨z, rfl, hz, q⟩ | ⟨nt, e⟩
    · refine ⟨_, rfl, _, rfl, .inl ⟨z, rfl, ?_⟩⟩
      refine ⟨⟨_, rfl⟩, _, rfl, z, rfl, hz, fun D H' s1 hd => ?_⟩
      refine ⟨_, D, kept z, rfl, rfl, .inl (SqL.of hd), ?_, ?_⟩
      · have h1 := kept_sum z
        have h2 := kept_len z
        have h3 : (" " : Str).length = 1 := by decide +kernel
        rw [h3]
        omega
      · rw [kept_join]
        exact q H' s1
    · exact ⟨_, rfl, _, rfl, .inr ⟨nt, e⟩⟩
end
end Pk
namespace Pk
open PySem L2
/-! ### a text so many times -/
theorem mul_ok {z : Str} {n : Int} (hz : z.length ≤ 100000) (n0 : 0 ≤ n) (n1 : n ≤ 100) : MulOk z n := by
  refine ⟨?_, fun h1 _ h3 => ?_, fun h1 _ => ?_⟩
  · rw [Bool.or_eq_false_iff]
    exact ⟨decide_eq_false (by omega), decide_eq_false (by omega)⟩
  · have : (100000 : Int) ≤ (2 ^ 63 - 1 : Int) / n := Int.le_ediv_of_mul_le (by omega) (by omega)
    omega
  · have h : z.length * n.toNat ≤ 100000 * 100 := Nat.mul_le_mul hz (by omega)
    show decide (z.length * n.toNat > sizeLine) = false
    refine decide_eq_false ?_
    rw [sizeLine_eq]
    omega
theorem fold_app : ∀ (n : Nat) (x : Array Nat) (a : Array Nat), ((List.replicate n x).foldl (· ++ ·) a).toList = a.toList ++ (List.replicate n x.toList).flatten
  | 0, x, a => by simp
  | n + 1, x, a => by
    rw [List.replicate_succ, List.foldl_cons, fold_app n x (a ++ x), Array.toList_append, List.replicate_succ, List.flatten_cons, List.append_assoc]
theorem mul_tl (z : Str) {n : Int} (n0 : 0 ≤ n) : TL.tl (Txt.mul z n) = (List.replicate n.toNat (TL.tl z)).flatten := by
  unfold Txt.mul
  by_cases h1 : n < 1
  · have e : n = 0 := by omega
    subst e
    rw [if_pos h1]
    rfl
  · rw [if_neg h1]
    by_cases h2 : n = 1
    · subst h2
      show z.cps.toList = _
      simp
    · by_cases h3 : z.length = 0
      · rw [if_pos (by simp [h3])]
        have e : TL.tl z = [] := List.length_eq_zero_iff.mp (by rw [← TL.len_tl]; exact h3)
        rw [e]
        simp
      · rw [if_neg (by simp [h2, h3])]
        show ((List.replicate n.toNat z.cps).foldl (· ++ ·) #[]).toList = _
        rw [fold_app]
        rfl
theorem mul_len (z : Str) {n : Int} (n0 : 0 ≤ n) : (Txt.mul z n).length = n.toNat * z.length := by
  rw [TL.len_tl, mul_tl z n0, TL.len_tl]
  simp
/-! ### the law's own going sign by sign -/
def spDue : Sp := fun vs H Q _ => ∃ z, vs = [.str z] ∧ z.length ≤ 10000 ∧ Q (.str (sq z)) H
section
variable {P : Program} {w : World} {K : PySem.W.Frag} {mg : Str → Option Value} {base : Heap}
theorem scDue : FnScope ["_law_row", "_law_found", "_law_waits", "_law_sign"] ["_law_row"] (defScope sDue) := ⟨rfl, rfl, rfl, by decide +kernel, rfl, by decide +kernel, by decide +kernel⟩
/-- the state behind some signs -/
def beh (z : Str) (i : Nat) : List Nat × Bool := (z.cps.toList.take i).foldl stp ([], false)
theorem beh_more {z : Str} {i c : Nat} (h : z.cps.toList[i]? = some c) : beh z (i + 1) = stp (beh z i) c := by
  unfold beh
  rw [List.take_add_one, h, List.foldl_append]
  rfl
theorem beh_len (z : Str) (i : Nat) : (beh z i).1.length ≤ z.length := by
  have h : ((z.cps.toList.take i).foldl stp ([], false)).1.length ≤ 0 + 0 + (z.cps.toList.take i).length := fold_len (z.cps.toList.take i) ([], false)
  unfold beh
  rw [TL.len_tl]
  have h2 : (z.cps.toList.take i).length ≤ (TL.tl z).length := by
    rw [List.length_take]
    exact Nat.min_le_right _ _
  omega
def S (l : List Nat) : Str := ⟨l.toArray⟩
theorem S_tl (l : List Nat) : TL.tl (S l) = l := rfl
theorem S_len (l : List Nat) : (S l).length = l.length := TL.len_tl _
theorem ok_due {f : Addr} {fd : FuncData} (F : Fun K "_law_due" "_law_due" sDue f fd) (mi : mg "int" = none) : FnOk P w K mg base CX0 1 f fd ["_law_row"] spDue := by
  refine F.ok scDue (fun vs H Q E h => ?_) (fun cdv A outer s H vs Q E hr h => ?_)
  · obtain ⟨z, rfl, _⟩ := h
    rfl
  · obtain ⟨z, rfl, hz, q⟩ := h
    refine ⟨_, pss_cons (ps_set (i := 1) scDue.nd rfl (.inl rfl) pe_str) (pss_cons (ps_set (i := 2) scDue.nd rfl (.inl rfl) pe_bl)
      (pss_cons (ps_for PassesOwn.never rfl (pi_str (pv 0)) (pg_name (i := 3) scDue.nd rfl (.inl rfl))
        (pss_one (ps_if (pt_cmpR op_eq (pv 3) pe_str (nomark _)) (pss_one (ps_set (i := 2) scDue.nd rfl (.inl rfl) (pe_cmpR op_ne (pv 1) pe_str (nomark _))))
          (pss_cons (ps_set (i := 1) scDue.nd rfl (.inl rfl) (pe_op op_add_str (pe_op op_add_str (pv 1) (pe_op op_times pe_str (pe_callTy call_int1 (by rfl) mi PyProof.Rows.boot_int (pa_cons (pv 2) pa_nil)))) (pv 3))) (pss_one (ps_set (i := 2) scDue.nd rfl (.inl rfl) pe_bl))))))
      (pss_one (ps_ret (pv 1))))), ?_⟩
    refine ⟨_, rfl, z, rfl, for_it walk_str (fun i σ H' => ∃ v, σ = [some (.str z), some (.str (S (beh z i).1)), some (.bl (beh z i).2), v] ∧ H' = H) ⟨none, ?_, rfl⟩ (fun _ _ _ _ _ => trivial) ?_ ?_⟩
    · show [some (V.str z), some (V.str ""), some (V.bl false), none] = _
      rw [show S (beh z 0).1 = "" from by show (⟨#[]⟩ : Str) = ""; decide +kernel]
      rfl
    · rintro i x σ H1 H2 hi ⟨v, rfl, rfl⟩ ⟨rfl, c, hc, rfl⟩
      have hc' : z.cps.toList[i]? = some c := by rw [Array.getElem?_toList]; exact hc
      have step := beh_more hc'
      have hl := beh_len z i
      refine ⟨_, rfl, rfl, _, rfl, ?_⟩
      by_cases h32 : c = 32
      · subst h32
        rw [show (V.str ⟨#[32]⟩ : V) = V.str " " from congrArg V.str (by decide +kernel), decide_eq_true (rfl : V.str " " = V.str " ")]
        refine iteT ⟨_, rfl, rfl, some (.str " "), ?_, rfl⟩
        have e2 : beh z (i + 1) = ((beh z i).1, !decide ((beh z i).1 = [])) := by
          rw [step]
          unfold stp
          rw [if_pos rfl]
        have e3 : decide (V.str (S (beh z i).1) = V.str "") = decide ((beh z i).1 = []) := decide_eq_decide.mpr ⟨fun q => by
          have e := congrArg TL.tl (V.str.inj q)
          rw [empty_tl] at e
          exact e, fun q => congrArg V.str (TL.ext_tl (by rw [q, empty_tl]; rfl))⟩
        rw [e2]
        show [some (V.str z), some (V.str (S (beh z i).1)), some (V.bl (!decide (V.str (S (beh z i).1) = V.str ""))), some (V.str " ")] = _
        rw [e3]
      · rw [decide_eq_false (show ¬ (V.str ⟨#[c]⟩ = V.str " ") from fun q => h32 (by
          have e := congrArg TL.tl (V.str.inj q)
          rw [blank_tl] at e
          exact (List.cons.inj e).1))]
        refine iteF ⟨_, rfl, _, rfl, .inr ⟨_, rfl, _, _, rfl, rfl, ?_, _, _, rfl, rfl, ?_, _, rfl, _, _, rfl, rfl, ?_, ?_⟩⟩
        · exact mul_ok (by decide +kernel) (by split <;> decide) (by split <;> decide)
        · rw [S_len, mul_len _ (by split <;> decide), sizeLine_eq, show (" " : Str).length = 1 by decide +kernel]
          cases (beh z i).2
          · show (beh z i).1.length + 0 * 1 ≤ _
            omega
          · show (beh z i).1.length + 1 * 1 ≤ _
            omega
        · rw [TL.len_tl, TL.tl_append, List.length_append, ← TL.len_tl, ← TL.len_tl, S_len, mul_len _ (by split <;> decide), sizeLine_eq, show (" " : Str).length = 1 by decide +kernel, show (⟨#[c]⟩ : Str).length = 1 from rfl]
          cases (beh z i).2
          · show (beh z i).1.length + 0 * 1 + 1 ≤ _
            omega
          · show (beh z i).1.length + 1 * 1 + 1 ≤ _
            omega
        · refine ⟨some (.str ⟨#[c]⟩), ?_, rfl⟩
          have e2 : beh z (i + 1) = (((beh z i).1 ++ (if (beh z i).2 = true then [32] else [])) ++ [c], false) := by
            rw [step]
            unfold stp
            rw [if_neg h32]
          have e3 : S (((beh z i).1 ++ (if (beh z i).2 = true then [32] else [])) ++ [c]) = (S (beh z i).1 ++ Txt.mul " " (if (beh z i).2 then 1 else 0)) ++ (⟨#[c]⟩ : Str) := by
            refine TL.ext_tl ?_
            rw [TL.tl_append, TL.tl_append, mul_tl _ (by split <;> decide), S_tl, S_tl, blank_tl]
            cases (beh z i).2 <;> rfl
          rw [e2, e3]
          rfl
    · rintro σ H1 ⟨v, rfl, rfl⟩
      refine ⟨_, rfl, ?_⟩
      have e : S (beh z z.cps.size).1 = sq z := by
        unfold beh S sq due
        rw [List.take_of_length_le (by simp)]
      rw [e]
      exact q
end
end Pk
namespace Pk
open PySem L2
/-! ### isinstance of a kept exception -/
def rIsH (K : PySem.W.Frag) : List V → Hp → VK → Prop := fun xs H Q => ∃ (a D : Addr) (c : V) (cv : Value) (b : Bool), xs = [.ref a, c] ∧ H a = some (ExH (.ref D) none a) ∧ ExcC K D ∧ ClsV c cv ∧ PySem.W.kitOne K (.ref D) cv = some b ∧ Q (.bl b) H
theorem call_isH {X : Cx} : CallR X (.builtin "isinstance") (rIsH X.K) := by
  rintro pins s σ H xs us Q I r ⟨a, D, c, cv, b, rfl, hH, C, hc, e, q⟩
  obtain ⟨u1, u2, rfl, r1, r2⟩ := vals2 r
  cases (show u1 = Value.ref a from r1)
  have ec := hc.eq r2
  subst ec
  obtain ⟨⟨oe, vs, hget, hz, hv⟩, _, _⟩ := I.hok a _ hH
  have J : PySem.W.InstAt s.heap a oe D none := by
    obtain ⟨oc, od, oda, osl⟩ := oe
    obtain ⟨h1, h2⟩ := hz
    dsimp only at h1 h2 hv
    subst h1 h2 hv
    exact ⟨hget, rfl, rfl, trivial⟩
  exact PySem.W.kia_one (PySem.W.handS_kitx_exc C.hg C.hk C.hs C.hd C.ha C.hn C.ht C.hm) I.kIn J e (fun z => nomatch z) fun tk => ⟨.bl b, H, I.tok tk, rfl, q⟩
/-! ### the word of a refusal -/
def lawWords : List Str := ["wish", "paper", "sheet", "line", "gone", "question", "text", "such", "place", "many", "kind", "unmet", "answers", "twice"]
/-- the words whose class it is -/
def told (bs : List Bool) : List Str := ((lawWords.zip bs).filter (·.2)).map (·.1)
def wordOf (bs : List Bool) : Str := match told bs with
  | [x] => x
  | _ => "another"
/-- the fourteen classes, as the top has left them -/
structure Fourteen (mg : Str → Option Value) (c : Nat → Addr) : Prop where
  g0 : mg "BadWish" = some (.ref (c 0))
  g1 : mg "BadPaper" = some (.ref (c 1))
  g2 : mg "BadSheet" = some (.ref (c 2))
  g3 : mg "BadLine" = some (.ref (c 3))
  g4 : mg "Gone" = some (.ref (c 4))
  g5 : mg "BadQuestion" = some (.ref (c 5))
  g6 : mg "BadText" = some (.ref (c 6))
  g7 : mg "NoSuch" = some (.ref (c 7))
  g8 : mg "NoPlace" = some (.ref (c 8))
  g9 : mg "TooMany" = some (.ref (c 9))
  g10 : mg "BadKind" = some (.ref (c 10))
  g11 : mg "Unmet" = some (.ref (c 11))
  g12 : mg "NoAnswers" = some (.ref (c 12))
  g13 : mg "Twice" = some (.ref (c 13))
/-- which of them the class D is -/
def Kits (K : PySem.W.Frag) (c : Nat → Addr) (D : Addr) (bs : Nat → Bool) : Prop := ∀ i, i < 14 → PySem.W.kitOne K (.ref D) (.ref (c i)) = some (bs i)
def list14 (bs : Nat → Bool) : List Bool := [bs 0, bs 1, bs 2, bs 3, bs 4, bs 5, bs 6, bs 7, bs 8, bs 9, bs 10, bs 11, bs 12, bs 13]
def spWord (K : PySem.W.Frag) (c : Nat → Addr) : Sp := fun vs H Q _ => ∃ (a D : Addr) (bs : Nat → Bool), vs = [.ref a] ∧ H a = some (ExH (.ref D) none a) ∧ ExcC K D ∧ Kits K c D bs ∧ ∀ H' : Hp, Same H H' → Q (.str (wordOf (list14 bs))) H'
section
variable {P : Program} {w : World} {K : PySem.W.Frag} {mg : Str → Option Value} {base : Heap}
theorem scWord : FnScope ["_law_error", "_law_found", "_law_words", "_law_told", "_law_word_here", "_law_good"] ["_law_error"] (defScope sWord) := ⟨rfl, rfl, rfl, by decide +kernel, rfl, by decide +kernel, by decide +kernel⟩
theorem isi {X : Cx} {x : Str} {p p1 p2 pos : Pos} {a : Addr} (mi : X.mg "isinstance" = none) (g : X.mg x = some (.ref a)) (hi : Gl X "isinstance" := by rfl) (hg : Gl X x := by rfl) (hN : X.N[0]? = some ("_law_error" : Str) := by rfl) (hv : Vis X.env.scope "_law_error" := by exact Or.inl rfl) (hd : (x == ("__debug__" : Str)) = false := by decide) :
    PE X (.Call (.Name "isinstance" p) [.Name "_law_error" p1, .Name x p2] [] pos) (tCB (rIsH X.K) (tCons (tVar 0) (tCons (tC (.ref a)) tNil))) :=
  pe_callB call_isH hi mi (by decide +kernel) (pa_cons (pe_var hN hv) (pa_cons (pe_glob (v := .ref a) hg g rfl hd) pa_nil))
theorem ok_word {f : Addr} {fd : FuncData} {c : Nat → Addr} (F : Fun K "_law_word" "_law_word" sWord f fd) (T : Fourteen mg c) (mi : mg "isinstance" = none) (mz : mg "zip" = none) (ml : mg "len" = none) : FnOk P w K mg base CX0 1 f fd ["_law_error"] (spWord K c) := by
  refine F.ok scWord (fun vs H Q E h => ?_) (fun cdv A outer s H vs Q E hr h => ?_)
  · obtain ⟨a, D, bs, rfl, _⟩ := h
    rfl
  · obtain ⟨a, D, bs, rfl, ha, XC, kt, q⟩ := h
    refine ⟨_, pss_cons (ps_if (pt_cmpR op_isN (pv 0) pe_non (nomark _)) (pss_one (ps_ret pe_str)) pss_nil)
      (pss_cons (ps_set (i := 1) scWord.nd rfl (.inl rfl) (pe_lst (pa_cons (isi mi T.g0) (pa_cons (isi mi T.g1) (pa_cons (isi mi T.g2) pa_nil)))))
      (pss_cons (ps_set (i := 1) scWord.nd rfl (.inl rfl) (pe_op op_cat (pv 1) (pe_lst (pa_cons (isi mi T.g3) (pa_cons (isi mi T.g4) (pa_cons (isi mi T.g5) pa_nil))))))
      (pss_cons (ps_set (i := 1) scWord.nd rfl (.inl rfl) (pe_op op_cat (pv 1) (pe_lst (pa_cons (isi mi T.g6) (pa_cons (isi mi T.g7) (pa_cons (isi mi T.g8) pa_nil))))))
      (pss_cons (ps_set (i := 1) scWord.nd rfl (.inl rfl) (pe_op op_cat (pv 1) (pe_lst (pa_cons (isi mi T.g9) (pa_cons (isi mi T.g10) (pa_cons (isi mi T.g11) pa_nil))))))
      (pss_cons (ps_set (i := 1) scWord.nd rfl (.inl rfl) (pe_op op_cat (pv 1) (pe_lst (pa_cons (isi mi T.g12) (pa_cons (isi mi T.g13) pa_nil)))))
      (pss_cons (ps_set (i := 2) scWord.nd rfl (.inl rfl) (pe_lst (pa_cons pe_str (pa_cons pe_str (pa_cons pe_str (pa_cons pe_str (pa_cons pe_str (pa_cons pe_str (pa_cons pe_str (pa_cons pe_str (pa_cons pe_str (pa_cons pe_str (pa_cons pe_str pa_nil)))))))))))))
      (pss_cons (ps_setLc (i := 3) (own := [("_law_word_here", 4), ("_law_good", 5)]) (g := gTup K 2 (gCons (gName 4) (gCons (gName 5) gNil))) rfl scWord.nd rfl rfl (sw_true rfl rfl rfl (by decide +kernel)) (pi_zip (by rfl) mz (pa_cons (pe_op op_cat (pv 2) (pe_lst (pa_cons pe_str (pa_cons pe_str (pa_cons pe_str pa_nil))))) (pa_cons (pv 1) pa_nil)))
          (blkOk_by (N := ["_law_error", "_law_found", "_law_words", "_law_told", "_law_word_here", "_law_good"]) (sc := defScope sWord) (by decide +kernel))
          (fun _ _ _ _ _ => by exact pg_tup rfl (pgs_cons (pg_name (i := 4) scWord.nd rfl (.inl rfl)) (pgs_cons (pg_name (i := 5) scWord.nd rfl (.inl rfl)) pgs_nil))) (fun _ _ _ _ _ => pts_one (pt_val (pv 5))) (fun _ _ _ _ _ => pv 4))
      (pss_one (ps_ret (pe_ifExp (pt_cmpR op_eq (pe_callB call_len_seq (by rfl) ml PySem.boot_len (pa_cons (pv 3) pa_nil)) pe_int (nomark _)) (pe_ix ix_list (pv 3) pe_int (fun _ _ => rfl)) pe_str)))))))))), ?_⟩
    refine ⟨_, rfl, rfl, _, rfl, ite2 (fun e => absurd (of_decide_eq_true e) (by intro z; cases z)) (fun _ => ?_)⟩
    refine ⟨_, rfl, a, D, _, _, _, rfl, ha, XC, .own _, kt 0 (by decide), _, rfl, a, D, _, _, _, rfl, ha, XC, .own _, kt 1 (by decide), _, rfl, a, D, _, _, _, rfl, ha, XC, .own _, kt 2 (by decide), by show 3 ≤ sizeLine; decide, fun p1 hp1 => ?_⟩
    have s1 := same_upd (o := .lst [.bl (bs 0), .bl (bs 1), .bl (bs 2)]) hp1
    have l1 : upd H p1 (.lst [.bl (bs 0), .bl (bs 1), .bl (bs 2)]) p1 = some (.lst [.bl (bs 0), .bl (bs 1), .bl (bs 2)]) := upd_same
    generalize upd H p1 (.lst [.bl (bs 0), .bl (bs 1), .bl (bs 2)]) = H1 at s1 l1
    have a1 := s1 _ _ ha
    refine ⟨_, rfl, _, rfl, a, D, _, _, _, rfl, a1, XC, .own _, kt 3 (by decide), _, rfl, a, D, _, _, _, rfl, a1, XC, .own _, kt 4 (by decide), _, rfl, a, D, _, _, _, rfl, a1, XC, .own _, kt 5 (by decide), by show 3 ≤ sizeLine; decide, fun t1 ht1 => ?_⟩
    have v1 := same_upd (o := .lst [.bl (bs 3), .bl (bs 4), .bl (bs 5)]) ht1
    refine ⟨p1, t1, _, _, rfl, rfl, v1 _ _ l1, upd_same, by show 6 ≤ sizeLine; decide, fun p2 hp2 => ?_⟩
    have s2 := (s1.trans v1).trans (same_upd (o := .lst [.bl (bs 0), .bl (bs 1), .bl (bs 2), .bl (bs 3), .bl (bs 4), .bl (bs 5)]) hp2)
    have l2 : upd (upd H1 t1 (.lst [.bl (bs 3), .bl (bs 4), .bl (bs 5)])) p2 (.lst [.bl (bs 0), .bl (bs 1), .bl (bs 2), .bl (bs 3), .bl (bs 4), .bl (bs 5)]) p2 = some (.lst [.bl (bs 0), .bl (bs 1), .bl (bs 2), .bl (bs 3), .bl (bs 4), .bl (bs 5)]) := upd_same
    show tSeq _ _ _ _ (upd (upd H1 t1 (.lst [.bl (bs 3), .bl (bs 4), .bl (bs 5)])) p2 (.lst [.bl (bs 0), .bl (bs 1), .bl (bs 2), .bl (bs 3), .bl (bs 4), .bl (bs 5)]))
    generalize upd (upd H1 t1 (.lst [.bl (bs 3), .bl (bs 4), .bl (bs 5)])) p2 (.lst [.bl (bs 0), .bl (bs 1), .bl (bs 2), .bl (bs 3), .bl (bs 4), .bl (bs 5)]) = H2 at s2 l2
    have a2 := s2 _ _ ha
    refine ⟨_, rfl, _, rfl, a, D, _, _, _, rfl, a2, XC, .own _, kt 6 (by decide), _, rfl, a, D, _, _, _, rfl, a2, XC, .own _, kt 7 (by decide), _, rfl, a, D, _, _, _, rfl, a2, XC, .own _, kt 8 (by decide), by show 3 ≤ sizeLine; decide, fun t2 ht2 => ?_⟩
    have v2 := same_upd (o := .lst [.bl (bs 6), .bl (bs 7), .bl (bs 8)]) ht2
    refine ⟨p2, t2, _, _, rfl, rfl, v2 _ _ l2, upd_same, by show 9 ≤ sizeLine; decide, fun p3 hp3 => ?_⟩
    have s3 := (s2.trans v2).trans (same_upd (o := .lst [.bl (bs 0), .bl (bs 1), .bl (bs 2), .bl (bs 3), .bl (bs 4), .bl (bs 5), .bl (bs 6), .bl (bs 7), .bl (bs 8)]) hp3)
    have l3 : upd (upd H2 t2 (.lst [.bl (bs 6), .bl (bs 7), .bl (bs 8)])) p3 (.lst [.bl (bs 0), .bl (bs 1), .bl (bs 2), .bl (bs 3), .bl (bs 4), .bl (bs 5), .bl (bs 6), .bl (bs 7), .bl (bs 8)]) p3 = some (.lst [.bl (bs 0), .bl (bs 1), .bl (bs 2), .bl (bs 3), .bl (bs 4), .bl (bs 5), .bl (bs 6), .bl (bs 7), .bl (bs 8)]) := upd_same
    show tSeq _ _ _ _ (upd (upd H2 t2 (.lst [.bl (bs 6), .bl (bs 7), .bl (bs 8)])) p3 (.lst [.bl (bs 0), .bl (bs 1), .bl (bs 2), .bl (bs 3), .bl (bs 4), .bl (bs 5), .bl (bs 6), .bl (bs 7), .bl (bs 8)]))
    generalize upd (upd H2 t2 (.lst [.bl (bs 6), .bl (bs 7), .bl (bs 8)])) p3 (.lst [.bl (bs 0), .bl (bs 1), .bl (bs 2), .bl (bs 3), .bl (bs 4), .bl (bs 5), .bl (bs 6), .bl (bs 7), .bl (bs 8)]) = H3 at s3 l3
    have a3 := s3 _ _ ha
    refine ⟨_, rfl, _, rfl, a, D, _, _, _, rfl, a3, XC, .own _, kt 9 (by decide), _, rfl, a, D, _, _, _, rfl, a3, XC, .own _, kt 10 (by decide), _, rfl, a, D, _, _, _, rfl, a3, XC, .own _, kt 11 (by decide), by show 3 ≤ sizeLine; decide, fun t3 ht3 => ?_⟩
    have v3 := same_upd (o := .lst [.bl (bs 9), .bl (bs 10), .bl (bs 11)]) ht3
    refine ⟨p3, t3, _, _, rfl, rfl, v3 _ _ l3, upd_same, by show 12 ≤ sizeLine; decide, fun p4 hp4 => ?_⟩
    have s4 := (s3.trans v3).trans (same_upd (o := .lst [.bl (bs 0), .bl (bs 1), .bl (bs 2), .bl (bs 3), .bl (bs 4), .bl (bs 5), .bl (bs 6), .bl (bs 7), .bl (bs 8), .bl (bs 9), .bl (bs 10), .bl (bs 11)]) hp4)
    have l4 : upd (upd H3 t3 (.lst [.bl (bs 9), .bl (bs 10), .bl (bs 11)])) p4 (.lst [.bl (bs 0), .bl (bs 1), .bl (bs 2), .bl (bs 3), .bl (bs 4), .bl (bs 5), .bl (bs 6), .bl (bs 7), .bl (bs 8), .bl (bs 9), .bl (bs 10), .bl (bs 11)]) p4 = some (.lst [.bl (bs 0), .bl (bs 1), .bl (bs 2), .bl (bs 3), .bl (bs 4), .bl (bs 5), .bl (bs 6), .bl (bs 7), .bl (bs 8), .bl (bs 9), .bl (bs 10), .bl (bs 11)]) := upd_same
    show tSeq _ _ _ _ (upd (upd H3 t3 (.lst [.bl (bs 9), .bl (bs 10), .bl (bs 11)])) p4 (.lst [.bl (bs 0), .bl (bs 1), .bl (bs 2), .bl (bs 3), .bl (bs 4), .bl (bs 5), .bl (bs 6), .bl (bs 7), .bl (bs 8), .bl (bs 9), .bl (bs 10), .bl (bs 11)]))
    generalize upd (upd H3 t3 (.lst [.bl (bs 9), .bl (bs 10), .bl (bs 11)])) p4 (.lst [.bl (bs 0), .bl (bs 1), .bl (bs 2), .bl (bs 3), .bl (bs 4), .bl (bs 5), .bl (bs 6), .bl (bs 7), .bl (bs 8), .bl (bs 9), .bl (bs 10), .bl (bs 11)]) = H4 at s4 l4
    have a4 := s4 _ _ ha
    refine ⟨_, rfl, _, rfl, a, D, _, _, _, rfl, a4, XC, .own _, kt 12 (by decide), _, rfl, a, D, _, _, _, rfl, a4, XC, .own _, kt 13 (by decide), by show 2 ≤ sizeLine; decide, fun t4 ht4 => ?_⟩
    have v4 := same_upd (o := .lst [.bl (bs 12), .bl (bs 13)]) ht4
    refine ⟨p4, t4, _, _, rfl, rfl, v4 _ _ l4, upd_same, by show 14 ≤ sizeLine; decide, fun p5 hp5 => ?_⟩
    have s5 := (s4.trans v4).trans (same_upd (o := .lst [.bl (bs 0), .bl (bs 1), .bl (bs 2), .bl (bs 3), .bl (bs 4), .bl (bs 5), .bl (bs 6), .bl (bs 7), .bl (bs 8), .bl (bs 9), .bl (bs 10), .bl (bs 11), .bl (bs 12), .bl (bs 13)]) hp5)
    have l5 : upd (upd H4 t4 (.lst [.bl (bs 12), .bl (bs 13)])) p5 (.lst [.bl (bs 0), .bl (bs 1), .bl (bs 2), .bl (bs 3), .bl (bs 4), .bl (bs 5), .bl (bs 6), .bl (bs 7), .bl (bs 8), .bl (bs 9), .bl (bs 10), .bl (bs 11), .bl (bs 12), .bl (bs 13)]) p5 = some (.lst [.bl (bs 0), .bl (bs 1), .bl (bs 2), .bl (bs 3), .bl (bs 4), .bl (bs 5), .bl (bs 6), .bl (bs 7), .bl (bs 8), .bl (bs 9), .bl (bs 10), .bl (bs 11), .bl (bs 12), .bl (bs 13)]) := upd_same
    show tSeq _ _ _ _ (upd (upd H4 t4 (.lst [.bl (bs 12), .bl (bs 13)])) p5 (.lst [.bl (bs 0), .bl (bs 1), .bl (bs 2), .bl (bs 3), .bl (bs 4), .bl (bs 5), .bl (bs 6), .bl (bs 7), .bl (bs 8), .bl (bs 9), .bl (bs 10), .bl (bs 11), .bl (bs 12), .bl (bs 13)]))
    generalize upd (upd H4 t4 (.lst [.bl (bs 12), .bl (bs 13)])) p5 (.lst [.bl (bs 0), .bl (bs 1), .bl (bs 2), .bl (bs 3), .bl (bs 4), .bl (bs 5), .bl (bs 6), .bl (bs 7), .bl (bs 8), .bl (bs 9), .bl (bs 10), .bl (bs 11), .bl (bs 12), .bl (bs 13)]) = H5 at s5 l5
    refine ⟨by show 11 ≤ sizeLine; decide, fun w1 hw1 => ?_⟩
    have z1 := same_upd (o := .lst ((lawWords.take 11).map V.str)) hw1
    have y1 : upd H5 w1 (.lst ((lawWords.take 11).map V.str)) w1 = some (.lst ((lawWords.take 11).map V.str)) := upd_same
    show tSeq _ _ _ _ (upd H5 w1 (.lst ((lawWords.take 11).map V.str)))
    generalize upd H5 w1 (.lst ((lawWords.take 11).map V.str)) = H6 at z1 y1
    refine ⟨_, rfl, by show 3 ≤ sizeLine; decide, fun w2 hw2 => ?_⟩
    have z2 := same_upd (o := .lst ((lawWords.drop 11).map V.str)) hw2
    refine ⟨w1, w2, _, _, rfl, rfl, z2 _ _ y1, upd_same, by show 14 ≤ sizeLine; decide, fun w3 hw3 => ?_⟩
    have l6 := z1 _ _ l5
    have z3 := same_upd (o := .lst (lawWords.map V.str)) hw3
    have l7 := z3 _ _ (z2 _ _ l6)
    refine ⟨_, rfl, w3, p5, lawWords.map V.str, (list14 bs).map V.bl, rfl, SqL.of upd_same, SqL.of l7, fun D hD => ?_⟩
    have s7 := ((s5.trans z1).trans z2).trans z3
    have nD : ∀ {b : Addr} {o : HO}, upd (upd H6 w2 (.lst ((lawWords.drop 11).map V.str))) w3 (.lst (lawWords.map V.str)) b = some o → b ≠ D := fun {b o} e => ne_of_none e hD
    have w3D := nD upd_same
    have p5D := nD l7
    refine lc_it (walk_zip (K := K) (a := w3) (b := p5) (xs := lawWords.map V.str) (ys := (list14 bs).map V.bl) (n := 14) rfl) (fun i H' => (Same H H' ∧ H' w3 = some (.lst (lawWords.map V.str)) ∧ H' p5 = some (.lst ((list14 bs).map V.bl))) ∧ H' D = some (.lst ((((lawWords.zip (list14 bs)).take i).filter (·.2)).map fun x => V.str x.1))) ⟨⟨?_, ?_, ?_⟩, ?_⟩ ?_ ?_ ?_
    · exact fun b o e => by
        rw [upd_ne (nD (s7 b o e))]
        exact s7 b o e
    · rw [upd_ne w3D]
      exact upd_same
    · rw [upd_ne p5D]
      exact l7
    · exact upd_same
    · exact fun i H' _ h => ⟨SqL.of h.1.2.1, SqL.of h.1.2.2⟩
    · rintro i x H' H'' hi ⟨⟨k1, k2, k3⟩, hd⟩ ⟨T, x1, x2, rfl, nT, rfl, f1, f2⟩
      have sT := same_upd (o := .tup [x1, x2]) nT
      dsimp only at f1 f2
      have h1 : i < lawWords.length := hi
      have h2 : i < (list14 bs).length := hi
      have e1 : x1 = V.str lawWords[i] := by
        rw [List.getElem?_map, List.getElem?_eq_getElem h1] at f1
        exact (Option.some.inj f1).symm
      have e2 : x2 = V.bl (list14 bs)[i] := by
        rw [List.getElem?_map, List.getElem?_eq_getElem h2] at f2
        exact (Option.some.inj f2).symm
      subst e1 e2
      have tk : (lawWords.zip (list14 bs)).take (i + 1) = (lawWords.zip (list14 bs)).take i ++ [(lawWords[i], (list14 bs)[i])] := by
        rw [List.take_add_one, List.getElem?_eq_getElem (by rw [List.length_zip]; omega), List.getElem_zip]
        rfl
      refine ⟨T, _, rfl, SqT.of upd_same, rfl, _, _, rfl, _, _, rfl, rfl, rfl, _, rfl, _, rfl, ?_⟩
      have hdT := sT _ _ hd
      have k1T := k1.trans sT
      have k2T := sT _ _ k2
      have k3T := sT _ _ k3
      generalize upd H' T (.tup [V.str lawWords[i], V.bl (list14 bs)[i]]) = H2 at hdT k1T k2T k3T ⊢
      cases hg : (list14 bs)[i] with
      | false =>
        refine iteF ⟨⟨k1T, k2T, k3T⟩, ?_⟩
        rw [tk, hg, List.filter_append]
        show H2 D = some (.lst (List.map _ (List.filter _ _ ++ [])))
        rw [List.append_nil]
        exact hdT
      | true =>
        have off : ∀ {b : Addr} {o o' : HO}, b ≠ D → H2 b = some o → upd H2 D o' b = some o := fun {b o o'} n e => by
          rw [upd_ne n]
          exact e
        refine iteT ⟨_, rfl, _, hdT, ?_, ⟨fun b o e => off (nD (s7 b o e)) (k1T b o e), off w3D k2T, off p5D k3T⟩, ?_⟩
        · rw [List.length_map]
          refine Nat.lt_of_le_of_lt (List.length_filter_le _ _) ?_
          rw [List.length_take, sizeLine_eq]
          omega
        · rw [upd_same, tk, hg, List.filter_append, List.map_append]
          rfl
    · rintro H' ⟨⟨k1, k2, k3⟩, hd⟩
      have hd' : H' D = some (.lst ((told (list14 bs)).map V.str)) := by
        rw [hd]
        unfold told
        rw [List.map_map, List.take_of_length_le (show 14 ≤ 14 from Nat.le_refl _)]
        rfl
      refine ⟨_, rfl, D, _, rfl, .inl (SqL.of hd'), rfl, _, rfl, ?_⟩
      have qq := q H' k1
      unfold wordOf at qq
      revert qq hd'
      generalize told (list14 bs) = ts
      intro hd' qq
      match ts, hd', qq with
      | [], hd', qq => exact iteF qq
      | [x], hd', qq => exact iteT ⟨_, rfl, D, _, _, _, rfl, rfl, SqL.of hd', atI_nat (j := 0) rfl, qq⟩
      | x :: y :: r, hd', qq =>
        refine ite2 (fun e => ?_) (fun _ => qq)
        have e2 := V.int.inj (of_decide_eq_true e)
        rw [List.length_map, List.length_cons, List.length_cons] at e2
        omega
end
end Pk
namespace Pk
open PySem L2
/-! ### what is said of a thing -/
def spSaid (K : PySem.W.Frag) : Sp := fun vs H Q _ => ∃ x, vs = [x] ∧
  ((∃ z, x = .str z ∧ z.length ≤ 10000 ∧ ∀ (p : Addr) (H' : Hp), Same H H' → H p = none → H' p = some (.tup [.str "told", .str (sq z)]) → Q (.ref p) H') ∨
    (NoText K H x ∧ ∀ (p : Addr) (H' : Hp), Same H H' → H p = none → H' p = some (.tup [.str "refused", .str "text"]) → Q (.ref p) H'))
/-- the classes that the law's clause names -/
def caughtBy (cB : Addr) (c : Nat → Addr) : List Value := [.ref cB, .ref (c 5), .ref (c 6), .ref (c 7), .ref (c 8), .ref (c 9), .ref (c 10), .ref (c 11), .ref (c 12), .ref (c 13)]
structure Txt (K : PySem.W.Frag) (mg : Str → Option Value) (cB : Addr) (c : Nat → Addr) : Prop where
  gB : mg "BankError" = some (.ref cB)
  cl : Fourteen mg c
  bt : BadTxt K mg (c 6)
  sz : Sqz K mg
  ex : ExcC K (c 6)
  kt : Kits K c (c 6) (fun i => decide (i = 6))
  kv : PySem.W.kitOne K (.ref (c 6)) (.type "ValueError") = some true
  ca : PySem.W.exmAny K (.ref (c 6)) (caughtBy cB c) = some true
  isi : mg "isinstance" = none
  zip : mg "zip" = none
  len : mg "len" = none
  str : mg "str" = none
  int : mg "int" = none
  range : mg "range" = none
  enum : mg "enumerate" = none
  ve : mg "ValueError" = none
section
variable {P : Program} {w : World} {K : PySem.W.Frag} {mg : Str → Option Value} {base : Heap} {cB : Addr} {c : Nat → Addr}
theorem names10 {X : Cx} {p0 p1 p2 p3 p4 p5 p6 p7 p8 p9 : Pos} (gB : X.mg "BankError" = some (.ref cB)) (T : Fourteen X.mg c) (h0 : Gl X "BankError") (h5 : Gl X "BadQuestion") (h6 : Gl X "BadText") (h7 : Gl X "NoSuch") (h8 : Gl X "NoPlace") (h9 : Gl X "TooMany") (h10 : Gl X "BadKind") (h11 : Gl X "Unmet") (h12 : Gl X "NoAnswers") (h13 : Gl X "Twice") :
    NamesAll X [.Name "BankError" p0, .Name "BadQuestion" p1, .Name "BadText" p2, .Name "NoSuch" p3, .Name "NoPlace" p4, .Name "TooMany" p5, .Name "BadKind" p6, .Name "Unmet" p7, .Name "NoAnswers" p8, .Name "Twice" p9] (caughtBy cB c) :=
  .cons h0 (by decide) gB (.cons h5 (by decide) T.g5 (.cons h6 (by decide) T.g6 (.cons h7 (by decide) T.g7 (.cons h8 (by decide) T.g8 (.cons h9 (by decide) T.g9 (.cons h10 (by decide) T.g10 (.cons h11 (by decide) T.g11 (.cons h12 (by decide) T.g12 (.cons h13 (by decide) T.g13 .nil)))))))))
theorem scSaid : FnScope ["_law_thing", "_law_caught", "_law_found", "_law_error"] ["_law_thing"] (defScope sSaid) := ⟨rfl, rfl, rfl, by decide +kernel, rfl, by decide +kernel, by decide +kernel⟩
theorem text_word : wordOf (list14 fun i => decide (i = 6)) = "text" := by decide +kernel
theorem ok_said {f fS fW : Addr} {fd fdS fdW : FuncData} (F : Fun K "_law_said" "_law_said" sSaid f fd) (T : Txt K mg cB c) (FS : Fun K "squeezed" "squeezed" sSqueezed fS fdS) (bS : Binds K fdS ["text"] []) (gS : mg "squeezed" = some (.ref fS))
    (FW : Fun K "_law_word" "_law_word" sWord fW fdW) (bW : Binds K fdW ["_law_error"] []) (gW : mg "_law_word" = some (.ref fW)) : FnOk P w K mg base CX0 3 f fd ["_law_thing"] (spSaid K) := by
  have GS : FnOk P w K mg base (L2.CX P w) 2 fS fdS ["text"] (spSqueezed K (c 6)) := ok_squeezed FS T.sz T.bt T.isi T.str
  have GW : FnOk P w K mg base CX0 1 fW fdW ["_law_error"] (spWord K c) := ok_word FW T.cl T.isi T.zip T.len
  refine F.ok scSaid (fun vs H Q E h => ?_) (fun cdv A outer s H vs Q E hr h => ?_)
  · obtain ⟨x, rfl, _⟩ := h
    rfl
  · obtain ⟨x, rfl, h⟩ := h
    have hr1 : Room 1 _ := hr.mono (by decide)
    refine ⟨_, pss_cons (ps_set (i := 1) scSaid.nd rfl (.inl rfl) pe_non) (pss_cons (ps_set (i := 2) scSaid.nd rfl (.inl rfl) pe_non)
      (pss_cons (ps_try_held (i := 3) (cs := caughtBy cB c) (tb := fun W => tAsg (tCallS (spSqueezed K (c 6)) (WE W) (tCons (tVar 0) tNil)) (gName 2)) (ts := fun a cls d => tAsg (tVar 3) (gName 1)) (Wout := fun _ _ _ _ => False) rfl rfl scSaid.nd rfl rfl
          (names10 T.gB T.cl rfl rfl rfl rfl rfl rfl rfl rfl rfl rfl) (by decide) takes0
          (fun W pn xe tk _ => pss_one (ps_set (i := 2) scSaid.nd rfl (.inl rfl) (by exact (pe_callS GS hr rfl gS FS.kp bS (fun σ => passAt tk σ) (by exact (pa_cons (pv 0) pa_nil))))))
          (fun a oe cls d pn hz hf => pss_one (ps_set (i := 1) scSaid.nd rfl (.inl rfl) (by exact (pv 3)))))
      (pss_cons (ps_if (pt_cmpR op_isN (pv 1) pe_non (nomark _)) (pss_one (ps_ret (pe_tup (pa_cons pe_str (pa_cons (pv 2) pa_nil))))) pss_nil)
      (pss_one (ps_ret (pe_tup (pa_cons pe_str (pa_cons (pe_ifExp (pt_val (pe_callB call_isH (by rfl) T.isi (by decide +kernel) (pa_cons (pv 1) (pa_cons (pe_bltn (v := .ty "ValueError") (by rfl) T.ve (by decide +kernel) rfl) pa_nil))))
        (pe_call GW hr1 (by rfl) gW FW.kp bW .nil pass0 (pa_cons (pv 1) pa_nil)) pe_str) pa_nil)))))))), ?_⟩
    rcases h with ⟨z, rfl, hz, q⟩ | ⟨nt, q⟩
    · refine ⟨_, rfl, _, rfl, .inl ⟨z, rfl, hz, fun H1 s1 => ?_⟩⟩
      refine ⟨_, rfl, rfl, _, rfl, iteT ⟨_, rfl, by show 2 ≤ sizeLine; decide, fun p hp => ?_⟩⟩
      exact q p _ (s1.trans (same_upd hp)) (s1.free hp) upd_same
    · refine ⟨_, rfl, _, rfl, .inr ⟨nt, ?_⟩⟩
      refine ⟨true, T.ca, fun _ a na => ?_, fun z => nomatch z⟩
      refine ⟨_, rfl, fun na' => ?_⟩
      have s1 : Same H (upd H a (ExH (.ref (c 6)) none a)) := same_upd na
      have h1 : upd H a (ExH (.ref (c 6)) none a) a = some (ExH (.ref (c 6)) none a) := upd_same
      refine ⟨_, rfl, rfl, _, rfl, iteF ?_⟩
      refine ⟨_, rfl, a, c 6, _, _, _, rfl, h1, T.ex, .ty _, T.kv, _, rfl, iteT ?_⟩
      refine ⟨_, rfl, a, c 6, _, rfl, h1, T.ex, T.kt, fun H2 s2 => ?_⟩
      rw [text_word]
      refine ⟨by show 2 ≤ sizeLine; decide, fun p hp => ?_⟩
      exact q p _ ((s1.trans s2).trans (same_upd hp)) ((s1.trans s2).free hp) upd_same
end
end Pk
namespace Pk
open PySem L2
/-! ### a text by the stream -/
/-- all signs are code points -/
def SOk (z : Str) : Prop := ∀ c ∈ z.cps.toList, c < 0x110000
theorem sok_iff (z : Str) : PyData.strOk z = true ↔ SOk z := by
  unfold PyData.strOk SOk
  rw [← Array.all_toList, List.all_eq_true]
  exact ⟨fun h c hc => of_decide_eq_true (h c hc), fun h c hc => decide_eq_true (h c hc)⟩
theorem sok_app {x y : Str} (hx : SOk x) (hy : SOk y) : SOk (x ++ y) := fun c hc => by
  rw [show (x ++ y).cps.toList = x.cps.toList ++ y.cps.toList from TL.tl_append x y] at hc
  rcases List.mem_append.mp hc with h | h
  · exact hx c h
  · exact hy c h
theorem sok_mul {x : Str} (hx : SOk x) {n : Int} (n0 : 0 ≤ n) : SOk (Txt.mul x n) := fun c hc => by
  rw [show (Txt.mul x n).cps.toList = _ from mul_tl x n0] at hc
  obtain ⟨l, hl, h⟩ := List.mem_flatten.mp hc
  rw [(List.mem_replicate.mp hl).2] at h
  exact hx c h
theorem joinL_mem {c : Nat} : ∀ l : List (List Nat), c ∈ TL.joinL [] l → ∃ p ∈ l, c ∈ p
  | [], h => by cases h
  | [p], h => ⟨p, List.mem_cons_self, h⟩
  | p :: q :: r, h => by
    have h' : c ∈ p ++ ([] ++ TL.joinL [] (q :: r)) := h
    rcases List.mem_append.mp h' with h | h
    · exact ⟨p, List.mem_cons_self, h⟩
    · obtain ⟨x, hx, hc⟩ := joinL_mem (q :: r) h
      exact ⟨x, List.mem_cons_of_mem _ hx, hc⟩
theorem sok_join {ys : List Str} (h : ∀ y ∈ ys, SOk y) : SOk (Txt.join "" ys) := fun c hc => by
  rw [show (Txt.join "" ys).cps.toList = TL.joinL (TL.tl "") (ys.map TL.tl) from by rw [TL.join_eq]; exact TL.tl_join "" ys, empty_tl] at hc
  obtain ⟨p, hp, hm⟩ := joinL_mem _ hc
  obtain ⟨y, hy, rfl⟩ := List.mem_map.mp hp
  exact h y hy c hm
theorem fold_mem {c : Nat} : ∀ (l : List Nat) (s : List Nat × Bool), c ∈ (l.foldl stp s).1 → c ∈ s.1 ∨ c ∈ l ∨ c = 32
  | [], s, h => .inl h
  | d :: r, s, h => by
    rcases fold_mem r (stp s d) h with h | h | h
    · unfold stp at h
      by_cases hd : d = 32
      · rw [if_pos hd] at h
        exact .inl h
      · rw [if_neg hd] at h
        rcases List.mem_append.mp h with h | h
        · rcases List.mem_append.mp h with h | h
          · exact .inl h
          · split at h
            · exact .inr (.inr (List.mem_singleton.mp h))
            · cases h
        · exact .inr (.inl (by rw [List.mem_singleton.mp h]; exact List.mem_cons_self))
    · exact .inr (.inl (List.mem_cons_of_mem _ h))
    · exact .inr (.inr h)
theorem sok_sq {z : Str} (h : SOk z) : SOk (sq z) := fun c hc => by
  rcases fold_mem z.cps.toList ([], false) hc with q | q | q
  · cases q
  · exact h c q
  · rw [q]
    decide
theorem sok_blank : SOk " " := fun c hc => by
  rw [show (" " : Str).cps.toList = [32] from blank_tl, List.mem_singleton] at hc
  rw [hc]
  decide
def spTextBy : Sp := fun vs H Q _ => ∃ (s : Addr) (t : Int), vs = [.ref s] ∧ StrmAt H s t ∧ 0 ≤ t ∧ t ≤ 1000 ∧
  ∀ (z : Str) (H' : Hp) (t' : Int), z.length ≤ 107 → SOk z → But s H H' → StrmAt H' s t' → 0 ≤ t' → t' ≤ t + 60 → Q (.str z) H'
abbrev NTextBy : List Str := ["_law_stream_here", "_law_some", "_law_row", "_law_turn", "_law_word_here", "_law_place"]
theorem at_some {α : Type} {l : List α} {i : Int} (h0 : 0 ≤ i) (h1 : i < l.length) : ∃ c, atI l i = some c ∧ c ∈ l := by
  obtain ⟨j, rfl⟩ := Int.eq_ofNat_of_zero_le h0
  have hj : j < l.length := by omega
  exact ⟨l[j], atI_nat (List.getElem?_eq_getElem hj), List.getElem_mem hj⟩
theorem joinL_len : ∀ l : List (List Nat), (TL.joinL [] l).length = (l.map List.length).sum
  | [] => rfl
  | [p] => by simp [TL.joinL]
  | p :: q :: r => by
    have ih := joinL_len (q :: r)
    show (p ++ ([] ++ TL.joinL [] (q :: r))).length = _
    rw [List.nil_append, List.length_append, ih]
    simp
theorem join0_len (ys : List Str) : (Txt.join "" ys).length = (ys.map (·.length)).sum := by
  rw [TL.len_tl, TL.join_eq, TL.tl_join, empty_tl, joinL_len, List.map_map]
  exact congrArg List.sum (List.map_congr_left fun p _ => (TL.len_tl p).symm)
theorem app_len (x y : Str) : (x ++ y).length = x.length + y.length := by
  rw [TL.len_tl, TL.tl_append, List.length_append, ← TL.len_tl, ← TL.len_tl]
def someSigns : Str := "!\"#$&'()*+,-./0123456789:;<=>?@ABCDEFGHIJKLMNOPQRSTUVWXYZ[\\]^_`abcdefghijklmnopqrstuvwxyz{|}~\n"
theorem some_sok : ∀ c ∈ someSigns.cps.toList, c < 0x110000 := by decide +kernel
theorem some_len : someSigns.cps.toList.length = 94 := by decide +kernel
section
variable {P : Program} {w : World} {K : PySem.W.Frag} {mg : Str → Option Value} {base : Heap} {cB : Addr} {c : Nat → Addr}
theorem scTextBy : FnScope NTextBy ["_law_stream_here"] (defScope sTextBy) := ⟨rfl, rfl, rfl, by decide +kernel, rfl, by decide +kernel, by decide +kernel⟩
theorem ok_textBy {f fT fM : Addr} {fd fdT fdM : FuncData} (F : Fun K "_law_text_by" "_law_text_by" sTextBy f fd) (T : Txt K mg cB c) (FT : Fun K "_law_take" "_law_take" sTake fT fdT) (bT : Binds K fdT ["_law_stream_here", "_law_many"] []) (gT : mg "_law_take" = some (.ref fT))
    (FM : Fun K "_law_mixed" "_law_mixed" sMixed fM fdM) (bM : Binds K fdM ["_law_number", "_law_k"] []) (gM : mg "_law_mixed" = some (.ref fM)) : FnOk P w K mg base CX0 3 f fd ["_law_stream_here"] spTextBy := by
  have GT : FnOk P w K mg base CX0 2 fT fdT ["_law_stream_here", "_law_many"] spTake := ok_take FT FM bM gM
  refine F.ok scTextBy (fun vs H Q E h => ?_) (fun cdv A outer s H vs Q E hr h => ?_)
  · obtain ⟨a, t, rfl, _⟩ := h
    rfl
  · obtain ⟨a, t, rfl, st, t0, t1, q⟩ := h
    refine ⟨_, pss_cons (ps_set (i := 1) scTextBy.nd rfl (.inr rfl) pe_str)
      (pss_cons (ps_set (i := 2) scTextBy.nd rfl (.inl rfl) (pe_op op_times pe_str (pe_call GT hr (by rfl) gT FT.kp bT .nil pass0 (pa_cons (pv 0) (pa_cons pe_int pa_nil)))))
      (pss_cons (ps_for PassesOwn.never rfl (pi_range1 (by rfl) T.range (pa_cons (pe_call GT hr (by rfl) gT FT.kp bT .nil pass0 (pa_cons (pv 0) (pa_cons pe_int pa_nil))) pa_nil)) (pg_name (i := 3) scTextBy.nd rfl (.inl rfl))
        (pss_cons (ps_set (i := 4) scTextBy.nd rfl (.inl rfl) (pe_join pe_str (pe_lc (own := [("_law_place", 5)]) (g := gName 5) rfl scTextBy.nd
            (pi_range1 (by rfl) T.range (pa_cons (pe_op op_add pe_int (pe_call GT hr (by rfl) gT FT.kp bT .nil pass0 (pa_cons (pv 0) (pa_cons pe_int pa_nil)))) pa_nil)) (blkOk_by (N := NTextBy) (sc := defScope sTextBy) (by decide +kernel))
            (fun _ _ _ _ _ => pg_name (i := 5) scTextBy.nd rfl (Or.inl rfl)) (fun _ _ _ _ _ => pts_nil) (fun _ _ _ _ _ => pe_ix ix_str (pv 1) (pe_call GT hr (by rfl) gT FT.kp bT .nil pass0 (pa_cons (pv 0) (pa_cons pe_int pa_nil))) (fun _ _ => rfl)))))
        (pss_one (ps_set (i := 2) scTextBy.nd rfl (.inl rfl) (pe_op op_add_str (pe_op op_add_str (pv 2) (pv 4)) (pe_op op_times pe_str (pe_ix ix_list (pe_lst (pa_cons pe_int (pa_cons pe_int (pa_cons pe_int (pa_cons pe_int pa_nil))))) (pe_call GT hr (by rfl) gT FT.kp bT .nil pass0 (pa_cons (pv 0) (pa_cons pe_int pa_nil))) (fun _ _ => rfl))))))))
      (pss_one (ps_ret (pv 2))))), ?_⟩
    -- ' ' * take(stream, 4)
    refine ⟨_, rfl, a, t, 4, rfl, st, t0, by omega, by decide, by decide, fun v H1 v0 v4 u1 st1 => ?_⟩
    refine ⟨_, v, rfl, rfl, mul_ok (by decide +kernel) v0 (by omega), ?_⟩
    -- range(take(stream, 9))
    refine ⟨_, rfl, a, t + 1, 9, rfl, st1, by omega, by omega, by decide, by decide, fun n H2 n0 n9 u2 st2 => ?_⟩
    refine ⟨n, rfl, by omega, by omega, ?_⟩
    have l0 : (Txt.mul " " v).length ≤ 3 := by
      rw [mul_len _ v0, show (" " : Str).length = 1 by decide +kernel]
      omega
    have i0 : ∃ (z : Str) (y : Option V) (x : Option V) (t' : Int), z.length ≤ 3 ∧ 0 ≤ t' ∧ t' ≤ t + 2 ∧ StrmAt H2 a t' := ⟨Txt.mul " " v, none, none, t + 2, l0, by omega, by omega, by rw [show t + 2 = t + 1 + 1 by omega]; exact st2⟩
    refine for_it walk_range (fun i σ H' => ∃ (z : Str) (y x : Option V) (t' : Int), σ = [some (.ref a), some (.str "!\"#$&'()*+,-./0123456789:;<=>?@ABCDEFGHIJKLMNOPQRSTUVWXYZ[\\]^_`abcdefghijklmnopqrstuvwxyz{|}~\n"), some (.str z), y, x, none] ∧ (z.length ≤ 3 + 13 * i ∧ SOk z) ∧ But a H H' ∧ 0 ≤ t' ∧ t' ≤ t + 2 + 6 * i ∧ StrmAt H' a t')
      ⟨Txt.mul " " v, none, none, t + 2, rfl, ⟨l0, sok_mul sok_blank v0⟩, u1.trans u2, by omega, by omega, by rw [show t + 2 = t + 1 + 1 by omega]; exact st2⟩ (fun _ _ _ _ _ => trivial) ?_ ?_
    · rintro i x σ H3 H4 hi ⟨z, y, x', t', rfl, ⟨lz, oz⟩, u3, t'0, t'1, st3⟩ ⟨rfl, rfl⟩
      refine ⟨⟨_, rfl⟩, _, rfl, a, t', 4, rfl, st3, t'0, by omega, by decide, by decide, fun v2 H4 w0 w4 u4 st4 => ?_⟩
      refine ⟨1, v2, rfl, rfl, _, rfl, by omega, by omega, fun D hD => ?_⟩
      obtain ⟨b4, c4, m4, e4⟩ := id st4
      have aD : a ≠ D := ne_of_none e4 hD
      refine lc_it walk_range (fun j H' => (∀ b o, b ≠ a → b ≠ D → H4 b = some o → H' b = some o) ∧ StrmAt H' a (t' + 1 + j) ∧ ∃ ys : List Str, ys.length = j ∧ (∀ y ∈ ys, y.length = 1 ∧ SOk y) ∧ H' D = some (.lst (ys.map V.str))) ⟨fun b o n1 n2 e => ?_, ⟨b4, c4, m4, ?_⟩, [], rfl, (fun _ h => by cases h), upd_same⟩ (fun _ _ _ _ => trivial) ?_ ?_
      · rw [upd_ne n2]
        exact e
      · rw [upd_ne aD, e4]
        simp
      · rintro j x H5 H6 hj ⟨k5, st5, ys, ly, oy, hd⟩ ⟨rfl, rfl⟩
        refine ⟨rfl, _, rfl, _, rfl, a, _, 94, rfl, st5, by omega, by omega, by decide, by decide, fun v3 H6 x0 x9 u6 st6 => ?_⟩
        obtain ⟨c6, hc6, mc6⟩ := at_some (l := someSigns.cps.toList) x0 (by rw [some_len]; exact x9)
        refine ⟨_, v3, c6, rfl, rfl, by decide +kernel, hc6, _, u6 _ _ (Ne.symm aD) hd, ?_, fun b o n1 n2 e => ?_, ?_, ys ++ [⟨#[c6]⟩], ?_, ?_, ?_⟩
        · rw [List.length_map, sizeLine_eq]
          omega
        · rw [upd_ne n2]
          exact u6 b o n1 (k5 b o n1 n2 e)
        · obtain ⟨b6, c7, m6, e6⟩ := st6
          refine ⟨b6, c7, m6, ?_⟩
          rw [upd_ne aD, e6]
          simp
          omega
        · rw [List.length_append, ly]
          rfl
        · intro y hy
          rcases List.mem_append.mp hy with h | h
          · exact oy y h
          · rw [List.mem_singleton.mp h]
            refine ⟨rfl, fun d hd => ?_⟩
            have ed : d = c6 := List.mem_singleton.mp hd
            rw [ed]
            exact some_sok c6 mc6
        · rw [upd_same, List.map_append]
          rfl
      · rintro H5 ⟨k5, st5, ys, ly, oy, hd⟩
        have sm : (ys.map (·.length)).sum = ys.length := by
          clear ly hd
          induction ys with
          | nil => rfl
          | cons y r ih =>
            rw [List.map_cons, List.sum_cons, ih fun x hx => oy x (List.mem_cons_of_mem _ hx), (oy y List.mem_cons_self).1, List.length_cons, Nat.add_comm]
        have l4 : ys.length ≤ 4 := by omega
        refine ⟨_, D, ys, rfl, rfl, .inl (SqL.of hd), by rw [sm, show ("" : Str).length = 0 by decide +kernel]; omega, ?_⟩
        have jl : (Txt.join "" ys).length ≤ 4 := by
          rw [join0_len, sm]
          exact l4
        -- row + word + ' ' * [0, 1, 2, 9][take(stream, 4)]
        refine ⟨_, rfl, _, rfl, _, _, rfl, rfl, by rw [sizeLine_eq]; omega, by show 4 ≤ sizeLine; decide, fun l hl => ?_⟩
        obtain ⟨b5, c5, m5, e5⟩ := st5
        have al : a ≠ l := ne_of_none e5 hl
        have st7 : StrmAt (upd H5 l (.lst [.int 0, .int 1, .int 2, .int 9])) a (t' + 1 + ((1 + v2).toNat : Int)) := ⟨b5, c5, m5, by rw [upd_ne al]; exact e5⟩
        refine ⟨_, rfl, a, _, 4, rfl, st7, by omega, by omega, by decide, by decide, fun v8 H8 y0 y4 u8 st8 => ?_⟩
        obtain ⟨e, he, hm⟩ := at_some (l := [V.int 0, V.int 1, V.int 2, V.int 9]) y0 y4
        obtain ⟨k, rfl, k0, k9⟩ : ∃ k : Int, e = V.int k ∧ 0 ≤ k ∧ k ≤ 9 := by
          simp at hm
          rcases hm with h | h | h | h
          · exact ⟨0, h, by decide, by decide⟩
          · exact ⟨1, h, by decide, by decide⟩
          · exact ⟨2, h, by decide, by decide⟩
          · exact ⟨9, h, by decide, by decide⟩
        have ml : (Txt.mul " " k).length ≤ 9 := by
          rw [mul_len _ k0, show (" " : Str).length = 1 by decide +kernel]
          omega
        refine ⟨l, _, v8, _, rfl, rfl, SqL.of (u8 _ _ (Ne.symm al) upd_same), he, _, k, rfl, rfl, mul_ok (by decide +kernel) k0 (by omega), _, _, rfl, rfl, by rw [app_len, sizeLine_eq]; omega, ?_⟩
        refine ⟨(z ++ Txt.join "" ys) ++ Txt.mul " " k, some (.int (0 + (i : Nat))), some (.str (Txt.join "" ys)), _, rfl, ?_, ?_, ?_, ?_, st8⟩
        · refine ⟨?_, sok_app (sok_app oz (sok_join fun y hy => (oy y hy).2)) (sok_mul sok_blank k0)⟩
          rw [app_len, app_len]
          omega
        · intro b o n e
          refine u8 b o n ?_
          have e4' := u4 b o n (u3 b o n e)
          have bD : b ≠ D := ne_of_none e4' hD
          have e5' := k5 b o n bD e4'
          rw [upd_ne (ne_of_none e5' hl)]
          exact e5'
        · omega
        · omega
    · rintro σ H3 ⟨z, y, x', t', rfl, ⟨lz, oz⟩, u3, t'0, t'1, st3⟩
      exact ⟨_, rfl, q z H3 t' (by omega) oz u3 st3 t'0 (by omega)⟩
end
end Pk
namespace Pk
open PySem L2
/-! ### list + list, whatever they are read from -/
def rCatS (K : PySem.W.Frag) : R2 := fun x y H Q => ∃ l b xs zs, x = .ref l ∧ y = .ref b ∧ SqL K H l xs ∧ SqL K H b zs ∧ xs.length + zs.length ≤ sizeLine ∧ ∀ p, H p = none → Q (.ref p) (upd H p (.lst (xs ++ zs)))
theorem op_catS {X : Cx} : OpR X (binaryOp .Add) (rCatS X.K) := by
  rintro pins s σ H x y v u Q I rx ry ⟨l, b, xs, zs, ex, ey, hl, hb, hz, q⟩
  subst ex ey
  cases rx
  cases ry
  obtain ⟨its, r, ⟨⟨c1, d1, dt1, sl1⟩, n1, e1, ec1, ed1, et1⟩, _⟩ := I.list hl
  obtain ⟨its2, r2, ⟨⟨c2, d2, dt2, sl2⟩, n2, e2, ec2, ed2, et2⟩, _⟩ := I.list hb
  dsimp only at ec1 ed1 et1 ec2 ed2 et2
  subst ec1 ed1 et1 ec2 ed2 et2
  have k1 := r.length
  have k2 := r2.length
  refine concat_meets ⟨_, e1, rfl⟩ ⟨_, e2, rfl⟩ noFill_list_add seq_list_add PySem.F.slot_list_add PySem.F.entry_list_add (PySem.F.args_list_add_2 _ _)
    (PyProof.Rows.list_addW l b its.toArray its2.toArray n1 n2 none none sl1 sl2 (by rw [List.size_toArray, List.size_toArray]; omega)) ⟨e1, e2, ?_⟩
  rw [show its.toArray ++ its2.toArray = (its ++ its2).toArray by simp]
  exact ⟨.ref _, _, I.lnew (t' := s.toks) (r.append r2) (by rw [List.length_append]; omega), rfl, q _ I.fresh⟩
/-! ### f(k = v), all by keywords -/
section
variable {X : Cx} {CX : CXT} {k : Nat} {f : Addr} {fd : FuncData} {ps ks : List Str} {sp : Sp} {E : XK} {x : Str} {p pos : Pos} {kws : List Keyword} {tk : TA} {g : List Value → List Value → List Value} {gV : List V → List V → List V}
theorem pe_callK0 (F : FnOk X.prog X.w X.K X.mg X.base CX k f fd ps sp) (hr : Room k X.A) (hg : Gl X x) (hm : X.mg x = some (.ref f)) (hk : PySem.W.keepIn X.K (.ref f) = true) (hb : KBinds X.K fd ps ks g gV) (hx : Passes CX X E)
    (hkw : PK X kws tk) (hall : (backToKw pos (keywordEach kws X.env)).all (·.1.isSome) = true := by rfl) (hks : (backToKw pos (keywordEach kws X.env)).filterMap (·.1) = ks := by rfl) (hdb : (x == ("__debug__" : Str)) = false := by decide)
    (hpl : ((backTo pos (starEach [] X.env)).any (·.1) || (backToKw pos (keywordEach kws X.env)).any (·.1.isNone)) = false := by rfl) :
    PE X (.Call (.Name x p) [] kws pos) (tCallK sp gV E tNil tk) := by
  constructor
  intro pins s σ H Q I h
  refine wpAny_Call_Name_kw (ld_glob I hg hm ?_ hdb)
  refine PySem.W.callWith_KW0 (h₀ := X.base) I.ok.mod.kin hk hall (thn (hkw.run pos pins s σ H _ I h) ?_) hpl
  rintro ws s2 ⟨zs, H2, I2, rz, q2⟩
  refine ⟨I2.kIn, ?_⟩
  rw [hks]
  exact run_fnk (us := []) (vs := []) F hr hb hx I2 .nil rz q2
end
end Pk
namespace Pk
open PySem L2
/-! ### the law -/
def spLaw (K : PySem.W.Frag) : Sp := fun vs H Q _ => ∃ (a : Addr) (ns : List Int), vs = [.ref a] ∧ SqL K H a (ns.map V.int) ∧ ns.length ≤ 63 ∧ ∀ H', Q (.bl true) H'
abbrev NLaw : List Str := ["_law_script", "_law_row", "_law_k", "_law_cell", "_law_stream_here", "_law_due_here", "_law_none"]
def rowsBy : List Str := ["", " ", "   ", " a", "a ", "a  b", "\n", " \n ", "a \n b", "  a   b  c "]
theorem rows_len : ∀ z ∈ rowsBy, z.length ≤ 20 := by decide +kernel
/-- two tuples of two texts -/
def pairD (x y : Str) : PyData := .tuple [.str x, .str y]
theorem pair_dp {K : PySem.W.Frag} {H : Hp} {p : Addr} {x y : Str} (h : H p = some (.tup [.str x, .str y])) : Dp K H (.ref p) (pairD x y) := .tup (SqT.of h) (.cons (.str x) (.cons (.str y) .nil))
theorem pair_sh {x y : Str} (hx : SOk x) (hy : SOk y) : SeqAt.shaped (pairD x y) = true := by
  have h1 := (sok_iff x).mpr hx
  have h2 := (sok_iff y).mpr hy
  simp [pairD, SeqAt.shaped, PyData.canLay0, PyData.canLayAll0, PyData.depth, PyData.depthAll, h1, h2]
theorem kbinds_squeezed {K : PySem.W.Frag} {f : Addr} {fd : FuncData} (F : Fun K "squeezed" "squeezed" sSqueezed f fd) : KBinds K fd ["text"] ["text"] (fun us ws => us ++ ws) (fun vs zs => vs ++ zs) := by
  obtain ⟨oc, od, kV, doc, pm, an, cdv, ct, osl, rfl, lk, hcd⟩ := F.ex
  exact ⟨fun s us ws _ hl => match us, ws, hl with
    | [], [_], _ => .of_eq rfl
    | [_], [], _ => .of_eq rfl, fun r1 r2 => r1.append r2⟩
theorem sok_told : SOk "told" := (sok_iff _).mp (by decide +kernel)
theorem sok_refused : SOk "refused" := (sok_iff _).mp (by decide +kernel)
theorem sok_text : SOk "text" := (sok_iff _).mp (by decide +kernel)
theorem rows_sok : ∀ z ∈ rowsBy, SOk z := fun z hz => (sok_iff _).mp ((by decide +kernel : ∀ z ∈ rowsBy, PyData.strOk z = true) z hz)
theorem pair_eqv {x y : Str} (hx : SOk x) (hy : SOk y) : PyData.eqv (pairD x y) (pairD x y) = true := SeqAt.eqv_refl _ (SeqAt.canLay_of_shaped (pair_sh hx hy))
theorem StrmAt.same {H H' : Hp} {s : Addr} {t : Int} (h : StrmAt H s t) (k : Same H H') : StrmAt H' s t := by
  obtain ⟨b, c, m, e⟩ := h
  exact ⟨b, c, m, k _ _ e⟩
theorem cut_int {ns : List Int} {lo hi : Option Int} {x : V} (h : x ∈ cutV (ns.map V.int ++ [V.int 0]) lo hi) : ∃ i : Int, x = V.int i := by
  unfold cutV at h
  have h2 := List.mem_of_mem_drop (List.mem_of_mem_take h)
  rcases List.mem_append.mp h2 with h | h
  · obtain ⟨i, _, rfl⟩ := List.mem_map.mp h
    exact ⟨i, rfl⟩
  · exact ⟨0, List.mem_singleton.mp h⟩
section
variable {P : Program} {w : World} {K : PySem.W.Frag} {mg : Str → Option Value} {base : Heap} {cB : Addr} {c : Nat → Addr}
theorem scLaw : FnScope NLaw ["_law_script"] (defScope sLaw) := ⟨rfl, rfl, rfl, by decide +kernel, rfl, by decide +kernel, by decide +kernel⟩
/-- the defs of the text, where they stand -/
structure Defs (K : PySem.W.Frag) (mg : Str → Option Value) (fS fM fR fT fW fZ fD fX : Addr) (fdS fdM fdR fdT fdW fdZ fdD fdX : FuncData) : Prop where
  S : Fun K "squeezed" "squeezed" sSqueezed fS fdS
  bS : Binds K fdS ["text"] []
  gS : mg "squeezed" = some (.ref fS)
  M : Fun K "_law_mixed" "_law_mixed" sMixed fM fdM
  bM : Binds K fdM ["_law_number", "_law_k"] []
  gM : mg "_law_mixed" = some (.ref fM)
  R : Fun K "_law_stream" "_law_stream" sStream fR fdR
  bR : Binds K fdR ["_law_cell", "_law_k"] []
  gR : mg "_law_stream" = some (.ref fR)
  T : Fun K "_law_take" "_law_take" sTake fT fdT
  bT : Binds K fdT ["_law_stream_here", "_law_many"] []
  gT : mg "_law_take" = some (.ref fT)
  W : Fun K "_law_word" "_law_word" sWord fW fdW
  bW : Binds K fdW ["_law_error"] []
  gW : mg "_law_word" = some (.ref fW)
  Z : Fun K "_law_said" "_law_said" sSaid fZ fdZ
  bZ : Binds K fdZ ["_law_thing"] []
  gZ : mg "_law_said" = some (.ref fZ)
  D : Fun K "_law_due" "_law_due" sDue fD fdD
  bD : Binds K fdD ["_law_row"] []
  gD : mg "_law_due" = some (.ref fD)
  X : Fun K "_law_text_by" "_law_text_by" sTextBy fX fdX
  bX : Binds K fdX ["_law_stream_here"] []
  gX : mg "_law_text_by" = some (.ref fX)
theorem ok_law {f fS fM fR fT fW fZ fD fX : Addr} {fd fdS fdM fdR fdT fdW fdZ fdD fdX : FuncData} (F : Fun K "law" "law" sLaw f fd) (T : Txt K mg cB c) (B : Defs K mg fS fM fR fT fW fZ fD fX fdS fdM fdR fdT fdW fdZ fdD fdX) : FnOk P w K mg base CX0 5 f fd ["_law_script"] (spLaw K) := by
  have GS : FnOk P w K mg base (L2.CX P w) 2 fS fdS ["text"] (spSqueezed K (c 6)) := ok_squeezed B.S T.sz T.bt T.isi T.str
  have GR : FnOk P w K mg base CX0 2 fR fdR ["_law_cell", "_law_k"] spStream := ok_stream B.R B.M B.bM B.gM
  have GT : FnOk P w K mg base CX0 2 fT fdT ["_law_stream_here", "_law_many"] spTake := ok_take B.T B.M B.bM B.gM
  have GZ : FnOk P w K mg base CX0 3 fZ fdZ ["_law_thing"] (spSaid K) := ok_said B.Z T B.S B.bS B.gS B.W B.bW B.gW
  have GD : FnOk P w K mg base CX0 1 fD fdD ["_law_row"] spDue := ok_due B.D T.int
  have GX : FnOk P w K mg base CX0 3 fX fdX ["_law_stream_here"] spTextBy := ok_textBy B.X T B.T B.bT B.gT B.M B.bM B.gM
  have KS := kbinds_squeezed B.S
  refine F.ok scLaw (fun vs H Q E h => ?_) (fun cdv A outer s H vs Q E hr h => ?_)
  · obtain ⟨a, ns, rfl, _⟩ := h
    rfl
  · obtain ⟨a, ns, rfl, hS, hlen, q⟩ := h
    have r1 : Room 1 _ := hr.mono (by decide)
    have r2 : Room 2 _ := hr.mono (by decide)
    have r3 : Room 3 _ := hr.mono (by decide)
    refine ⟨_, pss_cons (ps_for PassesOwn.never rfl (pi_tup (pe_tup (pa_cons pe_str (pa_cons pe_str (pa_cons pe_str (pa_cons pe_str (pa_cons pe_str (pa_cons pe_str (pa_cons pe_str (pa_cons pe_str (pa_cons pe_str (pa_cons pe_str pa_nil)))))))))))) (pg_name (i := 1) scLaw.nd rfl (.inl rfl))
        (pss_one (ps_if (pt_cmpR (op_neD hr.units) (pe_call GZ r3 (by rfl) B.gZ B.Z.kp B.bZ .nil pass0 (pa_cons (pv 1) pa_nil)) (pe_tup (pa_cons pe_str (pa_cons (pe_call GD r1 (by rfl) B.gD B.D.kp B.bD .nil pass0 (pa_cons (pv 1) pa_nil)) pa_nil))) (nomark _)) (pss_one (ps_ret pe_bl)) pss_nil)))
      (pss_cons (ps_for PassesOwn.never rfl (pi_enum (by rfl) T.enum (pa_cons (pe_slice sl_list (pe_op op_catS (pv 0) (pe_lst (pa_cons pe_int pa_nil))) po_none (po_some pe_int)) pa_nil)) (pg_tup rfl (pgs_cons (pg_name (i := 2) scLaw.nd rfl (.inl rfl)) (pgs_cons (pg_name (i := 3) scLaw.nd rfl (.inl rfl)) pgs_nil)))
        (pss_cons (ps_set (i := 4) scLaw.nd rfl (.inl rfl) (pe_call GR r2 (by rfl) B.gR B.R.kp B.bR .nil pass0 (pa_cons (pv 3) (pa_cons (pv 2) pa_nil))))
        (pss_cons (ps_set (i := 1) scLaw.nd rfl (.inl rfl) (pe_call GX r3 (by rfl) B.gX B.X.kp B.bX .nil pass0 (pa_cons (pv 4) pa_nil)))
        (pss_cons (ps_set (i := 5) scLaw.nd rfl (.inl rfl) (pe_call GD r1 (by rfl) B.gD B.D.kp B.bD .nil pass0 (pa_cons (pv 1) pa_nil)))
        (pss_cons (ps_if (PW.pt (pw_or (pt_cmpR (op_neD hr.units) (pe_call GZ r3 (by rfl) B.gZ B.Z.kp B.bZ .nil pass0 (pa_cons (pv 1) pa_nil)) (pe_tup (pa_cons pe_str (pa_cons (pv 5) pa_nil))) (nomark _))
            (pw_or (pt_cmpR op_ne (pe_callK0 GS r2 (by rfl) B.gS B.S.kp KS passL (pk_cons (pv 1) pk_nil)) (pv 5) (nomark _))
            (pw_or1 (pt_cmpR op_ne (pe_call GS r2 (by rfl) B.gS B.S.kp B.bS .nil passL (pa_cons (pv 5) pa_nil)) (pv 5) (nomark _)))))) (pss_one (ps_ret pe_bl)) pss_nil)
        (pss_cons (ps_if (pt_cmpR (op_neD hr.units) (pe_call GZ r3 (by rfl) B.gZ B.Z.kp B.bZ .nil pass0 (pa_cons (pe_op op_times (pv 1) pe_int) pa_nil)) (pe_tup (pa_cons pe_str (pa_cons (pe_call GD r1 (by rfl) B.gD B.D.kp B.bD .nil pass0 (pa_cons (pe_op op_times (pv 1) pe_int) pa_nil)) pa_nil))) (nomark _)) (pss_one (ps_ret pe_bl)) pss_nil)
        (pss_cons (ps_set (i := 6) scLaw.nd rfl (.inl rfl) (pe_ix ix_list (pe_lst (pa_cons pe_non (pa_cons pe_int (pa_cons pe_bl (pa_cons (pe_lst (pa_cons (pv 1) pa_nil)) (pa_cons (pe_tup (pa_cons (pv 1) pa_nil)) (pa_cons pe_dnewK (pa_cons pe_int pa_nil)))))))) (pe_call GT r2 (by rfl) B.gT B.T.kp B.bT .nil pass0 (pa_cons (pv 4) (pa_cons pe_int pa_nil))) (fun _ _ => rfl)))
        (pss_one (ps_if (pt_cmpR (op_neD hr.units) (pe_call GZ r3 (by rfl) B.gZ B.Z.kp B.bZ .nil pass0 (pa_cons (pv 6) pa_nil)) (pe_tup (pa_cons pe_str (pa_cons pe_str pa_nil))) (nomark _)) (pss_one (ps_ret pe_bl)) pss_nil)))))))))
      (pss_one (ps_ret pe_bl))), ?_⟩
    refine ⟨by show 10 ≤ sizeLine; decide, fun p hp => ?_⟩
    have s1 := same_upd (o := .tup (rowsBy.map V.str)) hp
    have e1 : upd H p (.tup (rowsBy.map V.str)) p = some (.tup (rowsBy.map V.str)) := upd_same
    refine ⟨p, rfl, ⟨_, SqT.of upd_same⟩, ?_⟩
    refine for_it (walk_tup (K := K) (a := p) (xs := rowsBy.map V.str)) (fun i σ H' => ∃ v, σ = [some (.ref a), v, none, none, none, none, none] ∧ Same H H' ∧ H' p = some (.tup (rowsBy.map V.str))) ⟨none, rfl, s1, e1⟩ (fun i σ H' _ ⟨_, _, _, e⟩ => SqT.of e) ?_ ?_
    · rintro i x σ H1 H2 hi ⟨v, rfl, k1, k2⟩ ⟨rfl, hx⟩
      rw [List.getElem?_map] at hx
      obtain ⟨z, hz, rfl⟩ : ∃ z, z ∈ rowsBy ∧ x = V.str z := by
        cases e : rowsBy[i]? with
        | none =>
          rw [e] at hx
          cases hx
        | some z =>
          rw [e] at hx
          exact ⟨z, List.mem_of_getElem? e, (Option.some.inj hx).symm⟩
      have lz := rows_len z hz
      have oz := rows_sok z hz
      refine ⟨_, rfl, _, rfl, .inl ⟨z, rfl, by omega, fun t H3 s3 nt et => ?_⟩⟩
      refine ⟨_, rfl, z, rfl, by omega, by show 2 ≤ sizeLine; decide, fun u hu => ?_⟩
      have s4 := same_upd (o := .tup [.str "told", .str (sq z)]) hu
      refine ⟨pairD "told" (sq z), pairD "told" (sq z), pair_dp (s4 _ _ et), pair_dp upd_same, pair_sh sok_told (sok_sq oz), pair_sh sok_told (sok_sq oz), _, rfl, ?_⟩
      rw [pair_eqv sok_told (sok_sq oz)]
      exact iteF ⟨some (.str z), rfl, (k1.trans s3).trans s4, s4 _ _ (s3 _ _ k2)⟩
    · rintro σ H1 ⟨v, rfl, k1, k2⟩
      -- (script + [0])[:63]
      refine ⟨_, rfl, by show 1 ≤ sizeLine; decide, fun l hl => ?_⟩
      have s2 := same_upd (o := .lst [.int 0]) hl
      refine ⟨a, l, ns.map V.int, [.int 0], rfl, rfl, s2.seq (k1.seq hS), SqL.of upd_same, by rw [List.length_map, sizeLine_eq]; show ns.length + 1 ≤ _; omega, fun m hm => ?_⟩
      refine ⟨63, rfl, m, _, rfl, SqL.of upd_same, fun n hn => ?_⟩
      refine ⟨n, _, rfl, SqL.of upd_same, ?_⟩
      generalize hcut : cutV (ns.map V.int ++ [V.int 0]) none (some 63) = cut
      have cutI : ∀ x ∈ cut, ∃ i : Int, x = V.int i := fun x hx => by
        rw [← hcut] at hx
        exact cut_int hx
      have cutL : cut.length ≤ 64 := by
        have h := cutV_length (ns.map V.int ++ [V.int 0]) none (some 63)
        rw [hcut, List.length_append, List.length_map, List.length_singleton] at h
        omega
      refine for_it (walk_enum (K := K) (a := n) (xs := cut)) (fun i σ H' => ∃ v1 v2 v3 v4 v5 v6, σ = [some (.ref a), v1, v2, v3, v4, v5, v6] ∧ H' n = some (.lst cut)) ⟨_, _, _, _, _, _, rfl, upd_same⟩ (fun i σ H' _ ⟨_, _, _, _, _, _, _, e⟩ => SqL.of e) ?_ ?_
      · rintro i x σ H3 H4 hi ⟨v1, v2, v3, v4, v5, v6, rfl, en⟩ ⟨T0, x1, x2, rfl, nT, rfl, f1, f2⟩
        dsimp only at f1 f2
        obtain ⟨cell, rfl⟩ := cutI x2 (List.mem_of_getElem? f2)
        obtain rfl := Option.some.inj f1
        have sT := same_upd (o := .tup [.int (i : Nat), .int cell]) nT
        have en4 := sT _ _ en
        refine ⟨T0, _, rfl, SqT.of upd_same, rfl, _, _, rfl, _, _, rfl, rfl, ?_⟩
        generalize upd H3 T0 (.tup [.int (i : Nat), .int cell]) = H4 at sT en4 ⊢
        -- the stream
        refine ⟨_, rfl, _, rfl, cell, i, rfl, by omega, by omega, fun ps o hps st5 => ?_⟩
        have s5 := same_upd (o := o) hps
        have en5 := s5 _ _ en4
        have nps : n ≠ ps := ne_of_none en4 hps
        generalize upd H4 ps o = H5 at st5 s5 en5 ⊢
        refine ⟨_, rfl, ps, 0, rfl, st5, by decide, by decide, fun z H6 t' lz oz u6 st6 t0 t60 => ?_⟩
        have en6 := u6 _ _ nps en5
        refine ⟨_, rfl, z, rfl, by omega, ?_⟩
        -- said(row) != ('told', due)
        refine ⟨_, rfl, _, rfl, .inl ⟨z, rfl, by omega, fun t7 H7 s7 nt7 et7 => ?_⟩⟩
        refine ⟨_, rfl, by show 2 ≤ sizeLine; decide, fun u7 hu7 => ?_⟩
        have s8 := same_upd (o := .tup [.str "told", .str (sq z)]) hu7
        refine ⟨pairD "told" (sq z), pairD "told" (sq z), pair_dp (s8 _ _ et7), pair_dp upd_same, pair_sh sok_told (sok_sq oz), pair_sh sok_told (sok_sq oz), _, rfl, ?_⟩
        rw [pair_eqv sok_told (sok_sq oz)]
        refine iteF ?_
        have s9 := s7.trans s8
        have en9 := s9 _ _ en6
        have st9 := st6.same s9
        generalize upd H7 u7 (.tup [.str "told", .str (sq z)]) = H9 at s9 en9 st9 ⊢
        -- squeezed(text=row) != due
        refine ⟨_, rfl, _, rfl, .inl ⟨z, rfl, by omega, fun H10 s10 => ?_⟩⟩
        refine ⟨_, rfl, rfl, _, rfl, ?_⟩
        rw [decide_eq_true (rfl : V.str (sq z) = V.str (sq z))]
        refine iteF ?_
        -- squeezed(due) != due
        refine ⟨_, rfl, _, rfl, .inl ⟨sq z, rfl, by have := sq_len z; omega, fun H11 s11 => ?_⟩⟩
        rw [sq_sq]
        refine ⟨_, rfl, rfl, _, rfl, ?_⟩
        rw [decide_eq_true (rfl : V.str (sq z) = V.str (sq z))]
        refine iteF ?_
        have s12 := s10.trans s11
        have en12 := s12 _ _ en9
        have st12 := st9.same s12
        -- forty times
        have l40 : (Txt.mul z 40).length ≤ 4280 := by
          rw [mul_len _ (by decide)]
          show 40 * z.length ≤ 4280
          omega
        have o40 : SOk (Txt.mul z 40) := sok_mul oz (by decide)
        refine ⟨_, rfl, _, _, rfl, rfl, mul_ok (by omega) (by decide) (by decide), _, rfl, .inl ⟨Txt.mul z 40, rfl, by omega, fun t13 H13 s13 nt13 et13 => ?_⟩⟩
        refine ⟨_, rfl, _, _, rfl, rfl, mul_ok (by omega) (by decide) (by decide), _, rfl, by omega, by show 2 ≤ sizeLine; decide, fun u13 hu13 => ?_⟩
        have s14 := same_upd (o := .tup [.str "told", .str (sq (Txt.mul z 40))]) hu13
        refine ⟨pairD "told" (sq (Txt.mul z 40)), pairD "told" (sq (Txt.mul z 40)), pair_dp (s14 _ _ et13), pair_dp upd_same, pair_sh sok_told (sok_sq o40), pair_sh sok_told (sok_sq o40), _, rfl, ?_⟩
        rw [pair_eqv sok_told (sok_sq o40)]
        refine iteF ?_
        have s15 := s13.trans s14
        have en15 := s15 _ _ en12
        have st15 := st12.same s15
        generalize upd H13 u13 (.tup [.str "told", .str (sq (Txt.mul z 40))]) = H15 at s15 en15 st15 ⊢
        -- what is no text
        refine ⟨_, rfl, by show 1 ≤ sizeLine; decide, fun l1 hl1 => ?_⟩
        have k16 := same_upd (o := .lst [.str z]) hl1
        refine ⟨_, rfl, by show 1 ≤ sizeLine; decide, fun l2 hl2 => ?_⟩
        have k17 := same_upd (o := .tup [.str z]) hl2
        intro l3 hl3
        have k18 := same_upd (o := .dK []) hl3
        refine ⟨by show 7 ≤ sizeLine; decide, fun l4 hl4 => ?_⟩
        have k19 := same_upd (o := .lst [.non, .int 5, .bl true, .ref l1, .ref l2, .ref l3, .int 0]) hl4
        have s19 := ((k16.trans k17).trans k18).trans k19
        have e1 := k19 _ _ (k18 _ _ (k17 _ _ (upd_same (H := H15) (a := l1) (o := .lst [.str z]))))
        have e2 := k19 _ _ (k18 _ _ (upd_same (H := upd H15 l1 (.lst [.str z])) (a := l2) (o := .tup [.str z])))
        have e3 := k19 _ _ (upd_same (H := upd (upd H15 l1 (.lst [.str z])) l2 (.tup [.str z])) (a := l3) (o := .dK []))
        have e4 := upd_same (H := upd (upd (upd H15 l1 (.lst [.str z])) l2 (.tup [.str z])) l3 (.dK [])) (a := l4) (o := .lst [.non, .int 5, .bl true, .ref l1, .ref l2, .ref l3, .int 0])
        have en19 := s19 _ _ en15
        have st19 := st15.same s19
        refine ⟨_, rfl, ps, t', 7, rfl, st19, t0, by omega, by decide, by decide, fun v H20 v0 v7 u20 st20 => ?_⟩
        obtain ⟨b19, c19, m19, e19⟩ := id st19
        have f1 := u20 _ _ (ne_of e1 e19 (by intro q; cases q)) e1
        have f2 := u20 _ _ (ne_of e2 e19 (by intro q; cases q)) e2
        have f3 := u20 _ _ (ne_of e3 e19 (by intro q; cases q)) e3
        have f4 := u20 _ _ (ne_of e4 e19 (by intro q; cases q)) e4
        have en20 := u20 _ _ nps en19
        obtain ⟨x, hx, mx⟩ := at_some (l := [V.non, V.int 5, V.bl true, V.ref l1, V.ref l2, V.ref l3, V.int 0]) v0 v7
        have nx : NoText K H20 x := by
          simp only [List.mem_cons, List.not_mem_nil, or_false] at mx
          rcases mx with rfl | rfl | rfl | rfl | rfl | rfl | rfl
          · exact ⟨_, .base .non, by decide +kernel⟩
          · exact ⟨_, .base (.int 5), by decide +kernel⟩
          · exact ⟨_, .base (.bl true), by decide +kernel⟩
          · exact ⟨_, .base (.lst f1), by decide +kernel⟩
          · exact ⟨_, .base (.tup f2), by decide +kernel⟩
          · exact ⟨_, .base (.dK f3), by decide +kernel⟩
          · exact ⟨_, .base (.int 0), by decide +kernel⟩
        refine ⟨l4, _, v, x, rfl, rfl, SqL.of f4, hx, ?_⟩
        refine ⟨_, rfl, x, rfl, .inr ⟨nx, fun t21 H21 s21 nt21 et21 => ?_⟩⟩
        refine ⟨by show 2 ≤ sizeLine; decide, fun u21 hu21 => ?_⟩
        have s22 := same_upd (o := .tup [.str "refused", .str "text"]) hu21
        refine ⟨pairD "refused" "text", pairD "refused" "text", pair_dp (s22 _ _ et21), pair_dp upd_same, pair_sh sok_refused sok_text, pair_sh sok_refused sok_text, _, rfl, ?_⟩
        rw [pair_eqv sok_refused sok_text]
        exact iteF ⟨_, _, _, _, _, _, rfl, s22 _ _ (s21 _ _ en20)⟩
      · rintro σ H3 _
        exact q _
end
end Pk
namespace Pk
open PySem L2
/-! ### what the top has left -/
def kitsB (K : PySem.W.Frag) (c : Nat → Addr) (D : Addr) (bs : Nat → Bool) : Bool := (List.range 14).all fun i => PySem.W.kitOne K (.ref D) (.ref (c i)) == some (bs i)
theorem kits_of {K : PySem.W.Frag} {c : Nat → Addr} {D : Addr} {bs : Nat → Bool} (h : kitsB K c D bs = true) : Kits K c D bs := fun i hi => beq_iff_eq.mp (List.all_eq_true.mp h i (List.mem_range.mpr hi))
def pick (l : List Addr) : Nat → Addr := fun i => l.getD i 0
theorem all_mk {l : PySem.W.OpenLaw} {w : World} {K : PySem.W.Frag} {h : Heap} {mg : Str → Option Value} {fa cB c0 c1 c2 c3 c4 c5 c6 c7 c8 c9 c10 c11 c12 c13 f1 f2 f3 f4 f5 f6 f7 f8 f9 f10 f11 : Addr} (X : K.In h) (G : h.Ns mainGlobals mg) (hfa : mg "law" = some (.ref fa))
    {od1 an1 od2 an2 od3 an3 od4 an4 od5 an5 od6 an6 od7 an7 od8 an8 od9 an9 od10 an10 od11 an11 : Option Addr} {sl1 sl2 sl3 sl4 sl5 sl6 sl7 sl8 sl9 sl10 sl11 : Array (Option Value)} {oc1 kV1 dc1 pm1 cd1 ct1 oc2 kV2 dc2 pm2 cd2 ct2 oc3 kV3 dc3 pm3 cd3 ct3 oc4 kV4 dc4 pm4 cd4 ct4 oc5 kV5 dc5 pm5 cd5 ct5 oc6 kV6 dc6 pm6 cd6 ct6 oc7 kV7 dc7 pm7 cd7 ct7 oc8 kV8 dc8 pm8 cd8 ct8 oc9 kV9 dc9 pm9 cd9 ct9 oc10 kV10 dc10 pm10 cd10 ct10 oc11 kV11 dc11 pm11 cd11 ct11 : Value}
    (gB : PySem.W.nsIn K mainGlobals "BankError" = some (some (.ref cB)))
    (g0 : PySem.W.nsIn K mainGlobals "BadWish" = some (some (.ref c0)))
    (g1 : PySem.W.nsIn K mainGlobals "BadPaper" = some (some (.ref c1)))
    (g2 : PySem.W.nsIn K mainGlobals "BadSheet" = some (some (.ref c2)))
    (g3 : PySem.W.nsIn K mainGlobals "BadLine" = some (some (.ref c3)))
    (g4 : PySem.W.nsIn K mainGlobals "Gone" = some (some (.ref c4)))
    (g5 : PySem.W.nsIn K mainGlobals "BadQuestion" = some (some (.ref c5)))
    (g6 : PySem.W.nsIn K mainGlobals "BadText" = some (some (.ref c6)))
    (g7 : PySem.W.nsIn K mainGlobals "NoSuch" = some (some (.ref c7)))
    (g8 : PySem.W.nsIn K mainGlobals "NoPlace" = some (some (.ref c8)))
    (g9 : PySem.W.nsIn K mainGlobals "TooMany" = some (some (.ref c9)))
    (g10 : PySem.W.nsIn K mainGlobals "BadKind" = some (some (.ref c10)))
    (g11 : PySem.W.nsIn K mainGlobals "Unmet" = some (some (.ref c11)))
    (g12 : PySem.W.nsIn K mainGlobals "NoAnswers" = some (some (.ref c12)))
    (g13 : PySem.W.nsIn K mainGlobals "Twice" = some (some (.ref c13)))
    (xT : PySem.W.excIn K c6 [.type "ValueError", .type "Exception", .type "BaseException", .type "object"] "ValueError.__new__" = true) (kT : PySem.W.keepIn K (.ref c6) = true) (bT : PySem.W.subIn K (.ref c6) (.type "BaseException") = some true) (tT : PySem.W.typeIn K (.ref c6) = some (.type "type"))
    (e1 : PySem.W.findIn K (.ref c6) "__getattribute__" = some (some (.builtin "BaseException.__getattribute__"))) (e2 : PySem.W.findIn K (.ref c6) "__getattr__" = some none) (e4 : PySem.W.hasDictIn K c6 = true) (e5 : PySem.W.findIn K (.ref c6) "__class__" = some (some (.builtin "object.__class__")))
    (e6 : PySem.W.specialIn K (.builtin "object.__class__") "__get__" = some (some (.builtin "getset_descriptor.__get__"))) (e7 : PySem.W.takesIn K (.builtin "object.__class__") = some true) (e8 : PySem.W.mroIn K c6 (.type "object") = some true)
    (kt : kitsB K (pick [c0, c1, c2, c3, c4, c5, c6, c7, c8, c9, c10, c11, c12, c13]) c6 (fun i => decide (i = 6)) = true) (kv : PySem.W.kitOne K (.ref c6) (.type "ValueError") = some true)
    (ca : PySem.W.exmAny K (.ref c6) (caughtBy cB (pick [c0, c1, c2, c3, c4, c5, c6, c7, c8, c9, c10, c11, c12, c13])) = some true)
    (z0 : PySem.W.nsIn K mainGlobals "isinstance" = some none)
    (z1 : PySem.W.nsIn K mainGlobals "zip" = some none)
    (z2 : PySem.W.nsIn K mainGlobals "len" = some none)
    (z3 : PySem.W.nsIn K mainGlobals "str" = some none)
    (z4 : PySem.W.nsIn K mainGlobals "int" = some none)
    (z5 : PySem.W.nsIn K mainGlobals "range" = some none)
    (z6 : PySem.W.nsIn K mainGlobals "enumerate" = some none)
    (z7 : PySem.W.nsIn K mainGlobals "ValueError" = some none)
    (a1 : PySem.W.nsIn K mainGlobals "squeezed" = some (some (.ref f1))) (l1 : K.lookup f1 = some ⟨oc1, od1, .func (PySem.W.fnOf "squeezed" "squeezed" (defArgs sSqueezed) (defBody sSqueezed) (defScope sSqueezed) .none kV1 dc1 pm1 an1 cd1 ct1), sl1⟩) (q1 : PySem.W.codeIn K cd1 "squeezed" = true) (k1 : PySem.W.keepIn K (.ref f1) = true)
    (a2 : PySem.W.nsIn K mainGlobals "_law_mixed" = some (some (.ref f2))) (l2 : K.lookup f2 = some ⟨oc2, od2, .func (PySem.W.fnOf "_law_mixed" "_law_mixed" (defArgs sMixed) (defBody sMixed) (defScope sMixed) .none kV2 dc2 pm2 an2 cd2 ct2), sl2⟩) (q2 : PySem.W.codeIn K cd2 "_law_mixed" = true) (k2 : PySem.W.keepIn K (.ref f2) = true)
    (a3 : PySem.W.nsIn K mainGlobals "_law_stream" = some (some (.ref f3))) (l3 : K.lookup f3 = some ⟨oc3, od3, .func (PySem.W.fnOf "_law_stream" "_law_stream" (defArgs sStream) (defBody sStream) (defScope sStream) .none kV3 dc3 pm3 an3 cd3 ct3), sl3⟩) (q3 : PySem.W.codeIn K cd3 "_law_stream" = true) (k3 : PySem.W.keepIn K (.ref f3) = true)
    (a4 : PySem.W.nsIn K mainGlobals "_law_take" = some (some (.ref f4))) (l4 : K.lookup f4 = some ⟨oc4, od4, .func (PySem.W.fnOf "_law_take" "_law_take" (defArgs sTake) (defBody sTake) (defScope sTake) .none kV4 dc4 pm4 an4 cd4 ct4), sl4⟩) (q4 : PySem.W.codeIn K cd4 "_law_take" = true) (k4 : PySem.W.keepIn K (.ref f4) = true)
    (a5 : PySem.W.nsIn K mainGlobals "_law_word" = some (some (.ref f5))) (l5 : K.lookup f5 = some ⟨oc5, od5, .func (PySem.W.fnOf "_law_word" "_law_word" (defArgs sWord) (defBody sWord) (defScope sWord) .none kV5 dc5 pm5 an5 cd5 ct5), sl5⟩) (q5 : PySem.W.codeIn K cd5 "_law_word" = true) (k5 : PySem.W.keepIn K (.ref f5) = true)
    (a6 : PySem.W.nsIn K mainGlobals "_law_said" = some (some (.ref f6))) (l6 : K.lookup f6 = some ⟨oc6, od6, .func (PySem.W.fnOf "_law_said" "_law_said" (defArgs sSaid) (defBody sSaid) (defScope sSaid) .none kV6 dc6 pm6 an6 cd6 ct6), sl6⟩) (q6 : PySem.W.codeIn K cd6 "_law_said" = true) (k6 : PySem.W.keepIn K (.ref f6) = true)
    (a7 : PySem.W.nsIn K mainGlobals "_law_due" = some (some (.ref f7))) (l7 : K.lookup f7 = some ⟨oc7, od7, .func (PySem.W.fnOf "_law_due" "_law_due" (defArgs sDue) (defBody sDue) (defScope sDue) .none kV7 dc7 pm7 an7 cd7 ct7), sl7⟩) (q7 : PySem.W.codeIn K cd7 "_law_due" = true) (k7 : PySem.W.keepIn K (.ref f7) = true)
    (a8 : PySem.W.nsIn K mainGlobals "_law_text_by" = some (some (.ref f8))) (l8 : K.lookup f8 = some ⟨oc8, od8, .func (PySem.W.fnOf "_law_text_by" "_law_text_by" (defArgs sTextBy) (defBody sTextBy) (defScope sTextBy) .none kV8 dc8 pm8 an8 cd8 ct8), sl8⟩) (q8 : PySem.W.codeIn K cd8 "_law_text_by" = true) (k8 : PySem.W.keepIn K (.ref f8) = true)
    (a9 : PySem.W.nsIn K mainGlobals "law" = some (some (.ref f9))) (l9 : K.lookup f9 = some ⟨oc9, od9, .func (PySem.W.fnOf "law" "law" (defArgs sLaw) (defBody sLaw) (defScope sLaw) .none kV9 dc9 pm9 an9 cd9 ct9), sl9⟩) (q9 : PySem.W.codeIn K cd9 "law" = true) (k9 : PySem.W.keepIn K (.ref f9) = true)
    (a10 : PySem.W.nsIn K mainGlobals "need_any_text" = some (some (.ref f10))) (l10 : K.lookup f10 = some ⟨oc10, od10, .func (PySem.W.fnOf "need_any_text" "need_any_text" (defArgs sNeedAny) (defBody sNeedAny) (defScope sNeedAny) .none kV10 dc10 pm10 an10 cd10 ct10), sl10⟩) (q10 : PySem.W.codeIn K cd10 "need_any_text" = true) (k10 : PySem.W.keepIn K (.ref f10) = true)
    (a11 : PySem.W.nsIn K mainGlobals "words_in" = some (some (.ref f11))) (l11 : K.lookup f11 = some ⟨oc11, od11, .func (PySem.W.fnOf "words_in" "words_in" (defArgs sWordsIn) (defBody sWordsIn) (defScope sWordsIn) .none kV11 dc11 pm11 an11 cd11 ct11), sl11⟩) (q11 : PySem.W.codeIn K cd11 "words_in" = true) (k11 : PySem.W.keepIn K (.ref f11) = true) :
    ∃ fd : FuncData, (∀ (s : Shared) (v : Value), BindsTo s fd ⟨[v], []⟩ [("_law_script", v)]) ∧ ∀ base : Heap, K.In base → base.Ns mainGlobals mg → FnOk l.prog w K mg base CX0 5 fa fd ["_law_script"] (spLaw K) := by
  have e := hfa.symm.trans (PySem.W.mg_of X G a9)
  cases e
  have F1 := fun_mk (st := sSqueezed) l1 q1 k1
  have b1 := F1.binds (ps := ["text"]) fun _ _ _ _ _ _ us hl => match us, hl with | [_], _ => rfl
  have F2 := fun_mk (st := sMixed) l2 q2 k2
  have b2 := F2.binds (ps := ["_law_number", "_law_k"]) fun _ _ _ _ _ _ us hl => match us, hl with | [_, _], _ => rfl
  have F3 := fun_mk (st := sStream) l3 q3 k3
  have b3 := F3.binds (ps := ["_law_cell", "_law_k"]) fun _ _ _ _ _ _ us hl => match us, hl with | [_, _], _ => rfl
  have F4 := fun_mk (st := sTake) l4 q4 k4
  have b4 := F4.binds (ps := ["_law_stream_here", "_law_many"]) fun _ _ _ _ _ _ us hl => match us, hl with | [_, _], _ => rfl
  have F5 := fun_mk (st := sWord) l5 q5 k5
  have b5 := F5.binds (ps := ["_law_error"]) fun _ _ _ _ _ _ us hl => match us, hl with | [_], _ => rfl
  have F6 := fun_mk (st := sSaid) l6 q6 k6
  have b6 := F6.binds (ps := ["_law_thing"]) fun _ _ _ _ _ _ us hl => match us, hl with | [_], _ => rfl
  have F7 := fun_mk (st := sDue) l7 q7 k7
  have b7 := F7.binds (ps := ["_law_row"]) fun _ _ _ _ _ _ us hl => match us, hl with | [_], _ => rfl
  have F8 := fun_mk (st := sTextBy) l8 q8 k8
  have b8 := F8.binds (ps := ["_law_stream_here"]) fun _ _ _ _ _ _ us hl => match us, hl with | [_], _ => rfl
  have F10 := fun_mk (st := sNeedAny) l10 q10 k10
  have b10 := F10.binds (ps := ["thing"]) fun _ _ _ _ _ _ us hl => match us, hl with | [_], _ => rfl
  have F11 := fun_mk (st := sWordsIn) l11 q11 k11
  have b11 := F11.binds (ps := ["text"]) fun _ _ _ _ _ _ us hl => match us, hl with | [_], _ => rfl
  have F9 := fun_mk (st := sLaw) l9 q9 k9
  have T : Txt K mg cB (pick [c0, c1, c2, c3, c4, c5, c6, c7, c8, c9, c10, c11, c12, c13]) :=
    { gB := PySem.W.mg_of X G gB, cl := ⟨PySem.W.mg_of X G g0, PySem.W.mg_of X G g1, PySem.W.mg_of X G g2, PySem.W.mg_of X G g3, PySem.W.mg_of X G g4, PySem.W.mg_of X G g5, PySem.W.mg_of X G g6, PySem.W.mg_of X G g7, PySem.W.mg_of X G g8, PySem.W.mg_of X G g9, PySem.W.mg_of X G g10, PySem.W.mg_of X G g11, PySem.W.mg_of X G g12, PySem.W.mg_of X G g13⟩, bt := ⟨PySem.W.mg_of X G g6, xT, kT, bT, tT⟩, sz := ⟨f10, f11, _, _, ⟨F10, b10, PySem.W.mg_of X G a10⟩, F11, b11, PySem.W.mg_of X G a11⟩, ex := ⟨e1, e2, bT, e4, e5, e6, e7, e8⟩, kt := kits_of kt, kv := kv, ca := ca,
      isi := PySem.W.mg_none_of X G z0, zip := PySem.W.mg_none_of X G z1, len := PySem.W.mg_none_of X G z2, str := PySem.W.mg_none_of X G z3, int := PySem.W.mg_none_of X G z4, range := PySem.W.mg_none_of X G z5, enum := PySem.W.mg_none_of X G z6, ve := PySem.W.mg_none_of X G z7 }
  have B : Defs K mg f1 f2 f3 f4 f5 f6 f7 f8 _ _ _ _ _ _ _ _ := ⟨F1, b1, PySem.W.mg_of X G a1, F2, b2, PySem.W.mg_of X G a2, F3, b3, PySem.W.mg_of X G a3, F4, b4, PySem.W.mg_of X G a4, F5, b5, PySem.W.mg_of X G a5, F6, b6, PySem.W.mg_of X G a6, F7, b7, PySem.W.mg_of X G a7, F8, b8, PySem.W.mg_of X G a8⟩
  exact ⟨_, fun s v => .of_eq rfl, fun base _ _ => ok_law F9 T B⟩
end Pk
open PySem PySem.W PyProof.Rows
set_option maxRecDepth 100000 in
set_option maxHeartbeats 0 in
theorem PySem.Challenge.cw_paperkin_k02_squeezed_holds : PySem.Challenge.rw_paperkin_k02_squeezed.Holds := by
  w_on; o_law; k_head; (case hw => w_witness2)
  k_fill
  refine L2.walk_ofK (l := PySem.Challenge.rw_paperkin_k02_squeezed) (n := 63) (k := 5) (x := "_law_script") (CX := L2.CX0) (sp := Pk.spLaw) rfl (by decide) rfl ⟨rfl, by decide, by decide⟩ (fun w h Y => PySem.W.kIn_of Y) ?F (fun _ _ a ns hl _ hS => ⟨a, ns, rfl, hS, hl, fun _ => rfl⟩) (fun _ _ _ _ h => h)
  case F =>
    intro w mg fa h KX G hmg
    refine' Pk.all_mk KX G hmg ?pk_gB ?pk_g0 ?pk_g1 ?pk_g2 ?pk_g3 ?pk_g4 ?pk_g5 ?pk_g6 ?pk_g7 ?pk_g8 ?pk_g9 ?pk_g10 ?pk_g11 ?pk_g12 ?pk_g13 ?pk_xT ?pk_kT ?pk_bT ?pk_tT ?pk_e1 ?pk_e2 ?pk_e4 ?pk_e5 ?pk_e6 ?pk_e7 ?pk_e8 ?pk_kt ?pk_kv ?pk_ca ?pk_z0 ?pk_z1 ?pk_z2 ?pk_z3 ?pk_z4 ?pk_z5 ?pk_z6 ?pk_z7 ?pk_a1 ?pk_l1 ?pk_q1 ?pk_k1 ?pk_a2 ?pk_l2 ?pk_q2 ?pk_k2 ?pk_a3 ?pk_l3 ?pk_q3 ?pk_k3 ?pk_a4 ?pk_l4 ?pk_q4 ?pk_k4 ?pk_a5 ?pk_l5 ?pk_q5 ?pk_k5 ?pk_a6 ?pk_l6 ?pk_q6 ?pk_k6 ?pk_a7 ?pk_l7 ?pk_q7 ?pk_k7 ?pk_a8 ?pk_l8 ?pk_q8 ?pk_k8 ?pk_a9 ?pk_l9 ?pk_q9 ?pk_k9 ?pk_a10 ?pk_l10 ?pk_q10 ?pk_k10 ?pk_a11 ?pk_l11 ?pk_q11 ?pk_k11
    (case pk_gB => k_is)
    (case pk_g0 => k_is)
    (case pk_g1 => k_is)
    (case pk_g2 => k_is)
    (case pk_g3 => k_is)
    (case pk_g4 => k_is)
    (case pk_g5 => k_is)
    (case pk_g6 => k_is)
    (case pk_g7 => k_is)
    (case pk_g8 => k_is)
    (case pk_g9 => k_is)
    (case pk_g10 => k_is)
    (case pk_g11 => k_is)
    (case pk_g12 => k_is)
    (case pk_g13 => k_is)
    (case pk_xT => k_exc)
    (case pk_kT => k_is)
    (case pk_bT => k_is)
    (case pk_tT => k_is)
    (case pk_e1 => k_is)
    (case pk_e2 => k_is)
    (case pk_e4 => k_is)
    (case pk_e5 => k_is)
    (case pk_e6 => k_is)
    (case pk_e7 => k_is)
    (case pk_e8 => k_is)
    (case pk_kt => kernel_rfl)
    (case pk_kv => kernel_rfl)
    (case pk_ca => kernel_rfl)
    (case pk_z0 => k_is)
    (case pk_z1 => k_is)
    (case pk_z2 => k_is)
    (case pk_z3 => k_is)
    (case pk_z4 => k_is)
    (case pk_z5 => k_is)
    (case pk_z6 => k_is)
    (case pk_z7 => k_is)
    (case pk_a1 => k_is)
    (case pk_l1 => k_is)
    (case pk_q1 => k_is)
    (case pk_k1 => k_is)
    (case pk_a2 => k_is)
    (case pk_l2 => k_is)
    (case pk_q2 => k_is)
    (case pk_k2 => k_is)
    (case pk_a3 => k_is)
    (case pk_l3 => k_is)
    (case pk_q3 => k_is)
    (case pk_k3 => k_is)
    (case pk_a4 => k_is)
    (case pk_l4 => k_is)
    (case pk_q4 => k_is)
    (case pk_k4 => k_is)
    (case pk_a5 => k_is)
    (case pk_l5 => k_is)
    (case pk_q5 => k_is)
    (case pk_k5 => k_is)
    (case pk_a6 => k_is)
    (case pk_l6 => k_is)
    (case pk_q6 => k_is)
    (case pk_k6 => k_is)
    (case pk_a7 => k_is)
    (case pk_l7 => k_is)
    (case pk_q7 => k_is)
    (case pk_k7 => k_is)
    (case pk_a8 => k_is)
    (case pk_l8 => k_is)
    (case pk_q8 => k_is)
    (case pk_k8 => k_is)
    (case pk_a9 => k_is)
    (case pk_l9 => k_is)
    (case pk_q9 => k_is)
    (case pk_k9 => k_is)
    (case pk_a10 => k_is)
    (case pk_l10 => k_is)
    (case pk_q10 => k_is)
    (case pk_k10 => k_is)
    (case pk_a11 => k_is)
    (case pk_l11 => k_is)
    (case pk_q11 => k_is)
    (case pk_k11 => k_is)
