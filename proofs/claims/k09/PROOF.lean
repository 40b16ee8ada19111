import PyProof.Rows.All
import Wide.All
import OpenK.AllK
import Wide.FinOn
import HandS.Wide
import HandS.Exc
import HandS.ExcOwn
import HandS.TryMany
import HandS.ExcField
import HandS.ExcIs
import HandS.Lambda
import HandS.More
import HandS.Words
import HandS.ExcInit
import HandS.ClsMeth
import KE.KExcInit
import HandS.FStr
import HandS.EndTab
import KE.KNest
import PySem.Challenge.RW_heedless_k09_rounds_and_rates
import HandS.ForMost
import HandS.EndBits
import HandS.IsInst
import HandS.Defaults
import HandS.Evl
import HandS.Style
import HandS.Deep
import HandS.Conv
import HandS.Zip
import HandS.MakeKw
import KE.GoesMore
import KE.GoesZip
import HandS.WordsExc
set_option Elab.async false
set_option linter.all false
set_option maxRecDepth 100000
set_option maxHeartbeats 4000000
namespace Hw
open PySem PySem.Spec PyProof.Rows L2
/-! a tuple of classes, any number of them -/
section
variable {M : Model} {A : Around} {E : Value → Shared → Prop} {s : Shared}
theorem each_passes {f : Value → PUnit → Sem (ForInStep PUnit)} : ∀ {cs : List Value} {Q : PUnit → Shared → Prop}, (∀ c ∈ cs, ∀ R : ForInStep PUnit → Shared → Prop, R (.yield ⟨⟩) s → wpAny M A (f c ⟨⟩) R E s) → Q ⟨⟩ s → wpAny M A (forIn cs PUnit.unit f) Q E s
  | [], Q, _, q => by
    rw [List.forIn_nil]
    exact wpAny_pure q
  | c :: cs, Q, h, q => by
    rw [List.forIn_cons]
    exact wpAny_bind (h c List.mem_cons_self _ (each_passes (fun d hd => h d (List.mem_cons_of_mem _ hd)) q))
theorem one_found {f : Value → Option Bool × Unit → Sem (ForInStep (Option Bool × Unit))} : ∀ {cs : List Value} {bs : List Bool} {Q : Option Bool × Unit → Shared → Prop},
    Paired (fun c b => ∀ (r : Option Bool × Unit) (R : ForInStep (Option Bool × Unit) → Shared → Prop), R (if b = true then .done (some true, ()) else .yield (none, ())) s → wpAny M A (f c r) R E s) cs bs →
    Q (if bs.any id = true then some true else none, ()) s → wpAny M A (forIn cs (none, ()) f) Q E s
  | _, _, Q, .nil, q => by
    rw [List.forIn_nil]
    exact wpAny_pure q
  | _, _, Q, .cons (b := b) h r, q => by
    rw [List.forIn_cons]
    refine wpAny_bind (h _ _ ?_)
    cases b with
    | true => exact wpAny_pure q
    | false => exact one_found r q
end
theorem exmAny_all {K : PySem.W.Frag} {cls : Value} : ∀ {cs : List Value} {b : Bool}, PySem.W.exmAny K cls cs = some b → ∃ bs : List Bool, Paired (fun c b => PySem.W.exmOne K cls c = some b) cs bs ∧ b = bs.any id
  | [], b, h => ⟨[], .nil, (Option.some.inj h).symm⟩
  | c :: cs, b, h => by
    obtain ⟨b1, d1, h1, h2, rfl⟩ := PySem.W.exmAny_cons h
    obtain ⟨bs, p, rfl⟩ := exmAny_all h2
    exact ⟨b1 :: bs, .cons h1 p, rfl⟩
theorem paired_imp {α β : Type} {R S : α → β → Prop} (h : ∀ x y, R x y → S x y) : ∀ {xs : List α} {ys : List β}, Paired R xs ys → Paired S xs ys
  | _, _, .nil => .nil
  | _, _, .cons a b => .cons (h _ _ a) (paired_imp h b)
theorem paired_left {α β : Type} {R : α → β → Prop} {S : α → Prop} (h : ∀ x y, R x y → S x) : ∀ {xs : List α} {ys : List β}, Paired R xs ys → ∀ x ∈ xs, S x
  | _, _, .nil, _, hx => by cases hx
  | _, _, .cons a b, x, hx => by
    rcases List.mem_cons.mp hx with e | e
    · subst e
      exact h _ _ a
    · exact paired_left h b x e
theorem exm_tup {M : Model} {K : PySem.W.Frag} {cs : List Value} {cls : Value} {tp e : Addr} {b : Bool} {h : Heap} (X : K.In h) (LT : PySem.W.Looks M h (typeOf (.ref e)) cls) (hp : h.get? tp = some { cls := .type "tuple", data := .seq cs.toArray }) (hx : PySem.W.exmAny K cls cs = some b) :
    PySem.W.Looks M h (excMatches (.ref e) (.ref tp)) b := by
  intro A Q E s k q
  have tu : PySem.W.Looks M h (isInstance (.ref tp) (.type "tuple")) true := ((PySem.W.Looks.ld hp).andThen .now).andThen (PySem.W.Looks.of_pure isSubtype_tuple_tuple)
  obtain ⟨bs, p, rfl⟩ := exmAny_all hx
  unfold excMatches
  refine wpAny_bind ((tu.keeps k).here ?_)
  dsimp only
  rw [if_pos rfl]
  first
    | refine wpAny_bind (wpAny_seqItems (k _ _ hp) rfl ?_)
    | refine wpAny_bind (wpAny_bind (wpAny_seqItems (k _ _ hp) rfl (wpAny_pure ?_)))
  dsimp only [Option.getD_some, Option.getD]
  refine wpAny_bind (wpAny_pure ?_)
  refine wpAny_bind (each_passes (paired_left (S := fun c => ∀ R : ForInStep PUnit → Shared → Prop, R (.yield ⟨⟩) s → wpAny M A (do
      let __do_lift ← isExcClass c
      if (!__do_lift) = true then do
          rule "try.except-non-exception-class"
          raiseErrorWords "TypeError" "catching classes that do not inherit from BaseException is not allowed"
          pure (ForInStep.yield PUnit.unit)
        else pure (ForInStep.yield PUnit.unit)) R E s) (fun c b hc R r => ?_) p) ?_)
  · refine wpAny_bind (((PySem.W.exm_cls (M := M) X hc).1.keeps k).here ?_)
    rw [if_neg (by decide)]
    exact wpAny_pure r
  refine wpAny_bind ((LT.keeps k).here ?_)
  refine wpAny_bind (one_found (paired_imp (fun c b hc r R q' => ?_) p) ?_)
  · refine wpAny_bind (((PySem.W.exm_cls (M := M) X hc).2.keeps k).here ?_)
    cases b with
    | true => exact wpAny_pure q'
    | false => exact wpAny_pure q'
  cases hb : bs.any id with
  | true =>
    rw [hb] at q
    exact wpAny_pure q
  | false =>
    rw [hb] at q
    exact wpAny_pure q
end Hw

set_option Elab.async false
set_option linter.all false
set_option maxRecDepth 100000
set_option maxHeartbeats 4000000
namespace Hw
open PySem PySem.Spec PyProof.Rows L2
abbrev St := L2.St
/-! a clause's test: a name, or several names in a tuple -/
inductive NmsL (X : Cx) : List Expr → List Value → Prop
  | nil : NmsL X [] []
  | cons {x : Str} {p : Pos} {c : Value} {es : List Expr} {cs : List Value} : Names X x c → NmsL X es cs → NmsL X (.Name x p :: es) (c :: cs)
inductive Tst (X : Cx) : Expr → List Value → Prop
  | one {x : Str} {p : Pos} {c : Value} : Names X x c → Tst X (.Name x p) [c]
  | many {es : List Expr} {k : Nat} {pos : Pos} {cs : List Value} : NmsL X es cs → cs.length ≤ 1000 → Tst X (.Tuple es k pos) cs
section
variable {X : Cx} {a : Addr} {pn pins : List (Addr × Obj)} {σ : St} {H : Hp} {s : Shared}
theorem name_run {x : Str} {p : Pos} {c : Value} {Q E : Value → Shared → Prop} (S : Inv (X.suite a pn) pins σ H s) (n : Names X x c) (q : Q c s) : wpAny (model X.prog X.w) (X.A.mark (some (.ref a))) (eval (.Name x p) X.env) Q E s := by
  obtain ⟨g, d, m | ⟨m, v, nn⟩⟩ := n
  · exact ld_glob (X := X.suite a pn) S g m q d
  · exact ld_blt (X := X.suite a pn) S g m v q nn d
theorem names_run {E : Value → Shared → Prop} {pos : Pos} (S : Inv (X.suite a pn) pins σ H s) : ∀ {es : List Expr} {cs : List Value} {Q : List Value → Shared → Prop}, NmsL X es cs → Q cs s → wpAny (model X.prog X.w) (X.A.mark (some (.ref a))) (spliced (backTo pos (starEach es X.env))) Q E s
  | _, _, Q, .nil, q => wpAny_items_nil q
  | _, _, Q, .cons n r, q => wpAny_items_cons (name_run S n (names_run S r q))
theorem tst_run {t : Expr} {cs : List Value} {cls : Value} {b : Bool} {Q : Bool → Shared → Prop} {E E' : Value → Shared → Prop} (S : Inv (X.suite a pn) pins σ H s) (ts : Tst X t cs) (LT : PySem.W.Looks (model X.prog X.w) s.heap (typeOf (.ref a)) cls) (hx : PySem.W.exmAny X.K cls cs = some b)
    (q : ∀ h', (∀ b o, s.heap.get? b = some o → h'.get? b = some o) → Q b { s with heap := h' }) :
    wpAny (model X.prog X.w) (X.A.mark (some (.ref a))) (eval t X.env) (fun c s₁ => wpAny (model X.prog X.w) (X.A.mark (some (.ref a))) (excMatches (.ref a) c) Q E s₁) E' s := by
  cases ts with
  | one n =>
    obtain ⟨b1, d1, h1, h2, rfl⟩ := PySem.W.exmAny_cons hx
    cases (Option.some.inj h2 : false = d1)
    refine name_run S n ((PySem.W.exm_one (M := model X.prog X.w) S.kIn LT h1).here ?_)
    have := q s.heap fun _ _ e => e
    rw [Bool.or_false] at this
    exact this
  | many n small =>
    refine wpAny_Tuple (names_run S n ⟨Nat.le_of_lt (small1000 small), ?_⟩)
    have kp : ∀ b o, s.heap.get? b = some o → (s.heap.push { cls := .type "tuple", data := .seq cs.toArray }).get? b = some o := fun _ _ e => Heap.get?_push_of_some _ e
    exact (exm_tup (M := model X.prog X.w) (S.kIn.keeps kp) (LT.keeps kp) (Heap.get?_push_size s.heap rfl) hx).here (q _ kp)
end
theorem flying_on {B h h' : Heap} {l : List Env} {e : Addr} {Z : Obj → Prop} (f : HandSPX.FlyingZ B l e Z h) (k : ∀ b o, h.get? b = some o → h'.get? b = some o) : HandSPX.FlyingZ B l e Z h' := by
  obtain ⟨f1, f2, f3, oe, vs, T, oT, ts, he, hz, hd, h1, h2, h3, hT, hdT, hf⟩ := f
  exact ⟨fun b o q => k b o (f1 b o q), f2, f3.of_keeps fun b o q _ => ⟨o, k b o q, rfl⟩, oe, vs, T, oT, ts, k _ _ he, hz, hd, h1, h2, h3, k _ _ hT, hdT, hf⟩
/-! try: body / except (A, B) as n: .. / except C as n: .. -/
abbrev Suit := Addr → Value → Option Addr → TS
/-- the ends of a suite: the name goes -/
def outN (i : Nat) (D : Ends) : Ends := { nx := fun σ' H' => D.nx (σ'.set i none) H', rt := D.rt, bk := fun σ' H' => D.bk (σ'.set i none) H', ct := fun σ' H' => D.ct (σ'.set i none) H' }
def wWhy (K : PySem.W.Frag) (i : Nat) (Wout : WX) (D : Ends) : List (List Value × Suit) → WX
  | [] => Wout
  | (cs, ts) :: r => fun cls d σ H => ∃ b, PySem.W.exmAny K cls cs = some b ∧ (b = true → ∀ a, H a = none → ts a cls d (outN i D) (σ.set i (some (.ref a))) H) ∧ (b = false → wWhy K i Wout D r cls d σ H)
inductive HdsW (X : Cx) (n : Str) : List ExceptHandler → List (List Value × Suit) → Prop
  | nil : HdsW X n [] []
  | cons {t : Expr} {cs : List Value} {ts : Suit} {b₀ : Stmt} {suite : List Stmt} {pos' : Pos} {hds : List ExceptHandler} {l : List (List Value × Suit)} (ht : Tst X t cs)
      (hsu : ∀ (a : Addr) (oe : Obj) (cls : Value) (d : Option Addr) (pn : List (Addr × Obj)), Zc cls d oe → (∃ vs, oe.data = .fields vs) → PSs (X.suite a ((a, oe) :: pn)) (b₀ :: suite) (ts a cls d)) (r : HdsW X n hds l) :
      HdsW X n (.ExceptHandler (some t) (some n) (b₀ :: suite) pos' :: hds) ((cs, ts) :: l)
section
variable {X : Cx} {n : Str} {i : Nat} {body : List Stmt} {h₀ : ExceptHandler} {hds : List ExceptHandler} {l : List (List Value × Suit)} {pos : Pos} {tb : WX → TS} {Wout : WX}
/-- the clauses, one after another, the exception a having landed -/
theorem clauses (hs : X.stack = X.env :: X.outer) (hf : X.env.frame = some X.env.locals) (hN : X.N.Nodup) (hi : X.N[i]? = some n) (hln : X.env.kindOf n = some .local) (tk : Takes X Wout) (ok : X.Ok) {pins : List (Addr × Obj)} {σ : St} {H : Hp} {D : Ends} {a : Addr} {cls : Value} {d : Option Addr} {B : Heap} {sI s' : Shared}
    (J : Inv X pins σ H sI) (nb : ∀ b o, sI.heap.get? b = some o → b ∉ frs X.stack → B.get? b = some o) (na : H a = none) (os : s'.os = sI.os) (ag : AllBare s'.gens) :
    ∀ {hds : List ExceptHandler} {l : List (List Value × Suit)}, HdsW X n hds l → wWhy X.K i Wout D l cls d σ H → ∀ h : Heap, HandSPX.FlyingZ B (X.env :: X.outer) a (Zc cls d) h → sI.heap.UpToSlots h →
      wpAny (model X.prog X.w) X.A (handleBy (.ref a) X.env hds) (SP X pins D) X.xe { s' with heap := h } := by
  have apart : ∀ {h : Heap}, HandSPX.FlyingZ B (X.env :: X.outer) a (Zc cls d) h → a ≠ X.env.locals ∧ a ∉ X.fs := fun {h} fl => by
    obtain ⟨oe, vs, he, _, hd⟩ := fl.there
    have no : a ∉ frs (X.env :: X.outer) := fun hm => by
      obtain ⟨_, o', e', hnf⟩ := fl.2.2.1.mem hm
      rw [he] at e'
      cases e'
      exact hnf _ hd
    refine ⟨fun z => no (List.mem_filterMap.mpr ⟨X.env, List.mem_cons_self, by rw [hf, z]⟩), fun hm => ?_⟩
    obtain ⟨e, he', q⟩ := List.mem_filterMap.mp hm
    exact no (List.mem_filterMap.mpr ⟨e, List.mem_cons_of_mem _ he', q⟩)
  intro hds l hk
  induction hk with
  | nil =>
    intro w h fl up
    refine wpAny_handleBy_nil ?_
    obtain ⟨k1, k2, k3, oe, vs, T, oT, ts', he, hz, hd, h1, hr⟩ := id fl
    unfold PySem.passOn
    refine wpAny_bind (wpAny_field he hd h1 ?_)
    rw [if_neg (show ¬ ((Value.ref T == Value.none) = true) from by simp)]
    have fin : wpAny (model X.prog X.w) X.A (setFlight (.ref a) X.env.frame) (fun _ s4 => wpAny (model X.prog X.w) X.A (throw (.ref a) : Sem Flow) (SP X pins D) X.xe s4) X.xe { s' with heap := h } := by
      rw [hf]
      refine HandSPX.setFlight_upZ fl fun h4 hh4 up4 => wpAny_throw (tk _ _ ?_)
      exact ⟨a, B, sI, pins, σ, H, cls, d, rfl, J, nb, up.trans up4, .inr (.inr (by rw [hs]; exact hh4)), na, os, ag, w⟩
    first
      | exact wpAny_bind (wpAny_pure (wpAny_bind fin))
      | exact wpAny_bind fin
  | @cons t cs ts b₀ suite pos' hds2 l2 ht hsu r ih =>
    intro w h fl up
    obtain ⟨b, hb1, hyes, hno⟩ := w
    obtain ⟨nL, nF⟩ := apart fl
    have J3 : Inv X pins σ H { s' with heap := h } := J.landed nb fl.1 up os ag
    obtain ⟨oe3, vs3, he3, hz3, hd3⟩ := fl.there
    have S3 := J3.suite he3 hd3 na nL nF
    have LT : PySem.W.Looks (model X.prog X.w) h (typeOf (.ref a)) cls := fun A Q E s k q => wpAny_typeOf_ref (k _ _ he3) (by rw [hz3.1]; exact q)
    refine wpAny_handleBy_cons (codeAny_handlers_test (tst_run S3 ht LT hb1 fun h2 k2 => ?_)) (by intro q; cases q)
    have fl2 := flying_on fl k2
    have up2 := up.trans (Heap.UpToSlots.of_keeps k2)
    cases b with
    | false => exact ih (hno rfl) h2 fl2 up2
    | true =>
      refine codeAny_handlers_suite_as ?_
      refine HandSPX.lands_againZ fl2 fun h4 fl4 up4 => ?_
      have J4 : Inv X pins σ H { s' with heap := h4 } := J.landed nb fl4.1 (up2.trans up4) os ag
      obtain ⟨oe4, vs4, he4, hz4, hd4⟩ := fl4.there
      have S4 := J4.suite he4 hd4 na nL nF
      refine store_ok (X := X.suite a ((a, oe4) :: (X.pn ++ pins))) (v := .ref a) S4 hN hi (.inl hln) rfl (fun s5 S5 => ?_) (.inr hln)
      refine wpAny_mono ((hsu a oe4 cls d (X.pn ++ pins) hz4 ⟨_, hd4⟩).run [] s5 _ H _ S5 (hyes rfl a na)) (fun f s6 got => ?_) (fun _ _ z => False.elim z)
      have gone : ∀ {σ6 : St} {H6 : Hp} {Q : Shared → Prop}, Inv (X.suite a ((a, oe4) :: (X.pn ++ pins))) [] σ6 H6 s6 → (∀ s7, Inv X pins (σ6.set i none) H6 s7 → Q s7) →
          wpAny (model X.prog X.w) X.A (do bindName X.env n .none; unbindBehindTheSuite X.env n pos') (fun _ s7 => Q s7) X.xe s6 := fun {σ6 H6 Q} S6 hq => gone_ok (S6.unsuite ok) hN hi hln hq
      match f, got with
      | .next, ⟨σ6, H6, S6, q6⟩ => exact gone S6 fun s7 J7 => ⟨_, _, J7, q6⟩
      | .brk, ⟨σ6, H6, S6, q6⟩ => exact gone S6 fun s7 J7 => ⟨_, _, J7, q6⟩
      | .cont, ⟨σ6, H6, S6, q6⟩ => exact gone S6 fun s7 J7 => ⟨_, _, J7, q6⟩
      | .ret u, ⟨v6, σ6, H6, S6, r6, q6⟩ => exact gone S6 fun s7 J7 => ⟨_, _, _, J7, r6, q6⟩
theorem ps_try_why (hs : X.stack = X.env :: X.outer) (hf : X.env.frame = some X.env.locals) (hN : X.N.Nodup) (hi : X.N[i]? = some n) (hln : X.env.kindOf n = some .local) (tk : Takes X Wout)
    (hb : ∀ (W : WX) (pn : List (Addr × Obj)) (xe : Value → Shared → Prop), Takes (X.tr pn xe) W → PassesOwn (model X.prog X.w) X.A X.env xe → PSs (X.tr pn xe) body (tb W))
    (hh : HdsW X n (h₀ :: hds) l) : PS X (.Try body (h₀ :: hds) [] [] pos) (fun D σ H => tb (wWhy X.K i Wout D l) D σ H) := by
  refine ⟨fun pins s σ H D I h => ?_⟩
  have ok := I.ok
  have hfr : X.A.frames = some (X.env :: X.outer) := by rw [ok.frames, hs]
  refine wpAny_Try_except (wpAny_mono ((hb (wWhy X.K i Wout D l) (X.pn ++ pins) (fun e s₁ => wpAny (model X.prog X.w) X.A (noteFrame e X.env) (fun _ s₂ => wpAny (model X.prog X.w) X.A (setFlight e none) (fun _ s₃ =>
    wpAny (model X.prog X.w) X.A (handleBy e X.env (h₀ :: hds)) (SP X pins D) X.xe s₃) X.xe s₂) X.xe s₁) (fun u s' out => ?_) PassesOwn.looking).run [] s σ H D (I.toTry _) h) (fun f s1 got => ?_) (fun e s1 he => he))
  · obtain ⟨a, B, sI, pins', σ', H', cls, d, rfl, J', nb, up, sky, na, os, ag, w⟩ := out
    show wpAny (model X.prog X.w) X.A (noteFrame (.ref a) X.env) _ _ _
    refine Sky.land Zc.steady hfr hf (by rw [← hs]; exact sky) fun h3 fl3 up3 => ?_
    exact clauses hs hf hN hi hln tk ok (J'.ofTry ok) nb na os ag hh w h3 fl3 (up.trans up3)
  · match f, got with
    | .next, ⟨σ', H', J', q⟩ => exact wpAny_execs_nil ⟨σ', H', J'.ofTry ok, q⟩
    | .brk, ⟨σ', H', J', q⟩ => exact ⟨σ', H', J'.ofTry ok, q⟩
    | .cont, ⟨σ', H', J', q⟩ => exact ⟨σ', H', J'.ofTry ok, q⟩
    | .ret u, ⟨v, σ', H', J', r, q⟩ => exact ⟨v, σ', H', J'.ofTry ok, r, q⟩
end
end Hw

set_option Elab.async false
set_option linter.all false
set_option maxRecDepth 100000
set_option maxHeartbeats 4000000
namespace Hw
open PySem PySem.Spec PyProof.Rows L2
/-- e.f in a suite, e the caught exception's name: the class is told by the reading -/
def tXa (K : PySem.W.Frag) (a : Addr) (cls : Value) (d : Option Addr) (f : Str) (i : Nat) : TE := fun σ H Q => σ[i]? = some (some (.ref a)) ∧ ∃ C, cls = .ref C ∧ XfC K C ∧ PySem.W.findIn K (.ref C) f = some none ∧
  ∃ (dd : Addr) (fs : List (Str × V)) (v : V), d = some dd ∧ H dd = some (.xd fs) ∧ fs.lookup f = some v ∧ Q v H
theorem pe_xa {X : Cx} {a : Addr} {oe : Obj} {cls : Value} {d : Option Addr} {pn : List (Addr × Obj)} {pos p : Pos} {n f : Str} {i : Nat} (hz : Zc cls d oe) (hf : ∃ vs, oe.data = .fields vs) (hN : X.N[i]? = some n) (hv : Vis X.env.scope n)
    (hd : (n == ("__debug__" : Str)) = false := by decide) (hcd : (n == ("__classdict__" : Str)) = false := by decide) (hb : attributeBase (.Name n p) f X.env (eval (.Name n p) X.env) = eval (.Name n p) X.env := by rfl) :
    PE (X.suite a ((a, oe) :: pn)) (.Attribute (.Name n p) f pos) (tXa X.K a cls d f i) := by
  refine ⟨fun pins s σ H Q I h => ?_⟩
  obtain ⟨hs, C, ec, T, no, dd, fs, v, ed, hx, l, q⟩ := h
  exact (pe_xf (X := X) T no hz hf (pe_var (X := X.suite a ((a, oe) :: pn)) (pos := p) (i := i) hN hv hd hcd) hb).run pins s σ H Q I ⟨.ref a, hs, rfl, ec, dd, fs, v, ed, hx, l, q⟩
end Hw

set_option Elab.async false
set_option linter.all false
set_option maxRecDepth 100000
set_option maxHeartbeats 4000000
namespace Hw
open PySem PySem.Spec PyProof.Rows L2
/-! own errors over any built-in class of errors whose stores go the plain way -/
structure Bse (B nw ini : String) (tl : List Value) : Prop where
  fct : ExcBaseFacts B nw ini tl
  pas : ∀ self, refuseLoop self "__setattr__" tl = pure ()
  obj : tl.contains (.type "object") = true
  typ : typeOf (.type B) = pure (.type "type")
abbrev tlV : List Value := [.type "ValueError", .type "Exception", .type "BaseException", .type "object"]
abbrev tlL : List Value := [.type "LookupError", .type "Exception", .type "BaseException", .type "object"]
theorem bseV : Bse "ValueError" "ValueError.__new__" "ValueError.__init__" tlV := ⟨PySem.F.excBase_ValueError, PySem.F.store_ValueError.passes, by decide +kernel, by kernel_rfl⟩
theorem bseL : Bse "LookupError" "LookupError.__new__" "LookupError.__init__" tlL := ⟨PySem.F.excBase_LookupError, PySem.F.store_LookupError.passes, by decide +kernel, by kernel_rfl⟩
/-- own classes ahead of the built-in ones -/
def mroT (cs : List Addr) (tl : List Value) : List Value := cs.map Value.ref ++ tl
theorem mro_pass {tl : List Value} {self : Value} (h : refuseLoop self "__setattr__" tl = pure ()) : ∀ cs : List Addr, refuseLoop self "__setattr__" (mroT cs tl) = pure ()
  | [] => h
  | c :: cs => by
    show refuseLoop self "__setattr__" (.ref c :: mroT cs tl) = _
    rw [refuseLoop_ref]
    exact mro_pass h cs
theorem mro_has {tl : List Value} (x : String) : ∀ cs : List Addr, (mroT cs tl).contains (.type x) = tl.contains (.type x)
  | [] => rfl
  | c :: cs => by
    show (Value.ref c :: mroT cs tl).contains (.type x) = _
    rw [List.contains_cons, mro_has x cs]
    rfl
/-- what the written part says of an own class of errors -/
structure Own (K : PySem.W.Frag) (nw : String) (tl : List Value) (C : Addr) : Prop where
  cls : ∃ nm q N bs cs sn sub ab col dd k0 k1 k2 k3 k5, K.lookup C = some (excClassObj nm q C N bs (mroT cs tl) true sn sub ab col dd k0 k1 k2 k3 k5 nw)
  sa : PySem.W.findIn K (.ref C) "__setattr__" = some (some (.builtin "object.__setattr__"))
  exC : PySem.W.subIn K (.ref C) (.type "BaseException") = some true
  tyC : PySem.W.typeIn K (.ref C) = some (.type "type")
  kC : PySem.W.keepIn K (.ref C) = true
theorem Own.data {K : PySem.W.Frag} {nw : String} {tl : List Value} {C : Addr} (T : Own K nw tl C) : ∃ (cd : ClassData) (cs : List Addr), PySem.W.clsIn K C = some cd ∧ cd.mro = mroT cs tl ∧ cd.hasDict = true := by
  obtain ⟨nm, q, N, bs, cs, sn, sub, ab, col, dd, k0, k1, k2, k3, k5, hC⟩ := T.cls
  refine ⟨{ name := nm, bases := bs, mro := .ref C :: mroT cs tl, ns := N, qualname := q, hasDict := true, slotNames := sn, subclasses := sub, abstract := ab, collection := col, hasDel := false }, C :: cs, ?_, rfl, rfl⟩
  unfold PySem.W.clsIn
  rw [hC] <;> rfl
section
open Builtin Builtin.ObjectAttr
variable {prog : Program} {w : World} {A : Around} {R : Result → Shared → Prop} {hp : Heap} {g : Array GenState} {d : Drawn} {t : Nat} {os : OsState}
/-- a store into such an error: into its dict, or into one that is laid for it -/
theorem put_field {K : PySem.W.Frag} {B nw ini : String} {tl : List Value} {name : Str} {tk : Tok} {v : Value} {x C : Addr} {fv : Array Value} {cd : ClassData} {cs : List Addr} {dc : Option Addr} {od : Option Obj}
    (b : Bse B nw ini tl) (X : K.In hp) (I : PySem.W.InstAt hp x { cls := .ref C, dict := dc, data := .fields fv } C od) (hcd : PySem.W.clsIn K C = some cd) (hm : cd.mro = mroT cs tl) (hh : cd.hasDict = true) (ha : PySem.W.findIn K (.ref C) name = some none)
    (q : (dc = none ∧ ∀ h' tk' dx, (∀ b o, b ≠ x → hp.get? b = some o → h'.get? b = some o) → hp.objs.size ≤ dx → dx ≠ x → h'.get? x = some { cls := .ref C, dict := some dx, data := .fields fv } →
          h'.Ns1 dx (fun y => if y = name then some v else none) → R (.ok (.ret .none)) ⟨h', g, d, tk', os⟩) ∨
        (∃ (dx : Addr) (m0 : Str → Option Value) (nl : List Str), dc = some dx ∧ hp.Ns1 dx m0 ∧ Within m0 nl ∧ nl.length ≤ 1000 ∧
          ∀ h' tk', (∀ b o, b ≠ dx → hp.get? b = some o → h'.get? b = some o) → h'.Ns1 dx (fun y => if y = name then some v else m0 y) → R (.ok (.ret .none)) ⟨h', g, d, tk', os⟩)) :
    codeAny (model prog w) A (.call (.builtin "object.__setattr__") ⟨[.ref x, .str name tk, v], []⟩) R ⟨hp, g, d, t, os⟩ := by
  have full : cd.mro.isEmpty = false := by
    have o : cd.mro.contains (.type "object") = true := by rw [hm, mro_has, b.obj]
    cases e : cd.mro with
    | nil => rw [e] at o; exact absurd o (by decide)
    | cons _ _ => rfl
  have hob : cd.mro.contains (.type "object") = true := by rw [hm, mro_has, b.obj]
  have SF := PySem.F.store_object
  have sub : PySem.W.Looks (model prog w) hp (isInstance (.ref x) (.type "object")) true := by
    refine I.type.andThen (PySem.W.looks_mroIn X ?_)
    unfold PySem.W.mroIn
    rw [hcd, Option.bind_some, if_neg (by rw [full]; decide), hob]
  refine codeAny_call_builtin SF.slot.plain SF.entry ?_
  refine @PySem.W.check_slot (model prog w) _ _ ⟨hp, g, d, t, os⟩ "object.__setattr__" "object" "__setattr__" (.ref x) [.str name tk, v] [] _ SF.kind SF.split sub (SF.args (.ref x) (.str name tk) v) ?_
  have mr : PySem.W.Looks (model prog w) hp (mroOf (.ref C)) cd.mro := (PySem.W.looks_clsIn X hcd).andThen .now
  have cl : PySem.W.Looks (model prog w) hp (classData C) cd := PySem.W.looks_clsIn X hcd
  have tn : PySem.W.Looks (model prog w) hp (storeTaker? none) none := .now
  rw [PySem.W.osa_eq, refuse_eq]
  refine wpAny_bind (wpAny_bind (I.type.at (wpAny_bind (mr.at ?_))))
  rw [hm, mro_pass (b.pas _)]
  refine wpAny_pure (wpAny_bind (I.type.at ?_))
  refine wpAny_bind ((PySem.W.looks_findIn X ha).at ?_)
  refine wpAny_bind (tn.at ?_)
  show wpAny _ _ (storeInOwnDict (.ref x) (.ref C) (.str name tk) name v false) _ _ _
  obtain ⟨nm, bs, mro, ns, qn, hd, sn, sb, ab, col, del⟩ := cd
  dsimp only at hh
  subst hh
  have hx := I.at_
  unfold storeInOwnDict ownDictForStores
  rcases q with ⟨rfl, q⟩ | ⟨dx, m0, nl, rfl, hn, hw, hz, q⟩
  · have hxs : x ≠ hp.objs.size := Nat.ne_of_lt (Heap.lt_size hx)
    repeat (first | with_reducible refine PySem.HandSPX.store_in_new ?_ ?_ | with_reducible refine wpAny_loadPart_at hx ?_ | with_reducible refine cl.at ?_ | wp_step)
    · exact ⟨_, #[], _, (Heap.get?_update_ne _ _ _ _ hxs.symm).trans (Heap.get?_push_at rfl rfl), rfl, fun e he => absurd he (by simp), fun _ => rfl⟩
    · intro h' tk' hn' hs
      have hx1 := Heap.get?_push_of_some { cls := .type "dict", data := .dict #[] } hx
      refine q h' tk' hp.objs.size (fun c o hc ho => ?_) (Nat.le_refl _) hxs.symm ((hs.2 x hxs).trans (Heap.get?_update_self _ hx1 rfl)) hn'
      rw [hs.2 c (Nat.ne_of_lt (Heap.lt_size ho)), Heap.get?_update_ne _ _ _ _ hc]
      exact Heap.get?_push_of_some _ ho
  · repeat (first | with_reducible refine PySem.OEX.store_in_old hn hw hz ?_ | with_reducible refine wpAny_loadPart_at hx ?_ | with_reducible refine cl.at ?_ | wp_step)
    intro h' tk' hn' hs
    exact q h' tk' (fun c o hc ho => by rw [hs.2 c hc]; exact ho) hn'
end
section
variable {X : Cx} {pins : List (Addr × Obj)} {σ : L2.St} {H : Hp} {s : Shared} {a C dx : Addr} {f : Str} {y : V} {u : Value} {fs : List (Str × V)} {B nw ini : String} {tl : List Value}
/-- the dict that the first store lays -/
theorem laid_dict {h' : Heap} {t' : Nat} {mA : Str → Option Value} (I : Inv X pins σ H s) (e : H a = some (exo a C none)) (keep : ∀ b o, b ≠ a → s.heap.get? b = some o → h'.get? b = some o) (dn : s.heap.objs.size ≤ dx) (dne : dx ≠ a)
    {t1 : Addr} (hx : h'.get? a = some ({ cls := .ref C, dict := some dx, data := .fields #[.ref t1, .none, .none, .none, .bool false, .none] } : Obj)) (hn : h'.Ns1 dx mA) (r : ∀ g, RelO (fs.lookup g) (mA g)) :
    H dx = none ∧ Inv X pins σ (upd (upd H dx (exd dx fs)) a (exo a C (some dx))) { s with heap := h', toks := t' } := by
  have free : H dx = none := I.hok.fresh dn
  obtain ⟨hp, gs, dr, tk, os⟩ := s
  have off : ∀ {b : Addr} {o : Obj}, hp.get? b = some o → b ≠ dx := fun {b o} z => Nat.ne_of_lt (Nat.lt_of_lt_of_le (Heap.lt_size z) dn)
  have nota : ∀ {b : Addr}, H b = none → b ≠ a := fun {b} n z => by
    rw [z, e] at n
    cases n
  have stays : ∀ {b : Addr} {o : HO}, H b = some o → exo a C none ≠ o → upd (upd H dx (exd dx fs)) a (exo a C (some dx)) b = some o := fun {b o} z n => by
    rw [upd_ne (at_ne e z n), upd_ne (ne_of_none z free)]
    exact z
  refine ⟨free, I.un (t' := t') (h' := h') ?_ ?_⟩
  · refine { keep := fun b o z n _ _ => keep b o (nota n) z, slot := fun b o z n _ _ => ⟨o.slots, keep b o (nota n) z⟩, free := ?_, there := ?_, tups := fun b xs z => stays z exo_tup, frzs := fun b o v z => stays z exo_frz, tbls := fun b ps z => ⟨#[], ?_⟩ }
    · intro b o z n _
      rw [upd_ne (nota n), upd_ne (off z)]
      exact n
    · intro b o z _
      by_cases hb : b = a
      · subst hb
        exact ⟨_, hx⟩
      · exact ⟨o, keep b o hb z⟩
    · rw [stays z exo_tbl]
      simp
  · intro b o z
    by_cases hb : b = a
    · subst hb
      rw [upd_same] at z
      cases z
      exact exo_ok hx
    rw [upd_ne hb] at z
    by_cases hd : b = dx
    · subst hd
      rw [upd_same] at z
      cases z
      exact exd_ok hn r
    rw [upd_ne hd] at z
    refine (I.hok b o z).stay (fun c v hc w => keep c v ?_ w) (fun c hc => stays hc exo_own) (fun c xs hc => stays hc exo_tup)
    rcases hc with hc | hc
    · rw [hc]
      exact hb
    · exact at_ne e hc exo_own
variable {Q : Unit → Shared → Prop} {E : Value → Shared → Prop} {A : Around}
theorem store_first (b : Bse B nw ini tl) (T : Own X.K nw tl C) (I : Inv X pins σ H s) (e : H a = some (exo a C none)) (no : PySem.W.findIn X.K (.ref C) f = some none) (ry : RelV y u)
    (h : ∀ dx s', H dx = none → dx ≠ a → Inv X pins σ (upd (upd H dx (exd dx [(f, y)])) a (exo a C (some dx))) s' → Q () s') : wpAny (model X.prog X.w) A (setAttr (.ref a) f u) Q E s := by
  obtain ⟨cd, cs, hcd, hm, hh⟩ := T.data
  obtain ⟨t1, ho⟩ := exo_at I.hok e
  have I0 := I
  obtain ⟨hp, gs, dr, tk, os⟩ := s
  have J : PySem.W.InstAt hp a ({ cls := .ref C, dict := none, data := .fields #[.ref t1, .none, .none, .none, .bool false, .none] } : Obj) C none := ⟨ho, rfl, rfl, trivial⟩
  refine PySem.W.set_plain I.kIn J T.sa (put_field b I.kIn J hcd hm hh no (.inl ⟨rfl, fun h' tk' dx k dn dne hx hn => ?_⟩))
  obtain ⟨fr, K'⟩ := laid_dict (t' := tk') (fs := [(f, y)]) I0 e k dn dne hx hn (relO_put (fs := []) ry fun g => True.intro)
  exact h dx _ fr dne K'
theorem store_more (b : Bse B nw ini tl) (T : Own X.K nw tl C) (I : Inv X pins σ H s) (e : H a = some (exo a C (some dx))) (ed : H dx = some (exd dx fs)) (hl : fs.length ≤ 900) (no : PySem.W.findIn X.K (.ref C) f = some none) (ry : RelV y u)
    (h : ∀ s', Inv X pins σ (upd H dx (exd dx ((f, y) :: fs))) s' → Q () s') : wpAny (model X.prog X.w) A (setAttr (.ref a) f u) Q E s := by
  obtain ⟨cd, cs, hcd, hm, hh⟩ := T.data
  obtain ⟨t1, ho⟩ := exo_at I.hok e
  obtain ⟨mA, hns, rel⟩ := exd_at I.hok ed
  have hw := within_of rel
  have I0 := I
  obtain ⟨hp, gs, dr, tk, os⟩ := s
  obtain ⟨oD, _, _, hoD, _, _⟩ := hns.count hw
  have J : PySem.W.InstAt hp a ({ cls := .ref C, dict := some dx, data := .fields #[.ref t1, .none, .none, .none, .bool false, .none] } : Obj) C (some oD) := ⟨ho, rfl, rfl, hoD⟩
  refine PySem.W.set_plain I.kIn J T.sa (put_field b I.kIn J hcd hm hh no (.inr ⟨dx, mA, _, rfl, hns, hw, by rw [List.length_map]; omega, fun h' tk' k hn => ?_⟩))
  have there : ∃ o, h'.get? dx = some o := let ⟨o, _, _, e', _⟩ := hn; ⟨o, e'⟩
  exact h _ (I0.write (t' := tk') (x := dx) (e := dx) (o := exd dx ((f, y) :: fs)) (by rw [ed]; exact True.intro) (.inl rfl) k there (exd_ok hn (relO_put ry rel)))
/-- the built-in class's __init__: nothing of it is told -/
theorem base_init {us : List Value} {Q : Value → Shared → Prop} (b : Bse B nw ini tl) (T : Own X.K nw tl C) (I : Inv X pins σ H s) (e : H a = some (exo a C none)) (hl : us.length ≤ sizeLine) (h : ∀ s', Inv X pins σ H s' → Q .none s') :
    wpAny (model X.prog X.w) A (call (.builtin ini) (.ref a :: us)) Q E s := by
  obtain ⟨nm, q, N, bs, cs, sn, sub, ab, col, dd, k0, k1, k2, k3, k5, hC⟩ := T.cls
  obtain ⟨t1, ho⟩ := exo_at I.hok e
  obtain ⟨hp, gs, dr, tk, os⟩ := s
  refine wpAny_call (PySem.HandSPX.init_base b.fct (fun Y => mro_has Y cs) (I.kIn _ _ hC) ho hl fun h' t2 k hx => ?_)
  have J := I.write (t' := tk) (x := a) (e := a) (o := exo a C none) (by rw [e]; exact True.intro) (.inl rfl) k ⟨_, hx⟩ (exo_ok hx)
  have same : upd H a (exo a C none) = H := funext fun c => by
    by_cases hc : c = a
    · rw [hc, upd_same, e]
    · rw [upd_ne hc]
  rw [same] at J
  exact h _ J
end
/-! readings -/
def tBi (K : PySem.W.Frag) (nw : String) (tl : List Value) (ta : TA) : TE := fun σ H Q => ta σ H fun vs H1 => ∃ (a C : Addr) (ws : List V), vs = .ref a :: ws ∧ ws.length ≤ 1000 ∧ Own K nw tl C ∧ H1 a = some (exo a C none) ∧ Q .non H1
def tSt (K : PySem.W.Frag) (nw : String) (tl : List Value) (f : Str) (to te : TE) : TS := fun D σ H => te σ H fun y H1 => to σ H1 fun x H2 => ∃ a C : Addr, x = .ref a ∧ Own K nw tl C ∧ PySem.W.findIn K (.ref C) f = some none ∧
  ((H2 a = some (exo a C none) ∧ ∀ dx, H2 dx = none → dx ≠ a → D.nx σ (upd (upd H2 dx (exd dx [(f, y)])) a (exo a C (some dx)))) ∨
    ∃ (dx : Addr) (fs : List (Str × V)), H2 a = some (exo a C (some dx)) ∧ H2 dx = some (exd dx fs) ∧ fs.length ≤ 900 ∧ D.nx σ (upd H2 dx (exd dx ((f, y) :: fs))))
section
variable {X : Cx} {o e : Expr} {es : List Expr} {to te : TE} {ta : TA} {f : Str} {p p' p1 p2 pos : Pos} {B nw ini : String} {tl : List Value}
/-- B.__init__(self, ..), B the built-in class -/
theorem pe_binit {x : Str} {pl : Sem Bool} (b : Bse B nw ini tl) (hx : bootBuiltins x = some (.type B)) (hg : Gl X x) (hm : X.mg x = none) (vB : PySem.W.findCls X.K (.type B) (.type "type") "__init__" = some (.val (.builtin ini))) (ha : PA X (e :: es) ta)
    (hn : x ≠ "__name__" := by decide) (hd : (x == ("__debug__" : Str)) = false := by decide) (st : Manifest.isStub B = false := by decide +kernel) (hh : PySem.W.handedIn (.builtin ini) = true := by decide +kernel)
    (hc : eval (.Call (.Attribute (.Name x p1) "__init__" p2) (e :: es) [] pos) X.env = (do
      let cls ← eval (.Name x p1) X.env
      standAt p2.atName
      let (f, first) ← holding [cls] (getMethod cls "__init__" pl)
      callWith pos f first (backTo pos (starEach (e :: es) X.env)) (backToKw pos (keywordEach [] X.env))) := by rfl)
    (he : starEach (e :: es) X.env = (false, eval e X.env) :: starEach es X.env := by rfl) (hpl : (backTo pos (starEach es X.env)).any (·.1) = false := by rfl) :
    PE X (.Call (.Attribute (.Name x p1) "__init__" p2) (e :: es) [] pos) (tBi X.K nw tl ta) := by
  refine ⟨fun pins s σ H Q I h => ?_⟩
  obtain ⟨m, fr⟩ := I.fr
  refine PySem.W.methodCall_KW (ld_blt I hg hm hx (PySem.W.method_type fr I.ok.mod.kin b.typ st vB hh ?_) hn hd) hc
  show wpAny _ _ (callWith pos (Value.builtin ini) [] (backTo pos (starEach (e :: es) X.env)) []) _ _ _
  refine PyProof.Rows.callWith_method1 (thn (ha.run pos pins _ σ H _ (I.tok _) h) ?_) he hpl
  rintro us s1 ⟨vs, H1, I1, r1, a, C, ws, rfl, hl, T, ea, q⟩
  match r1 with
  | .cons (b := u0) (l₂ := ur) ra rw' =>
    cases (show u0 = Value.ref a from ra)
    exact base_init b T I1 ea (by rw [← Paired.length rw', sizeLine_eq]; omega) fun s' J => ⟨.non, H1, J, rfl, q⟩
/-- self.f = e -/
theorem ps_st (b : Bse B nw ini tl) (ho : PE X o to) (he : PE X e te) (hs : swapsWith e (some (.Attribute o f p')) pos.line X.env = pure false := by rfl) : PS X (.Assign [.Attribute o f p'] e pos) (tSt X.K nw tl f to te) := by
  refine ⟨fun pins s σ H D I h => plainObj_wpAny_Assign_Attribute (thn (he.run pins s σ H _ I h) ?_) hs⟩
  rintro v s1 ⟨y, H1, I1, r1, q1⟩
  refine thn (ho.run pins s1 σ H1 _ I1 q1) ?_
  rintro u s2 ⟨x, H2, I2, r2, a, C, rfl, T, no, q⟩
  cases (show u = Value.ref a from r2)
  rcases q with ⟨ea, q⟩ | ⟨dx, fs, ea, ed, hl, q⟩
  · exact store_first b T I2 ea no r1 fun dx s' n ne J => ⟨σ, _, J, q dx n ne⟩
  · exact store_more b T I2 ea ed hl no r1 fun s' J => ⟨σ, _, J, q⟩
section
variable {CX : CXT} {x : Str} {C fI : Addr} {k : Nat} {fd : FuncData} {ps : List Str} {sp : Sp}
/-- the made error, its __init__ having run -/
theorem made_run {pins : List (Addr × Obj)} {σ : L2.St} {H1 : Hp} {Q : XK} {s1 : Shared} {us : List Value} {vs : List V} (b : Bse B nw ini tl) (T : Own X.K nw tl C) (iC : PySem.W.findIn X.K (.ref C) "__init__" = some (some (.ref fI))) (tI : PySem.W.typeIn X.K (.ref fI) = some (.type "function"))
    (G : FnOk X.prog X.w X.K X.mg X.base CX k fI fd ps sp) (hr : Room (k + 1) X.A) (hb : Binds X.K fd ps []) (hx : Passes CX X (fun _ _ _ => False)) (I1 : Inv X pins σ H1 s1) (r1 : Vals vs us) (hz : vs.length ≤ 1000)
    (q1 : ∀ a, H1 a = none → sp (.ref a :: vs) (upd H1 a (exo a C none)) (fun v H2 => v = .non ∧ ∃ (d : Addr) (fs : List (Str × V)), H2 a = some (exo a C (some d)) ∧ H2 d = some (exd d fs) ∧ H1 d = none ∧ Q (.ref C) (some d) (upd (del H2 a) d (.xd fs))) (fun _ _ _ => False)) :
    wpAny (model X.prog X.w) X.A (call (.ref C) us) (MkP X pins σ Q) X.xe s1 := by
  obtain ⟨nm, q, N, bs, cs, sn, sub, ab, col, dd, k0, k1, k2, k3, k5, hC⟩ := T.cls
  obtain ⟨hp, gs, dr, tk, os⟩ := s1
  have hsz : hp.objs.size ≤ hp.objs.size + 1 := Nat.le_succ _
  have want := q1 (hp.objs.size + 1) (I1.hok.fresh hsz)
  generalize hh2 : (hp.push (PySem.W.kdv_tup us)).push (PySem.HandSPX.excO C hp.objs.size) = h2
  have kk : ∀ c o, hp.get? c = some o → h2.get? c = some o := fun c o e => by
    rw [← hh2]
    exact Heap.get?_push_of_some _ (Heap.get?_push_of_some _ e)
  have there : h2.get? (hp.objs.size + 1) = some (PySem.HandSPX.excO C hp.objs.size) := by
    rw [← hh2]
    heap_get
  have I2 : Inv X pins σ (upd H1 (hp.objs.size + 1) (exo (hp.objs.size + 1) C none)) ⟨h2, gs, dr, tk, os⟩ := I1.laid (t' := tk) (h' := h2) kk hsz (exo_ok there)
  have r2 : Vals (V.ref (hp.objs.size + 1) :: vs) (Value.ref (hp.objs.size + 1) :: us) := .cons rfl r1
  have hl : (Value.ref (hp.objs.size + 1) :: us).length = ps.length := (Paired.length r2).symm.trans (G.len _ _ _ _ want)
  have few : us.length ≤ sizeLine := by rw [← Paired.length r1, sizeLine_eq]; omega
  refine wpAny_call (PySem.HandSPX.call_own b.fct (fun Y => mro_has Y cs) (I1.kIn _ _ hC) (PySem.W.looks_findIn I1.kIn iC) (fun self => PySem.W.bind_fn I1.kIn self tI) few ?_)
  rw [hh2]
  have bt := hb ⟨h2, gs, dr, tk, os⟩ (Value.ref (hp.objs.size + 1) :: us) I2.kIn (by rw [List.append_nil]; exact hl)
  rw [List.append_nil] at bt
  refine codeAny_mono (G.run _ X.stack _ _ ⟨Value.ref (hp.objs.size + 1) :: us, []⟩ _ _ _ (fun _ _ _ => False) (hr.make C us []) (I2.env0.make C us []) bt r2 want) fun r s' got => ?_
  match r, got with
  | .error er, got => exact hx pins σ _ _ er s' I2 got
  | .ok (.ret u), got =>
    obtain ⟨v, H2, os2, bare2, un2, hok2, rv, ev, d, fs, ea, ed, hd1, q2⟩ := got
    subst ev
    obtain ⟨hh, g2, d2, t2, os'⟩ := s'
    exact ⟨rv, mk_end (raises_own T.exC T.tyC) I1 hsz kk un2 hok2 os2 bare2 ea ed hd1 q2⟩
  | .ok .next, got => exact False.elim got
  | .ok .brk, got => exact False.elim got
  | .ok .cont, got => exact False.elim got
/-- C(e, ..) -/
theorem pmk_err (b : Bse B nw ini tl) (T : Own X.K nw tl C) (iC : PySem.W.findIn X.K (.ref C) "__init__" = some (some (.ref fI))) (tI : PySem.W.typeIn X.K (.ref fI) = some (.type "function"))
    (G : FnOk X.prog X.w X.K X.mg X.base CX k fI fd ps sp) (hr : Room (k + 1) X.A) (hb : Binds X.K fd ps []) (hx : Passes CX X (fun _ _ _ => False)) (hg : Gl X x) (hm : X.mg x = some (.ref C)) (ha : PA X (e :: es) ta)
    (hd : (x == ("__debug__" : Str)) = false := by decide) (he : starEach (e :: es) X.env = (false, eval e X.env) :: starEach es X.env := by rfl) (hpl : (backTo pos (starEach es X.env)).any (·.1) = false := by rfl) :
    PMk X (.Call (.Name x p) (e :: es) [] pos) (tMkO C sp [] ta) := by
  intro pins s σ H Q I h
  refine wpAny_Call_Name_kw (ld_glob I hg hm ?_ hd)
  refine PySem.W.callWith_K (h₀ := X.base) I.ok.mod.kin T.kC (thn (ha.run pos pins s σ H _ I h) ?_) he hpl
  rintro us s1 ⟨vs, H1, I1, r1, hz, q1⟩
  refine ⟨I1.kIn, ?_⟩
  show wpAny _ _ (call (.ref C) us) _ _ _
  refine made_run b T iC tI G hr hb hx I1 r1 hz fun a na => ?_
  have := q1 a na
  rw [List.append_nil] at this
  exact this
/-- C() -/
theorem pmk_err0 (b : Bse B nw ini tl) (T : Own X.K nw tl C) (iC : PySem.W.findIn X.K (.ref C) "__init__" = some (some (.ref fI))) (tI : PySem.W.typeIn X.K (.ref fI) = some (.type "function"))
    (G : FnOk X.prog X.w X.K X.mg X.base CX k fI fd ps sp) (hr : Room (k + 1) X.A) (hb : Binds X.K fd ps []) (hx : Passes CX X (fun _ _ _ => False)) (hg : Gl X x) (hm : X.mg x = some (.ref C)) (hd : (x == ("__debug__" : Str)) = false := by decide) :
    PMk X (.Call (.Name x p) [] [] pos) (tMkO C sp [] tNil) := by
  intro pins s σ H Q I h
  obtain ⟨_, q1⟩ := h
  refine wpAny_Call_Name_kw (ld_glob I hg hm ?_ hd)
  refine PySem.W.callWith_K0 I.kIn T.kC ?_
  show wpAny _ _ (call (.ref C) []) _ _ _
  exact made_run b T iC tI G hr hb hx I .nil (Nat.zero_le _) q1
end
end
end Hw

set_option Elab.async false
set_option linter.all false
set_option maxRecDepth 100000
set_option maxHeartbeats 4000000
namespace Hw
open PySem PySem.Spec PyProof.Rows L2
/-! C.m(e, ..): a def of a class, called off the class -/
section
variable {X : Cx} {CX : CXT} {k : Nat} {f C : Addr} {fd : FuncData} {ps : List Str} {sp : Sp} {dvs : List V} {ds : List Value} {E : XK} {x m : Str} {p1 p2 pos : Pos} {e : Expr} {es : List Expr} {t : TA} {mc : Value} {pl : Sem Bool}
theorem pe_callC (r : ClX.CRead X.K C mc) (c : ClX.CVal X.K C mc m (.ref f) (.ref f)) (F : FnOk X.prog X.w X.K X.mg X.base CX k f fd ps sp) (hr : Room k X.A)
    (hg : Gl X x) (hm : X.mg x = some (.ref C)) (hk : PySem.W.keepIn X.K (.ref f) = true) (hb : Binds X.K fd ps ds) (hd : Vals dvs ds) (hx : Passes CX X E) (ha : PA X (e :: es) t)
    (hdb : (x == ("__debug__" : Str)) = false := by decide)
    (he : starEach (e :: es) X.env = (false, eval e X.env) :: starEach es X.env := by rfl) (hpl : (backTo pos (starEach es X.env)).any (·.1) = false := by rfl)
    (ht : eval (.Call (.Attribute (.Name x p1) m p2) (e :: es) [] pos) X.env = (do
      let cls ← eval (.Name x p1) X.env
      standAt p2.atName
      let (f, first) ← holding [cls] (getMethod cls m pl)
      callWith pos f first (backTo pos (starEach (e :: es) X.env)) (backToKw pos (keywordEach [] X.env))) := by rfl) :
    PE X (.Call (.Attribute (.Name x p1) m p2) (e :: es) [] pos) (tCall sp dvs E t) := by
  constructor
  intro pins s σ H Q I h
  refine PySem.W.methodCall_KW (pl := pl) (ld_glob I hg hm ?_ hdb) ht
  refine PySem.W.method_cls I.kIn r.ga (ClX.getcval_ok I r c fun s' J => ?_)
  refine PySem.W.callWith_K (h₀ := X.base) (first := []) J.ok.mod.kin hk (thn (ha.run pos pins s' σ H _ J h) ?_) he hpl
  rintro us s1 ⟨vs, H1, I1, rv, q⟩
  exact ⟨I1.kIn, run_fn F hr hb hd hx I1 rv q⟩
end
/-! what the __init__ of an error leaves -/
/-- v, told as a text -/
inductive ArgT : V → Str → Prop
  | str (y : Str) (h : (reprText y).length ≤ 200) : ArgT (.str y) (reprText y)
  | int (i : Int) (h : i.natAbs < 2 ^ 100) : ArgT (.int i) (toString i)
theorem ArgT.len {v : V} {y : Str} (h : ArgT v y) : y.length ≤ 200 := by
  cases h with
  | str y h => exact h
  | int i h =>
    have lg : i.natAbs.log2 < 100 := by
      by_cases z : i.natAbs = 0
      · rw [z]; decide
      · exact (Nat.log2_lt z).mpr h
    have : (Str.ofString (toString i)).length ≤ 101 := by
      rw [PySem.ofString_length]
      exact int_text_length_le (by decide) lg
    exact Nat.le_trans this (by decide)
theorem ArgT.fmt {H1 : Hp} {v : V} {y : Str} {Q : VK} (h : ArgT v y) (q : Q (.str y) H1) : (∃ y : Str, v = .str y ∧ (reprText y).length ≤ sizeLine ∧ Q (.str (reprText y)) H1) ∨ ∃ i : Int, v = .int i ∧ i.natAbs.log2 < 1920 ∧ Q (.str (toString i)) H1 := by
  have l := h.len
  cases h with
  | str y h => exact .inl ⟨y, rfl, Nat.le_trans h (by decide +kernel), q⟩
  | int i h =>
    refine .inr ⟨i, rfl, ?_, q⟩
    by_cases z : i.natAbs = 0
    · rw [z]; decide
    · exact Nat.lt_trans ((Nat.log2_lt z).mpr h) (by decide)
theorem fmtR_var {i : Nat} {σ : L2.St} {H : Hp} {v : V} {y : Str} {Q : VK} (h : ArgT v y) (hs : σ[i]? = some (some v)) (q : Q (.str y) H) : tFmtR (tVar i) σ H Q := ⟨v, hs, ArgT.fmt h q⟩
def NoF (K : PySem.W.Frag) (C : Addr) (fs : List (Str × V)) : Prop := ∀ p ∈ fs, PySem.W.findIn K (.ref C) p.1 = some none
/-- of the two upper classes: word, about -/
def spBase (K : PySem.W.Frag) (nw : String) (tl : List Value) : Sp := fun vs H Q _ => ∃ (a C : Addr) (wd ab : Str), vs = [.ref a, .str wd, .str ab] ∧ wd.length + ab.length ≤ 1000 ∧ Own K nw tl C ∧ PySem.W.findIn K (.ref C) "word" = some none ∧ H a = some (exo a C none) ∧
  ∀ dx, H dx = none → dx ≠ a → Q .non (upd (upd H dx (exd dx [("word", .str wd)])) a (exo a C (some dx)))
/-- of a class below: its fields, the latest first -/
def spErr (K : PySem.W.Frag) (nw : String) (tl : List Value) (n : Nat) (fs : List V → List (Str × V)) : Sp := fun vs H Q _ => ∃ (a C : Addr) (ws : List V), vs = .ref a :: ws ∧ ws.length = n ∧ (∀ v ∈ ws, ∃ y, ArgT v y) ∧ Own K nw tl C ∧ NoF K C (fs ws) ∧ H a = some (exo a C none) ∧
  ∀ dx, H dx = none → dx ≠ a → Q .non (upd (upd H dx (exd dx (fs ws))) a (exo a C (some dx)))
theorem upd_back {H : Hp} {a dx : Addr} {x y z : HO} (n : dx ≠ a) : upd (upd (upd H dx x) a y) dx z = upd (upd H dx z) a y := by
  funext b
  by_cases h1 : b = dx
  · subst h1
    rw [upd_same, upd_ne n, upd_same]
  · rw [upd_ne h1]
    by_cases h2 : b = a
    · subst h2
      rw [upd_same, upd_same]
    · rw [upd_ne h2, upd_ne h2, upd_ne h1, upd_ne h1]
/-- C(..), as raise asks it -/
theorem err_end {K : PySem.W.Frag} {nw : String} {tl : List Value} {n : Nat} {fs : List V → List (Str × V)} {C : Addr} {ws : List V} {H : Hp} {Q : XK} (hl : ws.length = n) (few : n ≤ 1000) (ar : ∀ v ∈ ws, ∃ y, ArgT v y) (T : Own K nw tl C) (nf : NoF K C (fs ws)) (q : ∀ d, H d = none → Q (.ref C) (some d) (upd H d (.xd (fs ws)))) :
    ws.length ≤ 1000 ∧ ∀ a, H a = none → spErr K nw tl n fs (.ref a :: (ws ++ [])) (upd H a (exo a C none)) (fun v H2 => v = .non ∧ ∃ (d : Addr) (fs : List (Str × V)), H2 a = some (exo a C (some d)) ∧ H2 d = some (exd d fs) ∧ H d = none ∧ Q (.ref C) (some d) (upd (del H2 a) d (.xd fs))) (fun _ _ _ => False) := by
  refine ⟨by omega, fun a na => ⟨a, C, ws, by rw [List.append_nil], hl, ar, T, nf, upd_same, fun dx n1 n2 => ?_⟩⟩
  have nd : H dx = none := by
    rw [upd_ne n2] at n1
    exact n1
  refine ⟨rfl, dx, _, upd_same, by rw [upd_ne n2, upd_same], nd, ?_⟩
  have eh : upd (del (upd (upd (upd H a (exo a C none)) dx (exd dx (fs ws))) a (exo a C (some dx))) a) dx (.xd (fs ws)) = upd H dx (.xd (fs ws)) := by
    funext b
    by_cases h1 : b = dx
    · rw [h1, upd_same, upd_same]
    · rw [upd_ne h1, upd_ne h1]
      by_cases h2 : b = a
      · rw [h2, del_same, na]
      · rw [del_ne h2, upd_ne h2, upd_ne h1, upd_ne h2]
  rw [eh]
  exact q dx nd
/-- an error's fields, the latest first -/
def errF (x : Str) (ps : List Str) (ws : List V) : List (Str × V) := (ps.zip ws).reverse ++ [(("word" : Str), V.str x)]
theorem errF_mem {x : Str} {ps : List Str} {ws : List V} {q : Str × V} (h : q ∈ errF x ps ws) : q.1 ∈ (("word" : Str) :: ps) := by
  rcases List.mem_append.mp h with h | h
  · exact List.mem_cons_of_mem _ (List.of_mem_zip (List.mem_reverse.mp h)).1
  · cases List.mem_singleton.mp h
    exact List.mem_cons_self
/-- what is known of an error's class, its def and what it leaves -/
structure Er (P : Program) (w : World) (K : PySem.W.Frag) (mg : Str → Option Value) (base : Heap) (k : Nat) (nw : String) (tl : List Value) (x : Str) (ps : List Str) (C fI : Addr) (fd : FuncData) : Prop where
  T : Own K nw tl C
  g : mg x = some (.ref C)
  iC : PySem.W.findIn K (.ref C) "__init__" = some (some (.ref fI))
  tI : PySem.W.typeIn K (.ref fI) = some (.type "function")
  G : FnOk P w K mg base CX0 k fI fd (("self" : Str) :: ps) (spErr K nw tl ps.length (errF x ps))
  b : Binds K fd (("self" : Str) :: ps) []
  nf : ∀ f ∈ (("word" : Str) :: ps), PySem.W.findIn K (.ref C) f = some none
section
variable {X : Cx} {B nw ini : String} {tl : List Value} {x : Str} {ps : List Str} {C fI : Addr} {fd : FuncData} {k : Nat} {p pos : Pos} {e : Expr} {es : List Expr} {ta : TA}
theorem pmk_er (b : Bse B nw ini tl) (r : Er X.prog X.w X.K X.mg X.base k nw tl x ps C fI fd) (hr : Room (k + 1) X.A) (hg : Gl X x) (ha : PA X (e :: es) ta)
    (hd : (x == ("__debug__" : Str)) = false := by decide) (he : starEach (e :: es) X.env = (false, eval e X.env) :: starEach es X.env := by rfl) (hpl : (backTo pos (starEach es X.env)).any (·.1) = false := by rfl) :
    PMk X (.Call (.Name x p) (e :: es) [] pos) (tMkO C (spErr X.K nw tl ps.length (errF x ps)) [] ta) := pmk_err b r.T r.iC r.tI r.G hr r.b pass0 hg r.g ha hd he hpl
theorem pmk_er0 (b : Bse B nw ini tl) (r : Er X.prog X.w X.K X.mg X.base k nw tl x ps C fI fd) (hr : Room (k + 1) X.A) (hg : Gl X x) (hd : (x == ("__debug__" : Str)) = false := by decide) :
    PMk X (.Call (.Name x p) [] [] pos) (tMkO C (spErr X.K nw tl ps.length (errF x ps)) [] tNil) := pmk_err0 b r.T r.iC r.tI r.G hr r.b pass0 hg r.g hd
end
theorem Er.fin {P : Program} {w : World} {K : PySem.W.Frag} {mg : Str → Option Value} {base : Heap} {nw : String} {tl : List Value} {x : Str} {ps : List Str} {C fI : Addr} {fd : FuncData} {k : Nat} {ws : List V} {H : Hp} {Q : XK}
    (r : Er P w K mg base k nw tl x ps C fI fd) (hl : ws.length = ps.length) (few : ps.length ≤ 1000) (ar : ∀ v ∈ ws, ∃ y, ArgT v y) (q : ∀ d, H d = none → Q (.ref C) (some d) (upd H d (.xd (errF x ps ws)))) :
    ws.length ≤ 1000 ∧ ∀ a, H a = none → spErr K nw tl ps.length (errF x ps) (.ref a :: (ws ++ [])) (upd H a (exo a C none)) (fun v H2 => v = .non ∧ ∃ (d : Addr) (fs : List (Str × V)), H2 a = some (exo a C (some d)) ∧ H2 d = some (exd d fs) ∧ H d = none ∧ Q (.ref C) (some d) (upd (del H2 a) d (.xd fs))) (fun _ _ _ => False) :=
  err_end hl few ar r.T (fun q hq => r.nf _ (errF_mem hq)) q
end Hw

set_option Elab.async false
set_option linter.all false
set_option maxRecDepth 100000
set_option maxHeartbeats 4000000
namespace Hw
open PySem PySem.Spec PyProof.Rows L2 LamX
/-! a law whose def makes lambdas: its code object is known -/
theorem ok_at {P : Program} {w : World} {K : PySem.W.Frag} {mg : Str → Option Value} {base : Heap} {x qual : Str} {st : Stmt} {f c : Addr} {oc kV doc pm ct : Value} {od an : Option Addr} {osl : Array (Option Value)} {N ps : List Str} {k : Nat} {sp : Sp}
    (lk : K.lookup f = some ⟨oc, od, .func (PySem.W.fnOf x qual (defArgs st) (defBody st) (defScope st) .none kV doc pm an (.ref c) ct), osl⟩) (hcd : PySem.W.codeIn K (.ref c) qual = true) (S : FnScope N ps (defScope st)) (len : ∀ vs H Q E, sp vs H Q E → vs.length = ps.length)
    (body : ∀ (A : Around) (outer : List Env) (s : Shared) (H : Hp) (vs : List V) (Q : VK) (E : XK), Room k (A.deeper (envOfC qual (defScope st) s.heap.objs.size f (.ref c))) → sp vs H Q E →
      ∃ t, PSs (cxOf CX0 P w K mg base N qual (defScope st) f (.ref c) A outer s H E).nox (defBody st) t ∧ t { nx := fun _ H' => Q .non H', rt := Q } (start N vs) H) :
    FnOk P w K mg base CX0 (k + 1) f (PySem.W.fnOf x qual (defArgs st) (defBody st) (defScope st) .none kV doc pm an (.ref c) ct) ps sp :=
  fn_of lk hcd S len fun A outer s H vs Q E hr h => let ⟨t, p, q⟩ := body A outer s H vs Q E hr h; ⟨t, p.nox, q⟩
/-- the end of such a law: the tables of its code objects stand empty at the head -/
theorem walk_law {l : PySem.W.OpenLaw} {n k : Nat} {q : Program} {loose : List Str} {XP : (Str → Option Value) → Heap → Prop} {YP : World → Heap → Prop} {d : DefRec} {K : Params → PySem.W.Frag} {CX : World → CXT} {x : Str}
    (hn : l.most = some n) (hn2 : n ≤ sizeLine) (hdf : d.params.defaults = []) (hr : Room k callerA) (hY : ∀ (w : World) (h : Heap), YP w h → (K w.params).In h)
    (F : ∀ (w : World) (mg : Str → Option Value) (fa : Addr) (h : Heap), (K w.params).In h → h.Ns mainGlobals mg → mg d.name = some (.ref fa) →
      (∀ (y : Str) (e : DefRec) (c P : Addr), (recsOf q).find? (fun e => e.name == y) = some e → PySem.W.tabIn (K w.params) y = some (c, P) → PySem.W.CodeHd h c P ∧ h.get? P = some { cls := .none, data := .fields #[] }) → LawAtS l w (K w.params) (CX w) k n x mg fa h)
    (hCX : ∀ (w : World) (H : Hp) (s : Shared) (e : Value) (s' : Shared), CX w [] H s (fun _ _ _ => False) e s' → False) :
    PySem.W.WalkO q loose XP YP l.row.toRowW d [] (fun f vs => PySem.call f vs) := by
  refine Att.attach_callB hn hdf fun w s₀ s₁ mg mb fa o pm cd doc a vs ns G Y ho hd hcd hmg hobj hints hlen hbits hg => ?_
  have KX := hY w _ Y
  obtain ⟨fd, cs, sp, hT, nT, C, hb, hsp, hF⟩ := F w mg fa _ KX G.T.g hmg fun y e c P h1 h2 => PySem.W.tab_of G.T KX h1 h2
  exact law_callTs KX G.T.g G.T.b G.T.builtins G.T.nolimit hg hT nT C G.T.bmain hobj hints (Nat.le_trans hlen hn2) hr hF hb (fun H hH hS => hsp H a ns hlen hbits hH hS) fun H e s' => hCX w H s₁ e s'
/-! what a clause makes of an error -/
section
variable {K : PySem.W.Frag} {i : Nat} {W : WX} {D : Ends} {cls : Value} {d : Option Addr} {σ : L2.St} {H : Hp}
theorem why_at {cs : List Value} {ts : Suit} {l2 : List (List Value × Suit)} (h : PySem.W.exmAny K cls cs = some true) (q : ∀ a, H a = none → ts a cls d (outN i D) (σ.set i (some (.ref a))) H) : ∀ {l1 : List (List Value × Suit)}, (∀ p ∈ l1, PySem.W.exmAny K cls p.1 = some false) → wWhy K i W D (l1 ++ (cs, ts) :: l2) cls d σ H
  | [], _ => ⟨true, h, fun _ => q, fun z => nomatch z⟩
  | (c1, t1) :: l1, no => ⟨false, no _ List.mem_cons_self, fun z => (nomatch z), fun _ => why_at h q fun p hp => no p (List.mem_cons_of_mem _ hp)⟩
end
/-- the fields of a caught error, in a tuple -/
def tFs (K : PySem.W.Frag) (fs : List Str) : Suit := fun a cls d => tRet (tTup (fs.foldr (fun f t => tCons (tXa K a cls d f 1) t) tNil))
section
variable {K : PySem.W.Frag} {C dd a : Addr} {xs : List (Str × V)} {H : Hp} {σ : L2.St}
theorem fs_run (xf : XfC K C) (hd : H dd = some (.xd xs)) (hs : σ[1]? = some (some (.ref a))) : ∀ {fs : List Str} {vs : List V} {Q : List V → Hp → Prop}, Paired (fun f v => PySem.W.findIn K (.ref C) f = some none ∧ xs.lookup f = some v) fs vs → Q vs H → (fs.foldr (fun f t => tCons (tXa K a (.ref C) (some dd) f 1) t) tNil) σ H Q
  | _, _, _, .nil, q => q
  | _, _, _, .cons h r, q => ⟨hs, C, rfl, xf, h.1, dd, xs, _, rfl, hd, h.2, fs_run xf hd hs r q⟩
theorem fs_fin {fs : List Str} {vs : List V} {D : Ends} (xf : XfC K C) (hd : H dd = some (.xd xs)) (hs : σ[1]? = some (some (.ref a))) (p : Paired (fun f v => PySem.W.findIn K (.ref C) f = some none ∧ xs.lookup f = some v) fs vs) (small : vs.length ≤ 1000) (q : ∀ p, H p = none → D.rt (.ref p) (upd H p (.tup vs))) :
    tFs K fs a (.ref C) (some dd) D σ H := fs_run (Q := fun ys H1 => ys.length ≤ sizeLine ∧ ∀ p, H1 p = none → D.rt (.ref p) (upd H1 p (.tup ys))) xf hd hs p ⟨Nat.le_of_lt (small1000 small), q⟩
end
/-- heaps that differ in tables alone -/
theorem ext_same {H H' : Hp} (s : Same H H') : ExtN H H' := fun b o e _ => s b o e
end Hw

set_option Elab.async false
set_option linter.all false
set_option maxRecDepth 100000
set_option maxHeartbeats 4000000
namespace Hl
open PySem PySem.Spec PyProof.Rows L2
def topS (i : Nat) : Stmt := PySem.Challenge.pw_heedless_k09_rounds_and_rates.main.body.getD i (.Pass ⟨0, 0, 0, 0⟩)
abbrev sDeal : Stmt := topS 50
abbrev sPick : Stmt := topS 51
abbrev sOf : Stmt := topS 52
abbrev sLike : Stmt := topS 53
theorem lg {n : Int} {b : Nat} (h : n.natAbs < 2 ^ b) (h0 : 0 < b) (h9 : b ≤ 9000) : n.natAbs.log2 < 9000 := Nat.lt_of_lt_of_le (PySem.Flt.log2_lt_of h0 h) h9
/-! what a rule does with a number -/
structure OkE (e a : Int) (m : Option Int) : Prop where
  e1 : 1 ≤ e
  e4 : e ≤ 4
  a0 : 0 ≤ a
  a2 : a ≤ 2
  mo : m = none ∨ m = some 1 ∨ m = some 2
def downF (e a : Int) (m : Option Int) (x : Int) : Int :=
  match m with
  | some k => if a + e * k < x then a + e * k else x
  | none => if x < a then x else a + (x - a) % e
def timesF (e a : Int) (m : Option Int) (x : Int) : Int :=
  match m with
  | some k => if k < (if x - a > 0 then x - a else 0) / e then k else (if x - a > 0 then x - a else 0) / e
  | none => (if x - a > 0 then x - a else 0) / e
theorem down_add {e a : Int} {m : Option Int} {x w : Int} (h : OkE e a m) (hx : 0 ≤ x) (hw : 0 ≤ w) : downF e a m (downF e a m x + w) = downF e a m (x + w) := by
  obtain ⟨e1, e4, a0, a2, mo⟩ := h
  have he : e = 1 ∨ e = 2 ∨ e = 3 ∨ e = 4 := by omega
  rcases mo with rfl | rfl | rfl <;> rcases he with rfl | rfl | rfl | rfl <;> simp only [downF] <;> omega
theorem times_add {e a : Int} {m : Option Int} {x w : Int} (h : OkE e a m) (hx : 0 ≤ x) (hw : 0 ≤ w) : timesF e a m (downF e a m x + w) - timesF e a m (downF e a m x) = timesF e a m (x + w) - timesF e a m x := by
  obtain ⟨e1, e4, a0, a2, mo⟩ := h
  have he : e = 1 ∨ e = 2 ∨ e = 3 ∨ e = 4 := by omega
  rcases mo with rfl | rfl | rfl <;> rcases he with rfl | rfl | rfl | rfl <;> simp only [downF, timesF] <;> omega
theorem down_ge {e a : Int} {m : Option Int} {x : Int} (h : OkE e a m) (hx : 0 ≤ x) : 0 ≤ downF e a m x := by
  obtain ⟨e1, e4, a0, a2, mo⟩ := h
  have he : e = 1 ∨ e = 2 ∨ e = 3 ∨ e = 4 := by omega
  rcases mo with rfl | rfl | rfl <;> rcases he with rfl | rfl | rfl | rfl <;> simp only [downF] <;> omega
theorem down_le {e a : Int} {m : Option Int} {x : Int} (h : OkE e a m) (hx : 0 ≤ x) : downF e a m x ≤ 10 := by
  obtain ⟨e1, e4, a0, a2, mo⟩ := h
  have he : e = 1 ∨ e = 2 ∨ e = 3 ∨ e = 4 := by omega
  rcases mo with rfl | rfl | rfl <;> rcases he with rfl | rfl | rfl | rfl <;> simp only [downF] <;> omega
theorem times_mono {e a : Int} {m : Option Int} {x w : Int} (h : OkE e a m) (hx : 0 ≤ x) (hw : 0 ≤ w) : 0 ≤ timesF e a m (x + w) - timesF e a m x ∧ timesF e a m (x + w) - timesF e a m x ≤ x + w := by
  obtain ⟨e1, e4, a0, a2, mo⟩ := h
  have he : e = 1 ∨ e = 2 ∨ e = 3 ∨ e = 4 := by omega
  rcases mo with rfl | rfl | rfl <;> rcases he with rfl | rfl | rfl | rfl <;> simp only [timesF] <;> omega
/-- a positive divisor below 2 ^ 9000 -/
def CDivP (_ j : Int) : Prop := 0 < j ∧ j.natAbs.log2 < 9000
theorem op_fdivP {X : Cx} : OpR X (binaryOp .FloorDiv) (rI CDivP fun i j => .int (i / j)) := opI fun i j _ _ _ _ _ hc q => by
  have h1 : (0 : Int) < j := hc.1
  exact floordiv_int (by omega) (by rw [Int.fdiv_eq_ediv_of_nonneg i (by omega)]; exact q) (.inl (PyProof.noPylong_of_log2 hc.2))
/-- what stands in a deal -/
def d5 (l : Addr) (at' z m c : Int) : HO := .lst [.ref l, .int at', .int z, .int m, .int c]
structure Deal (H : Hp) (p l : Addr) : Prop where
  ex : ∃ (ns : List Int) (a z m c : Int), H p = some (d5 l a z m c) ∧ H l = some (.lst (ns.map V.int)) ∧ l ≠ p ∧ 0 ≤ a ∧ 0 ≤ z ∧ 0 ≤ m ∧ m < 2147483587
theorem upd_upd {H : Hp} {p : Addr} {a b : HO} : upd (upd H p a) p b = upd H p b := by
  funext x
  by_cases h : x = p
  · rw [h, upd_same, upd_same]
  · rw [upd_ne h, upd_ne h, upd_ne h]
theorem same_upd {H : Hp} {p : Addr} {o : HO} (h : H p = none) : Same H (upd H p o) := fun b x e => by
  rw [upd_ne (ne_of_none e h)]
  exact e
theorem ne_of_fresh {H : Hp} {a b : Addr} {o : HO} (h : H a = some o) (n : H b = none) : b ≠ a := fun e => by
  rw [e, h] at n
  cases n
/-- no deal -/
def Nd (o : HO) : Prop := ∀ l a z m c, o ≠ d5 l a z m c
/-- all that is tracked and no deal stays, nothing is let go -/
structure Kp (H H' : Hp) : Prop where
  keep : ∀ b o, Nd o → H b = some o → H' b = some o
  free : ∀ b, H' b = none → H b = none
theorem Kp.refl (H : Hp) : Kp H H := ⟨fun _ _ _ h => h, fun _ h => h⟩
theorem Kp.trans {H H1 H2 : Hp} (a : Kp H H1) (b : Kp H1 H2) : Kp H H2 := ⟨fun x o n h => b.keep x o n (a.keep x o n h), fun x h => a.free x (b.free x h)⟩
theorem Kp.of {H H1 : Hp} (a : Same H H1) : Kp H H1 := ⟨fun x o _ h => a x o h, fun x h => a.free h⟩
theorem Deal.there {H : Hp} {p l : Addr} (d : Deal H p l) : (∃ o, H p = some o) ∧ ∃ o, H l = some o := by
  obtain ⟨ns, a, z, m, c, hp, hl, r⟩ := d
  exact ⟨⟨_, hp⟩, ⟨_, hl⟩⟩
theorem Deal.ne {H : Hp} {p l q : Addr} (d : Deal H p l) (h : H q = none) : q ≠ p := by
  obtain ⟨⟨o, e⟩, _⟩ := d.there
  exact ne_of_fresh e h
theorem Deal.nl {H : Hp} {p l q : Addr} (d : Deal H p l) (h : H q = none) : q ≠ l := by
  obtain ⟨_, ⟨o, e⟩⟩ := d.there
  exact ne_of_fresh e h
theorem Deal.other {H : Hp} {p l q : Addr} {o : HO} (d : Deal H p l) (h : H q = some o) (n : Nd o) : q ≠ p := by
  obtain ⟨ns, a, z, m, c, hp, hl, r⟩ := d
  intro e
  rw [e, hp] at h
  exact n _ _ _ _ _ (Option.some.inj h).symm
theorem Deal.same {H H' : Hp} {p l : Addr} (d : Deal H p l) (e : Same H H') : Deal H' p l := by
  obtain ⟨ns, a, z, m, c, hp, hl, r⟩ := d
  exact ⟨ns, a, z, m, c, e _ _ hp, e _ _ hl, r⟩
theorem Kp.deal {H : Hp} {p l : Addr} {o : HO} (d : Deal H p l) : Kp H (upd H p o) := ⟨fun b x n h => by rw [upd_ne (d.other h n)]; exact h, fun b h => by
  by_cases e : b = p
  · rw [e, upd_same] at h
    cases h
  · rw [upd_ne e] at h
    exact h⟩
/-- what is new may change -/
theorem Kp.put {H H' : Hp} {D : Addr} {o : HO} (k : Kp H H') (n : H D = none) : Kp H (upd H' D o) := ⟨fun b x nx h => by rw [upd_ne (ne_of_none h n)]; exact k.keep b x nx h, fun b h => by
  by_cases e : b = D
  · rw [e]
    exact n
  · rw [upd_ne e] at h
    exact k.free b h⟩
theorem Deal.put {H : Hp} {p l D : Addr} {o : HO} (d : Deal H p l) (n1 : D ≠ p) (n2 : D ≠ l) : Deal (upd H D o) p l := by
  obtain ⟨ns, a, z, m, c, hp, hl, r⟩ := d
  exact ⟨ns, a, z, m, c, by rw [upd_ne n1.symm]; exact hp, by rw [upd_ne n2.symm]; exact hl, r⟩
theorem nd_tup {xs : List V} : Nd (.tup xs) := fun _ _ _ _ _ h => by cases h
theorem nd_dK {xs : List (Key × V)} : Nd (.dK xs) := fun _ _ _ _ _ h => by cases h
theorem nd_lst {xs : List V} (h : ∀ (x : V) (r : List V), xs = x :: r → ∀ a, x ≠ .ref a) : Nd (.lst xs) := fun l a z m c e => by
  have e' := HO.lst.inj (show HO.lst xs = .lst [.ref l, .int a, .int z, .int m, .int c] from e)
  exact h _ _ e' _ rfl
theorem nd_strs {ns : List Str} : Nd (.lst (ns.map V.str)) := nd_lst fun x r e a => by
  cases ns with
  | nil => cases e
  | cons s t =>
    cases e
    intro z
    cases z
theorem nd_ints {ns : List Int} : Nd (.lst (ns.map V.int)) := nd_lst fun x r e a => by
  cases ns with
  | nil => cases e
  | cons s t =>
    cases e
    intro z
    cases z
theorem nd_bls {ns : List Bool} : Nd (.lst (ns.map V.bl)) := nd_lst fun x r e a => by
  cases ns with
  | nil => cases e
  | cons s t =>
    cases e
    intro z
    cases z
theorem nd_refs {ns : List Addr} : Nd (.lst (ns.map V.ref)) := fun l a z m c e => by
  have e' := HO.lst.inj (show HO.lst (ns.map V.ref) = .lst [.ref l, .int a, .int z, .int m, .int c] from e)
  cases ns with
  | nil => cases e'
  | cons s t =>
    cases t with
    | nil =>
      simp at e'
    | cons s2 t2 => simp at e'
theorem nd_nil : Nd (.lst []) := nd_strs (ns := [])
theorem cut63 {xs : List V} (h : xs.length ≤ 63) : cutV xs none (some 63) = xs := by
  unfold cutV
  rw [HT.sIx_none, show HT.sIx xs.length xs.length (some 63) = min 63 xs.length from HT.sIx_nat xs.length xs.length 63, Nat.min_eq_right h]
  show (List.take (xs.length - 0) xs) = xs
  rw [Nat.sub_zero, List.take_length]
section
variable {P : Program} {w : World} {K : PySem.W.Frag} {mg : Str → Option Value} {base : Heap}
/-! _law_deal -/
def spDeal (K : PySem.W.Frag) : Sp := fun vs H Q _ => ∃ (a : Addr) (ns : List Int), vs = [.ref a] ∧ SqL K H a (ns.map V.int) ∧ ns.length ≤ 63 ∧
  ∀ H' p l, Same H H' → H p = none → Deal H' p l → Q (.ref p) H'
theorem scD : FnScope ["_law_script", "_law_mixed", "_law_cell"] ["_law_script"] (defScope sDeal) := ⟨rfl, rfl, rfl, by decide +kernel, rfl, by decide +kernel, by decide +kernel⟩
theorem ok_deal {f : Addr} {fd : FuncData} {k : Nat} (F : Fun K "_law_deal" "_law_deal" sDeal f fd) (mL : mg "list" = none) : FnOk P w K mg base CX0 (k + 1) f fd ["_law_script"] (spDeal K) := by
  refine F.ok scD (fun vs H Q E h => ?_) (fun cdv A outer s H vs Q E hr h => ?_)
  · obtain ⟨a, ns, rfl, _⟩ := h
    rfl
  · obtain ⟨a, ns, rfl, hS, hlen, q⟩ := h
    refine ⟨_, pss_cons (ps_set (i := 1) scD.nd rfl (.inl rfl) pe_int)
      (pss_cons (ps_for PassesOwn.never rfl (pi_list (pe_slice sl_list (pv 0) po_none (po_some pe_int))) (pg_name (i := 2) scD.nd rfl (.inl rfl))
        (pss_one (ps_set (i := 1) scD.nd rfl (.inl rfl) (pe_op op_mod (pe_op op_add (pe_op op_add (pe_op op_mul (pv 1) pe_int) (pe_op op_mod (pv 2) pe_int)) pe_int) pe_int))))
      (pss_one (ps_ret (pe_lst (pa_cons (pe_callTy call_list_of (by rfl) mL (by decide +kernel) (pa_cons (pe_slice sl_list (pv 0) po_none (po_some pe_int)) pa_nil)) (pa_cons pe_int (pa_cons pe_int (pa_cons (pv 1) (pa_cons pe_int pa_nil))))))))), ?_⟩
    have hl63 : (ns.map V.int).length ≤ 63 := by rw [List.length_map]; exact hlen
    refine ⟨_, rfl, 63, rfl, a, ns.map V.int, rfl, hS, fun c nc => ?_⟩
    rw [cut63 hl63]
    have s1 : Same H (upd H c (.lst (ns.map V.int))) := same_upd nc
    refine ⟨c, rfl, ⟨_, SqL.of upd_same⟩, for_list (K := K) (a := c) (xs := ns.map V.int) (fun i σ H' => ∃ (m : Int) (v : Option V), σ = [some (.ref a), some (.int m), v] ∧ 0 ≤ m ∧ m < 2147483587 ∧ H' = upd H c (.lst (ns.map V.int)))
      ⟨9144, none, rfl, by decide, by decide, rfl⟩ (fun i σ H' _ ⟨_, _, _, _, _, e⟩ => by rw [e]; exact SqL.of upd_same) ?_ ?_⟩
    · rintro i y σ H' hi ⟨m, v, rfl, h0, h1, rfl⟩
      obtain ⟨z, hz, rfl⟩ : ∃ z, ns[i]? = some z ∧ y = V.int z := by
        rw [List.getElem?_map] at hi
        cases e : ns[i]? with
        | none =>
          rw [e] at hi
          cases hi
        | some z =>
          rw [e] at hi
          exact ⟨z, rfl, (Option.some.inj hi).symm⟩
      refine ⟨_, rfl, _, _, rfl, rfl, .inl ⟨by omega, by omega⟩, _, rfl, _, _, rfl, rfl, (by show (0 : Int) < 2147483629; decide), _, _, rfl, rfl, _, _, rfl, rfl, _, _, rfl, rfl, (by show (0 : Int) < 2147483587; decide), ?_⟩
      exact ⟨_, some (.int z), rfl, Int.emod_nonneg _ (by decide), Int.emod_lt_of_pos _ (by decide), rfl⟩
    · rintro σ H' ⟨m, v, rfl, h0, h1, rfl⟩
      refine ⟨_, rfl, 63, rfl, a, ns.map V.int, rfl, s1.seq hS, fun b nb => ?_⟩
      rw [cut63 hl63]
      have s2 := same_upd (o := .lst (ns.map V.int)) nb
      refine ⟨b, _, rfl, .inl (SqL.of upd_same), fun l nl => ?_⟩
      have s3 := same_upd (o := .lst (ns.map V.int)) nl
      refine ⟨_, rfl, (by show 5 ≤ sizeLine; decide), fun p np => ?_⟩
      have s4 := same_upd (o := d5 l 0 0 m 0) np
      have S3 := s1.trans (s2.trans s3)
      refine q _ p l (S3.trans s4) (S3.free np) ⟨ns, 0, 0, m, 0, upd_same, ?_, ?_, by decide, by decide, h0, h1⟩
      · exact s4 _ _ upd_same
      · exact (ne_of_fresh (o := .lst (ns.map V.int)) upd_same np).symm
end
section
variable {P : Program} {w : World} {K : PySem.W.Frag} {mg : Str → Option Value} {base : Heap}
/-! _law_pick -/
def spPick : Sp := fun vs H Q _ => ∃ (p l : Addr) (n : Int), vs = [.ref p, .int n] ∧ Deal H p l ∧ 0 < n ∧ n.natAbs.log2 < 9000 ∧
  ∀ (H' : Hp) (r : Int), Kp H H' → Deal H' p l → 0 ≤ r → r < n → Q (.int r) H'
theorem scK : FnScope ["_law_deal_here", "_law_many", "_law_cell", "_law_got", "_law_seed"] ["_law_deal_here", "_law_many"] (defScope sPick) := ⟨rfl, rfl, rfl, by decide +kernel, rfl, by decide +kernel, by decide +kernel⟩
theorem ok_pick {f : Addr} {fd : FuncData} {k : Nat} (F : Fun K "_law_pick" "_law_pick" sPick f fd) (mLen : mg "len" = none) : FnOk P w K mg base CX0 (k + 1) f fd ["_law_deal_here", "_law_many"] spPick := by
  refine F.ok scK (fun vs H Q E h => ?_) (fun cdv A outer s H vs Q E hr h => ?_)
  · obtain ⟨a, l, ns, rfl, _⟩ := h
    rfl
  · obtain ⟨p, l, n, rfl, dl0, hn, hn2, q⟩ := h
    have kd : ∀ o, Kp H (upd H p o) := fun o => Kp.deal dl0
    obtain ⟨ns, a, z, m, c, hp, hl, hlp, ha, hz, hm, hm2⟩ := dl0
    refine ⟨_, pss_cons (ps_asg (pe_op op_add (pe_ix ix_list (pv 0) pe_int (fun _ _ => rfl)) pe_int) (pg_sub (pv 0) pe_int set_list))
      (Evl.pss_cut (ps_if (PW.pt (pw_and (pt_cmpR op_eq (pe_ix ix_list (pv 0) pe_int (fun _ _ => rfl)) pe_int (nomark _)) (pw_and1 (pt_cmpR op_lt (pe_ix ix_list (pv 0) pe_int (fun _ _ => rfl)) (pe_callB call_len_seq (by rfl) mLen PySem.boot_len (pa_cons (pe_ix ix_list (pv 0) pe_int (fun _ _ => rfl)) pa_nil)) (nomark _)))))
          (pss_cons (ps_set (i := 2) scK.nd rfl (.inl rfl) (pe_ix ix_list (pe_ix ix_list (pv 0) pe_int (fun _ _ => rfl)) (pe_ix ix_list (pv 0) pe_int (fun _ _ => rfl)) (fun _ _ => rfl)))
          (pss_cons (ps_asg (pe_op op_add (pe_ix ix_list (pv 0) pe_int (fun _ _ => rfl)) pe_int) (pg_sub (pv 0) pe_int set_list))
          (pss_one (ps_if (pt_cmpR op_ge (pv 2) (pe_op op_pow pe_int pe_int) (nomark _)) (pss_one (ps_asg (pv 2) (pg_sub (pv 0) pe_int set_list)))
            (pss_one (ps_asg (pe_op op_mod (pe_op op_add (pe_op op_add (pe_op op_mul (pe_ix ix_list (pv 0) pe_int (fun _ _ => rfl)) pe_int) (pe_op op_mul (pe_op op_mod (pv 2) pe_int) pe_int)) pe_int) pe_int) (pg_sub (pv 0) pe_int set_list)))))))
          pss_nil)
      (pss_cons (ps_if (pt_cmpR op_gt (pe_ix ix_list (pv 0) pe_int (fun _ _ => rfl)) pe_int (nomark _))
          (pss_cons (ps_set (i := 3) scK.nd rfl (.inl rfl) (pe_op op_mod (pe_ix ix_list (pv 0) pe_int (fun _ _ => rfl)) (pv 1)))
          (pss_cons (ps_asg (pe_op op_fdivP (pe_ix ix_list (pv 0) pe_int (fun _ _ => rfl)) (pv 1)) (pg_sub (pv 0) pe_int set_list))
          (pss_one (ps_ret (pv 3))))) pss_nil)
      (pss_cons (ps_set (i := 4) scK.nd rfl (.inl rfl) (pe_ix ix_list (pv 0) pe_int (fun _ _ => rfl)))
      (pss_cons (ps_asg (pe_op op_mod (pe_op op_add (pe_op op_add (pe_op op_add (pe_op op_mul (pe_op op_mod (pe_op op_mul (pv 4) (pv 4)) pe_int) pe_int) (pe_op op_mul (pv 4) pe_int)) pe_int) (pe_ix ix_list (pv 0) pe_int (fun _ _ => rfl))) pe_int) (pg_sub (pv 0) pe_int set_list))
      (pss_one (ps_ret (pe_op op_mod (pe_op op_add (pe_op op_fdivP (pe_ix ix_list (pv 0) pe_int (fun _ _ => rfl)) pe_int) (pe_op op_mul (pe_op op_mod (pe_ix ix_list (pv 0) pe_int (fun _ _ => rfl)) pe_int) pe_int)) (pv 1)))))))), ?_⟩
    -- deal[4] = deal[4] + 1
    refine ⟨_, rfl, p, _, 4, _, rfl, rfl, SqL.of hp, atI_nat (j := 4) rfl, _, _, rfl, rfl, _, rfl, p, _, 4, 4, rfl, rfl, hp, by rfl, ?_⟩
    have hl1 : ∀ o, upd H p o l = some (.lst (ns.map V.int)) := fun o => by rw [upd_ne hlp]; exact hl
    have hp1 : (upd H p (d5 l a z m (c + 1))) p = some (d5 l a z m (c + 1)) := upd_same
    -- the ways meet
    refine ⟨fun σ' H' => ∃ (v : Option V) (a z m : Int), σ' = [some (.ref p), some (.int n), v, none, none] ∧ H' = upd H p (d5 l a z m (c + 1)) ∧ 0 ≤ a ∧ 0 ≤ z ∧ 0 ≤ m ∧ m < 2147483587, ?_, ?_⟩
    · refine ⟨_, rfl, p, _, 2, _, rfl, rfl, SqL.of hp1, atI_nat (j := 2) rfl, rfl, _, rfl, ite2 (fun e => ?_) (fun e => ?_)⟩
      · refine ⟨_, rfl, p, _, 1, _, rfl, rfl, SqL.of hp1, atI_nat (j := 1) rfl, _, rfl, p, _, 0, _, rfl, rfl, SqL.of hp1, atI_nat (j := 0) rfl, l, _, rfl, .inl (SqL.of (hl1 _)), _, _, rfl, rfl, _, rfl, ite2 (fun e2 => ?_) (fun e2 => ?_)⟩
        · have hlt : a < ((ns.map V.int).length : Int) := of_decide_eq_true e2
          obtain ⟨j, rfl⟩ := Int.eq_ofNat_of_zero_le ha
          have hj : j < ns.length := by
            rw [List.length_map] at hlt
            omega
          have gj : (ns.map V.int)[j]? = some (.int ns[j]) := by
            rw [List.getElem?_map, List.getElem?_eq_getElem hj]
            rfl
          refine ⟨_, rfl, p, _, 0, _, rfl, rfl, SqL.of hp1, atI_nat (j := 0) rfl, _, rfl, p, _, 1, _, rfl, rfl, SqL.of hp1, atI_nat (j := 1) rfl, l, _, _, _, rfl, rfl, SqL.of (hl1 _), atI_nat (j := j) gj, ?_⟩
          refine ⟨_, rfl, p, _, 1, _, rfl, rfl, SqL.of hp1, atI_nat (j := 1) rfl, _, _, rfl, rfl, _, rfl, p, _, 1, 1, rfl, rfl, hp1, by rfl, ?_⟩
          have hp2 : (upd (upd H p (d5 l j z m (c + 1))) p (d5 l (j + 1) z m (c + 1))) p = some (d5 l (j + 1) z m (c + 1)) := upd_same
          refine ⟨_, rfl, _, _, rfl, rfl, ⟨by decide, by decide, by decide⟩, _, _, rfl, rfl, _, rfl, ite2 (fun e3 => ?_) (fun e3 => ?_)⟩
          · have h18 : (1000000000000000000 : Int) ≤ ns[j] := of_decide_eq_true e3
            refine ⟨_, rfl, _, rfl, p, _, 2, 2, rfl, rfl, hp2, by rfl, ?_⟩
            exact ⟨_, _, _, _, rfl, by rw [upd_upd, upd_upd]; rfl, by omega, by omega, hm, hm2⟩
          · refine ⟨_, rfl, p, _, 3, _, rfl, rfl, SqL.of hp2, atI_nat (j := 3) rfl, _, _, rfl, rfl, .inl ⟨by omega, by omega⟩, _, rfl, _, _, rfl, rfl, (by show (0 : Int) < 2147483629; decide), _, _, rfl, rfl, .inr ⟨by decide, by decide⟩, _, _, rfl, rfl, _, _, rfl, rfl, _, _, rfl, rfl, (by show (0 : Int) < 2147483587; decide), _, rfl, p, _, 3, 3, rfl, rfl, hp2, by rfl, ?_⟩
            exact ⟨_, _, _, _, rfl, by rw [upd_upd, upd_upd]; rfl, by omega, hz, Int.emod_nonneg _ (by decide), Int.emod_lt_of_pos _ (by decide)⟩
        · exact ⟨_, _, _, _, rfl, rfl, ha, hz, hm, hm2⟩
      · exact iteF ⟨_, _, _, _, rfl, rfl, ha, hz, hm, hm2⟩
    · rintro σ' H' ⟨v, a, z, m, rfl, rfl, ha, hz, hm, hm2⟩
      have hp1 : (upd H p (d5 l a z m (c + 1))) p = some (d5 l a z m (c + 1)) := upd_same
      have dl : ∀ (z m : Int), 0 ≤ z → 0 ≤ m → m < 2147483587 → Deal (upd H p (d5 l a z m (c + 1))) p l := fun z m h1 h2 h3 => ⟨ns, a, z, m, c + 1, upd_same, hl1 _, hlp, ha, h1, h2, h3⟩
      refine ⟨_, rfl, p, _, 2, _, rfl, rfl, SqL.of hp1, atI_nat (j := 2) rfl, _, _, rfl, rfl, _, rfl, ite2 (fun e => ?_) (fun e => ?_)⟩
      · refine ⟨_, rfl, p, _, 2, _, rfl, rfl, SqL.of hp1, atI_nat (j := 2) rfl, _, rfl, _, _, rfl, rfl, hn, ?_⟩
        refine ⟨_, rfl, p, _, 2, _, rfl, rfl, SqL.of hp1, atI_nat (j := 2) rfl, _, rfl, _, _, rfl, rfl, ⟨hn, hn2⟩, _, rfl, p, _, 2, 2, rfl, rfl, hp1, by rfl, ?_⟩
        refine ⟨_, rfl, ?_⟩
        rw [upd_upd]
        exact q _ _ (kd _) (dl _ _ (Int.ediv_nonneg hz (Int.le_of_lt hn)) hm hm2) (Int.emod_nonneg _ (by omega)) (Int.emod_lt_of_pos _ hn)
      · refine ⟨_, rfl, p, _, 3, _, rfl, rfl, SqL.of hp1, atI_nat (j := 3) rfl, ?_⟩
        refine ⟨_, rfl, _, rfl, _, _, rfl, rfl, .inl ⟨by omega, by omega⟩, _, _, rfl, rfl, (by show (0 : Int) < 2147483563; decide), _, _, rfl, rfl, .inr ⟨by decide, by decide⟩, _, rfl, _, _, rfl, rfl, .inr ⟨by decide, by decide⟩, _, _, rfl, rfl, _, _, rfl, rfl, _, rfl, p, _, 4, _, rfl, rfl, SqL.of hp1, atI_nat (j := 4) rfl, _, _, rfl, rfl, _, _, rfl, rfl, (by show (0 : Int) < 2147483587; decide), _, rfl, p, _, 3, 3, rfl, rfl, hp1, by rfl, ?_⟩
        refine ⟨_, rfl, p, _, 3, _, rfl, rfl, SqL.of upd_same, atI_nat (j := 3) rfl, _, _, rfl, rfl, ⟨by decide, by decide⟩, _, rfl, p, _, 3, _, rfl, rfl, SqL.of upd_same, atI_nat (j := 3) rfl, _, _, rfl, rfl, (by show (0 : Int) < 7919; decide), _, _, rfl, rfl, .inr ⟨by decide, by decide⟩, _, _, rfl, rfl, _, rfl, _, _, rfl, rfl, hn, ?_⟩
        rw [upd_upd]
        exact q _ _ (kd _) (dl _ _ hz (Int.emod_nonneg _ (by decide)) (Int.emod_lt_of_pos _ (by decide))) (Int.emod_nonneg _ (by omega)) (Int.emod_lt_of_pos _ hn)
end
theorem iT {c : Bool} {A B : Prop} (hc : c = true) (h : A) : if c = true then A else B := by
  rw [if_pos hc]
  exact h
theorem iF {c : Bool} {A B : Prop} (hc : c = false) (h : B) : if c = true then A else B := by
  rw [hc, if_neg Bool.false_ne_true]
  exact h
section
variable {K : PySem.W.Frag} {H H' : Hp}
theorem same_t {a : Addr} {xs : List V} (e : Same H H') (h : SqT K H a xs) : SqT K H' a xs := by
  rcases h with (h | ⟨o, h⟩) | h
  · exact .inl (.inl (e _ _ h))
  · exact .inl (.inr ⟨o, e _ _ h⟩)
  · exact .inr h
theorem tyL {a : Addr} {xs : List V} (h : SqL K H a xs) : TyX K H (.ref a) (.type "list") := by
  rcases h with (h | ⟨o, h⟩) | ⟨o, its, n, h1, h2, _⟩
  · exact .base (.lst h)
  · exact .base (.frz h)
  · exact .kList h1 h2
theorem tyT {a : Addr} {xs : List V} (h : SqT K H a xs) : TyX K H (.ref a) (.type "tuple") := by
  rcases h with (h | ⟨o, h⟩) | ⟨o, its, n, h1, h2, _⟩
  · exact .base (.tup h)
  · exact .fTuple h
  · exact .kTuple h1 h2
theorem kA_list : PySem.W.kitAny K (.type "list") [.type "list", .type "tuple"] = some true := kitAny_cons (b := true) (kit_ty (by decide +kernel)) (fun z => by cases z) (fun _ => rfl)
theorem kA_tuple : PySem.W.kitAny K (.type "tuple") [.type "list", .type "tuple"] = some true :=
  kitAny_cons (b := false) (kit_ty (by decide +kernel)) (fun _ => kitAny_cons (b := true) (kit_ty (by decide +kernel)) (fun z => by cases z) (fun _ => rfl)) (fun z => by cases z)
theorem kA_no {t : String} (h1 : kitB t "list" = some false) (h2 : kitB t "tuple" = some false) : PySem.W.kitAny K (.type t) [.type "list", .type "tuple"] = some false :=
  kitAny_cons (b := false) (kit_ty h1) (fun _ => kitAny_cons (b := false) (kit_ty h2) (fun _ => kitAny_nil) (fun z => by cases z)) (fun z => by cases z)
theorem pCls : Paired ClsV [.ty "list", .ty "tuple"] [.type "list", .type "tuple"] := .cons (.ty _) (.cons (.ty _) .nil)
/-- two values that read as the same data, at most n deep -/
inductive Lk (K : PySem.W.Frag) (H : Hp) : Nat → V → V → Prop
  | non {n : Nat} : Lk K H n .non .non
  | bl {n : Nat} (b : Bool) : Lk K H n (.bl b) (.bl b)
  | int {n : Nat} (i : Int) : Lk K H n (.int i) (.int i)
  | str {n : Nat} (s : Str) : Lk K H n (.str s) (.str s)
  | lst {n : Nat} {a b : Addr} {xs ys : List V} (ha : SqL K H a xs) (hb : SqL K H b ys) (hl : xs.length = ys.length) (h1 : ys.length ≤ 1000) (hi : ∀ (i : Nat) (x y : V), xs[i]? = some x → ys[i]? = some y → Lk K H n x y) : Lk K H (n + 1) (.ref a) (.ref b)
  | tup {n : Nat} {a b : Addr} {xs ys : List V} (ha : SqT K H a xs) (hb : SqT K H b ys) (hl : xs.length = ys.length) (h1 : ys.length ≤ 1000) (hi : ∀ (i : Nat) (x y : V), xs[i]? = some x → ys[i]? = some y → Lk K H n x y) : Lk K H (n + 1) (.ref a) (.ref b)
theorem Lk.mono {n : Nat} {x y : V} (e : Same H H') (h : Lk K H n x y) : Lk K H' n x y := by
  induction h with
  | non => exact .non
  | bl b => exact .bl b
  | int b => exact .int b
  | str b => exact .str b
  | lst ha hb hl h1 hi ih => exact .lst (e.seq ha) (e.seq hb) hl h1 ih
  | tup ha hb hl h1 hi ih => exact .tup (same_t e ha) (same_t e hb) hl h1 ih
end
section
variable {P : Program} {w : World} {K : PySem.W.Frag} {mg : Str → Option Value} {base : Heap}
def spLike (K : PySem.W.Frag) : Nat → Sp
  | 0 => fun _ _ _ _ => False
  | n + 1 => fun vs H Q _ => ∃ x y : V, vs = [x, y] ∧ Lk K H n x y ∧ ∀ H', Same H H' → Q (.bl true) H'
theorem scL : FnScope ["_law_found", "_law_due", "_law_k"] ["_law_found", "_law_due"] (defScope sLike) := ⟨rfl, rfl, rfl, by decide +kernel, rfl, by decide +kernel, by decide +kernel⟩
/-- the built-ins that the law's own defs ask for by name -/
structure Bi (mg : Str → Option Value) : Prop where
  isi : mg "isinstance" = none
  lst : mg "list" = none
  tup : mg "tuple" = none
  len : mg "len" = none
  all : mg "all" = none
  rng : mg "range" = none
  boo : mg "bool" = none
  int : mg "int" = none
  str : mg "str" = none
  abs : mg "abs" = none
theorem ok_like {f : Addr} {fd : FuncData} (F : Fun K "_law_like" "_law_like" sLike f fd) (bL : Binds K fd ["_law_found", "_law_due"] []) (gL : mg "_law_like" = some (.ref f)) (B : Bi mg) : ∀ n : Nat, FnOk P w K mg base CX0 (n + 1) f fd ["_law_found", "_law_due"] (spLike K n)
  | 0 => F.ok scL (fun vs H Q E h => h.elim) (fun cdv A outer s H vs Q E hr h => h.elim)
  | n + 1 => by
    have GL : FnOk P w K mg base CX0 (n + 1) f fd ["_law_found", "_law_due"] (spLike K n) := ok_like F bL gL B n
    refine F.ok scL (fun vs H Q E h => ?_) (fun cdv A outer s H vs Q E hr h => ?_)
    · obtain ⟨a, ns, rfl, _⟩ := h
      rfl
    · obtain ⟨x, y, rfl, hk, q⟩ := h
      refine ⟨_, pss_cons (ps_if (pt_val (pe_callB call_isiT (by rfl) B.isi (by decide +kernel) (pa_cons (pv 1) (pa_cons (pe_tup (pa_cons (pe_bltn (v := .ty "list") (by rfl) B.lst (by decide +kernel) rfl) (pa_cons (pe_bltn (v := .ty "tuple") (by rfl) B.tup (by decide +kernel) rfl) pa_nil))) pa_nil))))
          (pss_cons (ps_if (PW.pt (pw_or
                (pt_cmpR op_ne (pe_callB call_isi (by rfl) B.isi (by decide +kernel) (pa_cons (pv 0) (pa_cons (pe_bltn (v := .ty "list") (by rfl) B.lst (by decide +kernel) rfl) pa_nil))) (pe_callB call_isi (by rfl) B.isi (by decide +kernel) (pa_cons (pv 1) (pa_cons (pe_bltn (v := .ty "list") (by rfl) B.lst (by decide +kernel) rfl) pa_nil))) (nomark _))
                (pw_or1 (pt_cmpR op_ne (pe_callB call_isi (by rfl) B.isi (by decide +kernel) (pa_cons (pv 0) (pa_cons (pe_bltn (v := .ty "tuple") (by rfl) B.tup (by decide +kernel) rfl) pa_nil))) (pe_callB call_isi (by rfl) B.isi (by decide +kernel) (pa_cons (pv 1) (pa_cons (pe_bltn (v := .ty "tuple") (by rfl) B.tup (by decide +kernel) rfl) pa_nil))) (nomark _)))))
              (pss_one (ps_ret pe_bl)) pss_nil)
          (pss_one (ps_ret (pe_and (pe_cmpR op_eq (pe_callB call_len_seq (by rfl) B.len PySem.boot_len (pa_cons (pv 0) pa_nil)) (pe_callB call_len_seq (by rfl) B.len PySem.boot_len (pa_cons (pv 1) pa_nil)) (nomark _))
            (pe_one (pe_callB (cr_all rfl) (by rfl) B.all (by decide +kernel) (pa_cons
              (pe_lc (own := [("_law_k", 2)]) (g := gName 2) (tt := tYes) rfl scL.nd (pi_range1 (by rfl) B.rng (pa_cons (pe_callB call_len_seq (by rfl) B.len PySem.boot_len (pa_cons (pv 1) pa_nil)) pa_nil))
                (blkOk_by (own := [("_law_k", 2)]) (N := ["_law_found", "_law_due", "_law_k"]) (sc := defScope sLike) (by decide +kernel))
                (fun _ _ _ _ _ => pg_name (i := 2) scL.nd rfl (Or.inl rfl)) (fun _ _ _ _ _ => pts_nil)
                (fun _ _ _ _ _ => pe_call GL hr (by rfl) gL F.kp bL .nil pass0 (pa_cons (pe_ix (r := rIx K) ix_seq (pv 0) (pv 2) (fun _ _ => rfl)) (pa_cons (pe_ix (r := rIx K) ix_seq (pv 1) (pv 2) (fun _ _ => rfl)) pa_nil))))
              pa_nil))))))) pss_nil)
        (pss_cons (ps_if (PW.pt (pw_or (pt_cmpR op_isN (pv 1) pe_non (nomark _)) (pw_or1 (pt_cmpR op_isN (pv 0) pe_non (nomark _)))))
          (pss_one (ps_ret (pe_and (pe_cmpR op_isN (pv 1) pe_non (nomark _)) (pe_one (pe_cmpR op_isN (pv 0) pe_non (nomark _)))))) pss_nil)
        (pss_cons (ps_if (PW.pt (pw_or
                (pt_cmpR op_ne (pe_callB call_isi (by rfl) B.isi (by decide +kernel) (pa_cons (pv 0) (pa_cons (pe_bltn (v := .ty "bool") (by rfl) B.boo (by decide +kernel) rfl) pa_nil))) (pe_callB call_isi (by rfl) B.isi (by decide +kernel) (pa_cons (pv 1) (pa_cons (pe_bltn (v := .ty "bool") (by rfl) B.boo (by decide +kernel) rfl) pa_nil))) (nomark _))
                (pw_or1 (pt_cmpR op_ne (pe_callB call_isi (by rfl) B.isi (by decide +kernel) (pa_cons (pv 0) (pa_cons (pe_bltn (v := .ty "int") (by rfl) B.int (by decide +kernel) rfl) pa_nil))) (pe_callB call_isi (by rfl) B.isi (by decide +kernel) (pa_cons (pv 1) (pa_cons (pe_bltn (v := .ty "int") (by rfl) B.int (by decide +kernel) rfl) pa_nil))) (nomark _)))))
              (pss_one (ps_ret pe_bl)) pss_nil)
        (pss_one (ps_ret (pe_and (pe_cmpR op_eq (pe_callB call_isi (by rfl) B.isi (by decide +kernel) (pa_cons (pv 0) (pa_cons (pe_bltn (v := .ty "str") (by rfl) B.str (by decide +kernel) rfl) pa_nil))) (pe_callB call_isi (by rfl) B.isi (by decide +kernel) (pa_cons (pv 1) (pa_cons (pe_bltn (v := .ty "str") (by rfl) B.str (by decide +kernel) rfl) pa_nil))) (nomark _))
          (pe_one (pe_cmpR op_eq (pv 0) (pv 1) (nomark _)))))))), ?_⟩
      cases hk with
      | non =>
        refine ⟨_, rfl, (by show 2 ≤ sizeLine; decide), fun T hT => ⟨_, T, _, _, _, _, rfl, upd_same, pCls, .base .non, kA_no (by decide +kernel) (by decide +kernel), _, rfl, iteF ?_⟩⟩
        refine ⟨_, rfl, rfl, _, rfl, iT (decide_eq_true rfl) (iteT ?_)⟩
        refine ⟨_, rfl, rfl, _, rfl, iT (decide_eq_true rfl) ⟨_, rfl, rfl, ?_⟩⟩
        rw [decide_eq_true rfl]
        exact q _ (same_upd hT)
      | bl b =>
        refine ⟨_, rfl, (by show 2 ≤ sizeLine; decide), fun T hT => ⟨_, T, _, _, _, _, rfl, upd_same, pCls, .base (.bl b), kA_no (by decide +kernel) (by decide +kernel), _, rfl, iteF ?_⟩⟩
        refine ⟨_, rfl, rfl, _, rfl, iF rfl ⟨_, rfl, rfl, _, rfl, iteF ?_⟩⟩
        refine ⟨_, rfl, _, _, _, _, true, rfl, .ty _, .base (.bl b), kit_ty (by decide +kernel), _, rfl, _, _, _, _, true, rfl, .ty _, .base (.bl b), kit_ty (by decide +kernel), rfl, _, rfl, iF (by decide) ?_⟩
        refine ⟨_, rfl, _, _, _, _, true, rfl, .ty _, .base (.bl b), kit_ty (by decide +kernel), _, rfl, _, _, _, _, true, rfl, .ty _, .base (.bl b), kit_ty (by decide +kernel), rfl, _, rfl, iF (by decide) ?_⟩
        refine ⟨_, rfl, _, _, _, _, false, rfl, .ty _, .base (.bl b), kit_ty (by decide +kernel), _, rfl, _, _, _, _, false, rfl, .ty _, .base (.bl b), kit_ty (by decide +kernel), rfl, _, rfl, iT (by decide) ⟨_, rfl, _, rfl, rfl, ?_⟩⟩
        rw [decide_eq_true rfl]
        exact q _ (same_upd hT)
      | int b =>
        refine ⟨_, rfl, (by show 2 ≤ sizeLine; decide), fun T hT => ⟨_, T, _, _, _, _, rfl, upd_same, pCls, .base (.int b), kA_no (by decide +kernel) (by decide +kernel), _, rfl, iteF ?_⟩⟩
        refine ⟨_, rfl, rfl, _, rfl, iF rfl ⟨_, rfl, rfl, _, rfl, iteF ?_⟩⟩
        refine ⟨_, rfl, _, _, _, _, false, rfl, .ty _, .base (.int b), kit_ty (by decide +kernel), _, rfl, _, _, _, _, false, rfl, .ty _, .base (.int b), kit_ty (by decide +kernel), rfl, _, rfl, iF (by decide) ?_⟩
        refine ⟨_, rfl, _, _, _, _, true, rfl, .ty _, .base (.int b), kit_ty (by decide +kernel), _, rfl, _, _, _, _, true, rfl, .ty _, .base (.int b), kit_ty (by decide +kernel), rfl, _, rfl, iF (by decide) ?_⟩
        refine ⟨_, rfl, _, _, _, _, false, rfl, .ty _, .base (.int b), kit_ty (by decide +kernel), _, rfl, _, _, _, _, false, rfl, .ty _, .base (.int b), kit_ty (by decide +kernel), rfl, _, rfl, iT (by decide) ⟨_, rfl, _, rfl, rfl, ?_⟩⟩
        rw [decide_eq_true rfl]
        exact q _ (same_upd hT)
      | str b =>
        refine ⟨_, rfl, (by show 2 ≤ sizeLine; decide), fun T hT => ⟨_, T, _, _, _, _, rfl, upd_same, pCls, .base (.str b), kA_no (by decide +kernel) (by decide +kernel), _, rfl, iteF ?_⟩⟩
        refine ⟨_, rfl, rfl, _, rfl, iF rfl ⟨_, rfl, rfl, _, rfl, iteF ?_⟩⟩
        refine ⟨_, rfl, _, _, _, _, false, rfl, .ty _, .base (.str b), kit_ty (by decide +kernel), _, rfl, _, _, _, _, false, rfl, .ty _, .base (.str b), kit_ty (by decide +kernel), rfl, _, rfl, iF (by decide) ?_⟩
        refine ⟨_, rfl, _, _, _, _, false, rfl, .ty _, .base (.str b), kit_ty (by decide +kernel), _, rfl, _, _, _, _, false, rfl, .ty _, .base (.str b), kit_ty (by decide +kernel), rfl, _, rfl, iF (by decide) ?_⟩
        refine ⟨_, rfl, _, _, _, _, true, rfl, .ty _, .base (.str b), kit_ty (by decide +kernel), _, rfl, _, _, _, _, true, rfl, .ty _, .base (.str b), kit_ty (by decide +kernel), rfl, _, rfl, iT (by decide) ⟨_, rfl, _, rfl, rfl, ?_⟩⟩
        rw [decide_eq_true rfl]
        exact q _ (same_upd hT)
      | lst ha hb hl h1 hi =>
        rename_i n a b xs ys
        refine ⟨_, rfl, (by show 2 ≤ sizeLine; decide), fun T hT => ?_⟩
        have s1 := same_upd (o := .tup [V.ty "list", V.ty "tuple"]) hT
        have hA := Same.seq s1 ha
        have hB := Same.seq s1 hb
        refine ⟨_, T, _, _, _, _, rfl, upd_same, pCls, tyL hB, kA_list, _, rfl, iteT ?_⟩
        refine ⟨_, rfl, _, _, _, _, true, rfl, .ty _, tyL hA, kit_ty (by decide +kernel), _, rfl, _, _, _, _, true, rfl, .ty _, tyL hB, kit_ty (by decide +kernel), rfl, _, rfl, iF (by decide) ?_⟩
        refine ⟨_, rfl, _, _, _, _, false, rfl, .ty _, tyL hA, kit_ty (by decide +kernel), _, rfl, _, _, _, _, false, rfl, .ty _, tyL hB, kit_ty (by decide +kernel), rfl, _, rfl, iF (by decide) ?_⟩
        refine ⟨_, rfl, a, xs, rfl, .inl hA, _, rfl, b, ys, rfl, .inl hB, rfl, _, rfl, iT (by rw [hl]; exact decide_eq_true rfl) ?_⟩
        refine ⟨_, rfl, b, ys, rfl, .inl hB, (ys.length : Int), rfl, by omega, by omega, fun D hD => ?_⟩
        refine lc_range (lo := 0) (n := ys.length) (fun i H' => Same H H' ∧ H' D = some (.lst (List.replicate i (.bl true)))) ?_ ?_ ?_
        · have s2 := same_upd (o := .lst []) hD
          exact ⟨s1.trans s2, upd_same⟩
        · rintro i H3 hlt ⟨s3, hD3⟩
          have hA3 := Same.seq s3 ha
          have hB3 := Same.seq s3 hb
          have hlt2 : i < xs.length := by omega
          have g1 : xs[i]? = some xs[i] := List.getElem?_eq_getElem hlt2
          have g2 : ys[i]? = some ys[i] := List.getElem?_eq_getElem hlt
          refine ⟨rfl, ?_⟩
          refine ⟨_, rfl, _, rfl, .inl ⟨a, xs, _, _, rfl, rfl, hA3, at_of (j := i) (by omega) g1, _, rfl, _, rfl, .inl ⟨b, ys, _, _, rfl, rfl, hB3, at_of (j := i) (by omega) g2, _, _, rfl, (hi i _ _ g1 g2).mono s3, fun H4 s4 => ?_⟩⟩⟩
          refine ⟨_, s4 _ _ hD3, ?_, ?_⟩
          · rw [List.length_replicate]
            exact small1000 (by omega)
          · have nD : H D = none := s1.free hD
            refine ⟨fun b' o' e => ?_, ?_⟩
            · rw [upd_ne (ne_of_none e nD)]
              exact s4 _ _ (s3 _ _ e)
            · rw [upd_same, List.replicate_succ']
        · rintro H3 ⟨s3, hD3⟩
          refine ⟨D, List.replicate ys.length true, rfl, SqL.of (by rw [hD3, List.map_replicate]), ?_⟩
          rw [show (List.replicate ys.length true).all id = true by simp]
          exact q _ s3
      | tup ha hb hl h1 hi =>
        rename_i n a b xs ys
        refine ⟨_, rfl, (by show 2 ≤ sizeLine; decide), fun T hT => ?_⟩
        have s1 := same_upd (o := .tup [V.ty "list", V.ty "tuple"]) hT
        have hA := same_t s1 ha
        have hB := same_t s1 hb
        refine ⟨_, T, _, _, _, _, rfl, upd_same, pCls, tyT hB, kA_tuple, _, rfl, iteT ?_⟩
        refine ⟨_, rfl, _, _, _, _, false, rfl, .ty _, tyT hA, kit_ty (by decide +kernel), _, rfl, _, _, _, _, false, rfl, .ty _, tyT hB, kit_ty (by decide +kernel), rfl, _, rfl, iF (by decide) ?_⟩
        refine ⟨_, rfl, _, _, _, _, true, rfl, .ty _, tyT hA, kit_ty (by decide +kernel), _, rfl, _, _, _, _, true, rfl, .ty _, tyT hB, kit_ty (by decide +kernel), rfl, _, rfl, iF (by decide) ?_⟩
        refine ⟨_, rfl, a, xs, rfl, .inr hA, _, rfl, b, ys, rfl, .inr hB, rfl, _, rfl, iT (by rw [hl]; exact decide_eq_true rfl) ?_⟩
        refine ⟨_, rfl, b, ys, rfl, .inr hB, (ys.length : Int), rfl, by omega, by omega, fun D hD => ?_⟩
        refine lc_range (lo := 0) (n := ys.length) (fun i H' => Same H H' ∧ H' D = some (.lst (List.replicate i (.bl true)))) ?_ ?_ ?_
        · have s2 := same_upd (o := .lst []) hD
          exact ⟨s1.trans s2, upd_same⟩
        · rintro i H3 hlt ⟨s3, hD3⟩
          have hA3 := same_t s3 ha
          have hB3 := same_t s3 hb
          have hlt2 : i < xs.length := by omega
          have g1 : xs[i]? = some xs[i] := List.getElem?_eq_getElem hlt2
          have g2 : ys[i]? = some ys[i] := List.getElem?_eq_getElem hlt
          refine ⟨rfl, ?_⟩
          refine ⟨_, rfl, _, rfl, .inr <| .inl ⟨a, xs, _, _, rfl, rfl, hA3, at_of (j := i) (by omega) g1, _, rfl, _, rfl, .inr <| .inl ⟨b, ys, _, _, rfl, rfl, hB3, at_of (j := i) (by omega) g2, _, _, rfl, (hi i _ _ g1 g2).mono s3, fun H4 s4 => ?_⟩⟩⟩
          refine ⟨_, s4 _ _ hD3, ?_, ?_⟩
          · rw [List.length_replicate]
            exact small1000 (by omega)
          · have nD : H D = none := s1.free hD
            refine ⟨fun b' o' e => ?_, ?_⟩
            · rw [upd_ne (ne_of_none e nD)]
              exact s4 _ _ (s3 _ _ e)
            · rw [upd_same, List.replicate_succ']
        · rintro H3 ⟨s3, hD3⟩
          refine ⟨D, List.replicate ys.length true, rfl, SqL.of (by rw [hD3, List.map_replicate]), ?_⟩
          rw [show (List.replicate ys.length true).all id = true by simp]
          exact q _ s3
end
section
variable {P : Program} {w : World} {K : PySem.W.Frag} {mg : Str → Option Value} {base : Heap}
/-! _law_of -/
def spOf : Sp := fun vs H Q _ => ∃ (p l a : Addr) (xs : List V), vs = [.ref p, .ref a] ∧ Deal H p l ∧ H a = some (.lst xs) ∧ Nd (.lst xs) ∧ 0 < xs.length ∧ xs.length ≤ 1000 ∧
  ∀ (H' : Hp) (x : V), x ∈ xs → Kp H H' → Deal H' p l → Q x H'
theorem scO : FnScope ["_law_deal_here", "_law_some"] ["_law_deal_here", "_law_some"] (defScope sOf) := ⟨rfl, rfl, rfl, by decide +kernel, rfl, by decide +kernel, by decide +kernel⟩
theorem ok_of {f fK : Addr} {fd fdK : FuncData} {k : Nat} (F : Fun K "_law_of" "_law_of" sOf f fd) (FK : Fun K "_law_pick" "_law_pick" sPick fK fdK) (bK : Binds K fdK ["_law_deal_here", "_law_many"] []) (gK : mg "_law_pick" = some (.ref fK)) (B : Bi mg) :
    FnOk P w K mg base CX0 (k + 2) f fd ["_law_deal_here", "_law_some"] spOf := by
  have GK : FnOk P w K mg base CX0 (k + 1) fK fdK ["_law_deal_here", "_law_many"] spPick := ok_pick FK B.len
  refine F.ok scO (fun vs H Q E h => ?_) (fun cdv A outer s H vs Q E hr h => ?_)
  · obtain ⟨a, l, ns, xs, rfl, _⟩ := h
    rfl
  · obtain ⟨p, l, a, xs, rfl, dl, hS, nd, h0, h1, q⟩ := h
    refine ⟨_, pss_one (ps_ret (pe_ix ix_list (pv 1) (pe_call GK hr (by rfl) gK FK.kp bK .nil pass0 (pa_cons (pv 0) (pa_cons (pe_callB call_len_seq (by rfl) B.len PySem.boot_len (pa_cons (pv 1) pa_nil)) pa_nil))) (fun _ _ => rfl))), ?_⟩
    refine ⟨_, rfl, _, rfl, _, rfl, a, xs, rfl, .inl (SqL.of hS), p, l, (xs.length : Int), rfl, dl, by omega, lg (b := 10) (by omega) (by decide) (by decide), fun H' r kp dl' r0 r1 => ?_⟩
    obtain ⟨j, rfl⟩ := Int.eq_ofNat_of_zero_le r0
    have hj : j < xs.length := by omega
    refine ⟨a, xs, _, _, rfl, rfl, SqL.of (kp.keep _ _ nd hS), atI_nat (j := j) (List.getElem?_eq_getElem hj), ?_⟩
    exact q H' _ (List.getElem_mem hj) kp dl'
end
section
variable {K : PySem.W.Frag} {H H' : Hp}
theorem pr_get {R : V → V → Prop} {xs ys : List V} (h : Paired R xs ys) : ∀ (i : Nat) (x y : V), xs[i]? = some x → ys[i]? = some y → R x y := by
  induction h with
  | nil =>
    intro i x y h
    cases h
  | cons a r ih =>
    intro i x y h1 h2
    cases i with
    | zero =>
      cases Option.some.inj h1
      cases Option.some.inj h2
      exact a
    | succ j => exact ih j x y h1 h2
theorem lk_list {n : Nat} {a b : Addr} {xs ys : List V} (ha : SqL K H a xs) (hb : SqL K H b ys) (h : Paired (Lk K H n) xs ys) (hl : ys.length ≤ 1000) : Lk K H (n + 1) (.ref a) (.ref b) := .lst ha hb h.length hl (pr_get h)
theorem lk_tup {n : Nat} {a b : Addr} {xs ys : List V} (ha : SqT K H a xs) (hb : SqT K H b ys) (h : Paired (Lk K H n) xs ys) (hl : ys.length ≤ 1000) : Lk K H (n + 1) (.ref a) (.ref b) := .tup ha hb h.length hl (pr_get h)
theorem lk_ints {n : Nat} : ∀ ns : List Int, Paired (Lk K H n) (ns.map V.int) (ns.map V.int)
  | [] => .nil
  | i :: r => .cons (.int i) (lk_ints r)
end
end Hl

set_option Elab.async false
set_option linter.all false
set_option maxRecDepth 100000
set_option maxHeartbeats 4000000
namespace Hl
open PySem PySem.Spec PyProof.Rows L2
/-! xs[i] op= e: the read, i 0 or more -/
def rIxP (K : PySem.W.Frag) : R2 := fun x y H Q => ∃ (p : Addr) (xs : List V) (i : Nat) (z : V), x = .ref p ∧ y = .int i ∧ SqL K H p xs ∧ xs[i]? = some z ∧ Q z H
theorem get_list {X : Cx} : PGet X (rIxP X.K) := by
  intro pins s σ H x y v u Q I rx ry h
  obtain ⟨p, xs, i, z, rfl, rfl, hq, he, q⟩ := h
  cases (show v = Value.ref p from rx)
  obtain ⟨t, rfl⟩ := (show ∃ t, u = Value.int i t from ry)
  obtain ⟨its, r, pl, hz⟩ := I.list hq
  obtain ⟨w, ew, rw'⟩ := r.get he
  have hl := r.length
  have hn := line63
  have hi : i < its.length := (List.getElem?_eq_some_iff.mp ew).1
  exact wpAny_getItem_list pl.isList (by omega) (by omega) (by simpa using ew) ⟨z, H, I, rw', q⟩
/-! zip of three lists of one length -/
def Itz3 (K : PySem.W.Frag) (a b c : Addr) : It :=
  ⟨fun i H => ∃ (xs ys zs : List V), SqL K H a xs ∧ SqL K H b ys ∧ SqL K H c zs ∧ i < xs.length ∧ i < ys.length ∧ i < zs.length,
    fun i H v H' => ∃ T x y z, v = .ref T ∧ H T = none ∧ H' = upd H T (.tup [x, y, z]) ∧ (∀ xs, SqL K H a xs → xs[i]? = some x) ∧ (∀ ys, SqL K H b ys → ys[i]? = some y) ∧ ∀ zs, SqL K H c zs → zs[i]? = some z,
    fun i H => ∃ xs ys zs : List V, SqL K H a xs ∧ SqL K H b ys ∧ SqL K H c zs ∧ xs.length = i ∧ ys.length = i ∧ zs.length = i⟩
theorem sep3 (I a b c : Nat) (h1 : a < I) (h2 : b < I) (h3 : c < I) : ZipSep3 (I + 5) (I + 3) (I + 4) I (I + 1) (I + 2) [I, a] [I + 1, b] [I + 2, c] := by
  constructor <;> simp <;> (intro e; have e' : (_ : Nat) = (_ : Nat) := e; clear e; omega)
theorem turn_zip3 {P : Program} {w : World} {K : PySem.W.Frag} {elts : List Expr} {kk : Nat} {tpos : Pos} {a b c z TI TO i1 i2 i3 : Addr} (D : ZipSep3 z TI TO i1 i2 i3 [i1, a] [i2, b] [i3, c]) (n1 : a ≠ i1) (n2 : b ≠ i2) (n3 : c ≠ i3) :
    Turn P w K (.Tuple elts kk tpos) (Itz3 K a b c) [z, TI, TO, i1, i2, i3] z (fun i h => IsZip h z TI TO .none ∧ IsTupOf3 h TI (.ref i1) (.ref i2) (.ref i3) ∧ (∃ x y u, IsTupOf3 h TO x y u) ∧ h.IsListIter i1 a i ∧ h.IsListIter i2 b i ∧ h.IsListIter i3 c i) where
  mem := by simp
  obj := fun i h st d hd => by
    obtain ⟨hz, hTI, ⟨x, y, u, hTO⟩, ⟨o1, e1, _, d1⟩, ⟨o2, e2, _, d2⟩, ⟨o3, e3, _, d3⟩⟩ := st
    have e' : d = z ∨ d = TI ∨ d = TO ∨ d = i1 ∨ d = i2 ∨ d = i3 := by simpa using hd
    rcases e' with q | q | q | q | q | q
    · rw [q]; exact ⟨_, hz, fun v q => nomatch q⟩
    · rw [q]; exact ⟨_, hTI, fun v q => nomatch q⟩
    · rw [q]; exact ⟨_, hTO, fun v q => nomatch q⟩
    · rw [q]; exact ⟨o1, e1, fun v q => by rw [d1] at q; cases q⟩
    · rw [q]; exact ⟨o2, e2, fun v q => by rw [d2] at q; cases q⟩
    · rw [q]; exact ⟨o3, e3, fun v q => by rw [d3] at q; cases q⟩
  keep := fun i h h' st k => by
    obtain ⟨hz, hTI, ⟨x, y, u, hTO⟩, h1, h2, h3⟩ := st
    exact ⟨k z (by simp) _ hz, k TI (by simp) _ hTI, ⟨x, y, u, k TO (by simp) _ hTO⟩, h1.at fun o q => k i1 (by simp) o q, h2.at fun o q => k i2 (by simp) o q, h3.at fun o q => k i3 (by simp) o q⟩
  item := by
    intro X hP hw hK hc i pins s σ H E I hf st hg
    subst hP hw hK
    obtain ⟨hz, hTI, ⟨x0, y0, u0, hTO⟩, h1, h2, h3⟩ := st
    obtain ⟨xs, ys, zs, hqx, hqy, hqz, lx, ly, lz⟩ := hg
    obtain ⟨t1, rv1, p1, _⟩ := I.list hqx
    obtain ⟨t2, rv2, p2, _⟩ := I.list hqy
    obtain ⟨t3, rv3, p3, _⟩ := I.list hqz
    have hh : X.A.in1.handled = none := I.ok.hd hc
    have hzl : z < s.heap.objs.size := Heap.lt_size hz
    refine wpAny_pyNext_zipD3_item D (Draws.list hh i1 a n1 t1.toArray) (Draws.list hh i2 b n2 t2.toArray) (Draws.list hh i3 c n3 t3.toArray) hz hTI hTO ⟨h1, p1.isList⟩ ⟨h2, p2.isList⟩ ⟨h3, p3.isList⟩
      (by have := rv1.length; simp; omega) (by have := rv2.length; simp; omega) (by have := rv3.length; simp; omega) ?_
    intro u1 u2 u3 h' tk q1 q2 q3 z' TO' d1 d2 d3 hT hsz hk
    obtain ⟨x, hx, rx⟩ : ∃ x, xs[i]? = some x ∧ RelV x u1 := by
      obtain ⟨u, hu, ru⟩ := rv1.get (List.getElem?_eq_getElem lx)
      have e1 : t1[i]? = some u1 := by simpa using q1
      rw [hu] at e1
      cases e1
      exact ⟨_, List.getElem?_eq_getElem lx, ru⟩
    obtain ⟨y, hy, ry⟩ : ∃ x, ys[i]? = some x ∧ RelV x u2 := by
      obtain ⟨u, hu, ru⟩ := rv2.get (List.getElem?_eq_getElem ly)
      have e1 : t2[i]? = some u2 := by simpa using q2
      rw [hu] at e1
      cases e1
      exact ⟨_, List.getElem?_eq_getElem ly, ru⟩
    obtain ⟨v, hv, rv⟩ : ∃ x, zs[i]? = some x ∧ RelV x u3 := by
      obtain ⟨u, hu, ru⟩ := rv3.get (List.getElem?_eq_getElem lz)
      have e1 : t3[i]? = some u3 := by simpa using q3
      rw [hu] at e1
      cases e1
      exact ⟨_, List.getElem?_eq_getElem lz, ru⟩
    refine ⟨_, rfl, wpAny_letOwnedTupleGo_zip (s := { s with heap := h', toks := tk }) z' fun h'' z'' sb => ?_⟩
    have hT2 : h''.get? s.heap.objs.size = some { cls := .type "tuple", data := .seq #[u1, u2, u3] } := (sb.2 _ (Nat.ne_of_gt hzl)).trans hT
    have new : ObjOk X.prog X.w (upd H s.heap.objs.size (.tup [x, y, v])) h'' s.heap.objs.size (.tup [x, y, v]) :=
      ⟨by show 3 ≤ sizeLine; decide, [u1, u2, u3], .cons rx (.cons ry (.cons rv .nil)), ⟨_, hT2, rfl, _, rfl⟩⟩
    have I1 := I.turnedNew (t' := tk) (ch := [z, TI, TO, i1, i2, i3]) (h' := h'') (fun d o hb q => (sb.2 d (fun q' => hb (by simp [q']))).trans
      (hk d o (fun q' => hb (by simp [q'])) (fun q' => hb (by simp [q'])) (fun q' => hb (by simp [q'])) (fun q' => hb (by simp [q'])) (fun q' => hb (by simp [q'])) q)) hf (Nat.le_refl _) new
    have ti1 : i1 ≠ z := D.zi1.symm
    have ti2 : i2 ≠ z := D.zi2.symm
    have ti3 : i3 ≠ z := D.zi3.symm
    refine ⟨.ref s.heap.objs.size, _, I1, rfl, ⟨_, x, y, v, rfl, I.hok.fresh (Nat.le_refl _), rfl, fun l hl => by rw [I.list_inj hl hqx]; exact hx, fun l hl => by rw [I.list_inj hl hqy]; exact hy, fun l hl => by rw [I.list_inj hl hqz]; exact hv⟩, ⟨z'', ?_, ⟨u1, u2, u3, ?_⟩, ?_, ?_, ?_⟩, fun d hdm => ?_⟩
    · exact (sb.2 _ D.TIz).trans (hk _ _ D.TIz D.TITO D.TIi1 D.TIi2 D.TIi3 hTI)
    · exact (sb.2 _ D.TOz).trans TO'
    · exact d1.1.at fun o q => (sb.2 _ ti1).trans q
    · exact d2.1.at fun o q => (sb.2 _ ti2).trans q
    · exact d3.1.at fun o q => (sb.2 _ ti3).trans q
    · have hlt : d < s.heap.objs.size := by
        have e' : d = z ∨ d = TI ∨ d = TO ∨ d = i1 ∨ d = i2 ∨ d = i3 := by simpa using hdm
        rcases e' with q | q | q | q | q | q
        · rw [q]; exact hzl
        · rw [q]; exact Heap.lt_size hTI
        · rw [q]; exact Heap.lt_size hTO
        · rw [q]; obtain ⟨_, e1, _⟩ := h1; exact Heap.lt_size e1
        · rw [q]; obtain ⟨_, e2, _⟩ := h2; exact Heap.lt_size e2
        · rw [q]; obtain ⟨_, e3, _⟩ := h3; exact Heap.lt_size e3
      rw [upd_ne (Nat.ne_of_lt hlt)]
      exact (hf d hdm).1
  done := by
    intro X hP hw hK hc i pins s σ H E I hf st hg
    subst hP hw hK
    obtain ⟨hz, hTI, ⟨x0, y0, u0, hTO⟩, h1, h2, h3⟩ := st
    obtain ⟨xs, ys, zs, hqx, hqy, hqz, lx, ly, lz⟩ := hg
    obtain ⟨t1, rv1, p1, _⟩ := I.list hqx
    obtain ⟨t2, rv2, p2, _⟩ := I.list hqy
    obtain ⟨t3, rv3, p3, _⟩ := I.list hqz
    have l1 := rv1.length
    have l2 := rv2.length
    have l3 := rv3.length
    have hh : X.A.in1.handled = none := I.ok.hd hc
    refine wpAny_pyNext_zipD3_end D (Draws.list hh i1 a n1 t1.toArray) (Draws.list hh i2 b n2 t2.toArray) (Draws.list hh i3 c n3 t3.toArray) hz hTI hTO ⟨h1, p1.isList⟩ ⟨h2, p2.isList⟩ ⟨h3, p3.isList⟩
      (by simp; omega) (by simp; omega) (by simp; omega) (.inl (by simp; omega)) ?_
    intro h' tk hk
    exact ⟨rfl, I.turnedL (t' := tk) (ch := [z, TI, TO, i1, i2, i3]) (fun d o hb q =>
      hk d o (fun q' => hb (by simp [q'])) (fun q' => hb (by simp [q'])) (fun q' => hb (by simp [q'])) (fun q' => hb (by simp [q'])) (fun q' => hb (by simp [q'])) q) hf⟩
  self := fun A i s Q E st h => wpAny_pyIter_zip st.1 h
def iZip3 (K : PySem.W.Frag) (ta : TA) : TI := fun σ H R => ta σ H fun vs H1 => ∃ a b c xs ys zs, vs = [.ref a, .ref b, .ref c] ∧ SqL K H1 a xs ∧ SqL K H1 b ys ∧ SqL K H1 c zs ∧ R (Itz3 K a b c) H1
theorem pi_zip3 {X : Cx} {e e2 e3 : Expr} {ta : TA} {p pos tpos : Pos} {elts : List Expr} {kk : Nat} (hg : Gl X "zip") (hm : X.mg "zip" = none) (ha : PA X [e, e2, e3] ta)
    (hs : starEach [e, e2, e3] X.env = (false, eval e X.env) :: starEach [e2, e3] X.env := by rfl) (hpl : (backTo pos (starEach [e2, e3] X.env)).any (·.1) = false := by rfl) :
    PI X (.Tuple elts kk tpos) (.Call (.Name "zip" p) [e, e2, e3] [] pos) (iZip3 X.K ta) := by
  constructor
  intro pins s σ H R I h
  refine Call_ (ld_blt I hg hm PyProof.Rows.boot_zip (PyProof.Rows.callWith_type1 (thn (ha.run pos pins s σ H _ I h) ?_) hs hpl))
  rintro us s1 ⟨vs, H1, I1, r1, a, b, c, xs, ys, zs, rfl, hqx, hqy, hqz, q⟩
  cases r1 with
  | cons ra rr =>
    cases rr with
    | cons rb rr =>
      cases rr with
      | cons rc rr =>
        cases rr
        cases ra
        cases rb
        cases rc
        obtain ⟨t1, rv1, p1, _⟩ := I1.list hqx
        obtain ⟨t2, rv2, p2, _⟩ := I1.list hqy
        obtain ⟨t3, rv3, p3, _⟩ := I1.list hqz
        have la : a < s1.heap.objs.size := p1.lt
        have lb : b < s1.heap.objs.size := p2.lt
        have lc : c < s1.heap.objs.size := p3.lt
        refine zip_begins3 (begins_list a t1.toArray) (begins_list b t2.toArray) (begins_list c t3.toArray) p1.isList p2.isList p3.isList fun h' hz hTI hTO g1 g2 g3 hsz hk => wpAny_pyIter_zip hz ?_
        have I2 : Inv X pins σ H1 { s1 with heap := h' } := I1.kept (t' := s1.toks) hk
        refine ⟨s1.heap.objs.size + 5, [s1.heap.objs.size + 5, s1.heap.objs.size + 3, s1.heap.objs.size + 4, s1.heap.objs.size, s1.heap.objs.size + 1, s1.heap.objs.size + 2], _, _, H1, rfl, I2,
          turn_zip3 (sep3 s1.heap.objs.size a b c la lb lc) (Nat.ne_of_lt la) (Nat.ne_of_lt (Nat.lt_of_lt_of_le lb (Nat.le_add_right _ 1))) (Nat.ne_of_lt (Nat.lt_of_lt_of_le lc (Nat.le_add_right _ 2))), ⟨hz, hTI, ⟨_, _, _, hTO⟩, ⟨_, g1, rfl, rfl⟩, ⟨_, g2, rfl, rfl⟩, ⟨_, g3, rfl, rfl⟩⟩, fun d hdm => ?_, q⟩
        have hle : s1.heap.objs.size ≤ d := by
          simp only [List.mem_cons, List.not_mem_nil, or_false] at hdm
          rcases hdm with z | z | z | z | z | z
          · rw [z]; exact Nat.le_add_right _ _
          · rw [z]; exact Nat.le_add_right _ _
          · rw [z]; exact Nat.le_add_right _ _
          · rw [z]; exact Nat.le_refl _
          · rw [z]; exact Nat.le_add_right _ _
          · rw [z]; exact Nat.le_add_right _ _
        exact I1.fpOk hle (I1.hok.fresh hle)
end Hl

set_option Elab.async false
set_option linter.all false
set_option maxRecDepth 100000
set_option maxHeartbeats 4000000
namespace Hl
open PySem PySem.Spec PyProof.Rows L2
abbrev sDown : Stmt := topS 58
abbrev sTimes : Stmt := topS 59
abbrev sWeight : Stmt := topS 60
abbrev sGain : Stmt := topS 61
/-- a rule as data -/
structure Rl where
  e : Int
  a : Int
  m : Option Int
  ws : List (Str × Int)
  gs : List (Str × Int)
def moV : Option Int → V
  | none => .non
  | some k => .int k
def PairAt (H : Hp) (v : V) (p : Str × Int) : Prop := ∃ a, v = .ref a ∧ H a = some (.tup [.str p.1, .int p.2])
def PairsAt (H : Hp) (t : Addr) (ps : List (Str × Int)) : Prop := ∃ vs, H t = some (.tup vs) ∧ Paired (PairAt H) vs ps
def RuleAt (H : Hp) (v : V) (r : Rl) : Prop := ∃ t wt gt, v = .ref t ∧ H t = some (.tup [.str "each", .int r.e, .int r.a, .ref wt, .ref gt, moV r.m]) ∧ PairsAt H wt r.ws ∧ PairsAt H gt r.gs
theorem paired_mono {α β : Type} {R S : α → β → Prop} (h : ∀ a b, R a b → S a b) : ∀ {xs : List α} {ys : List β}, Paired R xs ys → Paired S xs ys
  | _, _, .nil => .nil
  | _, _, .cons a r => .cons (h _ _ a) (paired_mono h r)
theorem paired_get {α β : Type} {R : α → β → Prop} : ∀ {xs : List α} {ys : List β} (_ : Paired R xs ys) (i : Nat) (x : α), xs[i]? = some x → ∃ y, ys[i]? = some y ∧ R x y
  | _, _, .nil, i, x, e => by cases e
  | _, _, .cons a r, 0, x, e => by
    cases Option.some.inj e
    exact ⟨_, rfl, a⟩
  | _, _, .cons a r, i + 1, x, e => paired_get r i x e
theorem paired_get2 {α β : Type} {R : α → β → Prop} : ∀ {xs : List α} {ys : List β} (_ : Paired R xs ys) (i : Nat) (y : β), ys[i]? = some y → ∃ x, xs[i]? = some x ∧ R x y
  | _, _, .nil, i, x, e => by cases e
  | _, _, .cons a r, 0, x, e => by
    cases Option.some.inj e
    exact ⟨_, rfl, a⟩
  | _, _, .cons a r, i + 1, x, e => paired_get2 r i x e
section
variable {H H' : Hp}
theorem PairAt.kp {v : V} {p : Str × Int} (k : Kp H H') (h : PairAt H v p) : PairAt H' v p := by
  obtain ⟨a, e, h⟩ := h
  exact ⟨a, e, k.keep _ _ nd_tup h⟩
theorem PairsAt.kp {t : Addr} {p : List (Str × Int)} (k : Kp H H') (h : PairsAt H t p) : PairsAt H' t p := by
  obtain ⟨vs, e, h⟩ := h
  exact ⟨vs, k.keep _ _ nd_tup e, paired_mono (fun _ _ => PairAt.kp k) h⟩
theorem RuleAt.kp {v : V} {r : Rl} (k : Kp H H') (h : RuleAt H v r) : RuleAt H' v r := by
  obtain ⟨t, wt, gt, e, h, h1, h2⟩ := h
  exact ⟨t, wt, gt, e, k.keep _ _ nd_tup h, h1.kp k, h2.kp k⟩
end
def dn (r : Rl) (x : Int) : Int := downF r.e r.a r.m x
def tm (r : Rl) (x : Int) : Int := timesF r.e r.a r.m x
structure OkR (r : Rl) : Prop where
  oe : OkE r.e r.a r.m
  wl : r.ws.length ≤ 3
  wv : ∀ p ∈ r.ws, 0 ≤ p.2 ∧ p.2 ≤ 3
  gl : r.gs.length ≤ 3
  gv : ∀ p ∈ r.gs, 0 ≤ p.2 ∧ p.2 ≤ 3
section
variable {P : Program} {w : World} {K : PySem.W.Frag} {mg : Str → Option Value} {base : Heap}
/-! _law_down -/
structure Bj (mg : Str → Option Value) : Prop where
  min : mg "min" = none
  max : mg "max" = none
  sum : mg "sum" = none
  zip : mg "zip" = none
  sorted : mg "sorted" = none
def spDown : Sp := fun vs H Q _ => ∃ (v : V) (r : Rl) (x : Int), vs = [v, .int x] ∧ RuleAt H v r ∧ OkE r.e r.a r.m ∧ Q (.int (dn r x)) H
theorem scDo : FnScope ["_law_rule_here", "_law_come"] ["_law_rule_here", "_law_come"] (defScope sDown) := ⟨rfl, rfl, rfl, by decide +kernel, rfl, by decide +kernel, by decide +kernel⟩
theorem ok_down {f : Addr} {fd : FuncData} {k : Nat} (F : Fun K "_law_down" "_law_down" sDown f fd) (B : Bj mg) : FnOk P w K mg base CX0 (k + 1) f fd ["_law_rule_here", "_law_come"] spDown := by
  refine F.ok scDo (fun vs H Q E h => ?_) (fun cdv A outer s H vs Q E hr h => ?_)
  · obtain ⟨v, r, x, rfl, _⟩ := h
    rfl
  · obtain ⟨v, r, x, rfl, ⟨t, wt, gt, rfl, ht, _, _⟩, oe, q⟩ := h
    refine ⟨_, pss_cons (ps_if (pt_cmpR op_notN (pe_ix ix_tup (pv 0) pe_int (fun _ _ => rfl)) pe_non (nomark _))
        (pss_one (ps_ret (pe_callB (call_min2 rfl) (by rfl) B.min (by decide +kernel) (pa_cons (pv 1) (pa_cons (pe_op op_add (pe_ix ix_tup (pv 0) pe_int (fun _ _ => rfl)) (pe_op op_mul (pe_ix ix_tup (pv 0) pe_int (fun _ _ => rfl)) (pe_ix ix_tup (pv 0) pe_int (fun _ _ => rfl)))) pa_nil))))) pss_nil)
      (pss_one (ps_ret (pe_ifExp (pt_cmpR op_lt (pv 1) (pe_ix ix_tup (pv 0) pe_int (fun _ _ => rfl)) (nomark _)) (pv 1) (pe_op op_add (pe_ix ix_tup (pv 0) pe_int (fun _ _ => rfl)) (pe_op op_mod (pe_op op_sub (pv 1) (pe_ix ix_tup (pv 0) pe_int (fun _ _ => rfl))) (pe_ix ix_tup (pv 0) pe_int (fun _ _ => rfl))))))), ?_⟩
    obtain ⟨re, ra, rm, rws, rgs⟩ := r
    obtain ⟨e1, e4, a0, a2, mo⟩ := oe
    dsimp only at *
    refine ⟨_, rfl, t, _, 5, _, rfl, rfl, SqT.of ht, atI_nat (j := 5) rfl, rfl, _, rfl, ?_⟩
    cases rm with
    | none =>
      refine iF rfl ?_
      refine ⟨_, rfl, _, rfl, t, _, 2, _, rfl, rfl, SqT.of ht, atI_nat (j := 2) rfl, _, _, rfl, rfl, _, rfl, ite2 (fun e => ?_) (fun e => ?_)⟩
      · have h1 : x < ra := of_decide_eq_true e
        refine ⟨_, rfl, ?_⟩
        have : dn ⟨re, ra, none, rws, rgs⟩ x = x := if_pos h1
        rw [this] at q
        exact q
      · have h1 : ¬ x < ra := fun z => e (decide_eq_true z)
        refine ⟨_, rfl, t, _, 2, _, rfl, rfl, SqT.of ht, atI_nat (j := 2) rfl, _, rfl, _, rfl, t, _, 2, _, rfl, rfl, SqT.of ht, atI_nat (j := 2) rfl, _, _, rfl, rfl, _, rfl, t, _, 1, _, rfl, rfl, SqT.of ht, atI_nat (j := 1) rfl, _, _, rfl, rfl, (show (0 : Int) < re by omega), _, _, rfl, rfl, ?_⟩
        have : dn ⟨re, ra, none, rws, rgs⟩ x = ra + (x - ra) % re := if_neg h1
        rw [this] at q
        exact q
    | some kk =>
      refine iT rfl ?_
      refine ⟨_, rfl, _, rfl, t, _, 2, _, rfl, rfl, SqT.of ht, atI_nat (j := 2) rfl, _, rfl, t, _, 1, _, rfl, rfl, SqT.of ht, atI_nat (j := 1) rfl, _, rfl, t, _, 5, _, rfl, rfl, SqT.of ht, atI_nat (j := 5) rfl, _, _, rfl, rfl, .inl ⟨by omega, by omega⟩, _, _, rfl, rfl, _, _, rfl, ?_⟩
      exact q
/-! _law_times_of -/
def spTimes : Sp := fun vs H Q _ => ∃ (v : V) (r : Rl) (x : Int), vs = [v, .int x] ∧ RuleAt H v r ∧ OkE r.e r.a r.m ∧ Q (.int (tm r x)) H
theorem scTi : FnScope ["_law_rule_here", "_law_come", "_law_found"] ["_law_rule_here", "_law_come"] (defScope sTimes) := ⟨rfl, rfl, rfl, by decide +kernel, rfl, by decide +kernel, by decide +kernel⟩
theorem ok_times {f : Addr} {fd : FuncData} {k : Nat} (F : Fun K "_law_times_of" "_law_times_of" sTimes f fd) (B : Bj mg) : FnOk P w K mg base CX0 (k + 1) f fd ["_law_rule_here", "_law_come"] spTimes := by
  refine F.ok scTi (fun vs H Q E h => ?_) (fun cdv A outer s H vs Q E hr h => ?_)
  · obtain ⟨v, r, x, rfl, _⟩ := h
    rfl
  · obtain ⟨v, r, x, rfl, ⟨t, wt, gt, rfl, ht, _, _⟩, oe, q⟩ := h
    refine ⟨_, pss_cons (ps_set (i := 2) scTi.nd rfl (.inl rfl) (pe_op op_fdiv (pe_callB (call_max2 rfl) (by rfl) B.max (by decide +kernel) (pa_cons pe_int (pa_cons (pe_op op_sub (pv 1) (pe_ix ix_tup (pv 0) pe_int (fun _ _ => rfl))) pa_nil))) (pe_ix ix_tup (pv 0) pe_int (fun _ _ => rfl))))
      (pss_one (ps_ret (pe_ifExp (pt_cmpR op_isN (pe_ix ix_tup (pv 0) pe_int (fun _ _ => rfl)) pe_non (nomark _)) (pv 2) (pe_callB (call_min2 rfl) (by rfl) B.min (by decide +kernel) (pa_cons (pv 2) (pa_cons (pe_ix ix_tup (pv 0) pe_int (fun _ _ => rfl)) pa_nil)))))), ?_⟩
    obtain ⟨re, ra, rm, rws, rgs⟩ := r
    obtain ⟨e1, e4, a0, a2, mo⟩ := oe
    dsimp only at *
    refine ⟨_, rfl, _, rfl, t, _, 2, _, rfl, rfl, SqT.of ht, atI_nat (j := 2) rfl, _, _, rfl, rfl, _, _, rfl, _, rfl, t, _, 1, _, rfl, rfl, SqT.of ht, atI_nat (j := 1) rfl, _, _, rfl, rfl, ⟨by omega, by omega⟩, ?_⟩
    refine ⟨_, rfl, t, _, 5, _, rfl, rfl, SqT.of ht, atI_nat (j := 5) rfl, rfl, _, rfl, ?_⟩
    cases rm with
    | none => exact iT rfl ⟨_, rfl, q⟩
    | some kk => exact iF rfl ⟨_, rfl, _, rfl, t, _, 5, _, rfl, rfl, SqT.of ht, atI_nat (j := 5) rfl, _, _, rfl, q⟩
/-! _law_weight -/
def wt (r : Rl) (n : Str) : Int := ((r.ws.filter fun p => decide (p.1 = n)).map (·.2)).sum
def spWeight : Sp := fun vs H Q _ => ∃ (v : V) (r : Rl) (n : Str), vs = [v, .str n] ∧ RuleAt H v r ∧ r.ws.length ≤ 3 ∧ ∀ H', Same H H' → Q (.int (wt r n)) H'
theorem scWe : FnScope ["_law_rule_here", "_law_name", "_law_one", "_law_weight_here"] ["_law_rule_here", "_law_name"] (defScope sWeight) := ⟨rfl, rfl, rfl, by decide +kernel, rfl, by decide +kernel, by decide +kernel⟩
theorem ok_weight {f : Addr} {fd : FuncData} {k : Nat} (F : Fun K "_law_weight" "_law_weight" sWeight f fd) (B : Bj mg) : FnOk P w K mg base CX0 (k + 1) f fd ["_law_rule_here", "_law_name"] spWeight := by
  refine F.ok scWe (fun vs H Q E h => ?_) (fun cdv A outer s H vs Q E hr h => ?_)
  · obtain ⟨v, r, x, rfl, _⟩ := h
    rfl
  · obtain ⟨v, r, n, rfl, ⟨t, wt', gt, rfl, ht, ⟨ps, hps, hp⟩, _⟩, hl, q⟩ := h
    refine ⟨_, pss_one (ps_ret (pe_callB (cr_sum rfl) (by rfl) B.sum (by decide +kernel) (pa_cons
      (pe_lc (own := [("_law_one", 2), ("_law_weight_here", 3)]) (g := gTup K 2 (gCons (gName 2) (gCons (gName 3) gNil))) (tt := tTest (tOp rEq (tVar 2) (tVar 1))) rfl scWe.nd (pi_tup (pe_ix ix_tup (pv 0) pe_int (fun _ _ => rfl)))
        (blkOk_by (own := [("_law_one", 2), ("_law_weight_here", 3)]) (N := ["_law_rule_here", "_law_name", "_law_one", "_law_weight_here"]) (sc := defScope sWeight) (by decide +kernel))
        (fun _ _ _ _ _ => pg_tup rfl (pgs_cons (pg_name (i := 2) scWe.nd rfl (Or.inl rfl)) (pgs_cons (pg_name (i := 3) scWe.nd rfl (Or.inl rfl)) pgs_nil)))
        (fun _ _ _ _ _ => pts_one (pt_cmpR op_eq (pv 2) (pv 1) (nomark _)))
        (fun _ _ _ _ _ => pv 3)) pa_nil))), ?_⟩
    refine ⟨_, rfl, t, _, 3, _, rfl, rfl, SqT.of ht, atI_nat (j := 3) rfl, wt', rfl, ⟨_, SqT.of hps⟩, fun D hD => ?_⟩
    have lp := hp.length
    refine lc_tup (K := K) (a := wt') (xs := ps) (fun i H' => Same H H' ∧ H' D = some (.lst ((((r.ws.take i).filter fun p => decide (p.1 = n)).map (·.2)).map V.int))) ⟨same_upd hD, upd_same⟩ (fun i H' _ ⟨sm, _⟩ => same_t sm (SqT.of hps)) ?_ ?_
    · rintro i x H' hx ⟨sm, hD'⟩
      obtain ⟨p, hpi, a, rfl, ha⟩ := paired_get hp i x hx
      refine ⟨a, _, rfl, SqT.of (sm _ _ ha), rfl, _, _, rfl, _, _, rfl, rfl, ?_⟩
      refine ⟨rfl, ?_⟩
      refine ⟨_, rfl, _, rfl, rfl, _, rfl, ite2 (fun e => ?_) (fun e => ?_)⟩
      · have en : p.1 = n := V.str.inj (of_decide_eq_true e)
        refine ⟨_, rfl, _, hD', ?_, ?_⟩
        · rw [List.length_map, List.length_map]
          refine small1000 (Nat.le_trans (List.length_filter_le _ _) ?_)
          rw [List.length_take]
          omega
        · refine ⟨fun b o eb => ?_, ?_⟩
          · rw [upd_ne (ne_of_none eb hD)]
            exact sm _ _ eb
          · rw [upd_same, List.take_add_one, hpi]
            simp [en]
      · have en : ¬ p.1 = n := fun z => e (by rw [z]; exact decide_eq_true rfl)
        refine ⟨sm, ?_⟩
        rw [hD', List.take_add_one, hpi]
        simp [en]
    · rintro H' ⟨sm, hD'⟩
      rw [lp, List.take_length] at hD'
      exact ⟨D, _, rfl, SqL.of hD', q H' sm⟩
end
end Hl

set_option Elab.async false
set_option linter.all false
set_option maxRecDepth 100000
set_option maxHeartbeats 4000000
namespace Hl
open PySem PySem.Spec PyProof.Rows L2
theorem for_zip3 {K : PySem.W.Frag} {a b c : Addr} {xs ys zs : List V} {g : TG} {tb : TS} {D : Ends} {σ : L2.St} {H : Hp} {n : Nat} (hx : xs.length = n) (hy : ys.length = n) (hz : zs.length = n) (Pv : Nat → L2.St → Hp → Prop) (h0 : Pv 0 σ H)
    (hq : ∀ i σ H, Pv i σ H → SqL K H a xs ∧ SqL K H b ys ∧ SqL K H c zs)
    (hs : ∀ (i : Nat) (x y z : V) (T : Addr) (σ : L2.St) (H : Hp), xs[i]? = some x → ys[i]? = some y → zs[i]? = some z → Pv i σ H → H T = none → g (.ref T) σ (upd H T (.tup [x, y, z])) fun σ2 H2 => tb { D with nx := Pv (i + 1), ct := Pv (i + 1), bk := D.nx } σ2 H2)
    (hd : ∀ σ H, Pv n σ H → D.nx σ H) :
    ∃ W : Nat → Nat → L2.St → Hp → Prop, (∃ m, W 0 m σ H) ∧ ∀ i m σ H, W i m σ H →
      ((Itz3 K a b c).stop i H ∧ D.nx σ H) ∨ ((Itz3 K a b c).go i H ∧ ∃ N : L2.St → Hp → Prop, (∀ σ' H', N σ' H' → ∃ m', m' < m ∧ W (i + 1) m' σ' H') ∧ ∀ v H', (Itz3 K a b c).yld i H v H' → g v σ H' fun σ2 H2 => tb { D with nx := N, ct := N, bk := D.nx } σ2 H2) := by
  refine ⟨fun i m σ H => m = n - i ∧ i ≤ n ∧ Pv i σ H, ⟨n, rfl, Nat.zero_le _, h0⟩, ?_⟩
  rintro i m σ H ⟨rfl, hi, p⟩
  obtain ⟨qx, qy, qz⟩ := hq i σ H p
  by_cases hlt : i < n
  · refine .inr ⟨⟨xs, ys, zs, qx, qy, qz, by omega, by omega, by omega⟩, Pv (i + 1), fun σ' H' p' => ⟨n - (i + 1), by omega, rfl, hlt, p'⟩, ?_⟩
    rintro v H' ⟨T, x, y, z, rfl, hT, rfl, f1, f2, f3⟩
    exact hs i x y z T σ H (f1 _ qx) (f2 _ qy) (f3 _ qz) p hT
  · have e : i = n := by omega
    subst e
    exact .inl ⟨⟨xs, ys, zs, qx, qy, qz, hx, hy, hz⟩, hd σ H p⟩
/-- the place of a name -/
def ixOf (outs : List Str) (n : Str) : Nat := outs.findIdx fun s => decide (s = n)
theorem ixOf_lt {outs : List Str} {n : Str} (h : n ∈ outs) : ixOf outs n < outs.length := List.findIdx_lt_length_of_exists ⟨n, h, decide_eq_true rfl⟩
theorem ixOf_get {outs : List Str} {n : Str} (h : n ∈ outs) : outs[ixOf outs n]? = some n := by
  have hl := ixOf_lt h
  rw [List.getElem?_eq_getElem hl]
  have := List.findIdx_getElem (xs := outs) (p := fun s => decide (s = n)) (w := hl)
  exact congrArg some (of_decide_eq_true this)
theorem ixOf_no {outs : List Str} {n : Str} {m : Nat} {s : Str} (h : m < ixOf outs n) (e : outs[m]? = some s) : s ≠ n := by
  obtain ⟨hl, rfl⟩ := List.getElem?_eq_some_iff.mp e
  have := List.not_of_lt_findIdx (xs := outs) (p := fun s => decide (s = n)) h
  intro z
  simp [z] at this
theorem map_str_get {outs : List Str} {i : Nat} {v : V} (h : (outs.map V.str)[i]? = some v) : ∃ s, outs[i]? = some s ∧ v = .str s := by
  rw [List.getElem?_map] at h
  cases e : outs[i]? with
  | none =>
    rw [e] at h
    cases h
  | some s =>
    rw [e] at h
    exact ⟨s, rfl, (Option.some.inj h).symm⟩
theorem map_int_get {outs : List Int} {i : Nat} {v : V} (h : (outs.map V.int)[i]? = some v) : ∃ s, outs[i]? = some s ∧ v = .int s := by
  rw [List.getElem?_map] at h
  cases e : outs[i]? with
  | none =>
    rw [e] at h
    cases h
  | some s =>
    rw [e] at h
    exact ⟨s, rfl, (Option.some.inj h).symm⟩
theorem strs_flat (ns : List Str) : (ns.map V.str).all flatV = true := by
  rw [List.all_map]
  exact List.all_eq_true.mpr fun _ _ => rfl
theorem ints_flat (ns : List Int) : (ns.map V.int).all flatV = true := by
  rw [List.all_map]
  exact List.all_eq_true.mpr fun _ _ => rfl
def addAt (acc : List Int) (j : Nat) (d : Int) : List Int := acc.set j ((acc[j]?).getD 0 + d)
def gStep (outs : List Str) (r : Rl) (x y : Int) (acc : List Int) (p : Str × Int) : List Int := addAt acc (ixOf outs p.1) (p.2 * (tm r y - tm r x))
def gRule (outs : List Str) (r : Rl) (x y : Int) (acc : List Int) : List Int := r.gs.foldl (gStep outs r x y) acc
def gAll (outs : List Str) (l : List (Rl × Int × Int)) : List Int := l.foldl (fun acc t => gRule outs t.1 t.2.1 t.2.2 acc) (List.replicate outs.length 0)
theorem gStep_len {outs : List Str} {r : Rl} {x y : Int} {acc : List Int} {p : Str × Int} : (gStep outs r x y acc p).length = acc.length := by
  unfold gStep addAt
  rw [List.length_set]
theorem gFold_len {outs : List Str} {r : Rl} {x y : Int} : ∀ (l : List (Str × Int)) (acc : List Int), (l.foldl (gStep outs r x y) acc).length = acc.length
  | [], _ => rfl
  | p :: l, acc => by
    show (l.foldl (gStep outs r x y) (gStep outs r x y acc p)).length = acc.length
    rw [gFold_len l, gStep_len]
theorem gRule_len {outs : List Str} {r : Rl} {x y : Int} {acc : List Int} : (gRule outs r x y acc).length = acc.length := gFold_len _ _
theorem gAll_lenA {outs : List Str} : ∀ (l : List (Rl × Int × Int)) (acc : List Int), (l.foldl (fun acc t => gRule outs t.1 t.2.1 t.2.2 acc) acc).length = acc.length
  | [], _ => rfl
  | p :: l, acc => by
    show (l.foldl _ (gRule outs p.1 p.2.1 p.2.2 acc)).length = acc.length
    rw [gAll_lenA l, gRule_len]
theorem gAll_len {outs : List Str} (l : List (Rl × Int × Int)) : (gAll outs l).length = outs.length := by
  unfold gAll
  rw [gAll_lenA, List.length_replicate]
theorem rep_one (n : Nat) : (List.replicate n [V.int 0]).flatten = (List.replicate n (0 : Int)).map V.int := by
  induction n with
  | zero => rfl
  | succ n ih =>
    rw [List.replicate_succ, List.flatten_cons, ih, List.replicate_succ]
    rfl
section
variable {P : Program} {w : World} {K : PySem.W.Frag} {mg : Str → Option Value} {base : Heap}
def spGain (K : PySem.W.Frag) : Sp := fun vs H Q _ => ∃ (a o x y : Addr) (vr : List V) (rs : List Rl) (outs : List Str) (xs ys : List Int), vs = [.ref a, .ref o, .ref x, .ref y] ∧ H a = some (.lst vr) ∧ Paired (RuleAt H) vr rs ∧ SqL K H o (outs.map V.str) ∧ SqL K H x (xs.map V.int) ∧ SqL K H y (ys.map V.int) ∧
  xs.length = rs.length ∧ ys.length = rs.length ∧ outs.length ≤ 1000 ∧ (∀ r ∈ rs, OkR r ∧ ∀ p ∈ r.gs, p.1 ∈ outs) ∧ ∀ H' t, Same H H' → H t = none → H' t = some (.tup ((gAll outs (rs.zip (xs.zip ys))).map V.int)) → Q (.ref t) H'
theorem scGa : FnScope ["_law_rules", "_law_outs", "_law_early", "_law_late", "_law_found", "_law_rule_here", "_law_one", "_law_two", "_law_name", "_law_many"] ["_law_rules", "_law_outs", "_law_early", "_law_late"] (defScope sGain) := ⟨rfl, rfl, rfl, by decide +kernel, rfl, by decide +kernel, by decide +kernel⟩
theorem ok_gain {f fT : Addr} {fd fdT : FuncData} {k : Nat} (F : Fun K "_law_gain" "_law_gain" sGain f fd) (GT : FnOk P w K mg base CX0 k fT fdT ["_law_rule_here", "_law_come"] spTimes) (kT : PySem.W.keepIn K (.ref fT) = true) (bT : Binds K fdT ["_law_rule_here", "_law_come"] []) (gT : mg "_law_times_of" = some (.ref fT)) (B : Bi mg) (J : Bj mg) :
    FnOk P w K mg base CX0 (k + 1) f fd ["_law_rules", "_law_outs", "_law_early", "_law_late"] (spGain K) := by
  refine F.ok scGa (fun vs H Q E h => ?_) (fun cdv A outer s H vs Q E hr h => ?_)
  · obtain ⟨a, o, x, y, vr, rs, outs, xs, ys, rfl, _⟩ := h
    rfl
  · obtain ⟨a, o, x, y, vr, rs, outs, xs, ys, rfl, ha, hR, ho, hx, hy, lx, ly, lo, ok, q⟩ := h
    refine ⟨_, pss_cons (ps_set (i := 4) scGa.nd rfl (.inl rfl) (pe_op op_rep (pe_lst (pa_cons pe_int pa_nil)) (pe_callB call_len_seq (by rfl) B.len PySem.boot_len (pa_cons (pv 1) pa_nil))))
      (pss_cons (ps_for PassesOwn.never rfl (pi_zip3 (by rfl) J.zip (pa_cons (pv 0) (pa_cons (pv 2) (pa_cons (pv 3) pa_nil)))) (pg_tup rfl (pgs_cons (pg_name (i := 5) scGa.nd rfl (.inl rfl)) (pgs_cons (pg_name (i := 6) scGa.nd rfl (.inl rfl)) (pgs_cons (pg_name (i := 7) scGa.nd rfl (.inl rfl)) pgs_nil))))
        (pss_one (ps_for PassesOwn.never rfl (pi_tup (pe_ix ix_tup (pv 5) pe_int (fun _ _ => rfl))) (pg_tup rfl (pgs_cons (pg_name (i := 8) scGa.nd rfl (.inl rfl)) (pgs_cons (pg_name (i := 9) scGa.nd rfl (.inl rfl)) pgs_nil)))
          (pss_one (ps_augS (pv 4) (pe_bm PySem.F.plainAttrs_list PySem.F.slot_list_index PySem.F.type_list_index mt_index (pv 1) (pa_cons (pv 8) pa_nil)) get_list
            (pe_op op_mul (pv 9) (pe_op op_sub (pe_call GT hr (by rfl) gT kT bT .nil pass0 (pa_cons (pv 5) (pa_cons (pv 7) pa_nil))) (pe_call GT hr (by rfl) gT kT bT .nil pass0 (pa_cons (pv 5) (pa_cons (pv 6) pa_nil))))) ip_add set_list)))))
      (pss_one (ps_ret (pe_callTy call_tuple_of (by rfl) B.tup (by decide +kernel) (pa_cons (pv 4) pa_nil))))), ?_⟩
    -- found
    refine ⟨(by show 1 ≤ sizeLine; decide), fun z nz => ?_⟩
    have s1 := same_upd (o := .lst [.int 0]) nz
    refine ⟨_, rfl, o, _, rfl, .inl (s1.seq ho), z, (outs.length : Int), _, rfl, by rw [List.length_map], upd_same, by omega, by omega, ?_, fun D hD => ?_⟩
    · rw [Int.toNat_natCast]
      show 1 * outs.length ≤ sizeLine
      exact Nat.le_of_lt (small1000 (by omega))
    have s2 := s1.trans (same_upd (o := .lst (List.replicate (outs.length : Int).toNat [V.int 0]).flatten) hD)
    have nD : H D = none := s1.free hD
    rw [Int.toNat_natCast, rep_one] at s2 ⊢
    generalize hH2 : (upd (upd H z (.lst [.int 0])) D (.lst ((List.replicate outs.length (0 : Int)).map V.int))) = H2 at *
    have hD2 : H2 D = some (.lst ((List.replicate outs.length (0 : Int)).map V.int)) := by rw [← hH2]; exact upd_same
    have lr := hR.length
    refine ⟨_, rfl, _, rfl, _, rfl, a, x, y, _, _, _, rfl, SqL.of (s2 _ _ ha), s2.seq hx, s2.seq hy, ?_⟩
    refine for_zip3 (n := rs.length) lr (by rw [List.length_map]; exact lx) (by rw [List.length_map]; exact ly)
      (fun i σ H' => ∃ v5 v6 v7 v8 v9 : Option V, σ = [some (.ref a), some (.ref o), some (.ref x), some (.ref y), some (.ref D), v5, v6, v7, v8, v9] ∧ Same H H' ∧ H' D = some (.lst ((gAll outs ((rs.zip (xs.zip ys)).take i)).map V.int)))
      ⟨none, none, none, none, none, rfl, s2, hD2⟩ (fun i σ H' ⟨_, _, _, _, _, _, sm, _⟩ => ⟨SqL.of (sm _ _ ha), sm.seq hx, sm.seq hy⟩) ?_ ?_
    · rintro i vr' vx vy T σ H3 gr gx gy ⟨v5, v6, v7, v8, v9, rfl, sm, hD3⟩ nT
      obtain ⟨r, hr', ra⟩ := paired_get hR i _ gr
      obtain ⟨xi, hxi, rfl⟩ := map_int_get gx
      obtain ⟨yi, hyi, rfl⟩ := map_int_get gy
      have hri : r ∈ rs := List.mem_of_getElem? hr'
      obtain ⟨okr, gin⟩ := ok r hri
      have sT := same_upd (o := .tup [vr', .int xi, .int yi]) nT
      have hz : (rs.zip (xs.zip ys))[i]? = some (r, xi, yi) := by
        rw [List.getElem?_zip_eq_some]
        refine ⟨hr', ?_⟩
        rw [List.getElem?_zip_eq_some]
        exact ⟨hxi, hyi⟩
      refine ⟨T, _, rfl, SqT.of upd_same, rfl, _, _, rfl, _, _, rfl, _, _, rfl, rfl, ?_⟩
      have sm4 := sm.trans sT
      have ra4 : RuleAt (upd H3 T (.tup [vr', .int xi, .int yi])) vr' r := ra.kp (Kp.of sm4)
      have hD4 := sT _ _ hD3
      generalize (upd H3 T (.tup [vr', .int xi, .int yi])) = H4 at *
      obtain ⟨t, wt', gt, rfl, ht, _, ⟨gp, hgp, hg⟩⟩ := ra
      have ht4 : H4 t = some (.tup [.str "each", .int r.e, .int r.a, .ref wt', .ref gt, moV r.m]) := sm4 _ _ ht
      have hgp4 := sm4 _ _ hgp
      refine ⟨_, rfl, t, _, 4, _, rfl, rfl, SqT.of ht4, atI_nat (j := 4) rfl, gt, rfl, ⟨_, SqT.of hgp4⟩, ?_⟩
      refine for_tup (K := K) (a := gt) (xs := gp) (fun j σ H' => ∃ v8 v9 : Option V, σ = [some (.ref a), some (.ref o), some (.ref x), some (.ref y), some (.ref D), some (.ref t), some (.int xi), some (.int yi), v8, v9] ∧ Same H H' ∧ H' D = some (.lst (((r.gs.take j).foldl (gStep outs r xi yi) (gAll outs ((rs.zip (xs.zip ys)).take i))).map V.int)))
        ⟨v8, v9, rfl, sm4, hD4⟩ (fun j σ H' _ ⟨_, _, _, sm', _⟩ => same_t sm' (SqT.of hgp)) ?_ ?_
      · rintro j vp σ H5 gj ⟨v8, v9, rfl, sm5, hD5⟩
        obtain ⟨p, hpj, b, rfl, hb⟩ := paired_get hg j _ gj
        have pin : p ∈ r.gs := List.mem_of_getElem? hpj
        have pout := gin p pin
        obtain ⟨p0, p3⟩ := okr.gv p pin
        have il := ixOf_lt pout
        refine ⟨b, _, rfl, SqT.of (sm5 _ _ hb), rfl, _, _, rfl, _, _, rfl, rfl, ?_⟩
        have ra5 : RuleAt H5 (.ref t) r := ⟨t, wt', gt, rfl, sm5 _ _ ht, by obtain ⟨t', w', g', e, h1, h2, h3⟩ := ra4; exact (by
          obtain ⟨wv, hw1, hw2⟩ : PairsAt H wt' r.ws := by assumption
          exact ⟨wv, sm5 _ _ hw1, paired_mono (fun _ _ => PairAt.kp (Kp.of sm5)) hw2⟩), ⟨gp, sm5 _ _ hgp, paired_mono (fun _ _ => PairAt.kp (Kp.of sm5)) hg⟩⟩
        refine ⟨_, rfl, _, rfl, .inl ⟨rfl, _, sm5.seq ho⟩, _, rfl, o, _, _, ixOf outs p.1, .str p.1, rfl, rfl, sm5.seq ho, rfl, strs_flat _, ?_, ?_, ?_, ?_⟩
        · rw [List.getElem?_map, ixOf_get pout]
          rfl
        · simp [eqV]
        · intro m z' hm hz'
          obtain ⟨s', hs', rfl⟩ := map_str_get hz'
          have := ixOf_no hm hs'
          simp [eqV, this]
        · have accl : ((r.gs.take j).foldl (gStep outs r xi yi) (gAll outs ((rs.zip (xs.zip ys)).take i))).length = outs.length := by rw [gFold_len, gAll_len]
          have gj' : (((r.gs.take j).foldl (gStep outs r xi yi) (gAll outs ((rs.zip (xs.zip ys)).take i))).map V.int)[ixOf outs p.1]? = some (.int ((((r.gs.take j).foldl (gStep outs r xi yi) (gAll outs ((rs.zip (xs.zip ys)).take i)))[ixOf outs p.1]?).getD 0)) := by
            rw [List.getElem?_map, List.getElem?_eq_getElem (by omega)]
            rfl
          refine ⟨D, _, ixOf outs p.1, _, rfl, rfl, SqL.of hD5, gj', ?_⟩
          refine ⟨_, rfl, _, rfl, _, rfl, _, r, yi, rfl, ra5, okr.oe, _, rfl, _, rfl, _, r, xi, rfl, ra5, okr.oe, _, _, rfl, rfl, _, _, rfl, rfl, .inl ⟨by omega, by omega⟩, _, _, rfl, rfl, ?_⟩
          refine ⟨D, _, _, ixOf outs p.1, rfl, rfl, hD5, Evl.ixN_nat (by rw [List.length_map]; omega), ?_⟩
          refine ⟨_, _, rfl, fun c oc ec => ?_, ?_⟩
          · rw [upd_ne (ne_of_none ec nD)]
            exact sm5 _ _ ec
          · rw [upd_same, List.take_add_one, hpj]
            rw [List.foldl_append]
            show some (HO.lst _) = some (HO.lst ((gStep outs r xi yi _ p).map V.int))
            unfold gStep addAt
            rw [List.map_set]
      · rintro σ H5 ⟨v8, v9, rfl, sm5, hD5⟩
        rw [hg.length, List.take_length] at hD5
        refine ⟨_, _, _, _, _, rfl, sm5, ?_⟩
        rw [hD5, List.take_add_one, hz]
        unfold gAll
        rw [List.foldl_append]
        rfl
    · rintro σ H3 ⟨v5, v6, v7, v8, v9, rfl, sm, hD3⟩
      rw [List.take_of_length_le (by rw [List.length_zip]; omega)] at hD3
      refine ⟨_, rfl, D, _, rfl, .inl ⟨SqL.of hD3, fun t nt => ?_⟩⟩
      exact q _ t (sm.trans (same_upd nt)) (sm.free nt) upd_same
end
end Hl

set_option Elab.async false
set_option linter.all false
set_option maxRecDepth 100000
set_option maxHeartbeats 4000000
namespace Hl
open PySem PySem.Spec PyProof.Rows L2
/-! the going along of _law_raw, as data -/
def risen (rs : List Rl) (n : Str) (s : List Int) : List Int := (rs.zip s).map fun t => t.2 + wt t.1 n
def there (rs : List Rl) (n : Str) (s : List Int) : List Int := (rs.zip (risen rs n s)).map fun t => dn t.1 t.2
def gn (outs : List Str) (rs : List Rl) (n : Str) (s : List Int) : List Int := gAll outs (rs.zip (s.zip (risen rs n s)))
abbrev Ent := Int × List Int
abbrev Tab := List (List Ent)
structure RowOk (rs : List Rl) (ins outs : List Str) (stands : List (List Int)) (s : List Int) (row : List Ent) : Prop where
  at_ : ∀ (j : Nat) (e : Ent), row[j]? = some e → ∃ (nm : Str) (t : Nat), ins[j]? = some nm ∧ e = ((t : Int), gn outs rs nm s) ∧ stands[t]? = some (there rs nm s)
structure RInv (rs : List Rl) (ins outs : List Str) (stands : List (List Int)) (rows : Tab) : Prop where
  z : stands[0]? = some (List.replicate rs.length 0)
  sl : ∀ s ∈ stands, s.length = rs.length
  sv : ∀ s ∈ stands, ∀ x ∈ s, 0 ≤ x ∧ x ≤ 10
  nd : stands.Nodup
  ro : ∀ (i : Nat) (row : List Ent), rows[i]? = some row → row.length = ins.length ∧ ∃ s, stands[i]? = some s ∧ RowOk rs ins outs stands s row
  og : ∀ k, 0 < k → k < stands.length → ∃ (i j : Nat) (s : List Int) (nm : Str), i < k ∧ stands[i]? = some s ∧ ins[j]? = some nm ∧ stands[k]? = some (there rs nm s)
theorem wt_ge {r : Rl} (h : OkR r) (n : Str) : 0 ≤ wt r n ∧ wt r n ≤ 9 := by
  have key : ∀ l : List (Str × Int), (∀ p ∈ l, 0 ≤ p.2 ∧ p.2 ≤ 3) → 0 ≤ ((l.filter fun p => decide (p.1 = n)).map (·.2)).sum ∧ ((l.filter fun p => decide (p.1 = n)).map (·.2)).sum ≤ 3 * (l.length : Int) := by
    intro l
    induction l with
    | nil =>
      intro _
      exact ⟨Int.le_refl _, Int.le_refl _⟩
    | cons p l ih =>
      intro hp
      obtain ⟨a, b⟩ := ih fun q hq => hp q (List.mem_cons_of_mem _ hq)
      obtain ⟨c, d⟩ := hp p List.mem_cons_self
      rw [List.filter_cons]
      split
      · rw [List.map_cons, List.sum_cons, List.length_cons]
        omega
      · rw [List.length_cons]
        omega
  obtain ⟨a, b⟩ := key r.ws h.wv
  have := h.wl
  unfold wt
  omega
theorem risen_len {rs : List Rl} {n : Str} {s : List Int} (h : s.length = rs.length) : (risen rs n s).length = rs.length := by
  unfold risen
  rw [List.length_map, List.length_zip, h, Nat.min_self]
theorem there_len {rs : List Rl} {n : Str} {s : List Int} (h : s.length = rs.length) : (there rs n s).length = rs.length := by
  unfold there
  rw [List.length_map, List.length_zip, risen_len h, Nat.min_self]
theorem risen_get {rs : List Rl} {n : Str} {s : List Int} {i : Nat} {r : Rl} {x : Int} (hr : rs[i]? = some r) (hx : s[i]? = some x) : (risen rs n s)[i]? = some (x + wt r n) := by
  unfold risen
  rw [List.getElem?_map, show (rs.zip s)[i]? = some (r, x) from List.getElem?_zip_eq_some.mpr ⟨hr, hx⟩]
  rfl
theorem there_get {rs : List Rl} {n : Str} {s : List Int} {i : Nat} {r : Rl} {x : Int} (hr : rs[i]? = some r) (hx : s[i]? = some x) : (there rs n s)[i]? = some (dn r (x + wt r n)) := by
  unfold there
  rw [List.getElem?_map, show (rs.zip (risen rs n s))[i]? = some (r, x + wt r n) from List.getElem?_zip_eq_some.mpr ⟨hr, risen_get hr hx⟩]
  rfl
theorem there_val {rs : List Rl} {n : Str} {s : List Int} (ok : ∀ r ∈ rs, OkR r) (hl : s.length = rs.length) (hs : ∀ x ∈ s, 0 ≤ x ∧ x ≤ 10) : ∀ x ∈ there rs n s, 0 ≤ x ∧ x ≤ 10 := by
  intro y hy
  obtain ⟨i, hi, rfl⟩ := List.mem_iff_getElem.mp hy
  have h1 : i < rs.length := by rw [there_len hl] at hi; exact hi
  have hr := List.getElem?_eq_getElem h1
  have hx := List.getElem?_eq_getElem (show i < s.length by omega)
  have g := there_get (n := n) hr hx
  rw [List.getElem?_eq_getElem hi] at g
  rw [Option.some.inj g]
  have okr := ok _ (List.getElem_mem h1)
  obtain ⟨a, b⟩ := hs _ (List.getElem_mem (show i < s.length by omega))
  have w := wt_ge okr n
  exact ⟨down_ge okr.oe (by omega), down_le okr.oe (by omega)⟩
/-- the place of a list among lists -/
def plc (stands : List (List Int)) (s : List Int) : Nat := stands.findIdx fun t => decide (t = s)
theorem plc_lt {stands : List (List Int)} {s : List Int} (h : s ∈ stands) : plc stands s < stands.length := List.findIdx_lt_length_of_exists ⟨s, h, decide_eq_true rfl⟩
theorem plc_get {stands : List (List Int)} {s : List Int} (h : s ∈ stands) : stands[plc stands s]? = some s := by
  have hl := plc_lt h
  rw [List.getElem?_eq_getElem hl]
  have := List.findIdx_getElem (xs := stands) (p := fun t => decide (t = s)) (w := hl)
  exact congrArg some (of_decide_eq_true this)
theorem plc_no {stands : List (List Int)} {s t : List Int} {m : Nat} (h : m < plc stands s) (e : stands[m]? = some t) : t ≠ s := by
  obtain ⟨hl, rfl⟩ := List.getElem?_eq_some_iff.mp e
  have := List.not_of_lt_findIdx (xs := stands) (p := fun t => decide (t = s)) h
  intro z
  simp [z] at this
/-- one more stand, or none -/
def grown (stands : List (List Int)) (t : List Int) : List (List Int) := if t ∈ stands then stands else stands ++ [t]
theorem mem_grown (stands : List (List Int)) (t : List Int) : t ∈ grown stands t := by
  unfold grown
  split
  · assumption
  · simp
theorem grown_get {stands : List (List Int)} {t : List Int} {i : Nat} {s : List Int} (h : stands[i]? = some s) : (grown stands t)[i]? = some s := by
  unfold grown
  split
  · exact h
  · obtain ⟨hl, e⟩ := List.getElem?_eq_some_iff.mp h
    rw [List.getElem?_append_left hl]
    exact h
theorem grown_len (stands : List (List Int)) (t : List Int) : stands.length ≤ (grown stands t).length ∧ (grown stands t).length ≤ stands.length + 1 := by
  unfold grown
  split
  · omega
  · rw [List.length_append]
    simp
theorem RowOk.grow {rs : List Rl} {ins outs : List Str} {stands : List (List Int)} {s t : List Int} {row : List Ent} (h : RowOk rs ins outs stands s row) : RowOk rs ins outs (grown stands t) s row :=
  ⟨fun j e he => by
    obtain ⟨nm, k, h1, h2, h3⟩ := h.at_ j e he
    exact ⟨nm, k, h1, h2, grown_get h3⟩⟩
theorem RInv.grow {rs : List Rl} {ins outs : List Str} {stands : List (List Int)} {rows : Tab} (ok : ∀ r ∈ rs, OkR r) (h : RInv rs ins outs stands rows) {i j : Nat} {s : List Int} {nm : Str} (hs : stands[i]? = some s) (hn : ins[j]? = some nm) : RInv rs ins outs (grown stands (there rs nm s)) rows := by
  have sin : s ∈ stands := List.mem_of_getElem? hs
  have tl := there_len (n := nm) (h.sl s sin)
  have tv := there_val (n := nm) ok (h.sl s sin) (h.sv s sin)
  refine ⟨grown_get h.z, ?_, ?_, ?_, ?_, ?_⟩
  · intro u hu
    unfold grown at hu
    split at hu
    · exact h.sl u hu
    · rcases List.mem_append.mp hu with hu | hu
      · exact h.sl u hu
      · rw [List.mem_singleton.mp hu]
        exact tl
  · intro u hu
    unfold grown at hu
    split at hu
    · exact h.sv u hu
    · rcases List.mem_append.mp hu with hu | hu
      · exact h.sv u hu
      · rw [List.mem_singleton.mp hu]
        exact tv
  · unfold grown
    split
    · exact h.nd
    · rename_i hno
      rw [List.nodup_append]
      refine ⟨h.nd, by simp, fun a ha b hb e => ?_⟩
      rw [List.mem_singleton.mp hb] at e
      rw [e] at ha
      exact hno ha
  · intro k row hk
    obtain ⟨a, s', b, c⟩ := h.ro k row hk
    exact ⟨a, s', grown_get b, c.grow⟩
  · intro k k0 kl
    by_cases hk : k < stands.length
    · obtain ⟨i', j', s', nm', a, b, c, d⟩ := h.og k k0 hk
      exact ⟨i', j', s', nm', a, grown_get b, c, grown_get d⟩
    · have g := grown_len stands (there rs nm s)
      have ek : k = stands.length := by omega
      have il : i < stands.length := (List.getElem?_eq_some_iff.mp hs).1
      refine ⟨i, j, s, nm, by omega, grown_get hs, hn, ?_⟩
      unfold grown at kl ⊢
      split
      · rename_i hin
        rw [if_pos hin] at kl
        omega
      · rw [ek, List.getElem?_append_right (Nat.le_refl _), Nat.sub_self]
        rfl
theorem RInv.row {rs : List Rl} {ins outs : List Str} {stands : List (List Int)} {rows : Tab} (h : RInv rs ins outs stands rows) {s : List Int} {row : List Ent} (hs : stands[rows.length]? = some s) (hl : row.length = ins.length) (hr : RowOk rs ins outs stands s row) : RInv rs ins outs stands (rows ++ [row]) := by
  refine ⟨h.z, h.sl, h.sv, h.nd, ?_, h.og⟩
  intro i r hi
  by_cases hlt : i < rows.length
  · rw [List.getElem?_append_left hlt] at hi
    exact h.ro i r hi
  · have hl2 := (List.getElem?_eq_some_iff.mp hi).1
    rw [List.length_append, List.length_singleton] at hl2
    have e : i = rows.length := by omega
    rw [e, List.getElem?_append_right (Nat.le_refl _), Nat.sub_self] at hi
    cases Option.some.inj hi
    rw [e]
    exact ⟨hl, s, hs, hr⟩
theorem RInv.start (rs : List Rl) (ins outs : List Str) : RInv rs ins outs [List.replicate rs.length 0] [] := by
  refine ⟨rfl, ?_, ?_, by simp, ?_, ?_⟩
  · intro s hs
    rw [List.mem_singleton.mp hs, List.length_replicate]
  · intro s hs x hx
    rw [List.mem_singleton.mp hs] at hx
    rw [(List.mem_replicate.mp hx).2]
    decide
  · intro i row h
    cases h
  · intro k k0 kl
    rw [List.length_singleton] at kl
    omega
/-! stands as data for == -/
def stD (s : List Int) : PyData := .list (s.map PyData.int)
theorem ints_lay : ∀ s : List Int, PyData.canLayAll0 (s.map PyData.int) = true
  | [] => by simp [PyData.canLayAll0]
  | x :: s => by simp [PyData.canLayAll0, PyData.canLay0, ints_lay s]
theorem ints_depth : ∀ s : List Int, PyData.depthAll (s.map PyData.int) ≤ 1
  | [] => by simp [PyData.depthAll]
  | x :: s => by
    have := ints_depth s
    simp only [List.map_cons, PyData.depthAll, PyData.depth]
    omega
theorem stD_depth (s : List Int) : (stD s).depth ≤ 2 := by
  have := ints_depth s
  simp only [stD, PyData.depth]
  omega
theorem stD_lay (s : List Int) : (stD s).canLay0 = true := by
  simp only [stD, PyData.canLay0]
  exact ints_lay s
theorem stD_shaped (s : List Int) : SeqAt.shaped (stD s) = true := by
  have h := stD_depth s
  show ((stD s).canLay0 && decide ((stD s).depth ≤ 64)) = true
  rw [Bool.and_eq_true]
  exact ⟨stD_lay s, decide_eq_true (by omega)⟩
theorem stDs_lay : ∀ l : List (List Int), PyData.canLayAll0 (l.map stD) = true
  | [] => by simp [PyData.canLayAll0]
  | s :: l => by simp [PyData.canLayAll0, stD_lay s, stDs_lay l]
theorem stDs_depth : ∀ l : List (List Int), PyData.depthAll (l.map stD) ≤ 2
  | [] => by simp [PyData.depthAll]
  | s :: l => by
    have h1 := stDs_depth l
    have h2 := stD_depth s
    simp only [List.map_cons, PyData.depthAll]
    omega
theorem stDs_shaped (l : List (List Int)) : SeqAt.shaped (.list (l.map stD)) = true := by
  have h1 := stDs_depth l
  have h2 : PyData.depth (.list (l.map stD)) ≤ 64 := by
    simp only [PyData.depth]
    omega
  show (PyData.canLay0 (.list (l.map stD)) && decide (PyData.depth (.list (l.map stD)) ≤ 64)) = true
  rw [Bool.and_eq_true]
  exact ⟨by simp only [PyData.canLay0]; exact stDs_lay l, decide_eq_true h2⟩
theorem ints_eqv : ∀ a b : List Int, PyData.eqvAll (a.map PyData.int) (b.map PyData.int) = decide (a = b)
  | [], [] => by simp [PyData.eqvAll]
  | [], y :: b => by simp [PyData.eqvAll]
  | x :: a, [] => by simp [PyData.eqvAll]
  | x :: a, y :: b => by
    have ih := ints_eqv a b
    simp only [List.map_cons, PyData.eqvAll, PyData.eqv, ih]
    by_cases h : x = y
    · subst h
      simp
    · simp [h]
theorem stD_eqv (a b : List Int) : PyData.eqv (stD a) (stD b) = decide (a = b) := by
  simp only [stD, PyData.eqv]
  exact ints_eqv a b
theorem stDs_any (l : List (List Int)) (s : List Int) : ((l.map stD).any fun z => PyData.eqv z (stD s)) = decide (s ∈ l) := by
  rw [List.any_map]
  by_cases h : s ∈ l
  · rw [decide_eq_true h, List.any_eq_true]
    exact ⟨s, h, by show PyData.eqv (stD s) (stD s) = true; rw [stD_eqv]; exact decide_eq_true rfl⟩
  · rw [decide_eq_false h, List.any_eq_false]
    intro t ht
    show ¬ PyData.eqv (stD t) (stD s) = true
    rw [stD_eqv]
    intro z
    rw [of_decide_eq_true z] at ht
    exact h ht
end Hl

set_option Elab.async false
set_option linter.all false
set_option maxRecDepth 100000
set_option maxHeartbeats 4000000
namespace Hl
open PySem PySem.Spec PyProof.Rows L2
abbrev sRaw : Stmt := topS 62
theorem lc_zip {K : PySem.W.Frag} {a b : Addr} {xs ys : List V} {g : TG} {tt : TT} {te : TE} {vs : List Nat} {σ : L2.St} {H1 : Hp} {D : Addr} {Qd : Hp → Prop} (hl : xs.length = ys.length) (Pv : Nat → Hp → Prop) (h0 : Pv 0 (upd H1 D (.lst [])))
    (hq : ∀ i H, Pv i H → SqL K H a xs ∧ SqL K H b ys)
    (hs : ∀ (i : Nat) (x y : V) (T : Addr) (H : Hp), xs[i]? = some x → ys[i]? = some y → Pv i H → H T = none → g (.ref T) (wipe σ vs) (upd H T (.tup [x, y])) fun σ2 H2 => wipe σ2 vs = wipe σ vs ∧ tt σ2 H2 fun b H3 =>
      if b = true then te σ2 H3 fun y H4 => ∃ acc, H4 D = some (.lst acc) ∧ acc.length < sizeLine ∧ Pv (i + 1) (upd H4 D (.lst (acc ++ [y]))) else Pv (i + 1) H3) (hd : ∀ H, Pv xs.length H → Qd H) :
    ∃ W : Nat → Nat → Hp → Prop, (∃ m, W 0 m (upd H1 D (.lst []))) ∧ ∀ i m H, W i m H →
      ((Itz K a b).stop i H ∧ Qd H) ∨ ((Itz K a b).go i H ∧ ∃ Nx : Hp → Prop, (∀ H', Nx H' → ∃ m', m' < m ∧ W (i + 1) m' H') ∧ ∀ x H', (Itz K a b).yld i H x H' → g x (wipe σ vs) H' fun σ2 H2 => wipe σ2 vs = wipe σ vs ∧ tt σ2 H2 fun b H3 =>
        if b = true then te σ2 H3 fun y H4 => ∃ acc, H4 D = some (.lst acc) ∧ acc.length < sizeLine ∧ Nx (upd H4 D (.lst (acc ++ [y]))) else Nx H3) := by
  refine ⟨fun i m H => m = xs.length - i ∧ i ≤ xs.length ∧ Pv i H, ⟨xs.length, rfl, Nat.zero_le _, h0⟩, ?_⟩
  rintro i m H ⟨rfl, hi, p⟩
  obtain ⟨qx, qy⟩ := hq i H p
  by_cases hlt : i < xs.length
  · refine .inr ⟨⟨xs, ys, _, _, qx, qy, List.getElem?_eq_getElem hlt, List.getElem?_eq_getElem (show i < ys.length by omega)⟩, Pv (i + 1), fun H' p' => ⟨xs.length - (i + 1), by omega, rfl, hlt, p'⟩, ?_⟩
    rintro v H' ⟨T, x, y, rfl, hT, rfl, f1, f2⟩
    exact hs i x y T H (f1 _ qx) (f2 _ qy) p hT
  · have e : i = xs.length := by omega
    subst e
    exact .inl ⟨⟨xs, ys, qx, qy, .inl (Nat.le_refl _)⟩, hd H p⟩
theorem _root_.L2.Same.put {H H' : Hp} {D : Addr} {o : HO} (k : Same H H') (n : H D = none) : Same H (upd H' D o) := fun b x e => by
  rw [upd_ne (ne_of_none e n)]
  exact k _ _ e
theorem upd_self {H : Hp} {a : Addr} {o : HO} (h : H a = some o) : upd H a o = H := by
  funext b
  by_cases e : b = a
  · rw [e, upd_same, h]
  · rw [upd_ne e]
theorem paired_snoc {α β : Type} {R : α → β → Prop} {a : α} {b : β} {xs : List α} {ys : List β} (h : Paired R xs ys) (ab : R a b) : Paired R (xs ++ [a]) (ys ++ [b]) := Paired.snoc h ab
/-! heaps without some places -/
def st (L : List Addr) (H : Hp) : Hp := fun b => if b ∈ L then none else H b
theorem st_get {L : List Addr} {H : Hp} {b : Addr} (h : b ∉ L) : st L H b = H b := if_neg h
theorem st_in {L : List Addr} {H : Hp} {b : Addr} (h : b ∈ L) : st L H b = none := if_pos h
theorem st_same {L : List Addr} {H : Hp} : Same (st L H) H := fun b o e => by
  by_cases h : b ∈ L
  · rw [st_in h] at e
    cases e
  · rw [st_get h] at e
    exact e
theorem st_mono {L : List Addr} {H H' : Hp} (s : Same H H') : Same (st L H) (st L H') := fun b o e => by
  by_cases h : b ∈ L
  · rw [st_in h] at e
    cases e
  · rw [st_get h] at e ⊢
    exact s _ _ e
theorem st_upd {L : List Addr} {H : Hp} {b : Addr} {o : HO} (h : b ∈ L) : st L (upd H b o) = st L H := by
  funext c
  by_cases hc : c ∈ L
  · rw [st_in hc, st_in hc]
  · rw [st_get hc, st_get hc, upd_ne fun e => hc (by rw [e]; exact h)]
theorem st_new {L : List Addr} {H : Hp} {b : Addr} {o : HO} (h : H b = none) : Same (st L H) (st L (upd H b o)) := st_mono (same_upd h)
theorem st_sub {L : List Addr} {w : Addr} {H : Hp} : Same (st (w :: L) H) (st L H) := fun b o e => by
  by_cases h : b ∈ w :: L
  · rw [st_in h] at e
    cases e
  · rw [st_get h] at e
    rw [st_get fun z => h (List.mem_cons_of_mem _ z)]
    exact e
theorem st_cons {L : List Addr} {w : Addr} {H : Hp} {o : HO} (h : H w = none) : Same (st L H) (st (w :: L) (upd H w o)) := fun b x e => by
  by_cases hb : b ∈ L
  · rw [st_in hb] at e
    cases e
  · rw [st_get hb] at e
    have ne : b ≠ w := ne_of_none e h
    rw [st_get fun z => (List.mem_cons.mp z).elim ne hb, upd_ne ne]
    exact e
def IntsAt (H : Hp) (v : V) (s : List Int) : Prop := ∃ a, v = .ref a ∧ H a = some (.lst (s.map V.int))
def EntAt (H : Hp) (v : V) (e : Ent) : Prop := ∃ c t, v = .ref c ∧ H c = some (.tup [.int e.1, .ref t]) ∧ H t = some (.tup (e.2.map V.int))
def RowAt (H : Hp) (v : V) (row : List Ent) : Prop := ∃ a vs, v = .ref a ∧ H a = some (.lst vs) ∧ Paired (EntAt H) vs row
def TabAt (H : Hp) (a : Addr) (tab : Tab) : Prop := ∃ vs, H a = some (.lst vs) ∧ Paired (RowAt H) vs tab
section
variable {H H' : Hp}
theorem IntsAt.same {v : V} {s : List Int} (k : Same H H') (h : IntsAt H v s) : IntsAt H' v s := by
  obtain ⟨a, e, h⟩ := h
  exact ⟨a, e, k _ _ h⟩
theorem EntAt.same {v : V} {s : Ent} (k : Same H H') (h : EntAt H v s) : EntAt H' v s := by
  obtain ⟨a, t, e, h, h2⟩ := h
  exact ⟨a, t, e, k _ _ h, k _ _ h2⟩
theorem RowAt.same {v : V} {s : List Ent} (k : Same H H') (h : RowAt H v s) : RowAt H' v s := by
  obtain ⟨a, vs, e, h, h2⟩ := h
  exact ⟨a, vs, e, k _ _ h, paired_mono (fun _ _ => EntAt.same k) h2⟩
theorem TabAt.same {a : Addr} {s : Tab} (k : Same H H') (h : TabAt H a s) : TabAt H' a s := by
  obtain ⟨vs, h, h2⟩ := h
  exact ⟨vs, k _ _ h, paired_mono (fun _ _ => RowAt.same k) h2⟩
theorem ints_dp {K : PySem.W.Frag} : ∀ s : List Int, DpAll K H (s.map V.int) (s.map PyData.int)
  | [] => .nil
  | x :: s => .cons (.int x) (ints_dp s)
theorem IntsAt.dp {K : PySem.W.Frag} {v : V} {s : List Int} (h : IntsAt H v s) : Dp K H v (stD s) := by
  obtain ⟨a, rfl, h⟩ := h
  exact .lst (SqL.of h) (ints_dp s)
theorem stands_dp {K : PySem.W.Frag} : ∀ {sv : List V} {l : List (List Int)}, Paired (IntsAt H) sv l → DpAll K H sv (l.map stD)
  | _, _, .nil => .nil
  | _, _, .cons a r => .cons a.dp (stands_dp r)
end
section
variable {P : Program} {w : World} {K : PySem.W.Frag} {mg : Str → Option Value} {base : Heap}
theorem hu65_of {A : Around} {k : Nat} (hr : Room k A) : A.units + 65 < cLine := by
  have := hr.un
  omega
/-- the rules' list -/
def RulesAt (H : Hp) (a : Addr) (rs : List Rl) : Prop := ∃ vr, H a = some (.lst vr) ∧ Paired (RuleAt H) vr rs
def spRaw (K : PySem.W.Frag) : Sp := fun vs H Q _ => ∃ (a i o : Addr) (most : Nat) (rs : List Rl) (ins outs : List Str), vs = [.ref a, .ref i, .ref o, .int most] ∧ RulesAt H a rs ∧ SqL K H i (ins.map V.str) ∧ SqL K H o (outs.map V.str) ∧
  1 ≤ most ∧ most ≤ 100 ∧ ins.length ≤ 10 ∧ outs.length ≤ 10 ∧ rs.length ≤ 10 ∧ (∀ r ∈ rs, OkR r ∧ ∀ p ∈ r.gs, p.1 ∈ outs) ∧
  (∀ H', rs ≠ [] → Same H H' → Q .non H') ∧
  ∀ (H' : Hp) (t : Addr) (stands : List (List Int)) (rows : Tab), Same H H' → H t = none → TabAt H' t rows → RInv rs ins outs stands rows → rows.length = stands.length → stands.length ≤ most → Q (.ref t) H'
abbrev nmRaw : List Str := ["_law_rules", "_law_ins", "_law_outs", "_law_most", "_law_stands", "_law_rows", "_law_here", "_law_row", "_law_name", "_law_risen", "_law_there", "_law_rule_here", "_law_come"]
theorem scRa : FnScope nmRaw ["_law_rules", "_law_ins", "_law_outs", "_law_most"] (defScope sRaw) := ⟨rfl, rfl, rfl, by decide +kernel, rfl, by decide +kernel, by decide +kernel⟩
theorem ok_raw {f fW fD fG : Addr} {fd fdW fdD fdG : FuncData} {k : Nat} (F : Fun K "_law_raw" "_law_raw" sRaw f fd)
    (GW : FnOk P w K mg base CX0 k fW fdW ["_law_rule_here", "_law_name"] spWeight) (kW : PySem.W.keepIn K (.ref fW) = true) (bW : Binds K fdW ["_law_rule_here", "_law_name"] []) (gW : mg "_law_weight" = some (.ref fW))
    (GD : FnOk P w K mg base CX0 k fD fdD ["_law_rule_here", "_law_come"] spDown) (kD : PySem.W.keepIn K (.ref fD) = true) (bD : Binds K fdD ["_law_rule_here", "_law_come"] []) (gD : mg "_law_down" = some (.ref fD))
    (GG : FnOk P w K mg base CX0 k fG fdG ["_law_rules", "_law_outs", "_law_early", "_law_late"] (spGain K)) (kG : PySem.W.keepIn K (.ref fG) = true) (bG : Binds K fdG ["_law_rules", "_law_outs", "_law_early", "_law_late"] []) (gG : mg "_law_gain" = some (.ref fG)) (B : Bi mg) (J : Bj mg) :
    FnOk P w K mg base CX0 (k + 1) f fd ["_law_rules", "_law_ins", "_law_outs", "_law_most"] (spRaw K) := by
  refine F.ok scRa (fun vs H Q E h => ?_) (fun cdv A outer s H vs Q E hr h => ?_)
  · obtain ⟨a, i, o, most, rs, ins, outs, rfl, _⟩ := h
    rfl
  · obtain ⟨a, i, o, most, rs, ins, outs, rfl, ⟨vr, ha, hR⟩, hi, ho, m1, m100, li, lo, lr, ok, qN, q⟩ := h
    refine ⟨_, pss_cons (ps_par (i := 4) (j := 5) rfl scRa.nd rfl rfl (by decide) rfl rfl (pa_cons (pe_lst (pa_cons (pe_op op_rep (pe_lst (pa_cons pe_int pa_nil)) (pe_callB call_len_seq (by rfl) B.len PySem.boot_len (pa_cons (pv 0) pa_nil))) pa_nil)) (pa_cons (pe_lst pa_nil) pa_nil)) (by rfl))
      (pss_cons (ps_while PassesOwn.never (PW.pt (pw_and (pt_cmpR op_lt (pe_callB call_len_seq (by rfl) B.len PySem.boot_len (pa_cons (pv 5) pa_nil)) (pe_callB call_len_seq (by rfl) B.len PySem.boot_len (pa_cons (pv 4) pa_nil)) (nomark _)) (pw_and1 (pt_cmpR op_le (pe_callB call_len_seq (by rfl) B.len PySem.boot_len (pa_cons (pv 4) pa_nil)) (pv 3) (nomark _)))))
        (pss_cons (ps_par (i := 6) (j := 7) rfl scRa.nd rfl rfl (by decide) rfl rfl (pa_cons (pe_ix ix_list (pv 4) (pe_callB call_len_seq (by rfl) B.len PySem.boot_len (pa_cons (pv 5) pa_nil)) (fun _ _ => rfl)) (pa_cons (pe_lst pa_nil) pa_nil)) (by rfl))
        (pss_cons (ps_for PassesOwn.never rfl (pi_list (pv 1)) (pg_name (i := 8) scRa.nd rfl (.inr rfl))
          (pss_cons (ps_setLc (i := 9) (own := [("_law_rule_here", 11), ("_law_come", 12)]) (g := gTup K 2 (gCons (gName 11) (gCons (gName 12) gNil))) (tt := tYes) rfl scRa.nd rfl rfl (sw_true rfl rfl rfl (by decide +kernel)) (pi_zip (by rfl) J.zip (pa_cons (pv 0) (pa_cons (pv 6) pa_nil)))
              (blkOk_by (own := [("_law_rule_here", 11), ("_law_come", 12)]) (N := nmRaw) (sc := defScope sRaw) (by decide +kernel))
              (fun _ _ _ _ _ => pg_tup rfl (pgs_cons (pg_name (i := 11) scRa.nd rfl (Or.inl rfl)) (pgs_cons (pg_name (i := 12) scRa.nd rfl (Or.inl rfl)) pgs_nil))) (fun _ _ _ _ _ => pts_nil)
              (fun _ _ _ _ _ => pe_op op_add (pv 12) (pe_call GW hr (by rfl) gW kW bW .nil pass0 (pa_cons (pv 11) (pa_cons (pv 8) pa_nil)))))
          (pss_cons (ps_setLc (i := 10) (own := [("_law_rule_here", 11), ("_law_come", 12)]) (g := gTup K 2 (gCons (gName 11) (gCons (gName 12) gNil))) (tt := tYes) rfl scRa.nd rfl rfl (sw_true rfl rfl rfl (by decide +kernel)) (pi_zip (by rfl) J.zip (pa_cons (pv 0) (pa_cons (pv 9) pa_nil)))
              (blkOk_by (own := [("_law_rule_here", 11), ("_law_come", 12)]) (N := nmRaw) (sc := defScope sRaw) (by decide +kernel))
              (fun _ _ _ _ _ => pg_tup rfl (pgs_cons (pg_name (i := 11) scRa.nd rfl (Or.inl rfl)) (pgs_cons (pg_name (i := 12) scRa.nd rfl (Or.inl rfl)) pgs_nil))) (fun _ _ _ _ _ => pts_nil)
              (fun _ _ _ _ _ => pe_call GD hr (by rfl) gD kD bD .nil pass0 (pa_cons (pv 11) (pa_cons (pv 12) pa_nil))))
          (Evl.pss_cut (ps_if (pt_cmpR (op_notInD (hu65_of hr)) (pv 10) (pv 4) (by rfl)) (pss_one (ps_expr (pe_bm PySem.F.plainAttrs_list PySem.F.slot_list_append PySem.F.type_list_append mt_append (pv 4) (pa_cons (pv 10) pa_nil)))) pss_nil)
          (pss_one (ps_expr (pe_bm PySem.F.plainAttrs_list PySem.F.slot_list_append PySem.F.type_list_append mt_append (pv 7) (pa_cons (pe_tup (pa_cons (pe_bm PySem.F.plainAttrs_list PySem.F.slot_list_index PySem.F.type_list_index (mt_indexD (hu65_of hr)) (pv 4) (pa_cons (pv 10) pa_nil))
            (pa_cons (pe_call GG hr (by rfl) gG kG bG .nil pass0 (pa_cons (pv 0) (pa_cons (pv 2) (pa_cons (pv 6) (pa_cons (pv 9) pa_nil))))) pa_nil))) pa_nil))))))))
        (pss_one (ps_expr (pe_bm PySem.F.plainAttrs_list PySem.F.slot_list_append PySem.F.type_list_append mt_append (pv 5) (pa_cons (pv 7) pa_nil)))))))
      (pss_one (ps_ret (pe_ifExp (pt_cmpR op_le (pe_callB call_len_seq (by rfl) B.len PySem.boot_len (pa_cons (pv 4) pa_nil)) (pv 3) (nomark _)) (pv 5) pe_non)))), ?_⟩
    -- stands, rows
    refine ⟨(by show 1 ≤ sizeLine; decide), fun z nz => ?_⟩
    have s1 := same_upd (o := .lst [.int 0]) nz
    have lvr := hR.length
    refine ⟨_, rfl, a, _, rfl, .inl (SqL.of (s1 _ _ ha)), z, (vr.length : Int), _, rfl, rfl, upd_same, by omega, by omega, ?_, fun D0 n0 => ?_⟩
    · rw [Int.toNat_natCast]
      show 1 * vr.length ≤ sizeLine
      exact Nat.le_of_lt (small1000 (by omega))
    rw [Int.toNat_natCast, rep_one, lvr] at *
    have lvr' : vr.length = rs.length := hR.length
    have s2 := s1.trans (same_upd (o := .lst ((List.replicate rs.length (0 : Int)).map V.int)) n0)
    refine ⟨(by show 1 ≤ sizeLine; decide), fun S nS => ?_⟩
    have s3 := s2.trans (same_upd (o := .lst [.ref D0]) nS)
    refine ⟨Nat.zero_le _, fun R nR => ?_⟩
    have s4 := s3.trans (same_upd (o := .lst []) nR)
    have hS0 : H S = none := s2.free nS
    have hR0 : H R = none := s3.free nR
    have nRS : R ≠ S := ne_of_fresh (o := .lst [.ref D0]) upd_same nR
    refine ⟨_, _, rfl, ?_⟩
    have hD0 : (upd (upd (upd (upd H z (.lst [.int 0])) D0 (.lst ((List.replicate rs.length (0 : Int)).map V.int))) S (.lst [.ref D0])) R (.lst [])) D0 = some (.lst ((List.replicate rs.length (0 : Int)).map V.int)) :=
      (same_upd nR) _ _ ((same_upd nS) _ _ upd_same)
    have hS4 : (upd (upd (upd (upd H z (.lst [.int 0])) D0 (.lst ((List.replicate rs.length (0 : Int)).map V.int))) S (.lst [.ref D0])) R (.lst [])) S = some (.lst [.ref D0]) := (same_upd nR) _ _ upd_same
    have hR4 : (upd (upd (upd (upd H z (.lst [.int 0])) D0 (.lst ((List.replicate rs.length (0 : Int)).map V.int))) S (.lst [.ref D0])) R (.lst [])) R = some (.lst []) := upd_same
    have nD0S : D0 ≠ S := ne_of_none (o := .lst ((List.replicate rs.length (0 : Int)).map V.int)) upd_same nS
    have nD0R : D0 ≠ R := ne_of_none ((same_upd (o := .lst [.ref D0]) nS) D0 _ upd_same) nR
    generalize (upd (upd (upd (upd H z (.lst [.int 0])) D0 (.lst ((List.replicate rs.length (0 : Int)).map V.int))) S (.lst [.ref D0])) R (.lst [])) = H4 at *
    refine ⟨fun m σ H' => ∃ (stands : List (List Int)) (rows : Tab) (sv rv : List V) (v6 v7 v8 v9 v10 v11 v12 : Option V), σ = [some (.ref a), some (.ref i), some (.ref o), some (.int most), some (.ref S), some (.ref R), v6, v7, v8, v9, v10, v11, v12] ∧ Same H H' ∧
        H' S = some (.lst sv) ∧ Paired (IntsAt (st [S, R] H')) sv stands ∧ H' R = some (.lst rv) ∧ Paired (RowAt (st [S, R] H')) rv rows ∧ RInv rs ins outs stands rows ∧ rows.length ≤ stands.length ∧ stands.length ≤ most + ins.length + 1 ∧ m = most + 1 - rows.length,
      ⟨_, [List.replicate rs.length 0], [], _, _, none, none, none, none, none, none, none, rfl, s4, hS4, .cons ⟨D0, rfl, by rw [st_get (by simp [nD0S, nD0R])]; exact hD0⟩ .nil, hR4, .nil, RInv.start rs ins outs, Nat.zero_le _, by show 1 ≤ _; omega, rfl⟩, ?_⟩
    rintro m σ H5 ⟨stands, rows, sv, rv, v6, v7, v8, v9, v10, v11, v12, rfl, sm, hS, pS, hR5, pR, inv, lle, lmo, rfl⟩
    have lsv := pS.length
    have lrv := pR.length
    -- what follows the loop
    have fin : rows.length = stands.length ∨ most < stands.length → tRet (tIf (tTest (tOp (rI0 fun i j => .bl (decide (i ≤ j))) (tCB (fun xs H Q => ∃ p ys, xs = [.ref p] ∧ (SqL K H p ys ∨ SqT K H p ys) ∧ Q (.int ys.length) H) (tCons (tVar 4) tNil)) (tVar 3))) (tVar 5) (tC .non)) { nx := fun _ H' => Q .non H', rt := Q } [some (.ref a), some (.ref i), some (.ref o), some (.int most), some (.ref S), some (.ref R), v6, v7, v8, v9, v10, v11, v12] H5 := fun hend => by
      refine ⟨_, rfl, S, _, rfl, .inl (SqL.of hS), _, rfl, _, _, rfl, rfl, _, rfl, ite2 (fun e => ?_) (fun e => ?_)⟩
      · have h1 : (sv.length : Int) ≤ most := of_decide_eq_true e
        refine ⟨_, rfl, ?_⟩
        have hh : rows.length = stands.length := by
          rcases hend with h | h
          · exact h
          · omega
        refine q H5 R stands rows sm hR0 ⟨rv, hR5, paired_mono (fun _ _ => RowAt.same st_same) pR⟩ inv hh (by omega)
      · have h1 : ¬ (sv.length : Int) ≤ most := fun zz => e (decide_eq_true zz)
        refine qN H5 (fun e0 => ?_) sm
        have l2 : 2 ≤ stands.length := by omega
        have h0 := inv.sl _ (List.getElem_mem (show 0 < stands.length by omega))
        have h1 := inv.sl _ (List.getElem_mem (show 1 < stands.length by omega))
        rw [e0] at h0 h1
        have e01 : stands[0] = stands[1] := (List.length_eq_zero_iff.mp h0).trans (List.length_eq_zero_iff.mp h1).symm
        have := (List.getElem_inj inv.nd).mp e01
        omega
    refine ⟨_, rfl, R, _, rfl, .inl (SqL.of hR5), _, rfl, S, _, rfl, .inl (SqL.of hS), _, _, rfl, rfl, _, rfl, ite2 (fun e1 => ?_) (fun e1 => ?_)⟩
    · have hlt : (rv.length : Int) < sv.length := of_decide_eq_true e1
      refine ⟨_, rfl, S, _, rfl, .inl (SqL.of hS), _, rfl, _, _, rfl, rfl, _, rfl, ite2 (fun e2 => ?_) (fun e2 => ?_)⟩
      · have hle : (sv.length : Int) ≤ most := of_decide_eq_true e2
        have hn : rows.length < stands.length := by omega
        have hs0 : stands[rows.length]? = some stands[rows.length] := List.getElem?_eq_getElem hn
        generalize stands[rows.length] = s0 at hs0
        obtain ⟨vh, hvh, ah, rfl, hah⟩ := paired_get2 pS rows.length s0 hs0
        have sl0 : s0.length = rs.length := inv.sl s0 (List.mem_of_getElem? hs0)
        refine ⟨fun σ' H' => ∃ (stands : List (List Int)) (rows' : Tab) (sv rv : List V) (v6 v7 v8 v9 v10 v11 v12 : Option V), σ' = [some (.ref a), some (.ref i), some (.ref o), some (.int most), some (.ref S), some (.ref R), v6, v7, v8, v9, v10, v11, v12] ∧ Same H H' ∧
            H' S = some (.lst sv) ∧ Paired (IntsAt (st [S, R] H')) sv stands ∧ H' R = some (.lst rv) ∧ Paired (RowAt (st [S, R] H')) rv rows' ∧ RInv rs ins outs stands rows' ∧ rows'.length ≤ stands.length ∧ stands.length ≤ most + ins.length + 1 ∧ rows'.length = rows.length + 1,
          fun σ' H' ⟨st', ro', b1, b2, c6, c7, c8, c9, c10, c11, c12, d1, d2, d3, d4, d5, d6, d7, d8, d9, d10⟩ => ⟨most + 1 - ro'.length, by omega, st', ro', b1, b2, c6, c7, c8, c9, c10, c11, c12, d1, d2, d3, d4, d5, d6, d7, d8, d9, rfl⟩, ?_⟩
        refine ⟨_, rfl, _, rfl, R, _, rfl, .inl (SqL.of hR5), S, _, _, _, rfl, rfl, SqL.of hS, at_of (j := rows.length) (by rw [lrv]) hvh, Nat.zero_le _, fun W nW => ?_⟩
        have nW0 : H W = none := sm.free nW
        have nWS : W ≠ S := ne_of_fresh hS nW
        have nWR : W ≠ R := ne_of_fresh hR5 nW
        have stW : Same (st [S, R] H5) (st [W, S, R] (upd H5 W (.lst []))) := st_cons nW
        refine ⟨_, _, rfl, ?_⟩
        refine ⟨_, rfl, i, rfl, ⟨_, (sm.put nW0).seq hi⟩, for_list (K := K) (a := i) (xs := ins.map V.str) (fun j σ H' => ∃ (stands' : List (List Int)) (sv' cv : List V) (cur : List Ent) (v8 v9 v10 v11 v12 : Option V), σ = [some (.ref a), some (.ref i), some (.ref o), some (.int most), some (.ref S), some (.ref R), some (.ref ah), some (.ref W), v8, v9, v10, v11, v12] ∧ Same H H' ∧
            H' S = some (.lst sv') ∧ Paired (IntsAt (st [W, S, R] H')) sv' stands' ∧ H' R = some (.lst rv) ∧ Paired (RowAt (st [W, S, R] H')) rv rows ∧ H' W = some (.lst cv) ∧ Paired (EntAt (st [W, S, R] H')) cv cur ∧ RInv rs ins outs stands' rows ∧ stands'[rows.length]? = some s0 ∧ cur.length = j ∧ RowOk rs ins outs stands' s0 cur ∧ stands'.length ≤ stands.length + j ∧ st [W, S, R] H' ah = some (.lst (s0.map V.int)))
          ⟨stands, sv, [], [], v8, v9, v10, v11, v12, rfl, sm.put nW0, by rw [upd_ne nWS.symm]; exact hS, paired_mono (fun _ _ => IntsAt.same stW) pS, by rw [upd_ne nWR.symm]; exact hR5, paired_mono (fun _ _ => RowAt.same stW) pR, upd_same, .nil, inv, hs0, rfl, ⟨fun j e he => by cases he⟩, by omega, stW _ _ hah⟩
          (fun j σ H' _ ⟨_, _, _, _, _, _, _, _, _, _, sm', _⟩ => sm'.seq hi) ?_ ?_⟩
        · rintro j vn σ H7 gn' ⟨stands', sv', cv, cur, w8, w9, w10, w11, w12, rfl, sm7, hS7, pS7, hR7, pR7, hW7, pW7, inv7, hs7, lc7, ro7, lm7, hah7⟩
          obtain ⟨nm, hnm, rfl⟩ := map_str_get gn'
          have hjl : j < ins.length := (List.getElem?_eq_some_iff.mp hnm).1
          have ah7 : H7 ah = some (.lst (s0.map V.int)) := st_same _ _ hah7
          -- risen
          refine ⟨_, rfl, _, rfl, a, ah, vr, _, rfl, SqL.of (sm7 _ _ ha), SqL.of ah7, fun D1 n1 => ?_⟩
          have s7a := same_upd (o := .lst []) n1
          refine lc_zip (K := K) (a := a) (b := ah) (xs := vr) (ys := s0.map V.int) (by rw [List.length_map, sl0, lvr']) (fun t H' => Same H7 H' ∧ H' D1 = some (.lst (((risen rs nm s0).take t).map V.int))) ⟨s7a, upd_same⟩ (fun t H' ⟨sm', _⟩ => ⟨SqL.of (sm' _ _ (sm7 _ _ ha)), SqL.of (sm' _ _ ah7)⟩) ?_ ?_
          · rintro t v1 v2 T H8 g1 g2 ⟨sm8, hD8⟩ nT
            obtain ⟨r, hr1, ra⟩ := paired_get hR t _ g1
            obtain ⟨x, hx1, rfl⟩ := map_int_get g2
            have okr := (ok r (List.mem_of_getElem? hr1)).1
            have sT := same_upd (o := .tup [v1, .int x]) nT
            have ra8 : RuleAt (upd H8 T (.tup [v1, .int x])) v1 r := ra.kp (Kp.of (sm7.trans (sm8.trans sT)))
            refine ⟨T, _, rfl, SqT.of upd_same, rfl, _, _, rfl, _, _, rfl, rfl, ?_⟩
            refine ⟨rfl, ?_⟩
            refine ⟨_, rfl, _, rfl, _, rfl, _, r, nm, rfl, ra8, okr.wl, fun H9 s9 => ?_⟩
            refine ⟨_, _, rfl, rfl, _, s9 _ _ (sT _ _ hD8), ?_, ?_, ?_⟩
            · rw [List.length_map, List.length_take]
              exact small1000 (Nat.le_trans (Nat.min_le_right _ _) (by rw [risen_len sl0]; omega))
            · exact ((sm8.trans sT).trans s9).put n1
            · rw [upd_same, List.take_add_one, risen_get hr1 hx1, List.map_append]
              rfl
          · rintro H8 ⟨sm8, hD8⟩
            rw [lvr', List.take_of_length_le (by rw [risen_len sl0]; exact Nat.le_refl _)] at hD8
            have sm78 := sm7.trans sm8
            -- there
            refine ⟨_, rfl, _, rfl, a, D1, vr, _, rfl, SqL.of (sm78 _ _ ha), SqL.of hD8, fun D2 n2 => ?_⟩
            have s8a := same_upd (o := .lst []) n2
            refine lc_zip (K := K) (a := a) (b := D1) (xs := vr) (ys := (risen rs nm s0).map V.int) (by rw [List.length_map, risen_len sl0, lvr']) (fun t H' => Same H8 H' ∧ H' D2 = some (.lst (((there rs nm s0).take t).map V.int))) ⟨s8a, upd_same⟩ (fun t H' ⟨sm', _⟩ => ⟨SqL.of (sm' _ _ (sm78 _ _ ha)), SqL.of (sm' _ _ hD8)⟩) ?_ ?_
            · rintro t v1 v2 T H9 g1 g2 ⟨sm9, hD9⟩ nT
              obtain ⟨r, hr1, ra⟩ := paired_get hR t _ g1
              obtain ⟨y, hy1, rfl⟩ := map_int_get g2
              have okr := (ok r (List.mem_of_getElem? hr1)).1
              have sT := same_upd (o := .tup [v1, .int y]) nT
              have ra8 : RuleAt (upd H9 T (.tup [v1, .int y])) v1 r := ra.kp (Kp.of (sm78.trans (sm9.trans sT)))
              have hy2 : (there rs nm s0)[t]? = some (dn r y) := by
                unfold there
                rw [List.getElem?_map, show (rs.zip (risen rs nm s0))[t]? = some (r, y) from List.getElem?_zip_eq_some.mpr ⟨hr1, hy1⟩]
                rfl
              refine ⟨T, _, rfl, SqT.of upd_same, rfl, _, _, rfl, _, _, rfl, rfl, ?_⟩
              refine ⟨rfl, ?_⟩
              refine ⟨_, rfl, _, rfl, _, r, y, rfl, ra8, okr.oe, _, sT _ _ hD9, ?_, ?_, ?_⟩
              · rw [List.length_map, List.length_take]
                exact small1000 (Nat.le_trans (Nat.min_le_right _ _) (by rw [there_len sl0]; omega))
              · exact (sm9.trans sT).put n2
              · rw [upd_same, List.take_add_one, hy2, List.map_append]
                rfl
            · rintro H9 ⟨sm9, hD9⟩
              rw [lvr', List.take_of_length_le (by rw [there_len sl0]; exact Nat.le_refl _)] at hD9
              have k79 := sm8.trans sm9
              have k79s : Same (st [W, S, R] H7) (st [W, S, R] H9) := st_mono k79
              have sm79 := sm7.trans k79
              have pS9 := paired_mono (fun _ _ => IntsAt.same k79s) pS7
              have pR9 := paired_mono (fun _ _ => RowAt.same k79s) pR7
              have pW9 := paired_mono (fun _ _ => EntAt.same k79s) pW7
              have hS9 := k79 _ _ hS7
              have hR9 := k79 _ _ hR7
              have hW9 := k79 _ _ hW7
              have nD2S : D2 ≠ S := ne_of_fresh (sm8 _ _ hS7) n2
              have nD2R : D2 ≠ R := ne_of_fresh (sm8 _ _ hR7) n2
              have nD2W : D2 ≠ W := ne_of_fresh (sm8 _ _ hW7) n2
              have hD9s : st [W, S, R] H9 D2 = some (.lst ((there rs nm s0).map V.int)) := by
                rw [st_get (by simp [nD2S, nD2R, nD2W])]
                exact hD9
              have lsv9 := pS9.length
              -- the ways meet
              refine ⟨fun σ' H' => σ' = [some (.ref a), some (.ref i), some (.ref o), some (.int most), some (.ref S), some (.ref R), some (.ref ah), some (.ref W), some (.str nm), some (.ref D1), some (.ref D2), w11, w12] ∧ ∃ sv'', H' = upd H9 S (.lst sv'') ∧ Paired (IntsAt (st [W, S, R] H9)) sv'' (grown stands' (there rs nm s0)), ?_, ?_⟩
              · refine ⟨_, rfl, _, rfl, stD (there rs nm s0), stands'.map stD, IntsAt.dp ⟨D2, rfl, hD9⟩, .lst (SqL.of hS9) (stands_dp (paired_mono (fun _ _ => IntsAt.same st_same) pS9)), stD_shaped _, stDs_shaped _, _, rfl, ?_⟩
                rw [stDs_any]
                refine ite2 (fun e => ?_) (fun e => ?_)
                · have hno : there rs nm s0 ∉ stands' := fun zz => by
                    rw [decide_eq_true zz] at e
                    cases e
                  refine ⟨_, rfl, .inl ⟨rfl, _, SqL.of hS9⟩, _, rfl, S, _, _, rfl, rfl, hS9, small1000 (by omega), ?_⟩
                  refine ⟨rfl, _, rfl, ?_⟩
                  unfold grown
                  rw [if_neg hno]
                  exact paired_snoc pS9 ⟨D2, rfl, hD9s⟩
                · have hin : there rs nm s0 ∈ stands' := by
                    by_cases zz : there rs nm s0 ∈ stands'
                    · exact zz
                    · exact absurd (by rw [decide_eq_false zz]; rfl) e
                  refine ⟨rfl, sv', (upd_self hS9).symm, ?_⟩
                  unfold grown
                  rw [if_pos hin]
                  exact pS9
              · rintro σ' H'' ⟨rfl, sv'', rfl, pS10⟩
                have sm10 := sm79.put (o := .lst sv'') hS0
                have stq : st [W, S, R] (upd H9 S (.lst sv'')) = st [W, S, R] H9 := st_upd (by simp)
                have hS10 : (upd H9 S (.lst sv'')) S = some (.lst sv'') := upd_same
                have hR10 : (upd H9 S (.lst sv'')) R = some (.lst rv) := by rw [upd_ne nRS]; exact hR9
                have hW10 : (upd H9 S (.lst sv'')) W = some (.lst cv) := by rw [upd_ne nWS]; exact hW9
                have hD10 : (upd H9 S (.lst sv'')) D2 = some (.lst ((there rs nm s0).map V.int)) := by rw [upd_ne nD2S]; exact hD9
                have nD1S : D1 ≠ S := ne_of_fresh hS7 n1
                have nahS : ah ≠ S := fun e => by
                  rw [e, st_in (by simp)] at hah7
                  cases hah7
                have hD110 : (upd H9 S (.lst sv'')) D1 = some (.lst ((risen rs nm s0).map V.int)) := by rw [upd_ne nD1S]; exact sm9 _ _ hD8
                have hah10 : (upd H9 S (.lst sv'')) ah = some (.lst (s0.map V.int)) := by rw [upd_ne nahS]; exact k79 _ _ ah7
                rw [← stq] at pS10 pR9 pW9
                have hah10s : st [W, S, R] (upd H9 S (.lst sv'')) ah = some (.lst (s0.map V.int)) := by
                  rw [stq]
                  exact k79s _ _ hah7
                generalize upd H9 S (.lst sv'') = G at *
                have inv8 := inv7.grow (fun r hr => (ok r hr).1) hs7 hnm
                have thin := mem_grown stands' (there rs nm s0)
                have gl := grown_len stands' (there rs nm s0)
                refine ⟨_, rfl, .inl ⟨rfl, _, SqL.of hW10⟩, ?_⟩
                refine ⟨_, rfl, .inl ⟨rfl, _, SqL.of hS10⟩, _, rfl, S, _, stD (there rs nm s0), (grown stands' (there rs nm s0)).map stD, plc (grown stands' (there rs nm s0)) (there rs nm s0), stD (there rs nm s0), rfl, rfl, .lst (SqL.of hS10) (stands_dp (paired_mono (fun _ _ => IntsAt.same st_same) pS10)), IntsAt.dp ⟨D2, rfl, hD10⟩, stDs_shaped _, stD_shaped _, ?_, ?_, ?_, ?_⟩
                · rw [List.getElem?_map, plc_get thin]
                  rfl
                · rw [stD_eqv]
                  exact decide_eq_true rfl
                · intro m z' hm hz'
                  rw [List.getElem?_map] at hz'
                  cases eq : (grown stands' (there rs nm s0))[m]? with
                  | none =>
                    rw [eq] at hz'
                    cases hz'
                  | some t =>
                    rw [eq] at hz'
                    cases Option.some.inj hz'
                    rw [stD_eqv]
                    exact decide_eq_false (plc_no hm eq)
                · refine ⟨_, rfl, _, rfl, _, rfl, _, rfl, a, o, ah, D1, vr, rs, outs, s0, risen rs nm s0, rfl, sm10 _ _ ha, paired_mono (fun _ _ => RuleAt.kp (Kp.of sm10)) hR, sm10.seq ho, SqL.of hah10, SqL.of hD110, sl0, risen_len sl0, by omega, ok, fun G2 t sm2 nt ht => ?_⟩
                  refine ⟨(by show 2 ≤ sizeLine; decide), fun T nT => ?_⟩
                  have sT := same_upd (o := .tup [.int (plc (grown stands' (there rs nm s0)) (there rs nm s0)), .ref t]) nT
                  have k2T := sm2.trans sT
                  have hWT := k2T _ _ hW10
                  have hST := k2T _ _ hS10
                  have hRT := k2T _ _ hR10
                  have ktS : Same (st [W, S, R] G) (st [W, S, R] (upd G2 T (.tup [.int (plc (grown stands' (there rs nm s0)) (there rs nm s0)), .ref t]))) := st_mono k2T
                  have nTS : T ≠ S := ne_of_fresh (sm2 _ _ hS10) nT
                  have nTR : T ≠ R := ne_of_fresh (sm2 _ _ hR10) nT
                  have nTW : T ≠ W := ne_of_fresh (sm2 _ _ hW10) nT
                  have ntS : t ≠ S := ne_of_fresh hS10 nt
                  have ntR : t ≠ R := ne_of_fresh hR10 nt
                  have ntW : t ≠ W := ne_of_fresh hW10 nt
                  have lcv := pW9.length
                  refine ⟨W, _, _, rfl, rfl, hWT, small1000 (by omega), ?_⟩
                  refine ⟨grown stands' (there rs nm s0), sv'', cv ++ [.ref T], cur ++ [((plc (grown stands' (there rs nm s0)) (there rs nm s0) : Int), gn outs rs nm s0)], _, _, _, _, _, rfl, (sm10.trans k2T).put nW0, ?_, ?_, ?_, ?_, upd_same, ?_, inv8, grown_get hs7, ?_, ?_, ?_, ?_⟩
                  · rw [upd_ne nWS.symm]
                    exact hST
                  · rw [st_upd (by simp)]
                    exact paired_mono (fun _ _ => IntsAt.same ktS) pS10
                  · rw [upd_ne nWR.symm]
                    exact hRT
                  · rw [st_upd (by simp)]
                    exact paired_mono (fun _ _ => RowAt.same ktS) pR9
                  · rw [st_upd (by simp)]
                    refine paired_snoc (paired_mono (fun _ _ => EntAt.same ktS) pW9) ⟨T, t, rfl, ?_, ?_⟩
                    · rw [st_get (by simp [nTS, nTR, nTW])]
                      exact upd_same
                    · rw [st_get (by simp [ntS, ntR, ntW])]
                      exact sT _ _ ht
                  · rw [List.length_append, lc7]
                    rfl
                  · refine ⟨fun j' e he => ?_⟩
                    by_cases hlt : j' < cur.length
                    · rw [List.getElem?_append_left hlt] at he
                      exact (ro7.grow).at_ j' e he
                    · have hl2 := (List.getElem?_eq_some_iff.mp he).1
                      rw [List.length_append, List.length_singleton] at hl2
                      have ej : j' = cur.length := by omega
                      rw [ej, List.getElem?_append_right (Nat.le_refl _), Nat.sub_self] at he
                      cases Option.some.inj he
                      rw [ej, lc7]
                      exact ⟨nm, _, hnm, rfl, plc_get thin⟩
                  · omega
                  · rw [st_upd (by simp)]
                    exact ktS _ _ hah10s
        · rintro σ H7 ⟨stands', sv', cv, cur, w8, w9, w10, w11, w12, rfl, sm7, hS7, pS7, hR7, pR7, hW7, pW7, inv7, hs7, lc7, ro7, lm7, hah7⟩
          rw [List.length_map] at lc7 lm7
          have lrv7 := pR7.length
          refine ⟨_, rfl, .inl ⟨rfl, _, SqL.of hR7⟩, _, rfl, R, _, _, rfl, rfl, hR7, small1000 (by omega), ?_⟩
          have sub : Same (st [W, S, R] H7) (st [S, R] (upd H7 R (.lst (rv ++ [.ref W])))) := by
            rw [st_upd (by simp)]
            exact st_sub
          have stl := (List.getElem?_eq_some_iff.mp hs7).1
          refine ⟨stands', rows ++ [cur], sv', rv ++ [.ref W], _, _, _, _, _, _, _, rfl, sm7.put hR0, by rw [upd_ne nRS.symm]; exact hS7, paired_mono (fun _ _ => IntsAt.same sub) pS7, upd_same,
            paired_snoc (paired_mono (fun _ _ => RowAt.same sub) pR7) ⟨W, cv, rfl, ?_, paired_mono (fun _ _ => EntAt.same sub) pW7⟩, inv7.row hs7 lc7 ro7, ?_, by omega, ?_⟩
          · rw [st_upd (by simp), st_get (by simp [nWS, nWR])]
            exact hW7
          · rw [List.length_append, List.length_singleton]
            omega
          · rw [List.length_append]
            rfl
      · have hle : ¬ (sv.length : Int) ≤ most := fun zz => e2 (decide_eq_true zz)
        exact fin (.inr (by omega))
    · have hlt : ¬ (rv.length : Int) < sv.length := fun zz => e1 (decide_eq_true zz)
      exact iteF (fin (.inl (by omega)))
end
end Hl

set_option Elab.async false
set_option linter.all false
set_option maxRecDepth 100000
set_option maxHeartbeats 4000000
namespace Hl
open PySem PySem.Spec PyProof.Rows L2
abbrev sNames : Stmt := topS 55
abbrev sShuf : Stmt := topS 56
def tails : List Str := ["", "b", "zz", "xy", "mmmmm", "bbbbb"]
def abc : Str := "abcdefghijklmnopqrstuvwxyz"
def nameF (t : Str) (a s k : Nat) : Str := (cutS t none (some (a : Int)) ++ ⟨#[(abc.cps.toList[(s + 5 * k) % 26]?).getD 0]⟩) ++ cutS t (some (a : Int)) none
def goodB (s : Str) : Bool := decide (1 ≤ s.length) && (decide (s.length ≤ 6) && ((s.cps.toList.all fun c => decide (97 ≤ c) && decide (c ≤ 122)) && !(s == ("nobody" : Str))))
def unlikeB : List Str → Bool
  | [] => true
  | s :: r => !(r.contains s) && unlikeB r
def namesOk (t : Str) (a s : Nat) : Bool := ((List.range 4).map (nameF t a s)).all goodB && unlikeB ((List.range 4).map (nameF t a s))
theorem names_all : (tails.all fun t => (List.range 6).all fun a => (List.range 26).all fun s => namesOk t a s) = true := by decide +kernel
theorem tails_len : (tails.all fun t => decide (t.length ≤ 5)) = true := by decide +kernel
theorem unlike_nodup : ∀ {l : List Str}, unlikeB l = true → l.Nodup
  | [], _ => List.nodup_nil
  | s :: r, h => by
    unfold unlikeB at h
    rw [Bool.and_eq_true] at h
    rw [List.nodup_cons]
    refine ⟨fun z => ?_, unlike_nodup h.2⟩
    have := h.1
    rw [List.contains_iff_mem.mpr z] at this
    cases this
structure Good (s : Str) : Prop where
  l1 : 1 ≤ s.length
  l6 : s.length ≤ 6
  az : ∀ c ∈ s.cps.toList, 97 ≤ c ∧ c ≤ 122
  nb : s ≠ "nobody"
theorem good_of {s : Str} (h : goodB s = true) : Good s := by
  unfold goodB at h
  simp only [Bool.and_eq_true, decide_eq_true_eq, List.all_eq_true] at h
  refine ⟨h.1, h.2.1, h.2.2.1, fun e => ?_⟩
  subst e
  exact absurd h.2.2.2 (by decide +kernel)
theorem names_good {t : Str} {a s m : Nat} (ht : t ∈ tails) (ha : a ≤ t.length) (hs : s < 26) (hm : m ≤ 4) : ((List.range m).map (nameF t a s)).Nodup ∧ ∀ n ∈ (List.range m).map (nameF t a s), Good n := by
  have l5 := of_decide_eq_true (List.all_eq_true.mp tails_len t ht)
  have h1 := List.all_eq_true.mp names_all t ht
  have h2 := List.all_eq_true.mp h1 a (List.mem_range.mpr (by omega))
  have h3 := List.all_eq_true.mp h2 s (List.mem_range.mpr hs)
  unfold namesOk at h3
  rw [Bool.and_eq_true] at h3
  have sub : ((List.range m).map (nameF t a s)).Sublist ((List.range 4).map (nameF t a s)) := List.Sublist.map _ (List.range_sublist.mpr hm)
  exact ⟨List.Nodup.sublist sub (unlike_nodup h3.2), fun n hn => good_of (List.all_eq_true.mp h3.1 n (sub.subset hn))⟩
theorem cutS_len (t : Str) (lo hi : Option Int) : (cutS t lo hi).length ≤ t.length := cutS_length t lo hi
theorem str_len_append (a b : Str) : (a ++ b).length = a.length + b.length := PySem.Str.length_append a b
section
variable {P : Program} {w : World} {K : PySem.W.Frag} {mg : Str → Option Value} {base : Heap}
def spNames : Sp := fun vs H Q _ => ∃ (p l : Addr) (m : Nat), vs = [.ref p, .int m] ∧ Deal H p l ∧ m ≤ 4 ∧ ∀ (H' : Hp) (q : Addr) (ns : List Str), Kp H H' → Deal H' p l → H q = none → H' q = some (.lst (ns.map V.str)) → ns.length = m → ns.Nodup → (∀ n ∈ ns, Good n) → Q (.ref q) H'
abbrev nmNa : List Str := ["_law_deal_here", "_law_many", "_law_tail", "_law_at", "_law_start", "_law_signs", "_law_k"]
theorem scNa : FnScope nmNa ["_law_deal_here", "_law_many"] (defScope sNames) := ⟨rfl, rfl, rfl, by decide +kernel, rfl, by decide +kernel, by decide +kernel⟩
theorem ok_names {f fK fO : Addr} {fd fdK fdO : FuncData} {k : Nat} (F : Fun K "_law_names" "_law_names" sNames f fd)
    (GK : FnOk P w K mg base CX0 k fK fdK ["_law_deal_here", "_law_many"] spPick) (kK : PySem.W.keepIn K (.ref fK) = true) (bK : Binds K fdK ["_law_deal_here", "_law_many"] []) (gK : mg "_law_pick" = some (.ref fK))
    (GO : FnOk P w K mg base CX0 k fO fdO ["_law_deal_here", "_law_some"] spOf) (kO : PySem.W.keepIn K (.ref fO) = true) (bO : Binds K fdO ["_law_deal_here", "_law_some"] []) (gO : mg "_law_of" = some (.ref fO)) (B : Bi mg) :
    FnOk P w K mg base CX0 (k + 1) f fd ["_law_deal_here", "_law_many"] spNames := by
  refine F.ok scNa (fun vs H Q E h => ?_) (fun cdv A outer s H vs Q E hr h => ?_)
  · obtain ⟨p, l, m, rfl, _⟩ := h
    rfl
  · obtain ⟨p, l, m, rfl, dl, m4, q⟩ := h
    refine ⟨_, pss_cons (ps_set (i := 2) scNa.nd rfl (.inr rfl) (pe_call GO hr (by rfl) gO kO bO .nil pass0 (pa_cons (pv 0) (pa_cons (pe_lst (pa_cons pe_str (pa_cons pe_str (pa_cons pe_str (pa_cons pe_str (pa_cons pe_str (pa_cons pe_str pa_nil))))))) pa_nil))))
      (pss_cons (ps_asg (pe_tup (pa_cons (pe_call GK hr (by rfl) gK kK bK .nil pass0 (pa_cons (pv 0) (pa_cons (pe_op op_add (pe_callB call_len_str (by rfl) B.len PySem.boot_len (pa_cons (pv 2) pa_nil)) pe_int) pa_nil))) (pa_cons (pe_call GK hr (by rfl) gK kK bK .nil pass0 (pa_cons (pv 0) (pa_cons pe_int pa_nil))) pa_nil)))
          (pg_tup rfl (pgs_cons (pg_name (i := 3) scNa.nd rfl (.inr rfl)) (pgs_cons (pg_name (i := 4) scNa.nd rfl (.inr rfl)) pgs_nil))))
      (pss_cons (ps_set (i := 5) scNa.nd rfl (.inr rfl) pe_str)
      (pss_one (ps_ret (pe_lc (own := [("_law_k", 6)]) (g := gName 6) (tt := tYes) rfl scNa.nd (pi_range1 (by rfl) B.rng (pa_cons (pv 1) pa_nil))
        (blkOk_by (own := [("_law_k", 6)]) (N := nmNa) (sc := defScope sNames) (by decide +kernel)) (fun _ _ _ _ _ => pg_name (i := 6) scNa.nd rfl (Or.inl rfl)) (fun _ _ _ _ _ => pts_nil)
        (fun _ _ _ _ _ => pe_op op_add_str (pe_op op_add_str (pe_slice sl_str (pv 2) po_none (po_some (pv 3))) (pe_ix ix_str (pv 5) (pe_op op_mod (pe_op op_add (pv 4) (pe_op op_mul pe_int (pv 6))) pe_int) (fun _ _ => rfl))) (pe_slice sl_str (pv 2) (po_some (pv 3)) po_none))))))), ?_⟩
    refine ⟨_, rfl, (by show 6 ≤ sizeLine; decide), fun c nc => ?_⟩
    have sc := same_upd (o := .lst (tails.map V.str)) nc
    refine ⟨p, l, c, tails.map V.str, rfl, dl.same sc, upd_same, nd_strs, by decide, by decide, fun H1 x hx kp1 dl1 => ?_⟩
    have k1 := (Kp.of sc).trans kp1
    obtain ⟨t, ht, rfl⟩ := List.mem_map.mp hx
    have l5 := of_decide_eq_true (List.all_eq_true.mp tails_len t ht)
    have szt : t.length ≤ sizeLine := Nat.le_of_lt (small1000 (by omega))
    refine ⟨_, rfl, _, rfl, t, rfl, szt, _, _, rfl, rfl, p, l, _, rfl, dl1, by omega, lg (b := 11) (by omega) (by decide) (by decide), fun H2 at' k2 dl2 a0 a1 => ?_⟩
    refine ⟨_, rfl, p, l, 26, rfl, dl2, by decide, lg (b := 11) (by decide) (by decide) (by decide), fun H3 st k3 dl3 b0 b1 => ?_⟩
    obtain ⟨a, rfl⟩ := Int.eq_ofNat_of_zero_le a0
    obtain ⟨sn, rfl⟩ := Int.eq_ofNat_of_zero_le b0
    refine ⟨(by show 2 ≤ sizeLine; decide), fun T nT => ?_⟩
    have sT := same_upd (o := .tup [.int a, .int sn]) nT
    refine ⟨T, _, rfl, SqT.of upd_same, rfl, _, _, rfl, _, _, rfl, rfl, ?_⟩
    have k4 := ((k1.trans k2).trans k3).trans (Kp.of sT)
    have dl4 := dl3.same sT
    generalize (upd H3 T (.tup [.int a, .int sn])) = H4 at *
    refine ⟨_, rfl, (m : Int), rfl, by omega, by omega, fun D nD => ?_⟩
    have sD := same_upd (o := .lst []) nD
    have szc : ∀ lo hi, (cutS t lo hi).length ≤ 1000 := fun lo hi => by
      have h1 := cutS_len t lo hi
      omega
    refine lc_range (lo := 0) (n := m) (fun i H' => Same H4 H' ∧ H' D = some (.lst (((List.range i).map (nameF t a sn)).map V.str))) ⟨sD, upd_same⟩ ?_ ?_
    · rintro i H5 hi ⟨sm, hD⟩
      refine ⟨rfl, ?_⟩
      have hix : (sn + 5 * i) % 26 < 26 := Nat.mod_lt _ (by decide)
      have hc : abc.cps.toList[(sn + 5 * i) % 26]? = some ((abc.cps.toList[(sn + 5 * i) % 26]?).getD 0) := by
        rw [List.getElem?_eq_getElem (show (sn + 5 * i) % 26 < abc.cps.toList.length from hix)]
        rfl
      refine ⟨_, rfl, _, rfl, _, rfl, t, rfl, szt, ?_⟩
      refine ⟨_, rfl, _, rfl, _, rfl, _, _, rfl, rfl, .inl ⟨by decide, by decide⟩, _, _, rfl, rfl, _, _, rfl, rfl, (by show (0 : Int) < 26; decide), abc, _, _, rfl, rfl, (by show 26 ≤ sizeLine; decide), (by show atI abc.cps.toList (((sn : Int) + 5 * (0 + (i : Int))) % 26) = _; rw [show ((sn : Int) + 5 * (0 + (i : Int))) % 26 = (((sn + 5 * i) % 26 : Nat) : Int) by omega]; exact atI_nat hc), _, _, rfl, rfl, ?_, ?_⟩
      · have := szc none (some (a : Int))
        exact Nat.le_of_lt (small1000 (by show _ + 1 ≤ 1000; have := cutS_len t none (some (a : Int)); omega))
      refine ⟨_, rfl, _, rfl, _, rfl, t, rfl, szt, _, _, rfl, rfl, ?_, ?_⟩
      · have h1 := cutS_len t none (some (a : Int))
        have h2 := cutS_len t (some (a : Int)) none
        refine Nat.le_of_lt (small1000 ?_)
        rw [str_len_append]
        show _ + 1 + _ ≤ 1000
        omega
      refine ⟨_, hD, ?_, sm.put nD, ?_⟩
      · rw [List.length_map, List.length_map, List.length_range]
        exact small1000 (by omega)
      · rw [upd_same, List.range_succ, List.map_append, List.map_append]
        rfl
    · rintro H5 ⟨sm, hD⟩
      obtain ⟨nd, gd⟩ := names_good (m := m) ht (show a ≤ t.length by omega) (show sn < 26 by omega) m4
      exact q H5 D _ (k4.trans (Kp.of sm)) (dl4.same sm) (k4.free _ nD) hD (by rw [List.length_map, List.length_range]) nd gd
/-! _law_shuffled -/
def spShuf : Sp := fun vs H Q _ => ∃ (p l a : Addr) (xs : List V), vs = [.ref p, .ref a] ∧ Deal H p l ∧ H a = some (.lst xs) ∧ (∀ v ∈ xs, ∀ r, v ≠ .ref r) ∧ xs.length ≤ 1000 ∧
  ∀ (H' : Hp) (q : Addr) (ys : List V), Kp H H' → Deal H' p l → H q = none → H' q = some (.lst ys) → ys.Perm xs → Q (.ref q) H'
theorem scSh : FnScope ["_law_deal_here", "_law_some", "_law_found", "_law_one"] ["_law_deal_here", "_law_some"] (defScope sShuf) := ⟨rfl, rfl, rfl, by decide +kernel, rfl, by decide +kernel, by decide +kernel⟩
theorem nd_plain {xs : List V} (h : ∀ v ∈ xs, ∀ r, v ≠ .ref r) : Nd (.lst xs) := nd_lst fun x r e a => h x (by rw [e]; exact List.mem_cons_self) a
theorem ok_shuf {f fK : Addr} {fd fdK : FuncData} {k : Nat} (F : Fun K "_law_shuffled" "_law_shuffled" sShuf f fd)
    (GK : FnOk P w K mg base CX0 k fK fdK ["_law_deal_here", "_law_many"] spPick) (kK : PySem.W.keepIn K (.ref fK) = true) (bK : Binds K fdK ["_law_deal_here", "_law_many"] []) (gK : mg "_law_pick" = some (.ref fK)) (B : Bi mg) :
    FnOk P w K mg base CX0 (k + 1) f fd ["_law_deal_here", "_law_some"] spShuf := by
  refine F.ok scSh (fun vs H Q E h => ?_) (fun cdv A outer s H vs Q E hr h => ?_)
  · obtain ⟨p, l, m, xs, rfl, _⟩ := h
    rfl
  · obtain ⟨p, l, a, xs, rfl, dl, ha, pl, lx, q⟩ := h
    refine ⟨_, pss_cons (ps_set (i := 2) scSh.nd rfl (.inl rfl) (pe_lst pa_nil))
      (pss_cons (ps_for PassesOwn.never rfl (pi_list (pv 1)) (pg_name (i := 3) scSh.nd rfl (.inl rfl))
        (pss_one (ps_expr (pe_bm PySem.F.plainAttrs_list PySem.F.slot_list_insert PySem.F.type_list_insert mt_insert (pv 2) (pa_cons (pe_call GK hr (by rfl) gK kK bK .nil pass0 (pa_cons (pv 0) (pa_cons (pe_op op_add (pe_callB call_len_seq (by rfl) B.len PySem.boot_len (pa_cons (pv 2) pa_nil)) pe_int) pa_nil))) (pa_cons (pv 3) pa_nil))))))
      (pss_one (ps_ret (pv 2)))), ?_⟩
    have nda := nd_plain pl
    refine ⟨Nat.zero_le _, fun D nD => ?_⟩
    have s1 := same_upd (o := .lst []) nD
    have nDp := dl.ne nD
    have nDl := dl.nl nD
    refine ⟨_, rfl, a, rfl, ⟨_, SqL.of (s1 _ _ ha)⟩, for_list (K := K) (a := a) (xs := xs) (fun i σ H' => ∃ (ys : List V) (v3 : Option V), σ = [some (.ref p), some (.ref a), some (.ref D), v3] ∧ Kp H H' ∧ Deal H' p l ∧ H' D = some (.lst ys) ∧ ys.Perm (xs.take i))
      ⟨[], none, rfl, Kp.of s1, dl.same s1, upd_same, by rw [List.take_zero]⟩ (fun i σ H' _ ⟨_, _, _, kp, _⟩ => SqL.of (kp.keep _ _ nda ha)) ?_ ?_⟩
    · rintro i x σ H1 hx ⟨ys, v3, rfl, kp, dl1, hD, pm⟩
      have ly : ys.length ≤ 1000 := by
        rw [pm.length_eq, List.length_take]
        omega
      have ply : ∀ v ∈ ys, ∀ r, v ≠ .ref r := fun v hv => pl v (List.mem_of_mem_take (pm.subset hv))
      refine ⟨_, rfl, .inl ⟨rfl, _, SqL.of hD⟩, ?_⟩
      refine ⟨_, rfl, _, rfl, D, _, rfl, .inl (SqL.of hD), _, _, rfl, rfl, p, l, _, rfl, dl1, by omega, lg (b := 11) (by omega) (by decide) (by decide), fun H2 r kp2 dl2 r0 r1 => ?_⟩
      have hD2 := kp2.keep _ _ (nd_plain ply) hD
      refine ⟨_, rfl, D, ys, r, x, rfl, rfl, hD2, small1000 ly, r0, by omega, ?_⟩
      refine ⟨ys.take r.toNat ++ [x] ++ ys.drop r.toNat, _, rfl, (kp.trans kp2).put nD, dl2.put nDp nDl, upd_same, ?_⟩
      rw [List.take_add_one, hx]
      refine List.Perm.trans ?_ (List.Perm.append_right _ pm)
      have e : ys.take r.toNat ++ [x] ++ ys.drop r.toNat = ys.take r.toNat ++ x :: ys.drop r.toNat := by simp
      rw [e]
      refine List.perm_middle.trans ?_
      rw [List.take_append_drop]
      exact (List.perm_append_singleton x ys).symm
    · rintro σ H1 ⟨ys, v3, rfl, kp, dl1, hD, pm⟩
      rw [List.take_length] at pm
      exact ⟨_, rfl, q H1 D ys kp dl1 nD hD pm⟩
end
end Hl

set_option Elab.async false
set_option linter.all false
set_option maxRecDepth 100000
set_option maxHeartbeats 4000000
namespace Hl
open PySem PySem.Spec PyProof.Rows L2
abbrev sRule : Stmt := topS 57
theorem strOk_good {s : Str} (h : Good s) : PyData.strOk s = true := by
  unfold PyData.strOk
  rw [← Array.all_toList]
  exact List.all_eq_true.mpr fun c hc => decide_eq_true (by have := h.az c hc; omega)
theorem strs_lay : ∀ s : List Str, (∀ n ∈ s, Good n) → PyData.canLayAll0 (s.map PyData.str) = true
  | [], _ => by simp [PyData.canLayAll0]
  | x :: s, h => by
    have h1 := strOk_good (h x List.mem_cons_self)
    have h2 := strs_lay s fun n hn => h n (List.mem_cons_of_mem _ hn)
    simp [PyData.canLayAll0, PyData.canLay0, h1, h2]
theorem strs_depth : ∀ s : List Str, PyData.depthAll (s.map PyData.str) ≤ 1
  | [] => by simp [PyData.depthAll]
  | x :: s => by
    have := strs_depth s
    simp only [List.map_cons, PyData.depthAll, PyData.depth]
    omega
theorem strs_shaped (s : List Str) (hg : ∀ n ∈ s, Good n) : SeqAt.shaped (.list (s.map PyData.str)) = true := by
  have h1 := strs_depth s
  have h2 : PyData.depth (.list (s.map PyData.str)) ≤ 64 := by
    simp only [PyData.depth]
    omega
  show (PyData.canLay0 (.list (s.map PyData.str)) && decide (PyData.depth (.list (s.map PyData.str)) ≤ 64)) = true
  rw [Bool.and_eq_true]
  exact ⟨by simp only [PyData.canLay0]; exact strs_lay s hg, decide_eq_true h2⟩
theorem strs_dp {K : PySem.W.Frag} {H : Hp} : ∀ s : List Str, DpAll K H (s.map V.str) (s.map PyData.str)
  | [] => .nil
  | x :: s => .cons (.str x) (strs_dp s)
theorem strs_eqv_nil (s : List Str) : PyData.eqv (.list (s.map PyData.str)) (.list []) = s.isEmpty := by
  cases s <;> simp [PyData.eqv, PyData.eqvAll]
theorem cut1 (xs : List V) : cutV xs none (some 1) = xs.take 1 := by
  unfold cutV
  rw [HT.sIx_none, show HT.sIx xs.length xs.length (some 1) = min 1 xs.length from HT.sIx_nat xs.length xs.length 1]
  cases xs with
  | nil => rfl
  | cons x r =>
    rw [show min 1 (x :: r).length = 1 by
      rw [List.length_cons]
      omega]
    rfl
theorem refs_of_pairs {H : Hp} : ∀ {vs : List V} {ps : List (Str × Int)}, Paired (PairAt H) vs ps → ∃ as : List Addr, vs = as.map V.ref
  | _, _, .nil => ⟨[], rfl⟩
  | _, _, .cons ⟨a, e, _⟩ r => by
    obtain ⟨as, h⟩ := refs_of_pairs r
    exact ⟨a :: as, by rw [e, h]; rfl⟩
theorem nd_pairs {H : Hp} {vs : List V} {ps : List (Str × Int)} (h : Paired (PairAt H) vs ps) : Nd (.lst vs) := by
  obtain ⟨as, rfl⟩ := refs_of_pairs h
  exact nd_refs
section
variable {P : Program} {w : World} {K : PySem.W.Frag} {mg : Str → Option Value} {base : Heap}
def spRule : Sp := fun vs H Q _ => ∃ (p l i o : Addr) (ins outs : List Str), vs = [.ref p, .ref i, .ref o] ∧ Deal H p l ∧ H i = some (.lst (ins.map V.str)) ∧ H o = some (.lst (outs.map V.str)) ∧ ins.length ≤ 3 ∧ outs.length ≤ 3 ∧ (∀ n ∈ ins, Good n) ∧ (∀ n ∈ outs, Good n) ∧
  ∀ (H' : Hp) (v : V) (r : Rl), Kp H H' → Deal H' p l → RuleAt H' v r → OkR r → (∀ q ∈ r.gs, q.1 ∈ outs) → (∀ q ∈ r.ws, q.1 ∈ ins) → Q v H'
abbrev nmRu : List Str := ["_law_deal_here", "_law_ins", "_law_outs", "_law_used", "_law_weights", "_law_paid", "_law_gives", "_law_every", "_law_early", "_law_name"]
theorem scRu : FnScope nmRu ["_law_deal_here", "_law_ins", "_law_outs"] (defScope sRule) := ⟨rfl, rfl, rfl, by decide +kernel, rfl, by decide +kernel, by decide +kernel⟩
theorem ok_rule {f fK fO : Addr} {fd fdK fdO : FuncData} {k : Nat} (F : Fun K "_law_rule" "_law_rule" sRule f fd)
    (GK : FnOk P w K mg base CX0 k fK fdK ["_law_deal_here", "_law_many"] spPick) (kK : PySem.W.keepIn K (.ref fK) = true) (bK : Binds K fdK ["_law_deal_here", "_law_many"] []) (gK : mg "_law_pick" = some (.ref fK))
    (GO : FnOk P w K mg base CX0 k fO fdO ["_law_deal_here", "_law_some"] spOf) (kO : PySem.W.keepIn K (.ref fO) = true) (bO : Binds K fdO ["_law_deal_here", "_law_some"] []) (gO : mg "_law_of" = some (.ref fO)) (B : Bi mg) (J : Bj mg) :
    FnOk P w K mg base CX0 (k + 1) f fd ["_law_deal_here", "_law_ins", "_law_outs"] spRule := by
  refine F.ok scRu (fun vs H Q E h => ?_) (fun cdv A outer s H vs Q E hr h => ?_)
  · obtain ⟨p, l, i, o, ins, outs, rfl, _⟩ := h
    rfl
  · obtain ⟨p, l, i, o, ins, outs, rfl, dl, hi, ho, li, lo, ins_g, outs_g, q⟩ := h
    refine ⟨_, pss_cons (ps_set (i := 3) scRu.nd rfl (.inl rfl) (pe_callB cr_sortedS (by rfl) J.sorted (by decide +kernel) (pa_cons (pe_lc (own := [("_law_name", 9)]) (g := gName 9) rfl scRu.nd (pi_list (pv 1)) (blkOk_by (own := [("_law_name", 9)]) (N := nmRu) (sc := defScope sRule) (by decide +kernel)) (fun _ _ _ _ _ => pg_name (i := 9) scRu.nd rfl (Or.inl rfl)) (fun _ _ _ _ _ => pts_one (pt_cmpR op_eq (pe_call GK hr (by rfl) gK kK bK .nil pass0 (pa_cons (pv 0) (pa_cons pe_int pa_nil))) pe_int (nomark _))) (fun _ _ _ _ _ => pv 9)) pa_nil)))
      (Evl.pss_cut (ps_set (i := 3) scRu.nd rfl (.inl rfl) (pe_ifExp (pt_cmpR (op_neD hr.units) (pv 3) (pe_lst pa_nil) (nomark _)) (pv 3) (pe_slice sl_list (pe_callB cr_sortedS (by rfl) J.sorted (by decide +kernel) (pa_cons (pv 1) pa_nil)) po_none (po_some pe_int))))
      (pss_cons (ps_set (i := 4) scRu.nd rfl (.inl rfl) (pe_callTy call_tuple_of (by rfl) B.tup (by decide +kernel) (pa_cons (pe_lc (own := [("_law_name", 9)]) (g := gName 9) rfl scRu.nd (pi_list (pv 3)) (blkOk_by (own := [("_law_name", 9)]) (N := nmRu) (sc := defScope sRule) (by decide +kernel)) (fun _ _ _ _ _ => pg_name (i := 9) scRu.nd rfl (Or.inl rfl)) (fun _ _ _ _ _ => pts_nil) (fun _ _ _ _ _ => pe_tup (pa_cons (pv 9) (pa_cons (pe_op op_add pe_int (pe_call GO hr (by rfl) gO kO bO .nil pass0 (pa_cons (pv 0) (pa_cons (pe_lst (pa_cons pe_int (pa_cons pe_int (pa_cons pe_int (pa_cons pe_int pa_nil))))) pa_nil)))) pa_nil)))) pa_nil)))
      (pss_cons (ps_set (i := 5) scRu.nd rfl (.inl rfl) (pe_callB cr_sortedS (by rfl) J.sorted (by decide +kernel) (pa_cons (pe_lc (own := [("_law_name", 9)]) (g := gName 9) rfl scRu.nd (pi_list (pv 2)) (blkOk_by (own := [("_law_name", 9)]) (N := nmRu) (sc := defScope sRule) (by decide +kernel)) (fun _ _ _ _ _ => pg_name (i := 9) scRu.nd rfl (Or.inl rfl)) (fun _ _ _ _ _ => pts_one (pt_cmpR op_gt (pe_call GK hr (by rfl) gK kK bK .nil pass0 (pa_cons (pv 0) (pa_cons pe_int pa_nil))) pe_int (nomark _))) (fun _ _ _ _ _ => pv 9)) pa_nil)))
      (Evl.pss_cut (ps_set (i := 5) scRu.nd rfl (.inl rfl) (pe_ifExp (pt_cmpR (op_neD hr.units) (pv 5) (pe_lst pa_nil) (nomark _)) (pv 5) (pe_slice sl_list (pe_callB cr_sortedS (by rfl) J.sorted (by decide +kernel) (pa_cons (pv 2) pa_nil)) po_none (po_some pe_int))))
      (pss_cons (ps_set (i := 6) scRu.nd rfl (.inl rfl) (pe_callTy call_tuple_of (by rfl) B.tup (by decide +kernel) (pa_cons (pe_lc (own := [("_law_name", 9)]) (g := gName 9) rfl scRu.nd (pi_list (pv 5)) (blkOk_by (own := [("_law_name", 9)]) (N := nmRu) (sc := defScope sRule) (by decide +kernel)) (fun _ _ _ _ _ => pg_name (i := 9) scRu.nd rfl (Or.inl rfl)) (fun _ _ _ _ _ => pts_nil) (fun _ _ _ _ _ => pe_tup (pa_cons (pv 9) (pa_cons (pe_op op_add pe_int (pe_call GO hr (by rfl) gO kO bO .nil pass0 (pa_cons (pv 0) (pa_cons (pe_lst (pa_cons pe_int (pa_cons pe_int (pa_cons pe_int (pa_cons pe_int (pa_cons pe_int pa_nil)))))) pa_nil)))) pa_nil)))) pa_nil)))
      (pss_cons (ps_par (i := 7) (j := 8) rfl scRu.nd rfl rfl (by decide) rfl rfl (pa_cons (pe_op op_add pe_int (pe_call GO hr (by rfl) gO kO bO .nil pass0 (pa_cons (pv 0) (pa_cons (pe_lst (pa_cons pe_int (pa_cons pe_int (pa_cons pe_int (pa_cons pe_int (pa_cons pe_int pa_nil)))))) pa_nil)))) (pa_cons (pe_call GO hr (by rfl) gO kO bO .nil pass0 (pa_cons (pv 0) (pa_cons (pe_lst (pa_cons pe_int (pa_cons pe_int (pa_cons pe_int (pa_cons pe_int (pa_cons pe_int pa_nil)))))) pa_nil))) pa_nil)) (by rfl))
      (pss_one (ps_ret (pe_tup (pa_cons pe_str (pa_cons (pv 7) (pa_cons (pv 8) (pa_cons (pv 4) (pa_cons (pv 6) (pa_cons (pe_call GO hr (by rfl) gO kO bO .nil pass0 (pa_cons (pv 0) (pa_cons (pe_lst (pa_cons pe_non (pa_cons pe_non (pa_cons pe_non (pa_cons pe_int (pa_cons pe_int pa_nil)))))) pa_nil))) pa_nil))))))))))))))), ?_⟩
    -- used
    refine ⟨_, rfl, i, rfl, ⟨_, SqL.of hi⟩, fun D1 nD1 => ?_⟩
    have sD1 := same_upd (o := .lst []) nD1
    have np1 := dl.ne nD1
    have nl1 := dl.nl nD1
    refine lc_list (K := K) (a := i) (xs := ins.map V.str) (fun j H' => ∃ sel : List Str, Kp H H' ∧ Deal H' p l ∧ H' D1 = some (.lst (sel.map V.str)) ∧ (∀ s ∈ sel, s ∈ ins) ∧ sel.length ≤ j)
      ⟨[], Kp.of sD1, dl.same sD1, upd_same, (fun s hs => by cases hs), Nat.zero_le _⟩ (fun j H' _ ⟨_, kp', _⟩ => SqL.of (kp'.keep _ _ nd_strs hi)) ?_ ?_
    · rintro j x H' hx ⟨sel, kp', dl', hD, hin, hl⟩
      obtain ⟨nm, hnm, rfl⟩ := map_str_get hx
      have hmem : nm ∈ ins := List.mem_of_getElem? hnm
      have hjl := (List.getElem?_eq_some_iff.mp hnm).1
      refine ⟨rfl, ?_⟩
      refine ⟨_, rfl, p, l, 2, rfl, dl', by decide, lg (b := 11) (by decide) (by decide) (by decide), fun H2 r k2 dl2 r0 r1 => ?_⟩
      have hD2 := k2.keep _ _ nd_strs hD
      refine ⟨rfl, _, rfl, ite2 (fun e => ?_) (fun e => ?_)⟩
      · refine ⟨_, rfl, _, hD2, ?_, sel ++ [nm], (kp'.trans k2).put nD1, dl2.put np1 nl1, ?_, ?_, ?_⟩
        · rw [List.length_map]
          exact small1000 (by omega)
        · rw [upd_same, List.map_append]
          rfl
        · intro s hs
          rcases List.mem_append.mp hs with h | h
          · exact hin s h
          · rw [List.mem_singleton.mp h]
            exact hmem
        · rw [List.length_append, List.length_singleton]
          omega
      · exact ⟨sel, kp'.trans k2, dl2, hD2, hin, by omega⟩
    rintro H1a ⟨sel1, ka1, dla1, hDa1, hin1, hl1⟩
    rw [List.length_map] at hl1
    refine ⟨D1, sel1, rfl, SqL.of hDa1, by omega, fun ys1 q1 pm1 _ nq1 => ?_⟩
    have sq1 := same_upd (o := .lst (ys1.map V.str)) nq1
    have yin1 : ∀ s ∈ ys1, s ∈ ins := fun s hs => hin1 s (pm1.subset hs)
    have yl1 : ys1.length ≤ 3 := by
      rw [pm1.length_eq]
      omega
    have kb1 := (Kp.refl H).trans (ka1.trans (Kp.of sq1))
    have dlb1 := dla1.same sq1
    have hq1 : (upd H1a q1 (.lst (ys1.map V.str))) q1 = some (.lst (ys1.map V.str)) := upd_same
    generalize (upd H1a q1 (.lst (ys1.map V.str))) = H1b at *
    -- or the first of all
    refine ⟨fun σ' H' => ∃ (u : Addr) (us : List Str), σ' = [some (.ref p), some (.ref i), some (.ref o), some (.ref u), none, none, none, none, none, none] ∧ Kp H H' ∧ Deal H' p l ∧ H' u = some (.lst (us.map V.str)) ∧ us.length ≤ 3 ∧ ∀ s ∈ us, s ∈ ins, ?_, ?_⟩
    · refine ⟨_, rfl, Nat.zero_le _, fun z nz => ?_⟩
      have sz := same_upd (o := .lst []) nz
      refine ⟨.list (ys1.map PyData.str), .list [], .lst (SqL.of (sz _ _ hq1)) (strs_dp _), .lst (SqL.of upd_same) .nil, strs_shaped _ (fun n hn => ins_g n (yin1 n hn)), strs_shaped [] (fun n hn => by cases hn), _, rfl, ?_⟩
      rw [strs_eqv_nil]
      refine ite2 (fun e => ?_) (fun e => ?_)
      · exact ⟨_, rfl, q1, ys1, rfl, kb1.trans (Kp.of sz), dlb1.same sz, sz _ _ hq1, yl1, yin1⟩
      · refine ⟨_, rfl, i, ins, rfl, SqL.of (sz _ _ (kb1.keep _ _ nd_strs hi)), by omega, fun zs q2 pm2 _ nq2 => ?_⟩
        have s2 := same_upd (o := .lst (zs.map V.str)) nq2
        refine ⟨1, rfl, q2, zs.map V.str, rfl, SqL.of upd_same, fun q3 nq3 => ?_⟩
        rw [cut1, ← List.map_take]
        have s3 := same_upd (o := .lst ((zs.take 1).map V.str)) nq3
        refine ⟨q3, zs.take 1, rfl, kb1.trans (Kp.of (sz.trans (s2.trans s3))), dlb1.same (sz.trans (s2.trans s3)), upd_same, ?_, fun s hs => pm2.subset (List.mem_of_mem_take hs)⟩
        rw [List.length_take]
        omega
    rintro σ' H1 ⟨u1, us1, rfl, kc1, dlc1, hu1, ul1, uin1⟩

    -- pairs of us1
    refine ⟨_, rfl, u1, rfl, ⟨_, SqL.of hu1⟩, fun D2 nD2 => ?_⟩
    have sD2 := same_upd (o := .lst []) nD2
    have np2 := dlc1.ne nD2
    have nl2 := dlc1.nl nD2
    refine lc_list (K := K) (a := u1) (xs := us1.map V.str) (fun j H' => ∃ (vs : List V) (ps : List (Str × Int)), Kp H1 H' ∧ Deal H' p l ∧ H' D2 = some (.lst vs) ∧ Paired (PairAt H') vs ps ∧ ps.map (·.1) = us1.take j ∧ ∀ q ∈ ps, 0 ≤ q.2 ∧ q.2 ≤ 3)
      ⟨[], [], Kp.of sD2, dlc1.same sD2, upd_same, .nil, by rw [List.take_zero]; rfl, (fun q hq => by cases hq)⟩ (fun j H' _ ⟨_, _, kp', _⟩ => SqL.of (kp'.keep _ _ nd_strs hu1)) ?_ ?_
    · rintro j x H' hx ⟨vs, ps, kp', dl', hD, pp, pn, pv'⟩
      obtain ⟨nm, hnm, rfl⟩ := map_str_get hx
      have hjl := (List.getElem?_eq_some_iff.mp hnm).1
      have lv := pp.length
      have lps : ps.length = j := by
        have := congrArg List.length pn
        rw [List.length_map, List.length_take] at this
        omega
      refine ⟨rfl, ?_⟩
      refine ⟨_, rfl, _, rfl, (by show 4 ≤ sizeLine; decide), fun c nc => ?_⟩
      have sc := same_upd (o := .lst (([0, 0, 1, 2] : List Int).map V.int)) nc
      refine ⟨p, l, c, ([0, 0, 1, 2] : List Int).map V.int, rfl, dl'.same sc, upd_same, nd_ints, by decide, by decide, fun H2 x hx2 k2 dl2 => ?_⟩
      obtain ⟨r, hr2, rfl⟩ := List.mem_map.mp hx2
      have rb : 0 ≤ r ∧ r ≤ 2 := by
        simp only [List.mem_cons, List.not_mem_nil, or_false] at hr2
        omega
      have kk := (Kp.of sc).trans k2
      refine ⟨_, _, rfl, rfl, (by show 2 ≤ sizeLine; decide), fun T nT => ?_⟩
      have sT := same_upd (o := .tup [.str nm, .int (1 + r)]) nT
      have kT := kk.trans (Kp.of sT)
      have hDT := kT.keep _ _ (nd_pairs pp) hD
      refine ⟨_, hDT, small1000 (by omega), vs ++ [.ref T], ps ++ [(nm, 1 + r)], (kp'.trans kT).put nD2, (dl2.same sT).put np2 nl2, upd_same, ?_, ?_, ?_⟩
      · have nTD : T ≠ D2 := ne_of_fresh (kk.keep _ _ (nd_pairs pp) hD) nT
        have keepT : ∀ v q, PairAt H' v q → PairAt (upd (upd H2 T (.tup [.str nm, .int (1 + r)])) D2 (.lst (vs ++ [.ref T]))) v q := fun v q ⟨a, e, h⟩ => by
          have na : a ≠ D2 := fun z => by
            rw [z, hD] at h
            cases h
          exact ⟨a, e, by rw [upd_ne na]; exact kT.keep _ _ nd_tup h⟩
        exact paired_snoc (paired_mono keepT pp) ⟨T, rfl, by rw [upd_ne nTD]; exact upd_same⟩
      · rw [List.map_append, pn, List.take_add_one, hnm]
        rfl
      · intro q hq
        rcases List.mem_append.mp hq with h | h
        · exact pv' q h
        · rw [List.mem_singleton.mp h]
          exact ⟨by show 0 ≤ 1 + r; omega, by show 1 + r ≤ 3; omega⟩
    rintro H2a ⟨vs2, ps2, ka2, dla2, hDa2, pp2, pn2, pv2⟩
    rw [List.length_map, List.take_length] at pn2
    have pl2 : ps2.length ≤ 3 := by
      have := congrArg List.length pn2
      rw [List.length_map] at this
      omega
    refine ⟨D2, _, rfl, .inl ⟨SqL.of hDa2, fun t2 nt2 => ?_⟩⟩
    have st2 := same_upd (o := .tup vs2) nt2
    have kd2 := kc1.trans (ka2.trans (Kp.of st2))
    have dld2 := dla2.same st2
    have pa2 : PairsAt (upd H2a t2 (.tup vs2)) t2 ps2 := ⟨_, upd_same, paired_mono (fun _ _ => PairAt.kp (Kp.of st2)) pp2⟩
    generalize (upd H2a t2 (.tup vs2)) = H2 at *

    -- paid
    refine ⟨_, rfl, o, rfl, ⟨_, SqL.of (kd2.keep _ _ nd_strs ho)⟩, fun D3 nD3 => ?_⟩
    have sD3 := same_upd (o := .lst []) nD3
    have np3 := dld2.ne nD3
    have nl3 := dld2.nl nD3
    refine lc_list (K := K) (a := o) (xs := outs.map V.str) (fun j H' => ∃ sel : List Str, Kp H2 H' ∧ Deal H' p l ∧ H' D3 = some (.lst (sel.map V.str)) ∧ (∀ s ∈ sel, s ∈ outs) ∧ sel.length ≤ j)
      ⟨[], Kp.of sD3, dld2.same sD3, upd_same, (fun s hs => by cases hs), Nat.zero_le _⟩ (fun j H' _ ⟨_, kp', _⟩ => SqL.of (kp'.keep _ _ nd_strs (kd2.keep _ _ nd_strs ho))) ?_ ?_
    · rintro j x H' hx ⟨sel, kp', dl', hD, hin, hl⟩
      obtain ⟨nm, hnm, rfl⟩ := map_str_get hx
      have hmem : nm ∈ outs := List.mem_of_getElem? hnm
      have hjl := (List.getElem?_eq_some_iff.mp hnm).1
      refine ⟨rfl, ?_⟩
      refine ⟨_, rfl, p, l, 3, rfl, dl', by decide, lg (b := 11) (by decide) (by decide) (by decide), fun H2 r k2 dl2 r0 r1 => ?_⟩
      have hD2 := k2.keep _ _ nd_strs hD
      refine ⟨_, _, rfl, rfl, _, rfl, ite2 (fun e => ?_) (fun e => ?_)⟩
      · refine ⟨_, rfl, _, hD2, ?_, sel ++ [nm], (kp'.trans k2).put nD3, dl2.put np3 nl3, ?_, ?_, ?_⟩
        · rw [List.length_map]
          exact small1000 (by omega)
        · rw [upd_same, List.map_append]
          rfl
        · intro s hs
          rcases List.mem_append.mp hs with h | h
          · exact hin s h
          · rw [List.mem_singleton.mp h]
            exact hmem
        · rw [List.length_append, List.length_singleton]
          omega
      · exact ⟨sel, kp'.trans k2, dl2, hD2, hin, by omega⟩
    rintro H2a ⟨sel3, ka3, dla3, hDa3, hin3, hl3⟩
    rw [List.length_map] at hl3
    refine ⟨D3, sel3, rfl, SqL.of hDa3, by omega, fun ys3 q3 pm3 _ nq3 => ?_⟩
    have sq3 := same_upd (o := .lst (ys3.map V.str)) nq3
    have yin3 : ∀ s ∈ ys3, s ∈ outs := fun s hs => hin3 s (pm3.subset hs)
    have yl3 : ys3.length ≤ 3 := by
      rw [pm3.length_eq]
      omega
    have kb3 := kd2.trans (ka3.trans (Kp.of sq3))
    have dlb3 := dla3.same sq3
    have hq3 : (upd H2a q3 (.lst (ys3.map V.str))) q3 = some (.lst (ys3.map V.str)) := upd_same
    generalize (upd H2a q3 (.lst (ys3.map V.str))) = H2b at *
    -- or the first of all
    refine ⟨fun σ' H' => ∃ (u : Addr) (us : List Str), σ' = [some (.ref p), some (.ref i), some (.ref o), some (.ref u1), some (.ref t2), some (.ref u), none, none, none, none] ∧ Kp H H' ∧ (∀ b o, Nd o → H2 b = some o → H' b = some o) ∧ Deal H' p l ∧ H' u = some (.lst (us.map V.str)) ∧ us.length ≤ 3 ∧ ∀ s ∈ us, s ∈ outs, ?_, ?_⟩
    · refine ⟨_, rfl, Nat.zero_le _, fun z nz => ?_⟩
      have sz := same_upd (o := .lst []) nz
      refine ⟨.list (ys3.map PyData.str), .list [], .lst (SqL.of (sz _ _ hq3)) (strs_dp _), .lst (SqL.of upd_same) .nil, strs_shaped _ (fun n hn => outs_g n (yin3 n hn)), strs_shaped [] (fun n hn => by cases hn), _, rfl, ?_⟩
      rw [strs_eqv_nil]
      refine ite2 (fun e => ?_) (fun e => ?_)
      · exact ⟨_, rfl, q3, ys3, rfl, kb3.trans (Kp.of sz), fun b o n h => sz _ _ (sq3 _ _ (ka3.keep _ _ n h)), dlb3.same sz, sz _ _ hq3, yl3, yin3⟩
      · refine ⟨_, rfl, o, outs, rfl, SqL.of (sz _ _ (kb3.keep _ _ nd_strs ho)), by omega, fun zs q2 pm2 _ nq2 => ?_⟩
        have s2 := same_upd (o := .lst (zs.map V.str)) nq2
        refine ⟨1, rfl, q2, zs.map V.str, rfl, SqL.of upd_same, fun q3 nq3 => ?_⟩
        rw [cut1, ← List.map_take]
        have s3 := same_upd (o := .lst ((zs.take 1).map V.str)) nq3
        refine ⟨q3, zs.take 1, rfl, kb3.trans (Kp.of (sz.trans (s2.trans s3))), fun b o n h => s3 _ _ (s2 _ _ (sz _ _ (sq3 _ _ (ka3.keep _ _ n h)))), dlb3.same (sz.trans (s2.trans s3)), upd_same, ?_, fun s hs => pm2.subset (List.mem_of_mem_take hs)⟩
        rw [List.length_take]
        omega
    rintro σ' H3 ⟨u3, us3, rfl, kc3, kx3, dlc3, hu3, ul3, uin3⟩

    -- pairs of us3
    refine ⟨_, rfl, u3, rfl, ⟨_, SqL.of hu3⟩, fun D4 nD4 => ?_⟩
    have sD4 := same_upd (o := .lst []) nD4
    have np4 := dlc3.ne nD4
    have nl4 := dlc3.nl nD4
    refine lc_list (K := K) (a := u3) (xs := us3.map V.str) (fun j H' => ∃ (vs : List V) (ps : List (Str × Int)), Kp H3 H' ∧ Deal H' p l ∧ H' D4 = some (.lst vs) ∧ Paired (PairAt H') vs ps ∧ ps.map (·.1) = us3.take j ∧ ∀ q ∈ ps, 0 ≤ q.2 ∧ q.2 ≤ 3)
      ⟨[], [], Kp.of sD4, dlc3.same sD4, upd_same, .nil, by rw [List.take_zero]; rfl, (fun q hq => by cases hq)⟩ (fun j H' _ ⟨_, _, kp', _⟩ => SqL.of (kp'.keep _ _ nd_strs hu3)) ?_ ?_
    · rintro j x H' hx ⟨vs, ps, kp', dl', hD, pp, pn, pv'⟩
      obtain ⟨nm, hnm, rfl⟩ := map_str_get hx
      have hjl := (List.getElem?_eq_some_iff.mp hnm).1
      have lv := pp.length
      have lps : ps.length = j := by
        have := congrArg List.length pn
        rw [List.length_map, List.length_take] at this
        omega
      refine ⟨rfl, ?_⟩
      refine ⟨_, rfl, _, rfl, (by show 5 ≤ sizeLine; decide), fun c nc => ?_⟩
      have sc := same_upd (o := .lst (([0, 0, 0, 1, 2] : List Int).map V.int)) nc
      refine ⟨p, l, c, ([0, 0, 0, 1, 2] : List Int).map V.int, rfl, dl'.same sc, upd_same, nd_ints, by decide, by decide, fun H2 x hx2 k2 dl2 => ?_⟩
      obtain ⟨r, hr2, rfl⟩ := List.mem_map.mp hx2
      have rb : 0 ≤ r ∧ r ≤ 2 := by
        simp only [List.mem_cons, List.not_mem_nil, or_false] at hr2
        omega
      have kk := (Kp.of sc).trans k2
      refine ⟨_, _, rfl, rfl, (by show 2 ≤ sizeLine; decide), fun T nT => ?_⟩
      have sT := same_upd (o := .tup [.str nm, .int (1 + r)]) nT
      have kT := kk.trans (Kp.of sT)
      have hDT := kT.keep _ _ (nd_pairs pp) hD
      refine ⟨_, hDT, small1000 (by omega), vs ++ [.ref T], ps ++ [(nm, 1 + r)], (kp'.trans kT).put nD4, (dl2.same sT).put np4 nl4, upd_same, ?_, ?_, ?_⟩
      · have nTD : T ≠ D4 := ne_of_fresh (kk.keep _ _ (nd_pairs pp) hD) nT
        have keepT : ∀ v q, PairAt H' v q → PairAt (upd (upd H2 T (.tup [.str nm, .int (1 + r)])) D4 (.lst (vs ++ [.ref T]))) v q := fun v q ⟨a, e, h⟩ => by
          have na : a ≠ D4 := fun z => by
            rw [z, hD] at h
            cases h
          exact ⟨a, e, by rw [upd_ne na]; exact kT.keep _ _ nd_tup h⟩
        exact paired_snoc (paired_mono keepT pp) ⟨T, rfl, by rw [upd_ne nTD]; exact upd_same⟩
      · rw [List.map_append, pn, List.take_add_one, hnm]
        rfl
      · intro q hq
        rcases List.mem_append.mp hq with h | h
        · exact pv' q h
        · rw [List.mem_singleton.mp h]
          exact ⟨by show 0 ≤ 1 + r; omega, by show 1 + r ≤ 3; omega⟩
    rintro H4a ⟨vs4, ps4, ka4, dla4, hDa4, pp4, pn4, pv4⟩
    rw [List.length_map, List.take_length] at pn4
    have pl4 : ps4.length ≤ 3 := by
      have := congrArg List.length pn4
      rw [List.length_map] at this
      omega
    refine ⟨D4, _, rfl, .inl ⟨SqL.of hDa4, fun t4 nt4 => ?_⟩⟩
    have st4 := same_upd (o := .tup vs4) nt4
    have kz4 : ∀ b o, Nd o → H3 b = some o → (upd H4a t4 (.tup vs4)) b = some o := fun b o n h => st4 _ _ (ka4.keep _ _ n h)
    have kd4 := kc3.trans (ka4.trans (Kp.of st4))
    have dld4 := dla4.same st4
    have pa4 : PairsAt (upd H4a t4 (.tup vs4)) t4 ps4 := ⟨_, upd_same, paired_mono (fun _ _ => PairAt.kp (Kp.of st4)) pp4⟩
    generalize (upd H4a t4 (.tup vs4)) = H4 at *

    have pw4 : PairsAt H4 t2 ps2 := by
      obtain ⟨wv, h1, h2⟩ := pa2
      have through : ∀ b o, Nd o → H2 b = some o → H4 b = some o := fun b o n h => kz4 b o n (kx3 b o n h)
      exact ⟨wv, through _ _ nd_tup h1, paired_mono (fun v q ⟨a, e, h⟩ => ⟨a, e, through _ _ nd_tup h⟩) h2⟩
    -- every, early
    refine ⟨_, rfl, (by show 5 ≤ sizeLine; decide), fun c nc => ?_⟩
    have sc := same_upd (o := .lst (([0, 1, 1, 2, 3] : List Int).map V.int)) nc
    refine ⟨p, l, c, ([0, 1, 1, 2, 3] : List Int).map V.int, rfl, dld4.same sc, upd_same, nd_ints, by decide, by decide, fun H5 x hx k5 dl5 => ?_⟩
    obtain ⟨ev, hev, rfl⟩ := List.mem_map.mp hx
    have eb : 0 ≤ ev ∧ ev ≤ 3 := by
      simp only [List.mem_cons, List.not_mem_nil, or_false] at hev
      omega
    refine ⟨_, _, rfl, rfl, _, rfl, (by show 5 ≤ sizeLine; decide), fun c2 nc2 => ?_⟩
    have sc2 := same_upd (o := .lst (([0, 0, 0, 1, 2] : List Int).map V.int)) nc2
    refine ⟨p, l, c2, ([0, 0, 0, 1, 2] : List Int).map V.int, rfl, dl5.same sc2, upd_same, nd_ints, by decide, by decide, fun H6 x hx k6 dl6 => ?_⟩
    obtain ⟨ea, hea, rfl⟩ := List.mem_map.mp hx
    have ab : 0 ≤ ea ∧ ea ≤ 2 := by
      simp only [List.mem_cons, List.not_mem_nil, or_false] at hea
      omega
    refine ⟨_, _, rfl, ?_⟩
    -- the rule
    refine ⟨_, rfl, _, rfl, _, rfl, _, rfl, _, rfl, (by show 5 ≤ sizeLine; decide), fun c3 nc3 => ?_⟩
    have sc3 := same_upd (o := .lst [V.non, V.non, V.non, V.int 1, V.int 2]) nc3
    refine ⟨p, l, c3, [V.non, V.non, V.non, V.int 1, V.int 2], rfl, dl6.same sc3, upd_same, nd_lst (fun x r e a => by cases e; intro z; cases z), by decide, by decide, fun H7 x hx k7 dl7 => ?_⟩
    obtain ⟨mo, rfl, hmo⟩ : ∃ mo : Option Int, x = moV mo ∧ (mo = none ∨ mo = some 1 ∨ mo = some 2) := by
      simp only [List.mem_cons, List.not_mem_nil, or_false] at hx
      rcases hx with rfl | rfl | rfl | rfl | rfl
      · exact ⟨none, rfl, .inl rfl⟩
      · exact ⟨none, rfl, .inl rfl⟩
      · exact ⟨none, rfl, .inl rfl⟩
      · exact ⟨some 1, rfl, .inr (.inl rfl)⟩
      · exact ⟨some 2, rfl, .inr (.inr rfl)⟩
    refine ⟨(by show 6 ≤ sizeLine; decide), fun t nt => ?_⟩
    have sF := same_upd (o := .tup [.str "each", .int (1 + ev), .int ea, .ref t2, .ref t4, moV mo]) nt
    have k47 := ((((Kp.of sc).trans k5).trans ((Kp.of sc2).trans k6)).trans ((Kp.of sc3).trans k7)).trans (Kp.of sF)
    refine q _ _ ⟨1 + ev, ea, mo, ps2, ps4⟩ (kd4.trans k47) (dl7.same sF) ⟨t, t2, t4, rfl, upd_same, pw4.kp k47, pa4.kp k47⟩ ⟨⟨by show 1 ≤ 1 + ev; omega, by show 1 + ev ≤ 4; omega, ab.1, ab.2, hmo⟩, pl2, pv2, pl4, pv4⟩ ?_ ?_
    rotate_left
    · intro q' hq'
      have h1 : q'.1 ∈ ps2.map (·.1) := List.mem_map_of_mem hq'
      rw [pn2] at h1
      exact uin1 _ h1
    intro q' hq'
    have h1 : q'.1 ∈ ps4.map (·.1) := List.mem_map_of_mem hq'
    rw [pn4] at h1
    exact uin3 _ h1
end
end Hl

set_option Elab.async false
set_option linter.all false
set_option maxRecDepth 100000
set_option maxHeartbeats 4000000
namespace Hl
open PySem PySem.Spec PyProof.Rows L2
abbrev sRen : Stmt := topS 63
theorem refs_of_ents {H : Hp} : ∀ {vs : List V} {ps : List Ent}, Paired (EntAt H) vs ps → ∃ as : List Addr, vs = as.map V.ref
  | _, _, .nil => ⟨[], rfl⟩
  | _, _, .cons ⟨a, _, e, _⟩ r => by
    obtain ⟨as, h⟩ := refs_of_ents r
    exact ⟨a :: as, by rw [e, h]; rfl⟩
theorem refs_of_rows {H : Hp} : ∀ {vs : List V} {ps : Tab}, Paired (RowAt H) vs ps → ∃ as : List Addr, vs = as.map V.ref
  | _, _, .nil => ⟨[], rfl⟩
  | _, _, .cons ⟨a, _, e, _⟩ r => by
    obtain ⟨as, h⟩ := refs_of_rows r
    exact ⟨a :: as, by rw [e, h]; rfl⟩
theorem nd_ents {H : Hp} {vs : List V} {ps : List Ent} (h : Paired (EntAt H) vs ps) : Nd (.lst vs) := by
  obtain ⟨as, rfl⟩ := refs_of_ents h
  exact nd_refs
theorem nd_rows {H : Hp} {vs : List V} {ps : Tab} (h : Paired (RowAt H) vs ps) : Nd (.lst vs) := by
  obtain ⟨as, rfl⟩ := refs_of_rows h
  exact nd_refs
section
variable {H H' : Hp}
theorem EntAt.kp {v : V} {s : Ent} (k : Kp H H') (h : EntAt H v s) : EntAt H' v s := by
  obtain ⟨a, t, e, h, h2⟩ := h
  exact ⟨a, t, e, k.keep _ _ nd_tup h, k.keep _ _ nd_tup h2⟩
theorem RowAt.kp {v : V} {s : List Ent} (k : Kp H H') (h : RowAt H v s) : RowAt H' v s := by
  obtain ⟨a, vs, e, h, h2⟩ := h
  exact ⟨a, vs, e, k.keep _ _ (nd_ents h2) h, paired_mono (fun _ _ => EntAt.kp k) h2⟩
theorem TabAt.kp {a : Addr} {s : Tab} (k : Kp H H') (h : TabAt H a s) : TabAt H' a s := by
  obtain ⟨vs, h, h2⟩ := h
  exact ⟨vs, k.keep _ _ (nd_rows h2) h, paired_mono (fun _ _ => RowAt.kp k) h2⟩
end
def pos' (ord : List Nat) (t : Nat) : Nat := ord.findIdx fun x => decide (x = t)
theorem pos_lt {ord : List Nat} {t : Nat} (h : t ∈ ord) : pos' ord t < ord.length := List.findIdx_lt_length_of_exists ⟨t, h, decide_eq_true rfl⟩
theorem pos_get {ord : List Nat} {t : Nat} (h : t ∈ ord) : ord[pos' ord t]? = some t := by
  have hl := pos_lt h
  rw [List.getElem?_eq_getElem hl]
  have := List.findIdx_getElem (xs := ord) (p := fun x => decide (x = t)) (w := hl)
  exact congrArg some (of_decide_eq_true this)
theorem pos_no {ord : List Nat} {t s m : Nat} (h : m < pos' ord t) (e : ord[m]? = some s) : s ≠ t := by
  obtain ⟨hl, rfl⟩ := List.getElem?_eq_some_iff.mp e
  have := List.not_of_lt_findIdx (xs := ord) (p := fun x => decide (x = t)) h
  intro z
  simp [z] at this
def renRow (ord : List Nat) (row : List Ent) : List Ent := row.map fun e => ((pos' ord e.1.toNat : Int), e.2)
def renum (ord : List Nat) (rows : Tab) : Tab := ord.map fun o => renRow ord ((rows[o]?).getD [])
def lcScope : Expr → Scope
  | .ListComp _ _ sc _ => { sc with names := sc.names.map fun (n, k) => if k == NameKind.free then (n, NameKind.cell) else (n, k) }
  | _ => { kind := .function, names := [], isGenerator := false, isCoroutine := false }
def retE : Stmt → Expr
  | .Return (some e) _ => e
  | _ => .Constant .none 0 ⟨0, 0, 0, 0⟩
def natV (ns : List Nat) : List V := ns.map fun (n : Nat) => V.int (n : Int)
theorem natV_get {ns : List Nat} {i : Nat} {v : V} (h : (natV ns)[i]? = some v) : ∃ s, ns[i]? = some s ∧ v = .int (s : Nat) := by
  unfold natV at h
  rw [List.getElem?_map] at h
  cases e : ns[i]? with
  | none =>
    rw [e] at h
    cases h
  | some s =>
    rw [e] at h
    exact ⟨s, rfl, (Option.some.inj h).symm⟩
theorem natV_flat (ns : List Nat) : (natV ns).all flatV = true := by
  unfold natV
  rw [List.all_map]
  exact List.all_eq_true.mpr fun _ _ => rfl
theorem nd_natV {ns : List Nat} : Nd (.lst (natV ns)) := nd_lst fun x r e a => by
  cases ns with
  | nil => cases e
  | cons s t =>
    cases e
    intro z
    cases z
def toN : V → Nat
  | .int i => i.toNat
  | _ => 0
theorem perm_nats {ys : List V} {m : Nat} (h : ys.Perm ((List.range m).map fun i => V.int (1 + (i : Nat)))) : ∃ o : List Nat, ys = natV o ∧ o.Perm ((List.range m).map (· + 1)) := by
  refine ⟨ys.map toN, ?_, ?_⟩
  · unfold natV
    rw [List.map_map]
    refine (List.map_id ys).symm.trans (List.map_congr_left fun v hv => ?_)
    obtain ⟨i, _, rfl⟩ := List.mem_map.mp (h.subset hv)
    show V.int (1 + (i : Int)) = V.int (((1 + (i : Int)).toNat : Nat) : Int)
    rw [Int.toNat_of_nonneg (by omega)]
  · have := h.map toN
    rw [List.map_map] at this
    refine this.trans (List.Perm.of_eq (List.map_congr_left fun i _ => ?_))
    show (1 + (i : Int)).toNat = i + 1
    omega
theorem perm_ord {o : List Nat} {n : Nat} (h1 : 1 ≤ n) (h : o.Perm ((List.range (n - 1)).map (· + 1))) : (0 :: o).Perm (List.range n) := by
  have e : List.range n = 0 :: (List.range (n - 1)).map (· + 1) := by
    obtain ⟨m, rfl⟩ : ∃ m, n = m + 1 := ⟨n - 1, by omega⟩
    rw [Nat.add_sub_cancel, List.range_succ_eq_map]
  rw [e]
  exact List.Perm.cons 0 h
section
variable {P : Program} {w : World} {K : PySem.W.Frag} {mg : Str → Option Value} {base : Heap}
def spRen : Sp := fun vs H Q _ => ∃ (p l a : Addr) (rows : Tab), vs = [.ref p, .ref a] ∧ Deal H p l ∧ TabAt H a rows ∧ 1 ≤ rows.length ∧ rows.length ≤ 100 ∧ (∀ row ∈ rows, row.length ≤ 10 ∧ ∀ e ∈ row, ∃ t : Nat, e.1 = t ∧ t < rows.length) ∧
  ∀ (H' : Hp) (q : Addr) (ord : List Nat), Kp H H' → Deal H' p l → H q = none → TabAt H' q (renum ord rows) → ord.Perm (List.range rows.length) → ord[0]? = some 0 → Q (.ref q) H'
abbrev nmRe : List Str := ["_law_deal_here", "_law_rows", "_law_order", "_law_old", "_law_there", "_law_sends"]
theorem scRe : FnScope nmRe ["_law_deal_here", "_law_rows"] (defScope sRen) := ⟨rfl, rfl, rfl, by decide +kernel, rfl, by decide +kernel, by decide +kernel⟩
abbrev scRe1 : Scope := lcScope (retE ((defBody sRen).getD 1 (.Pass ⟨0, 0, 0, 0⟩)))
theorem ok_ren {f fS : Addr} {fd fdS : FuncData} {k : Nat} (F : Fun K "_law_renumbered" "_law_renumbered" sRen f fd)
    (GS : FnOk P w K mg base CX0 k fS fdS ["_law_deal_here", "_law_some"] spShuf) (kS : PySem.W.keepIn K (.ref fS) = true) (bS : Binds K fdS ["_law_deal_here", "_law_some"] []) (gS : mg "_law_shuffled" = some (.ref fS)) (B : Bi mg) :
    FnOk P w K mg base CX0 (k + 1) f fd ["_law_deal_here", "_law_rows"] spRen := by
  refine F.ok scRe (fun vs H Q E h => ?_) (fun cdv A outer s H vs Q E hr h => ?_)
  · obtain ⟨p, l, a, rows, rfl, _⟩ := h
    rfl
  · obtain ⟨p, l, a, rows, rfl, dl, hT, n1, n100, rok, q⟩ := h
    refine ⟨_, pss_cons (ps_set (i := 2) scRe.nd rfl (.inr rfl) (pe_op op_cat (pe_lst (pa_cons pe_int pa_nil)) (pe_call GS hr (by rfl) gS kS bS .nil pass0 (pa_cons (pv 0) (pa_cons (pe_listRg rfl (by rfl) B.lst (prg_2 (by rfl) B.rng pe_int (pe_callB call_len_seq (by rfl) B.len PySem.boot_len (pa_cons (pv 1) pa_nil)))) pa_nil)))))
      (pss_one (ps_ret (pe_lc (own := [("_law_old", 3)]) (g := gName 3) (te := tLc (iList K (tOp (rIxL K) (tVar 1) (tVar 3))) (gTup K 2 (gCons (gName 4) (gCons (gName 5) gNil))) tYes (tTup (tCons (tBM K "list" (rIndex K) (tVar 2) (tCons (tVar 4) tNil)) (tCons (tVar 5) tNil))) [4, 5]) rfl scRe.nd (pi_list (pv 2))
        (blkOk_by (own := [("_law_old", 3)]) (N := nmRe) (sc := defScope sRen) (by decide +kernel)) (fun _ _ _ _ _ => pg_name (i := 3) scRe.nd rfl (Or.inl rfl)) (fun _ _ _ _ _ => pts_nil)
        (fun _ _ _ _ _ => pe_lc (own := [("_law_there", 4), ("_law_sends", 5)]) rfl scRe.nd (pi_list (pe_ix (r := rIxL K) ix_list (pv 1) (pv 3) (fun _ _ => rfl)))
          (blkOk_by (own := [("_law_there", 4), ("_law_sends", 5)]) (N := nmRe) (sc := scRe1) (by decide +kernel))
          (fun _ _ _ _ _ => pg_tup rfl (pgs_cons (pg_name (i := 4) scRe.nd rfl (Or.inl rfl)) (pgs_cons (pg_name (i := 5) scRe.nd rfl (Or.inl rfl)) pgs_nil))) (fun _ _ _ _ _ => pts_nil)
          (fun _ _ _ _ _ => pe_tup (pa_cons (pe_bm PySem.F.plainAttrs_list PySem.F.slot_list_index PySem.F.type_list_index mt_index (pv 2) (pa_cons (pv 4) pa_nil)) (pa_cons (pv 5) pa_nil))))))), ?_⟩
    obtain ⟨vr, hvr, pr⟩ := hT
    have lvr := pr.length
    refine ⟨(by show 1 ≤ sizeLine; decide), fun z nz => ?_⟩
    have s1 := same_upd (o := .lst (([0] : List Int).map V.int)) nz
    refine ⟨_, rfl, _, rfl, a, _, rfl, .inl (SqL.of (s1 _ _ hvr)), 1, _, rfl, rfl, RgOk.of_le (by decide) (by omega) (by decide) (by omega), fun r nr => ?_⟩
    have s2 := same_upd (o := .lst (rgV 1 (vr.length : Int))) nr
    have s12 := s1.trans s2
    refine ⟨p, l, r, _, rfl, dl.same s12, upd_same, ?_, ?_, fun H3 S ys k3 dl3 nS hS pm => ?_⟩
    · intro v hv a' e
      unfold rgV at hv
      obtain ⟨i, _, rfl⟩ := List.mem_map.mp hv
      cases e
    · rw [rgV_length]
      omega
    have hz3 := k3.keep _ _ (nd_ints (ns := [0])) (s2 _ _ upd_same)
    have e1 : ((vr.length : Int) - 1).toNat = rows.length - 1 := by omega
    unfold rgV at pm
    rw [e1] at pm
    obtain ⟨o', rfl, po⟩ := perm_nats pm
    have lo' : o'.length = rows.length - 1 := by rw [po.length_eq, List.length_map, List.length_range]
    refine ⟨z, S, _, _, rfl, rfl, hz3, hS, ?_, fun O nO => ?_⟩
    · show 1 + (natV o').length ≤ sizeLine
      unfold natV
      rw [List.length_map]
      exact Nat.le_of_lt (small1000 (by omega))
    have pord := perm_ord n1 po
    have eO : (([0] : List Int).map V.int) ++ natV o' = natV (0 :: o') := rfl
    rw [eO]
    have s4 := same_upd (o := .lst (natV (0 :: o'))) nO
    have k4 := ((Kp.of s12).trans k3).trans (Kp.of s4)
    have dl4 := dl3.same s4
    have hO : (upd H3 O (.lst (natV (0 :: o')))) O = some (.lst (natV (0 :: o'))) := upd_same
    have h0 : (0 :: o')[0]? = some 0 := rfl
    have lord : (0 :: o').length = rows.length := by rw [pord.length_eq, List.length_range]
    have hvr4 := k4.keep _ _ (nd_rows pr) hvr
    have pr4 := paired_mono (fun _ _ => RowAt.kp k4) pr
    generalize (upd H3 O (.lst (natV (0 :: o')))) = H4 at *
    generalize (0 :: o') = ord at *
    have inord : ∀ t, t < rows.length → t ∈ ord := fun t ht => pord.symm.subset (List.mem_range.mpr ht)
    refine ⟨_, rfl, O, rfl, ⟨_, SqL.of hO⟩, fun D nD => ?_⟩
    have sD := same_upd (o := .lst []) nD
    have nD0 := k4.free _ nD
    refine lc_list (K := K) (a := O) (xs := natV ord) (fun i H' => ∃ vs : List V, Same H4 H' ∧ H' D = some (.lst vs) ∧ Paired (RowAt (st [D] H')) vs ((renum ord rows).take i)) ⟨[], sD, upd_same, by rw [List.take_zero]; exact .nil⟩ (fun i H' _ ⟨_, sm, _⟩ => SqL.of (sm _ _ hO)) ?_ ?_
    · rintro i x H5 hx ⟨vs, sm, hD, pp⟩
      obtain ⟨ol, hol, rfl⟩ := natV_get hx
      have ollt : ol < rows.length := List.mem_range.mp (pord.subset (List.mem_of_getElem? hol))
      have hrow : rows[ol]? = some rows[ol] := List.getElem?_eq_getElem ollt
      have rowin : rows[ol] ∈ rows := List.getElem_mem ollt
      generalize rows[ol] = row at hrow rowin
      obtain ⟨v, hv, b, us0, rfl, hb, pe⟩ := paired_get2 pr4 ol row hrow
      obtain ⟨rl, re⟩ := rok row rowin
      have leu := pe.length
      have ilt : i < ord.length := (List.getElem?_eq_some_iff.mp hol).1
      have lvs := pp.length
      rw [List.length_take] at lvs
      refine ⟨rfl, ?_⟩
      refine ⟨_, rfl, _, rfl, a, _, _, _, rfl, rfl, SqL.of (sm _ _ hvr4), atI_nat (j := ol) hv, b, rfl, ⟨_, SqL.of (sm _ _ hb)⟩, fun D2 nD2 => ?_⟩
      have sD2 := same_upd (o := .lst []) nD2
      have nD2D : D2 ≠ D := ne_of_fresh hD nD2
      refine lc_list (K := K) (a := b) (xs := us0) (fun j H' => ∃ us : List V, Same H5 H' ∧ H' D2 = some (.lst us) ∧ Paired (EntAt (st [D2, D] H')) us ((renRow ord row).take j)) ⟨[], sD2, upd_same, by rw [List.take_zero]; exact .nil⟩ (fun j H' _ ⟨_, sm', _⟩ => SqL.of (sm' _ _ (sm _ _ hb))) ?_ ?_
      · rintro j x H6 hx6 ⟨us, sm6, hD6, pp6⟩
        obtain ⟨e, hej, c, t, rfl, hc, ht⟩ := paired_get pe j _ hx6
        have jlt : j < row.length := (List.getElem?_eq_some_iff.mp hej).1
        obtain ⟨tn, htn, tlt⟩ := re e (List.mem_of_getElem? hej)
        have tin := inord tn tlt
        have sm46 := sm.trans sm6
        have lus := pp6.length
        rw [List.length_take] at lus
        refine ⟨c, _, rfl, SqT.of (sm46 _ _ hc), rfl, _, _, rfl, _, _, rfl, rfl, ?_⟩
        refine ⟨rfl, ?_⟩
        refine ⟨_, rfl, .inl ⟨rfl, _, SqL.of (sm46 _ _ hO)⟩, _, rfl, O, natV ord, .int e.1, pos' ord tn, .int (tn : Nat), rfl, rfl, SqL.of (sm46 _ _ hO), rfl, natV_flat _, ?_, ?_, ?_, ?_⟩
        · unfold natV
          rw [List.getElem?_map, pos_get tin]
          rfl
        · rw [htn]
          simp [eqV]
        · intro m z' hm hz'
          obtain ⟨s', hs', rfl⟩ := natV_get hz'
          have := pos_no hm hs'
          rw [htn]
          simp [eqV]
          omega
        · refine ⟨_, rfl, (by show 2 ≤ sizeLine; decide), fun T nT => ?_⟩
          have sT := same_upd (o := .tup [.int (pos' ord tn), .ref t]) nT
          refine ⟨_, sT _ _ hD6, small1000 (by omega), us ++ [.ref T], (sm6.trans sT).put nD2, upd_same, ?_⟩
          rw [st_upd (by simp)]
          have nTD2 : T ≠ D2 := ne_of_fresh hD6 nT
          have nTD : T ≠ D := ne_of_fresh (sm6 _ _ hD) nT
          have ntD2 : t ≠ D2 := ne_of_none (sm _ _ ht) nD2
          have ntD : t ≠ D := ne_of_none ht nD
          have ej : (renRow ord row)[j]? = some ((pos' ord tn : Int), e.2) := by
            unfold renRow
            rw [List.getElem?_map, hej]
            show some ((pos' ord e.1.toNat : Int), e.2) = _
            rw [htn]
            rfl
          rw [List.take_add_one, ej]
          refine paired_snoc (paired_mono (fun _ _ => EntAt.same (st_mono sT)) pp6) ⟨T, t, rfl, ?_, ?_⟩
          · rw [st_get (by simp [nTD2, nTD])]
            exact upd_same
          · rw [st_get (by simp [ntD2, ntD])]
            exact sT _ _ (sm46 _ _ ht)
      · rintro H6 ⟨us, sm6, hD6, pp6⟩
        have lrr : (renRow ord row).length = row.length := by
          unfold renRow
          rw [List.length_map]
        rw [List.take_of_length_le (by omega)] at pp6
        refine ⟨_, sm6 _ _ hD, small1000 (by omega), vs ++ [.ref D2], (sm.trans sm6).put nD, upd_same, ?_⟩
        rw [st_upd (by simp)]
        have ei : (renum ord rows)[i]? = some (renRow ord row) := by
          unfold renum
          rw [List.getElem?_map, hol]
          show some (renRow ord ((rows[ol]?).getD [])) = _
          rw [hrow]
          rfl
        rw [List.take_add_one, ei]
        refine paired_snoc (paired_mono (fun _ _ => RowAt.same (st_mono sm6)) pp) ⟨D2, us, rfl, ?_, paired_mono (fun _ _ => EntAt.same st_sub) pp6⟩
        rw [st_get (by simp [nD2D])]
        exact hD6
    · rintro H5 ⟨vs, sm, hD, pp⟩
      have lre : (renum ord rows).length = ord.length := by
        unfold renum
        rw [List.length_map]
      have lnat : (natV ord).length = ord.length := by
        unfold natV
        rw [List.length_map]
      rw [lnat, List.take_of_length_le (by omega)] at pp
      exact q H5 D ord (k4.trans (Kp.of sm)) (dl4.same sm) nD0 ⟨vs, hD, paired_mono (fun _ _ => RowAt.same st_same) pp⟩ pord h0
end
end Hl

set_option Elab.async false
set_option linter.all false
set_option maxRecDepth 100000
set_option maxHeartbeats 4000000
namespace Hl
open PySem PySem.Spec PyProof.Rows L2
abbrev sDev : Stmt := topS 64
abbrev sAny : Stmt := topS 65
/-! rules as data for == -/
def pD (p : Str × Int) : PyData := .tuple [.str p.1, .int p.2]
def moD : Option Int → PyData
  | none => .none
  | some k => .int k
def rlD (r : Rl) : PyData := .tuple [.str "each", .int r.e, .int r.a, .tuple (r.ws.map pD), .tuple (r.gs.map pD), moD r.m]
section
variable {K : PySem.W.Frag} {H : Hp}
theorem pairs_dp : ∀ {vs : List V} {ps : List (Str × Int)}, Paired (PairAt H) vs ps → DpAll K H vs (ps.map pD)
  | _, _, .nil => .nil
  | _, _, .cons ⟨a, e, h⟩ r => by
    rw [e]
    exact .cons (.tup (SqT.of h) (.cons (.str _) (.cons (.int _) .nil))) (pairs_dp r)
theorem rule_dp {v : V} {r : Rl} (h : RuleAt H v r) : Dp K H v (rlD r) := by
  obtain ⟨t, wt', gt, rfl, ht, ⟨wv, hw, pw⟩, ⟨gv, hg, pg⟩⟩ := h
  refine .tup (SqT.of ht) (.cons (.str _) (.cons (.int _) (.cons (.int _) (.cons (.tup (SqT.of hw) (pairs_dp pw)) (.cons (.tup (SqT.of hg) (pairs_dp pg)) (.cons ?_ .nil))))))
  cases r.m with
  | none => exact .non
  | some k => exact .int k
theorem rules_dp : ∀ {vs : List V} {rs : List Rl}, Paired (RuleAt H) vs rs → DpAll K H vs (rs.map rlD)
  | _, _, .nil => .nil
  | _, _, .cons a r => .cons (rule_dp a) (rules_dp r)
end
def NmG (r : Rl) : Prop := (∀ p ∈ r.ws, Good p.1) ∧ ∀ p ∈ r.gs, Good p.1
theorem pairs_lay : ∀ ps : List (Str × Int), (∀ p ∈ ps, Good p.1) → PyData.canLayAll0 (ps.map pD) = true
  | [], _ => by simp [PyData.canLayAll0]
  | x :: s, h => by
    have h1 := strOk_good (h x List.mem_cons_self)
    have h2 := pairs_lay s fun n hn => h n (List.mem_cons_of_mem _ hn)
    simp [PyData.canLayAll0, PyData.canLay0, pD, h1, h2]
theorem pairs_depth : ∀ ps : List (Str × Int), PyData.depthAll (ps.map pD) ≤ 2
  | [] => by simp [PyData.depthAll]
  | x :: s => by
    have := pairs_depth s
    simp only [List.map_cons, PyData.depthAll, PyData.depth, pD]
    omega
theorem rlD_lay {r : Rl} (h : NmG r) : (rlD r).canLay0 = true := by
  have h1 := pairs_lay _ h.1
  have h2 := pairs_lay _ h.2
  have h3 : (moD r.m).canLay0 = true := by cases r.m <;> simp [moD, PyData.canLay0]
  have h4 : PyData.strOk "each" = true := by decide +kernel
  simp [rlD, PyData.canLay0, PyData.canLayAll0, h1, h2, h3, h4]
theorem rlD_depth (r : Rl) : (rlD r).depth ≤ 10 := by
  have h1 := pairs_depth r.ws
  have h2 := pairs_depth r.gs
  have h3 : (moD r.m).depth ≤ 1 := by cases r.m <;> simp [moD, PyData.depth]
  simp only [rlD, PyData.depth, PyData.depthAll]
  omega
theorem rls_lay : ∀ rs : List Rl, (∀ r ∈ rs, NmG r) → PyData.canLayAll0 (rs.map rlD) = true
  | [], _ => by simp [PyData.canLayAll0]
  | x :: s, h => by
    have h1 := rlD_lay (h x List.mem_cons_self)
    have h2 := rls_lay s fun n hn => h n (List.mem_cons_of_mem _ hn)
    simp [PyData.canLayAll0, h1, h2]
theorem rls_depth : ∀ rs : List Rl, PyData.depthAll (rs.map rlD) ≤ 10
  | [] => by simp [PyData.depthAll]
  | x :: s => by
    have h1 := rls_depth s
    have h2 := rlD_depth x
    simp only [List.map_cons, PyData.depthAll]
    omega
theorem rls_shaped (rs : List Rl) (h : ∀ r ∈ rs, NmG r) : SeqAt.shaped (.list (rs.map rlD)) = true := by
  have h1 := rls_depth rs
  have h2 : PyData.depth (.list (rs.map rlD)) ≤ 64 := by
    simp only [PyData.depth]
    omega
  show (PyData.canLay0 (.list (rs.map rlD)) && decide (PyData.depth (.list (rs.map rlD)) ≤ 64)) = true
  rw [Bool.and_eq_true]
  exact ⟨by simp only [PyData.canLay0]; exact rls_lay rs h, decide_eq_true h2⟩
theorem rls_eqv_nil (s : List Rl) : PyData.eqv (.list (s.map rlD)) (.list []) = s.isEmpty := by
  cases s <;> simp [PyData.eqv, PyData.eqvAll]
theorem cutm1 (xs : List V) : cutV xs none (some (-1)) = xs.dropLast := by
  unfold cutV
  rw [HT.sIx_none, List.drop_zero, Nat.sub_zero, List.dropLast_eq_take]
  congr 1
  show (if (-1 : Int) < 0 then ((-1 : Int) + (xs.length : Int)).toNat else min (-1 : Int).toNat xs.length) = xs.length - 1
  rw [if_pos (by decide)]
  omega
/-- all lists and tuples stay -/
structure Lt (H H' : Hp) : Prop where
  l : ∀ b xs, H b = some (.lst xs) → H' b = some (.lst xs)
  t : ∀ b xs, H b = some (.tup xs) → H' b = some (.tup xs)
theorem TabAt.lt {H H' : Hp} {a : Addr} {tab : Tab} (k : Lt H H') (h : TabAt H a tab) : TabAt H' a tab := by
  obtain ⟨vs, h1, h2⟩ := h
  refine ⟨vs, k.l _ _ h1, paired_mono (fun v row hr => ?_) h2⟩
  obtain ⟨b, us, e, h3, h4⟩ := hr
  refine ⟨b, us, e, k.l _ _ h3, paired_mono (fun v e he => ?_) h4⟩
  obtain ⟨c, t, e1, h5, h6⟩ := he
  exact ⟨c, t, e1, k.t _ _ h5, k.t _ _ h6⟩
theorem PairsAt.tp {H H' : Hp} {a : Addr} {ps : List (Str × Int)} (k : ∀ b xs, H b = some (.tup xs) → H' b = some (.tup xs)) (h : PairsAt H a ps) : PairsAt H' a ps := by
  obtain ⟨vs, h1, h2⟩ := h
  refine ⟨vs, k _ _ h1, paired_mono (fun v p hp => ?_) h2⟩
  obtain ⟨b, e, h3⟩ := hp
  exact ⟨b, e, k _ _ h3⟩
theorem RuleAt.tp {H H' : Hp} {v : V} {r : Rl} (k : ∀ b xs, H b = some (.tup xs) → H' b = some (.tup xs)) (h : RuleAt H v r) : RuleAt H' v r := by
  obtain ⟨t, wt', gt, e, h1, h2, h3⟩ := h
  exact ⟨t, wt', gt, e, k _ _ h1, h2.tp k, h3.tp k⟩
theorem tp_put {H : Hp} {D : Addr} {xs : List V} {o : HO} (h : H D = some (.lst xs)) : ∀ b ys, H b = some (.tup ys) → (upd H D o) b = some (.tup ys) := fun b ys e => by
  have : b ≠ D := fun z => by
    rw [z, h] at e
    cases e
  rw [upd_ne this]
  exact e
theorem refs_of_rules {H : Hp} : ∀ {vs : List V} {ps : List Rl}, Paired (RuleAt H) vs ps → ∃ as : List Addr, vs = as.map V.ref
  | _, _, .nil => ⟨[], rfl⟩
  | _, _, .cons ⟨a, _, _, e, _⟩ r => by
    obtain ⟨as, h⟩ := refs_of_rules r
    exact ⟨a :: as, by rw [e, h]; rfl⟩
theorem nd_rules {H : Hp} {vs : List V} {ps : List Rl} (h : Paired (RuleAt H) vs ps) : Nd (.lst vs) := by
  obtain ⟨as, rfl⟩ := refs_of_rules h
  exact nd_refs
theorem RulesAt.kp {H H' : Hp} {a : Addr} {rs : List Rl} (k : Kp H H') (h : RulesAt H a rs) : RulesAt H' a rs := by
  obtain ⟨vs, h1, h2⟩ := h
  exact ⟨vs, k.keep _ _ (nd_rules h2) h1, paired_mono (fun _ _ => RuleAt.kp k) h2⟩
theorem paired_dropLast {α β : Type} {R : α → β → Prop} {xs : List α} {ys : List β} (h : Paired R xs ys) : Paired R xs.dropLast ys.dropLast := by
  induction h with
  | nil => exact .nil
  | cons a r ih =>
    cases r with
    | nil => exact .nil
    | cons b r2 => exact .cons a ih
section
variable {P : Program} {w : World} {K : PySem.W.Frag} {mg : Str → Option Value} {base : Heap}
structure RsOk (rs : List Rl) (outs : List Str) : Prop where
  ok : ∀ r ∈ rs, OkR r
  go : ∀ r ∈ rs, ∀ p ∈ r.gs, p.1 ∈ outs
  ng : ∀ r ∈ rs, NmG r
/-- what _law_raw has left -/
def Out (ins outs : List Str) (most : Nat) (H : Hp) (rs : List Rl) (v : V) : Prop :=
  (v = .non ∧ rs ≠ []) ∨ ∃ (t : Addr) (stands : List (List Int)) (rows : Tab), v = .ref t ∧ TabAt H t rows ∧ RInv rs ins outs stands rows ∧ rows.length = stands.length ∧ stands.length ≤ most
theorem RsOk.nil (outs : List Str) : RsOk [] outs := ⟨(fun r h => by cases h), (fun r h => by cases h), (fun r h => by cases h)⟩
theorem RsOk.cons {r : Rl} {rs : List Rl} {outs : List Str} (h1 : OkR r) (h2 : ∀ p ∈ r.gs, p.1 ∈ outs) (h3 : NmG r) (h : RsOk rs outs) : RsOk (r :: rs) outs := by
  refine ⟨fun x hx => ?_, fun x hx => ?_, fun x hx => ?_⟩
  · rcases List.mem_cons.mp hx with rfl | hx
    · exact h1
    · exact h.ok x hx
  · rcases List.mem_cons.mp hx with rfl | hx
    · exact h2
    · exact h.go x hx
  · rcases List.mem_cons.mp hx with rfl | hx
    · exact h3
    · exact h.ng x hx
theorem RsOk.snoc {r : Rl} {rs : List Rl} {outs : List Str} (h1 : OkR r) (h2 : ∀ p ∈ r.gs, p.1 ∈ outs) (h3 : NmG r) (h : RsOk rs outs) : RsOk (rs ++ [r]) outs := by
  refine ⟨fun x hx => ?_, fun x hx => ?_, fun x hx => ?_⟩
  · rcases List.mem_append.mp hx with hx | hx
    · exact h.ok x hx
    · rw [List.mem_singleton.mp hx]
      exact h1
  · rcases List.mem_append.mp hx with hx | hx
    · exact h.go x hx
    · rw [List.mem_singleton.mp hx]
      exact h2
  · rcases List.mem_append.mp hx with hx | hx
    · exact h.ng x hx
    · rw [List.mem_singleton.mp hx]
      exact h3
theorem RsOk.drop {rs : List Rl} {outs : List Str} (h : RsOk rs outs) : RsOk rs.dropLast outs :=
  ⟨fun x hx => h.ok x ((List.dropLast_sublist rs).subset hx), fun x hx => h.go x ((List.dropLast_sublist rs).subset hx), fun x hx => h.ng x ((List.dropLast_sublist rs).subset hx)⟩
def devD (i o q : Addr) : HO := .dK [(Sum.inr "ins", .ref i), (Sum.inr "outs", .ref o), (Sum.inr "rows", .ref q)]
def spDev : Sp := fun vs H Q _ => ∃ (p l i o : Addr) (ins outs : List Str) (most : Nat), vs = [.ref p, .ref i, .ref o, .int most] ∧ Deal H p l ∧ H i = some (.lst (ins.map V.str)) ∧ H o = some (.lst (outs.map V.str)) ∧
  1 ≤ ins.length ∧ ins.length ≤ 3 ∧ outs.length ≤ 3 ∧ (∀ n ∈ ins, Good n) ∧ (∀ n ∈ outs, Good n) ∧ 1 ≤ most ∧ most ≤ 60 ∧
  ∀ (H' : Hp) (m q : Addr) (rs : List Rl) (stands : List (List Int)) (rows : Tab) (ord : List Nat), Kp H H' → Deal H' p l → H m = none → H' m = some (devD i o q) → TabAt H' q (renum ord rows) → RsOk rs outs → rs.length ≤ 4 → RInv rs ins outs stands rows → rows.length = stands.length → stands.length ≤ most →
    ord.Perm (List.range rows.length) → ord[0]? = some 0 → Q (.ref m) H'
abbrev nmDe : List Str := ["_law_deal_here", "_law_ins", "_law_outs", "_law_most", "_law_rules", "_law_ring", "_law_rows", "_law_k", "_law_name"]
theorem scDe : FnScope nmDe ["_law_deal_here", "_law_ins", "_law_outs", "_law_most"] (defScope sDev) := ⟨rfl, rfl, rfl, by decide +kernel, rfl, by decide +kernel, by decide +kernel⟩
theorem ok_dev {f fK fL fA fN : Addr} {fd fdK fdL fdA fdN : FuncData} {k : Nat} (F : Fun K "_law_device" "_law_device" sDev f fd)
    (GK : FnOk P w K mg base CX0 k fK fdK ["_law_deal_here", "_law_many"] spPick) (kK : PySem.W.keepIn K (.ref fK) = true) (bK : Binds K fdK ["_law_deal_here", "_law_many"] []) (gK : mg "_law_pick" = some (.ref fK))
    (GL : FnOk P w K mg base CX0 k fL fdL ["_law_deal_here", "_law_ins", "_law_outs"] spRule) (kL : PySem.W.keepIn K (.ref fL) = true) (bL : Binds K fdL ["_law_deal_here", "_law_ins", "_law_outs"] []) (gL : mg "_law_rule" = some (.ref fL))
    (GA : FnOk P w K mg base CX0 k fA fdA ["_law_rules", "_law_ins", "_law_outs", "_law_most"] (spRaw K)) (kA : PySem.W.keepIn K (.ref fA) = true) (bA : Binds K fdA ["_law_rules", "_law_ins", "_law_outs", "_law_most"] []) (gA : mg "_law_raw" = some (.ref fA))
    (GN : FnOk P w K mg base CX0 k fN fdN ["_law_deal_here", "_law_rows"] spRen) (kN : PySem.W.keepIn K (.ref fN) = true) (bN : Binds K fdN ["_law_deal_here", "_law_rows"] []) (gN : mg "_law_renumbered" = some (.ref fN)) (B : Bi mg) (J : Bj mg) :
    FnOk P w K mg base CX0 (k + 1) f fd ["_law_deal_here", "_law_ins", "_law_outs", "_law_most"] spDev := by
  refine F.ok scDe (fun vs H Q E h => ?_) (fun cdv A outer s H vs Q E hr h => ?_)
  · obtain ⟨p, l, i, o, ins, outs, most, rfl, _⟩ := h
    rfl
  · obtain ⟨p, l, i, o, ins, outs, most, rfl, dl, hi, ho, i1, i3, o3, ig, og, m1, m60, q⟩ := h
    refine ⟨_, Evl.pss_cut (ps_set (i := 4) scDe.nd rfl (.inl rfl) (pe_ifExp (pt_cmpR (op_neD hr.units) (pv 2) (pe_lst pa_nil) (nomark _))
        (pe_lc (own := [("_law_k", 7)]) (g := gName 7) rfl scDe.nd (pi_range1 (by rfl) B.rng (pa_cons (pe_op op_add pe_int (pe_call GK hr (by rfl) gK kK bK .nil pass0 (pa_cons (pv 0) (pa_cons pe_int pa_nil)))) pa_nil))
          (blkOk_by (own := [("_law_k", 7)]) (N := nmDe) (sc := defScope sDev) (by decide +kernel)) (fun _ _ _ _ _ => pg_name (i := 7) scDe.nd rfl (Or.inl rfl)) (fun _ _ _ _ _ => pts_nil)
          (fun _ _ _ _ _ => pe_call GL hr (by rfl) gL kL bL .nil pass0 (pa_cons (pv 0) (pa_cons (pv 1) (pa_cons (pv 2) pa_nil)))))
        (pe_lst pa_nil)))
      (pss_cons (ps_set (i := 5) scDe.nd rfl (.inl rfl) (pe_tup (pa_cons pe_str (pa_cons (pe_op op_add pe_int (pe_call GK hr (by rfl) gK kK bK .nil pass0 (pa_cons (pv 0) (pa_cons pe_int pa_nil)))) (pa_cons (pe_call GK hr (by rfl) gK kK bK .nil pass0 (pa_cons (pv 0) (pa_cons pe_int pa_nil)))
        (pa_cons (pe_callTy call_tuple_of (by rfl) B.tup (by decide +kernel) (pa_cons (pe_lc (own := [("_law_name", 8)]) (g := gName 8) rfl scDe.nd (pi_list (pe_callB cr_sortedS (by rfl) J.sorted (by decide +kernel) (pa_cons (pv 1) pa_nil)))
          (blkOk_by (own := [("_law_name", 8)]) (N := nmDe) (sc := defScope sDev) (by decide +kernel)) (fun _ _ _ _ _ => pg_name (i := 8) scDe.nd rfl (Or.inl rfl)) (fun _ _ _ _ _ => pts_nil) (fun _ _ _ _ _ => pe_tup (pa_cons (pv 8) (pa_cons pe_int pa_nil)))) pa_nil))
        (pa_cons (pe_tup pa_nil) (pa_cons pe_non pa_nil))))))))
      (Evl.pss_cut (ps_if (PW.pt (pw_or (pt_cmpR op_eq (pe_call GK hr (by rfl) gK kK bK .nil pass0 (pa_cons (pv 0) (pa_cons pe_int pa_nil))) pe_int (nomark _)) (pw_or1 (pt_cmpR (op_eqD hr.units) (pv 4) (pe_lst pa_nil) (nomark _))))) (pss_one (ps_set (i := 4) scDe.nd rfl (.inl rfl) (pe_op op_cat (pe_lst (pa_cons (pv 5) pa_nil)) (pv 4)))) pss_nil)
      (Evl.pss_cut (ps_set (i := 6) scDe.nd rfl (.inl rfl) (pe_call GA hr (by rfl) gA kA bA .nil pass0 (pa_cons (pv 4) (pa_cons (pv 1) (pa_cons (pv 2) (pa_cons (pv 3) pa_nil))))))
      (pss_cons (ps_while PassesOwn.never (pt_cmpR op_isN (pv 6) pe_non (nomark _)) (pss_cons (ps_set (i := 4) scDe.nd rfl (.inl rfl) (pe_slice sl_list (pv 4) po_none (po_some (pe_un un_neg pe_int)))) (pss_one (ps_set (i := 6) scDe.nd rfl (.inl rfl) (pe_call GA hr (by rfl) gA kA bA .nil pass0 (pa_cons (pv 4) (pa_cons (pv 1) (pa_cons (pv 2) (pa_cons (pv 3) pa_nil)))))))))
      (pss_one (ps_ret (pe_disp (pps_cons pe_str (pv 1) (pps_cons pe_str (pv 2) (pps_cons pe_str (pe_call GN hr (by rfl) gN kN bN .nil pass0 (pa_cons (pv 0) (pa_cons (pv 6) pa_nil))) pps_nil))) (by rfl) (by rfl) (fun z => by cases z) (by decide)))))))), ?_⟩
    -- the rules
    refine ⟨fun σ' H' => ∃ (ar : Addr) (rs : List Rl), σ' = [some (.ref p), some (.ref i), some (.ref o), some (.int most), some (.ref ar), none, none, none, none] ∧ Kp H H' ∧ Deal H' p l ∧ RulesAt H' ar rs ∧ RsOk rs outs ∧ rs.length ≤ 3, ?_, ?_⟩
    · refine ⟨_, rfl, Nat.zero_le _, fun z nz => ?_⟩
      have sz := same_upd (o := .lst []) nz
      have dlz := dl.same sz
      refine ⟨.list (outs.map PyData.str), .list [], .lst (SqL.of (sz _ _ ho)) (strs_dp _), .lst (SqL.of upd_same) .nil, strs_shaped _ og, strs_shaped [] (fun n hn => by cases hn), _, rfl, ?_⟩
      rw [strs_eqv_nil]
      refine ite2 (fun e => ?_) (fun e => ?_)
      · refine ⟨_, rfl, p, l, 3, rfl, dlz, by decide, lg (b := 11) (by decide) (by decide) (by decide), fun H2 r k2 dl2 r0 r1 => ?_⟩
        obtain ⟨rn, rfl⟩ := Int.eq_ofNat_of_zero_le r0
        refine ⟨_, _, rfl, rfl, ((1 + rn : Nat) : Int), by rw [Int.natCast_add]; rfl, by omega, by omega, fun D nD => ?_⟩
        have sD := same_upd (o := .lst []) nD
        have nDp := dl2.ne nD
        have nDl := dl2.nl nD
        have k02 := (Kp.of sz).trans k2
        refine lc_range (lo := 0) (n := 1 + rn) (fun j H' => ∃ (vs : List V) (rs : List Rl), Kp H2 H' ∧ Deal H' p l ∧ H' D = some (.lst vs) ∧ Paired (RuleAt H') vs rs ∧ RsOk rs outs ∧ rs.length = j) ⟨[], [], Kp.of sD, dl2.same sD, upd_same, .nil, RsOk.nil outs, rfl⟩ ?_ ?_
        · rintro j H3 hj ⟨vs, rs, k3, dl3, hD, pp, ok, lj⟩
          have k03 := k02.trans k3
          refine ⟨rfl, ?_⟩
          refine ⟨_, rfl, _, rfl, _, rfl, p, l, i, o, ins, outs, rfl, dl3, k03.keep _ _ nd_strs hi, k03.keep _ _ nd_strs ho, i3, o3, ig, og, fun H4 v r k4 dl4 ra okr go wi => ?_⟩
          have hD4 := k4.keep _ _ (nd_rules pp) hD
          have lv := pp.length
          refine ⟨_, hD4, small1000 (by omega), vs ++ [v], rs ++ [r], (k3.trans k4).put nD, dl4.put nDp nDl, upd_same, ?_, RsOk.snoc okr go ⟨fun q hq => ig _ (wi q hq), fun q hq => og _ (go q hq)⟩ ok, by rw [List.length_append, lj]; rfl⟩
          exact paired_snoc (paired_mono (fun _ _ h => RuleAt.tp (tp_put hD4) (RuleAt.kp k4 h)) pp) (ra.tp (tp_put hD4))
        · rintro H3 ⟨vs, rs, k3, dl3, hD, pp, ok, lj⟩
          exact ⟨D, rs, rfl, k02.trans k3, dl3, ⟨vs, hD, pp⟩, ok, by omega⟩
      · refine ⟨Nat.zero_le _, fun z2 nz2 => ?_⟩
        have sz2 := same_upd (o := .lst []) nz2
        exact ⟨z2, [], rfl, Kp.of (sz.trans sz2), dl.same (sz.trans sz2), ⟨[], upd_same, .nil⟩, RsOk.nil outs, by decide⟩
    rintro σ' H1 ⟨ar, rs, rfl, k1, dl1, hR, ok, l3⟩
    -- the ring
    refine ⟨_, rfl, p, l, 4, rfl, dl1, by decide, lg (b := 11) (by decide) (by decide) (by decide), fun H2 r1 k2 dl2 c0 c1 => ?_⟩
    refine ⟨_, _, rfl, rfl, _, rfl, p, l, 2, rfl, dl2, by decide, lg (b := 11) (by decide) (by decide) (by decide), fun H3 r2 k3 dl3 d0 d1 => ?_⟩
    have k13 := (k1.trans k2).trans k3
    refine ⟨_, rfl, i, ins, rfl, SqL.of (k13.keep _ _ nd_strs hi), by omega, fun ys q1 pm _ nq1 => ?_⟩
    have sq := same_upd (o := .lst (ys.map V.str)) nq1
    have yl : ys.length ≤ 3 := by
      rw [pm.length_eq]
      exact i3
    have hq1 : (upd H3 q1 (.lst (ys.map V.str))) q1 = some (.lst (ys.map V.str)) := upd_same
    have dl3' := dl3.same sq
    have k13' := k13.trans (Kp.of sq)
    generalize (upd H3 q1 (.lst (ys.map V.str))) = H3' at *
    refine ⟨q1, rfl, ⟨_, SqL.of hq1⟩, fun D nD => ?_⟩
    have sD := same_upd (o := .lst []) nD
    refine lc_list (K := K) (a := q1) (xs := ys.map V.str) (fun j H' => ∃ vs : List V, Same H3' H' ∧ H' D = some (.lst vs) ∧ Paired (PairAt (st [D] H')) vs ((ys.take j).map fun n => (n, (1 : Int)))) ⟨[], sD, upd_same, by rw [List.take_zero]; exact .nil⟩ (fun j H' _ ⟨_, sm, _⟩ => SqL.of (sm _ _ hq1)) ?_ ?_
    · rintro j x H' hx ⟨vs, sm, hD, pp⟩
      obtain ⟨nm, hnm, rfl⟩ := map_str_get hx
      have lv := pp.length
      rw [List.length_map, List.length_take] at lv
      refine ⟨rfl, ?_⟩
      refine ⟨_, rfl, (by show 2 ≤ sizeLine; decide), fun T nT => ?_⟩
      have sT := same_upd (o := .tup [.str nm, .int 1]) nT
      have nTD : T ≠ D := ne_of_fresh hD nT
      refine ⟨_, sT _ _ hD, small1000 (by omega), vs ++ [.ref T], (sm.trans sT).put nD, upd_same, ?_⟩
      rw [st_upd (by simp), List.take_add_one, hnm, List.map_append]
      refine paired_snoc (paired_mono (fun _ _ h => ?_) pp) ⟨T, rfl, by rw [st_get (by simp [nTD])]; exact upd_same⟩
      obtain ⟨b, e, h⟩ := h
      exact ⟨b, e, st_mono sT _ _ h⟩
    rintro H4 ⟨vs, sm4, hD4, pp4⟩
    rw [List.length_map, List.take_length] at pp4
    refine ⟨D, _, rfl, .inl ⟨SqL.of hD4, fun t nt => ?_⟩⟩
    have st' := same_upd (o := .tup vs) nt
    refine ⟨Nat.zero_le _, fun e0 ne0 => ?_⟩
    have se := same_upd (o := .tup []) ne0
    refine ⟨(by show 6 ≤ sizeLine; decide), fun g ng => ?_⟩
    have sg := same_upd (o := .tup [.str "each", .int (1 + r1), .int r2, .ref t, .ref e0, .non]) ng
    have s35 := sm4.trans (st'.trans (se.trans sg))
    have k5 := k13'.trans (Kp.of s35)
    have dl5 := dl3'.same s35
    have pw : PairsAt (upd (upd (upd H4 t (.tup vs)) e0 (.tup [])) g (.tup [.str "each", .int (1 + r1), .int r2, .ref t, .ref e0, .non])) t (ys.map fun n => (n, (1 : Int))) :=
      ⟨vs, sg _ _ (se _ _ upd_same), paired_mono (fun _ _ ⟨b, e, h⟩ => ⟨b, e, sg _ _ (se _ _ (st' _ _ (st_same _ _ h)))⟩) pp4⟩
    have pg : PairsAt (upd (upd (upd H4 t (.tup vs)) e0 (.tup [])) g (.tup [.str "each", .int (1 + r1), .int r2, .ref t, .ref e0, .non])) e0 [] := ⟨[], sg _ _ upd_same, .nil⟩
    obtain ⟨ring, hring⟩ : ∃ ring : Rl, ring = ⟨1 + r1, r2, none, ys.map fun n => (n, (1 : Int)), []⟩ := ⟨_, rfl⟩
    have ra5 : RuleAt (upd (upd (upd H4 t (.tup vs)) e0 (.tup [])) g (.tup [.str "each", .int (1 + r1), .int r2, .ref t, .ref e0, .non])) (.ref g) ring := by
      rw [hring]
      exact ⟨g, t, e0, rfl, upd_same, pw, pg⟩
    have okring : OkR ring := by
      rw [hring]
      refine ⟨⟨by show 1 ≤ 1 + r1; omega, by show 1 + r1 ≤ 4; omega, d0, by show r2 ≤ 2; omega, .inl rfl⟩, ?_, ?_, by show 0 ≤ 3; decide, fun q hq => by cases hq⟩
      · show (ys.map _).length ≤ 3
        rw [List.length_map]
        exact yl
      · intro q hq
        obtain ⟨n, _, rfl⟩ := List.mem_map.mp hq
        exact ⟨by show (0 : Int) ≤ 1; decide, by show (1 : Int) ≤ 3; decide⟩
    have ngring : NmG ring := by
      rw [hring]
      refine ⟨fun q hq => ?_, fun q hq => by cases hq⟩
      obtain ⟨n, hn, rfl⟩ := List.mem_map.mp hq
      exact ig _ (pm.subset hn)
    have gring : ring.gs = [] := by rw [hring]
    have hR5 : RulesAt (upd (upd (upd H4 t (.tup vs)) e0 (.tup [])) g (.tup [.str "each", .int (1 + r1), .int r2, .ref t, .ref e0, .non])) ar rs := hR.kp (((k2.trans k3).trans (Kp.of sq)).trans (Kp.of s35))
    clear hring
    generalize (upd (upd (upd H4 t (.tup vs)) e0 (.tup [])) g (.tup [.str "each", .int (1 + r1), .int r2, .ref t, .ref e0, .non])) = H5 at *
    -- ring ahead, or not
    refine ⟨fun σ' H' => ∃ (ar : Addr) (rs : List Rl), σ' = [some (.ref p), some (.ref i), some (.ref o), some (.int most), some (.ref ar), some (.ref g), none, none, none] ∧ Kp H H' ∧ Deal H' p l ∧ RulesAt H' ar rs ∧ RsOk rs outs ∧ rs.length ≤ 4, ?_, ?_⟩
    · refine ⟨_, rfl, p, l, 3, rfl, dl5, by decide, lg (b := 11) (by decide) (by decide) (by decide), fun H6 r3 k6 dl6 f0 f1 => ?_⟩
      refine ⟨rfl, _, rfl, ite2 (fun e => ?_) (fun e => ?_)⟩
      · refine iteT ?_
        refine ⟨_, rfl, (by show 1 ≤ sizeLine; decide), fun z nz => ?_⟩
        have sz := same_upd (o := .lst [.ref g]) nz
        have kz := (k6).trans (Kp.of sz)
        obtain ⟨vr, hvr, pr⟩ := hR5.kp kz
        have lvr := pr.length
        refine ⟨_, rfl, z, ar, _, vr, rfl, rfl, upd_same, hvr, ?_, fun a2 na2 => ?_⟩
        · show 1 + vr.length ≤ sizeLine
          exact Nat.le_of_lt (small1000 (by omega))
        have s2 := same_upd (o := .lst ([.ref g] ++ vr)) na2
        have kk := kz.trans (Kp.of s2)
        exact ⟨a2, ring :: rs, rfl, k5.trans kk, (dl6).same (sz.trans s2), ⟨_, upd_same, .cons (ra5.kp kk) (paired_mono (fun _ _ => RuleAt.kp (Kp.of s2)) pr)⟩, RsOk.cons okring (fun q hq => by rw [gring] at hq; cases hq) ngring ok, by rw [List.length_cons]; omega⟩
      · refine ⟨_, rfl, Nat.zero_le _, fun zz nzz => ?_⟩
        have szz := same_upd (o := .lst []) nzz
        obtain ⟨vr0, hvr0, pr0⟩ := hR5.kp (k6.trans (Kp.of szz))
        refine ⟨.list (rs.map rlD), .list [], .lst (SqL.of hvr0) (rules_dp pr0), .lst (SqL.of upd_same) .nil, rls_shaped _ ok.ng, strs_shaped [] (fun n hn => by cases hn), _, rfl, ?_⟩
        rw [rls_eqv_nil]
        refine ite2 (fun e2 => ?_) (fun e2 => ?_)
        · skip
          refine ⟨_, rfl, (by show 1 ≤ sizeLine; decide), fun z nz => ?_⟩
          have sz := same_upd (o := .lst [.ref g]) nz
          have kz := (k6.trans (Kp.of szz)).trans (Kp.of sz)
          obtain ⟨vr, hvr, pr⟩ := hR5.kp kz
          have lvr := pr.length
          refine ⟨_, rfl, z, ar, _, vr, rfl, rfl, upd_same, hvr, ?_, fun a2 na2 => ?_⟩
          · show 1 + vr.length ≤ sizeLine
            exact Nat.le_of_lt (small1000 (by omega))
          have s2 := same_upd (o := .lst ([.ref g] ++ vr)) na2
          have kk := kz.trans (Kp.of s2)
          exact ⟨a2, ring :: rs, rfl, k5.trans kk, (dl6.same szz).same (sz.trans s2), ⟨_, upd_same, .cons (ra5.kp kk) (paired_mono (fun _ _ => RuleAt.kp (Kp.of s2)) pr)⟩, RsOk.cons okring (fun q hq => by rw [gring] at hq; cases hq) ngring ok, by rw [List.length_cons]; omega⟩
        · exact ⟨ar, rs, rfl, k5.trans (k6.trans (Kp.of szz)), dl6.same szz, ⟨vr0, hvr0, pr0⟩, ok, by omega⟩
    rintro σ' H6 ⟨ar6, rs6, rfl, k6, dl6, hR6, ok6, l6⟩
    -- the rows
    refine ⟨fun σ' H' => ∃ (ar : Addr) (rs : List Rl) (v6 : V) (v5 : Option V), σ' = [some (.ref p), some (.ref i), some (.ref o), some (.int most), some (.ref ar), v5, some v6, none, none] ∧ Kp H H' ∧ Deal H' p l ∧ RulesAt H' ar rs ∧ RsOk rs outs ∧ rs.length ≤ 4 ∧ Out ins outs most H' rs v6, ?_, ?_⟩
    · skip
      refine ⟨_, rfl, _, rfl, _, rfl, _, rfl, ar6, i, o, most, rs6, ins, outs, rfl, hR6, SqL.of ((k6).keep _ _ nd_strs hi), SqL.of ((k6).keep _ _ nd_strs ho), m1, by omega, by omega, by omega, by omega, fun r hr => ⟨(ok6).ok r hr, (ok6).go r hr⟩, fun Hy ne sm => ?_, fun Hy t stands rows sm nt tab inv hl hm => ?_⟩
      · exact ⟨ar6, rs6, .non, _, rfl, (k6).trans (Kp.of sm), (dl6).same sm, (hR6).kp (Kp.of sm), ok6, l6, .inl ⟨rfl, ne⟩⟩
      · exact ⟨ar6, rs6, .ref t, _, rfl, (k6).trans (Kp.of sm), (dl6).same sm, (hR6).kp (Kp.of sm), ok6, l6, .inr ⟨t, stands, rows, rfl, tab, inv, hl, hm⟩⟩
    rintro σ' H7 ⟨ar7, rs7, v7, w5, rfl, k7, dl7, hR7, ok7, l7, out7⟩
    refine ⟨fun m σ' H' => ∃ (ar : Addr) (rs : List Rl) (v6 : V) (v5 : Option V), σ' = [some (.ref p), some (.ref i), some (.ref o), some (.int most), some (.ref ar), v5, some v6, none, none] ∧ Kp H H' ∧ Deal H' p l ∧ RulesAt H' ar rs ∧ RsOk rs outs ∧ rs.length ≤ 4 ∧ Out ins outs most H' rs v6 ∧ m = rs.length, ⟨_, ar7, rs7, v7, w5, rfl, k7, dl7, hR7, ok7, l7, out7, rfl⟩, ?_⟩
    clear k7 dl7 hR7 ok7 l7 out7
    rintro m σ' H8 ⟨ar8, rs8, v8, w5', rfl, k8, dl8, hR8, ok8, l8, out8, rfl⟩
    refine ⟨_, rfl, rfl, _, rfl, ite2 (fun e => ?_) (fun e => ?_)⟩
    · have ev : v8 = .non := of_decide_eq_true e
      subst ev
      have hne : rs8 ≠ [] := by
        rcases out8 with ⟨_, h⟩ | ⟨t', _, _, h, _⟩
        · exact h
        · cases h
      have lpos : 0 < rs8.length := List.length_pos_iff.mpr hne
      obtain ⟨vr8, hvr8, pr8⟩ := hR8
      refine ⟨fun σ' H' => ∃ (ar : Addr) (rs : List Rl) (v6 : V) (v5 : Option V), σ' = [some (.ref p), some (.ref i), some (.ref o), some (.int most), some (.ref ar), v5, some v6, none, none] ∧ Kp H H' ∧ Deal H' p l ∧ RulesAt H' ar rs ∧ RsOk rs outs ∧ (rs.length ≤ 4 ∧ rs.length = rs8.length - 1) ∧ Out ins outs most H' rs v6,
        fun σ' H' ⟨a1, a2, a3, a4, a5, a6, a7, a8, a9, ⟨b1, b2⟩, b3⟩ => ⟨a2.length, by omega, a1, a2, a3, a4, a5, a6, a7, a8, a9, b1, b3, rfl⟩, ?_⟩
      refine ⟨_, rfl, _, rfl, _, rfl, ar8, vr8, rfl, SqL.of hvr8, fun a9 n9 => ?_⟩
      rw [cutm1]
      have s9 := same_upd (o := .lst vr8.dropLast) n9
      have k9 := k8.trans (Kp.of s9)
      have dl9 := dl8.same s9
      have hR9 : RulesAt (upd H8 a9 (.lst vr8.dropLast)) a9 rs8.dropLast := ⟨_, upd_same, paired_dropLast (paired_mono (fun _ _ => RuleAt.kp (Kp.of s9)) pr8)⟩
      have ok9 := ok8.drop
      have l9 : rs8.dropLast.length ≤ 4 ∧ rs8.dropLast.length = rs8.length - 1 := ⟨by rw [List.length_dropLast]; omega, List.length_dropLast⟩
      generalize (upd H8 a9 (.lst vr8.dropLast)) = H9 at *
      refine ⟨_, rfl, _, rfl, _, rfl, _, rfl, a9, i, o, most, rs8.dropLast, ins, outs, rfl, hR9, SqL.of ((k9).keep _ _ nd_strs hi), SqL.of ((k9).keep _ _ nd_strs ho), m1, by omega, by omega, by omega, by omega, fun r hr => ⟨(ok9).ok r hr, (ok9).go r hr⟩, fun Hy ne sm => ?_, fun Hy t stands rows sm nt tab inv hl hm => ?_⟩
      · exact ⟨a9, rs8.dropLast, .non, _, rfl, (k9).trans (Kp.of sm), (dl9).same sm, (hR9).kp (Kp.of sm), ok9, l9, .inl ⟨rfl, ne⟩⟩
      · exact ⟨a9, rs8.dropLast, .ref t, _, rfl, (k9).trans (Kp.of sm), (dl9).same sm, (hR9).kp (Kp.of sm), ok9, l9, .inr ⟨t, stands, rows, rfl, tab, inv, hl, hm⟩⟩
    · rcases out8 with ⟨h, _⟩ | ⟨t8, stands, rows, rfl, tab8, inv8, hl8, hm8⟩
      · exact absurd (decide_eq_true h) e
      intro md nmd
      have smd := same_upd (o := .dK []) nmd
      have nmp := dl8.ne nmd
      have nml := dl8.nl nmd
      refine ⟨_, rfl, _, rfl, _, rfl, _, rfl, p, l, t8, rows, rfl, dl8.same smd, tab8.same smd, ?_, by omega, ?_, fun H9 qr ord k9 dl9 nq tab9 po h0 => ?_⟩
      · have := (List.getElem?_eq_some_iff.mp inv8.z).1
        omega
      · intro row hrow
        obtain ⟨j, hj, rfl⟩ := List.mem_iff_getElem.mp hrow
        obtain ⟨rl, s, hs, ro⟩ := inv8.ro j _ (List.getElem?_eq_getElem hj)
        refine ⟨by omega, fun e' he' => ?_⟩
        obtain ⟨j', hj', rfl⟩ := List.mem_iff_getElem.mp he'
        obtain ⟨nm, tn, _, ee, ht⟩ := ro.at_ j' _ (List.getElem?_eq_getElem hj')
        refine ⟨tn, by rw [ee], ?_⟩
        have := (List.getElem?_eq_some_iff.mp ht).1
        omega
      · have hmd := k9.keep _ _ nd_dK upd_same
        refine ⟨hmd, [(Sum.inr "ins", .ref i), (Sum.inr "outs", .ref o), (Sum.inr "rows", .ref qr)], rfl, (by show 3 ≤ 15; decide), ?_⟩
        have lt9 : Lt H9 (upd H9 md (.dK (mergeK [] [(Sum.inr "ins", .ref i), (Sum.inr "outs", .ref o), (Sum.inr "rows", .ref qr)]))) := by
          refine ⟨fun b xs hb => ?_, fun b xs hb => ?_⟩
          · have : b ≠ md := fun z => by
              rw [z, hmd] at hb
              cases hb
            rw [upd_ne this]
            exact hb
          · have : b ≠ md := fun z => by
              rw [z, hmd] at hb
              cases hb
            rw [upd_ne this]
            exact hb
        have nm0 : H md = none := k8.free _ nmd
        refine q _ md qr rs8 stands rows ord ((k8.trans ((Kp.of smd).trans k9)).put nm0) (dl9.put nmp nml) nm0 ?_ (tab9.lt lt9) ok8 l8 inv8 hl8 hm8 po h0
        rw [upd_same]
        rfl
end
end Hl

set_option Elab.async false
set_option linter.all false
set_option maxRecDepth 100000
set_option maxHeartbeats 4000000
namespace Hl
open PySem PySem.Spec PyProof.Rows L2
/-! what is sent, outlet by outlet -/
def cF (outs : List Str) (r : Rl) (j : Nat) : Int := ((r.gs.filter fun p => decide (ixOf outs p.1 = j)).map (·.2)).sum
def gSum (outs : List Str) (l : List (Rl × Int × Int)) (j : Nat) : Int := (l.map fun t => cF outs t.1 j * (tm t.1 t.2.2 - tm t.1 t.2.1)).sum
theorem set_getD {acc : List Int} {k j : Nat} {v : Int} (hk : k < acc.length) : ((acc.set k v)[j]?).getD 0 = if k = j then v else (acc[j]?).getD 0 := by
  rw [List.getElem?_set]
  by_cases h : k = j
  · subst h
    rw [if_pos rfl, if_pos rfl, if_pos hk]
    rfl
  · rw [if_neg h, if_neg h]
theorem gFold_get {outs : List Str} {r : Rl} {x y : Int} {j : Nat} : ∀ (l : List (Str × Int)) (acc : List Int), acc.length = outs.length → (∀ p ∈ l, p.1 ∈ outs) →
    ((l.foldl (gStep outs r x y) acc)[j]?).getD 0 = (acc[j]?).getD 0 + ((l.filter fun p => decide (ixOf outs p.1 = j)).map (·.2)).sum * (tm r y - tm r x)
  | [], acc, _, _ => by
    show (acc[j]?).getD 0 = (acc[j]?).getD 0 + 0 * _
    rw [Int.zero_mul, Int.add_zero]
  | p :: l, acc, hl, hp => by
    have il := ixOf_lt (hp p List.mem_cons_self)
    have ih := gFold_get (r := r) (x := x) (y := y) (j := j) l (gStep outs r x y acc p) (by rw [gStep_len, hl]) fun q hq => hp q (List.mem_cons_of_mem _ hq)
    show ((l.foldl (gStep outs r x y) (gStep outs r x y acc p))[j]?).getD 0 = _
    rw [ih]
    have e : ((gStep outs r x y acc p)[j]?).getD 0 = if ixOf outs p.1 = j then (acc[ixOf outs p.1]?).getD 0 + p.2 * (tm r y - tm r x) else (acc[j]?).getD 0 := by
      unfold gStep addAt
      exact set_getD (by omega)
    rw [e, List.filter_cons]
    by_cases h : ixOf outs p.1 = j
    · rw [if_pos h, if_pos (decide_eq_true h), List.map_cons, List.sum_cons, h, Int.add_mul]
      omega
    · rw [if_neg h, if_neg (by simp [h])]
theorem gAll_getA {outs : List Str} {j : Nat} : ∀ (l : List (Rl × Int × Int)) (acc : List Int), acc.length = outs.length → (∀ t ∈ l, ∀ p ∈ t.1.gs, p.1 ∈ outs) →
    ((l.foldl (fun acc t => gRule outs t.1 t.2.1 t.2.2 acc) acc)[j]?).getD 0 = (acc[j]?).getD 0 + gSum outs l j
  | [], acc, _, _ => by
    show (acc[j]?).getD 0 = (acc[j]?).getD 0 + 0
    omega
  | t :: l, acc, hl, hp => by
    have ih := gAll_getA (j := j) l (gRule outs t.1 t.2.1 t.2.2 acc) (by rw [gRule_len, hl]) fun q hq => hp q (List.mem_cons_of_mem _ hq)
    show ((l.foldl _ (gRule outs t.1 t.2.1 t.2.2 acc))[j]?).getD 0 = _
    rw [ih]
    have e : ((gRule outs t.1 t.2.1 t.2.2 acc)[j]?).getD 0 = (acc[j]?).getD 0 + cF outs t.1 j * (tm t.1 t.2.2 - tm t.1 t.2.1) := gFold_get _ _ hl (hp t List.mem_cons_self)
    rw [e]
    unfold gSum
    rw [List.map_cons, List.sum_cons]
    omega
theorem gAll_get {outs : List Str} {l : List (Rl × Int × Int)} {j : Nat} (hj : j < outs.length) (hp : ∀ t ∈ l, ∀ p ∈ t.1.gs, p.1 ∈ outs) : (gAll outs l)[j]? = some (gSum outs l j) := by
  have h := gAll_getA (j := j) l (List.replicate outs.length 0) List.length_replicate hp
  have hl : j < (gAll outs l).length := by rw [gAll_len]; exact hj
  have e : (gAll outs l)[j]? = some ((gAll outs l)[j]) := List.getElem?_eq_getElem hl
  have h2 : ((gAll outs l)[j]?).getD 0 = (((List.replicate outs.length (0 : Int))[j]?).getD 0) + gSum outs l j := h
  rw [e] at h2 ⊢
  rw [List.getElem?_replicate, if_pos hj] at h2
  show some _ = some _
  congr 1
  have h3 : (gAll outs l)[j] = 0 + gSum outs l j := h2
  omega
theorem zip3_eq : ∀ (rs : List Rl) (s : List Int) (n : Str), rs.zip (s.zip (risen rs n s)) = (rs.zip s).map fun t => (t.1, t.2, t.2 + wt t.1 n)
  | [], s, n => rfl
  | r :: rs, [], n => rfl
  | r :: rs, x :: s, n => by
    have ih := zip3_eq rs s n
    show (r, x, x + wt r n) :: rs.zip (s.zip (risen rs n s)) = _
    rw [ih]
    rfl
theorem zip_there : ∀ (rs : List Rl) (s : List Int) (n : Str), rs.zip (there rs n s) = (rs.zip s).map fun t => (t.1, dn t.1 (t.2 + wt t.1 n))
  | [], s, n => rfl
  | r :: rs, [], n => by simp [there, risen]
  | r :: rs, x :: s, n => by
    have ih := zip_there rs s n
    show (r, dn r (x + wt r n)) :: rs.zip (there rs n s) = _
    rw [ih]
    rfl
theorem gn_sum (outs : List Str) (rs : List Rl) (n : Str) (s : List Int) (j : Nat) : gSum outs (rs.zip (s.zip (risen rs n s))) j = ((rs.zip s).map fun t => cF outs t.1 j * (tm t.1 (t.2 + wt t.1 n) - tm t.1 t.2)).sum := by
  rw [zip3_eq]
  unfold gSum
  rw [List.map_map]
  rfl
theorem sum_add (l : List (Rl × Int)) (f g : Rl × Int → Int) : (l.map f).sum + (l.map g).sum = (l.map fun t => f t + g t).sum := by
  induction l with
  | nil => rfl
  | cons t l ih =>
    rw [List.map_cons, List.map_cons, List.map_cons, List.sum_cons, List.sum_cons, List.sum_cons, ← ih]
    omega
theorem sum_congr (l : List (Rl × Int)) (f g : Rl × Int → Int) (h : ∀ t ∈ l, f t = g t) : (l.map f).sum = (l.map g).sum := by
  rw [List.map_congr_left h]
section
variable {outs : List Str} {rs : List Rl}
theorem zip_ok {s : List Int} (ok : RsOk rs outs) (hs : ∀ x ∈ s, 0 ≤ x ∧ x ≤ 10) : ∀ t ∈ rs.zip s, OkR t.1 ∧ 0 ≤ t.2 ∧ t.2 ≤ 10 := fun t ht => by
  obtain ⟨a, b⟩ := List.of_mem_zip ht
  exact ⟨ok.ok _ a, hs _ b⟩
/-- two letters, the one and then the other: what is sent -/
theorem two_sum {s : List Int} {a b : Str} {j : Nat} (ok : RsOk rs outs) (hs : ∀ x ∈ s, 0 ≤ x ∧ x ≤ 10) :
    gSum outs (rs.zip (s.zip (risen rs a s))) j + gSum outs (rs.zip ((there rs a s).zip (risen rs b (there rs a s)))) j = ((rs.zip s).map fun t => cF outs t.1 j * (tm t.1 (t.2 + wt t.1 a + wt t.1 b) - tm t.1 t.2)).sum := by
  rw [gn_sum, gn_sum, zip_there, List.map_map, sum_add]
  refine sum_congr _ _ _ fun t ht => ?_
  obtain ⟨okr, x0, _⟩ := zip_ok ok hs t ht
  have wa := wt_ge okr a
  have wb := wt_ge okr b
  show cF outs t.1 j * (tm t.1 (t.2 + wt t.1 a) - tm t.1 t.2) + cF outs t.1 j * (tm t.1 (dn t.1 (t.2 + wt t.1 a) + wt t.1 b) - tm t.1 (dn t.1 (t.2 + wt t.1 a))) = _
  rw [show tm t.1 (dn t.1 (t.2 + wt t.1 a) + wt t.1 b) - tm t.1 (dn t.1 (t.2 + wt t.1 a)) = tm t.1 (t.2 + wt t.1 a + wt t.1 b) - tm t.1 (t.2 + wt t.1 a) from times_add okr.oe (by omega) wb.1, ← Int.mul_add]
  congr 1
  omega
theorem there_comm {s : List Int} {a b : Str} (ok : RsOk rs outs) (hl : s.length = rs.length) (hs : ∀ x ∈ s, 0 ≤ x ∧ x ≤ 10) : there rs b (there rs a s) = there rs a (there rs b s) := by
  have two : ∀ a b, there rs b (there rs a s) = (rs.zip s).map fun t => dn t.1 (t.2 + wt t.1 a + wt t.1 b) := fun a b => by
    have e : there rs b (there rs a s) = (rs.zip (there rs a s)).map fun t => dn t.1 (t.2 + wt t.1 b) := by
      have z : ∀ (rs : List Rl) (u : List Int) (n : Str), there rs n u = (rs.zip u).map fun t => dn t.1 (t.2 + wt t.1 n) := by
        intro rs
        induction rs with
        | nil =>
          intro u n
          rfl
        | cons r rs ih =>
          intro u n
          cases u with
          | nil => simp [there, risen]
          | cons x u =>
            show dn r (x + wt r n) :: there rs n u = _
            rw [ih]
            rfl
      exact z _ _ _
    rw [e, zip_there, List.map_map]
    refine List.map_congr_left fun t ht => ?_
    obtain ⟨okr, x0, _⟩ := zip_ok ok hs t ht
    have wa := wt_ge okr a
    have wb := wt_ge okr b
    exact down_add okr.oe (by omega) wb.1
  rw [two a b, two b a]
  refine List.map_congr_left fun t _ => ?_
  rw [Int.add_right_comm]
theorem cF_ge {r : Rl} (h : OkR r) (j : Nat) : 0 ≤ cF outs r j ∧ cF outs r j ≤ 9 := by
  have key : ∀ l : List (Str × Int), (∀ p ∈ l, 0 ≤ p.2 ∧ p.2 ≤ 3) → 0 ≤ ((l.filter fun p => decide (ixOf outs p.1 = j)).map (·.2)).sum ∧ ((l.filter fun p => decide (ixOf outs p.1 = j)).map (·.2)).sum ≤ 3 * (l.length : Int) := by
    intro l
    induction l with
    | nil =>
      intro _
      exact ⟨Int.le_refl _, Int.le_refl _⟩
    | cons p l ih =>
      intro hp
      obtain ⟨a, b⟩ := ih fun q hq => hp q (List.mem_cons_of_mem _ hq)
      obtain ⟨c, d⟩ := hp p List.mem_cons_self
      rw [List.filter_cons]
      split
      · rw [List.map_cons, List.sum_cons, List.length_cons]
        omega
      · rw [List.length_cons]
        omega
  obtain ⟨a, b⟩ := key r.gs h.gv
  have := h.gl
  unfold cF
  omega
theorem gn_val {s : List Int} {n : Str} {j : Nat} (ok : RsOk rs outs) (lr : rs.length ≤ 4) (hs : ∀ x ∈ s, 0 ≤ x ∧ x ≤ 10) : 0 ≤ gSum outs (rs.zip (s.zip (risen rs n s))) j ∧ gSum outs (rs.zip (s.zip (risen rs n s))) j ≤ 999999 := by
  rw [gn_sum]
  have key : ∀ l : List (Rl × Int), (∀ t ∈ l, OkR t.1 ∧ 0 ≤ t.2 ∧ t.2 ≤ 10) → 0 ≤ (l.map fun t => cF outs t.1 j * (tm t.1 (t.2 + wt t.1 n) - tm t.1 t.2)).sum ∧ (l.map fun t => cF outs t.1 j * (tm t.1 (t.2 + wt t.1 n) - tm t.1 t.2)).sum ≤ 200 * (l.length : Int) := by
    intro l
    induction l with
    | nil =>
      intro _
      exact ⟨Int.le_refl _, Int.le_refl _⟩
    | cons t l ih =>
      intro hp
      obtain ⟨a, b⟩ := ih fun q hq => hp q (List.mem_cons_of_mem _ hq)
      obtain ⟨okr, x0, x10⟩ := hp t List.mem_cons_self
      have wa := wt_ge okr n
      obtain ⟨c0, c9⟩ := cF_ge (outs := outs) okr j
      obtain ⟨d0, d1⟩ := times_mono okr.oe (x := t.2) (w := wt t.1 n) x0 wa.1
      have m0 : 0 ≤ cF outs t.1 j * (tm t.1 (t.2 + wt t.1 n) - tm t.1 t.2) := Int.mul_nonneg c0 d0
      have m1 : cF outs t.1 j * (tm t.1 (t.2 + wt t.1 n) - tm t.1 t.2) ≤ 9 * 19 := Int.mul_le_mul c9 (Int.le_trans d1 (by omega)) d0 (by decide)
      rw [List.map_cons, List.sum_cons, List.length_cons]
      omega
  obtain ⟨a, b⟩ := key _ (zip_ok ok hs)
  have : (rs.zip s).length ≤ 4 := by
    rw [List.length_zip]
    omega
  omega
end
/-! lawful tables -/
def getE (T : Tab) (i a : Nat) : Option Ent := (T[i]?).bind fun row => row[a]?
inductive Rch (T : Tab) (s : Nat) : Nat → Prop
  | refl : Rch T s s
  | step {i a : Nat} {e : Ent} (h : Rch T s i) (he : getE T i a = some e) : Rch T s e.1.toNat
def addL (x y : List Int) : List Int := List.zipWith (· + ·) x y
structure Lawful (T : Tab) (k n : Nat) : Prop where
  n1 : 1 ≤ T.length
  n60 : T.length ≤ 60
  rl : ∀ row ∈ T, row.length = k
  nx : ∀ row ∈ T, ∀ e ∈ row, ∃ t : Nat, e.1 = t ∧ t < T.length
  sl : ∀ row ∈ T, ∀ e ∈ row, e.2.length = n
  sv : ∀ row ∈ T, ∀ e ∈ row, ∀ x ∈ e.2, 0 ≤ x ∧ x ≤ 999999
  re : ∀ i, i < T.length → Rch T 0 i
  he : ∀ (i a b : Nat) (ea eb eab eba : Ent), getE T i a = some ea → getE T i b = some eb → getE T ea.1.toNat b = some eab → getE T eb.1.toNat a = some eba → eab.1 = eba.1 ∧ addL ea.2 eab.2 = addL eb.2 eba.2
section
variable {rs : List Rl} {ins outs : List Str} {stands : List (List Int)} {rows : Tab} {ord : List Nat}
theorem gn_len (s : List Int) (n : Str) : (gn outs rs n s).length = outs.length := gAll_len _
theorem gn_get {s : List Int} {n : Str} {j : Nat} (ok : RsOk rs outs) (hj : j < outs.length) : (gn outs rs n s)[j]? = some (gSum outs (rs.zip (s.zip (risen rs n s))) j) :=
  gAll_get hj fun t ht p hp => ok.go t.1 (List.of_mem_zip ht).1 p hp
theorem renum_len : (renum ord rows).length = ord.length := by
  unfold renum
  rw [List.length_map]
theorem renum_get (inv : RInv rs ins outs stands rows) (hl : rows.length = stands.length) (po : ord.Perm (List.range rows.length)) {i a : Nat} {e : Ent} (h : getE (renum ord rows) i a = some e) :
    ∃ (o : Nat) (s : List Int) (nm : Str) (t : Nat), ord[i]? = some o ∧ stands[o]? = some s ∧ ins[a]? = some nm ∧ stands[t]? = some (there rs nm s) ∧ t ∈ ord ∧ e = ((pos' ord t : Int), gn outs rs nm s) := by
  unfold getE at h
  cases e1 : (renum ord rows)[i]? with
  | none =>
    rw [e1] at h
    cases h
  | some row' =>
    rw [e1] at h
    unfold renum at e1
    rw [List.getElem?_map] at e1
    cases e2 : ord[i]? with
    | none =>
      rw [e2] at e1
      cases e1
    | some o =>
      rw [e2] at e1
      have ol : o < rows.length := List.mem_range.mp (po.subset (List.mem_of_getElem? e2))
      have er : rows[o]? = some rows[o] := List.getElem?_eq_getElem ol
      have e3 : renRow ord ((rows[o]?).getD []) = row' := Option.some.inj e1
      rw [er] at e3
      obtain ⟨_, s, hs, ro⟩ := inv.ro o _ er
      have h' : row'[a]? = some e := h
      rw [← e3] at h'
      unfold renRow at h'
      rw [List.getElem?_map] at h'
      cases e4 : (((some rows[o]).getD [])[a]?) with
      | none =>
        rw [e4] at h'
        cases h'
      | some e0 =>
        rw [e4] at h'
        obtain ⟨nm, t, h1, h2, h3⟩ := ro.at_ a e0 e4
        have tl : t < rows.length := by
          have := (List.getElem?_eq_some_iff.mp h3).1
          omega
        refine ⟨o, s, nm, t, rfl, hs, h1, h3, po.symm.subset (List.mem_range.mpr tl), ?_⟩
        have h5 : ((pos' ord e0.1.toNat : Int), e0.2) = e := Option.some.inj h'
        rw [← h5, h2]
        rfl
theorem mem_getE {T : Tab} {row : List Ent} {e : Ent} (h1 : row ∈ T) (h2 : e ∈ row) : ∃ i a, getE T i a = some e := by
  obtain ⟨i, hi, rfl⟩ := List.mem_iff_getElem.mp h1
  obtain ⟨a, ha, rfl⟩ := List.mem_iff_getElem.mp h2
  refine ⟨i, a, ?_⟩
  unfold getE
  rw [List.getElem?_eq_getElem hi]
  exact List.getElem?_eq_getElem ha
theorem nd_get {α : Type} {l : List α} (h : l.Nodup) {i j : Nat} {x : α} (a : l[i]? = some x) (b : l[j]? = some x) : i = j := nd_ix h a b
theorem lawful {most : Nat} (ok : RsOk rs outs) (l4 : rs.length ≤ 4) (inv : RInv rs ins outs stands rows) (hl : rows.length = stands.length) (hm : stands.length ≤ most) (m60 : most ≤ 60) (po : ord.Perm (List.range rows.length)) (h0 : ord[0]? = some 0) :
    Lawful (renum ord rows) ins.length outs.length := by
  have lord : ord.length = rows.length := by rw [po.length_eq, List.length_range]
  have ndo : ord.Nodup := po.nodup_iff.mpr List.nodup_range
  have st0 := (List.getElem?_eq_some_iff.mp inv.z).1
  have ord_in : ∀ t, t < rows.length → t ∈ ord := fun t ht => po.symm.subset (List.mem_range.mpr ht)
  refine ⟨by rw [renum_len]; omega, by rw [renum_len]; omega, ?_, ?_, ?_, ?_, ?_, ?_⟩
  · intro row hrow
    unfold renum at hrow
    obtain ⟨o, ho, rfl⟩ := List.mem_map.mp hrow
    have ol : o < rows.length := List.mem_range.mp (po.subset ho)
    unfold renRow
    rw [List.length_map, List.getElem?_eq_getElem ol]
    exact (inv.ro o _ (List.getElem?_eq_getElem ol)).1
  · intro row hrow e he
    obtain ⟨i, a, h⟩ := mem_getE hrow he
    obtain ⟨o, s, nm, t, _, _, _, _, tin, rfl⟩ := renum_get inv hl po h
    exact ⟨pos' ord t, rfl, by rw [renum_len]; exact pos_lt tin⟩
  · intro row hrow e he
    obtain ⟨i, a, h⟩ := mem_getE hrow he
    obtain ⟨o, s, nm, t, _, _, _, _, tin, rfl⟩ := renum_get inv hl po h
    exact gn_len _ _
  · intro row hrow e he x hx
    obtain ⟨i, a, h⟩ := mem_getE hrow he
    obtain ⟨o, s, nm, t, _, hs, _, _, tin, rfl⟩ := renum_get inv hl po h
    obtain ⟨j, hj, rfl⟩ := List.mem_iff_getElem.mp hx
    have hj' : j < outs.length := by
      have := hj
      rw [gn_len] at this
      exact this
    have g := gn_get (s := s) (n := nm) ok hj'
    rw [List.getElem?_eq_getElem hj] at g
    rw [Option.some.inj g]
    exact gn_val ok l4 (inv.sv s (List.mem_of_getElem? hs))
  · -- each stand is come to
    have p0 : pos' ord 0 = 0 := nd_get ndo (pos_get (ord_in 0 (by omega))) h0
    have key : ∀ k, k < rows.length → Rch (renum ord rows) 0 (pos' ord k) := by
      intro k
      induction k using Nat.strongRecOn with
      | _ k ih =>
        intro hk
        by_cases hk0 : k = 0
        · rw [hk0, p0]
          exact .refl
        · obtain ⟨i, j, s, nm, ik, hs, hn, ht⟩ := inv.og k (by omega) (by omega)
          have il : i < rows.length := by omega
          obtain ⟨rl, s', hs', ro⟩ := inv.ro i _ (List.getElem?_eq_getElem il)
          have es : s' = s := Option.some.inj (hs'.symm.trans hs)
          subst es
          have jl : j < ins.length := (List.getElem?_eq_some_iff.mp hn).1
          have ej : (rows[i])[j]? = some (rows[i])[j] := List.getElem?_eq_getElem (by omega)
          obtain ⟨nm', t, h1, h2, h3⟩ := ro.at_ j _ ej
          have en : nm' = nm := Option.some.inj (h1.symm.trans hn)
          subst en
          have et : t = k := nd_get inv.nd h3 ht
          subst et
          have ge : getE (renum ord rows) (pos' ord i) j = some ((pos' ord t : Int), gn outs rs nm' s') := by
            unfold getE renum
            rw [List.getElem?_map, pos_get (ord_in i il)]
            show (renRow ord ((rows[i]?).getD []))[j]? = _
            rw [List.getElem?_eq_getElem il]
            unfold renRow
            rw [List.getElem?_map]
            show Option.map _ ((rows[i])[j]?) = _
            rw [ej]
            show some ((pos' ord ((rows[i])[j]).1.toNat : Int), ((rows[i])[j]).2) = _
            rw [h2]
            rfl
          exact Rch.step (ih i ik il) ge
    intro i hi
    rw [renum_len] at hi
    have hoi : ord[i]? = some ord[i] := List.getElem?_eq_getElem hi
    have ol : ord[i] < rows.length := List.mem_range.mp (po.subset (List.getElem_mem hi))
    have := key ord[i] ol
    rw [nd_get ndo (pos_get (List.getElem_mem hi)) hoi] at this
    exact this
  · -- order doesn't matter
    intro i a b ea eb eab eba h1 h2 h3 h4
    obtain ⟨o, s, na, ta, a1, a2, a3, a4, a5, rfl⟩ := renum_get inv hl po h1
    obtain ⟨o', s', nb, tb, b1, b2, b3, b4, b5, rfl⟩ := renum_get inv hl po h2
    have eo : o' = o := Option.some.inj (b1.symm.trans a1)
    subst eo
    have es : s' = s := Option.some.inj (b2.symm.trans a2)
    subst es
    have h3' : getE (renum ord rows) (pos' ord ta) b = some eab := h3
    have h4' : getE (renum ord rows) (pos' ord tb) a = some eba := h4
    obtain ⟨oa, sa, nb', tab, c1, c2, c3, c4, c5, rfl⟩ := renum_get inv hl po h3'
    obtain ⟨ob, sb, na', tba, d1, d2, d3, d4, d5, rfl⟩ := renum_get inv hl po h4'
    have e1 : oa = ta := Option.some.inj (c1.symm.trans (pos_get a5))
    have e2 : ob = tb := Option.some.inj (d1.symm.trans (pos_get b5))
    subst e1 e2
    have e3 : sa = there rs na s' := Option.some.inj (c2.symm.trans a4)
    have e4 : sb = there rs nb s' := Option.some.inj (d2.symm.trans b4)
    have e5 : nb' = nb := Option.some.inj (c3.symm.trans b3)
    have e6 : na' = na := Option.some.inj (d3.symm.trans a3)
    subst e3 e4 e5 e6
    have sin : s' ∈ stands := List.mem_of_getElem? a2
    have cm := there_comm (a := na') (b := nb') ok (inv.sl s' sin) (inv.sv s' sin)
    rw [cm] at c4
    have et : tab = tba := nd_get inv.nd c4 d4
    subst et
    refine ⟨rfl, ?_⟩
    show addL (gn outs rs na' s') (gn outs rs nb' (there rs na' s')) = addL (gn outs rs nb' s') (gn outs rs na' (there rs nb' s'))
    unfold addL
    refine List.ext_getElem? fun j => ?_
    rw [List.getElem?_zipWith, List.getElem?_zipWith]
    by_cases hj : j < outs.length
    · rw [gn_get ok hj, gn_get ok hj, gn_get ok hj, gn_get ok hj]
      show some (_ + _) = some (_ + _)
      rw [two_sum ok (inv.sv s' sin), two_sum ok (inv.sv s' sin)]
      congr 2
      refine List.map_congr_left fun t _ => ?_
      rw [Int.add_right_comm]
    · rw [List.getElem?_eq_none (by rw [gn_len]; omega), List.getElem?_eq_none (l := gn outs rs nb' s') (by rw [gn_len]; omega)]
end
end Hl

set_option Elab.async false
set_option linter.all false
set_option maxRecDepth 100000
set_option maxHeartbeats 4000000
namespace Hl
open PySem PySem.Spec PyProof.Rows L2
def toS : V → Str
  | .str s => s
  | _ => ""
theorem perm_strs {ys : List V} {ns : List Str} (h : ys.Perm (ns.map V.str)) : ∃ zs : List Str, ys = zs.map V.str ∧ zs.Perm ns := by
  refine ⟨ys.map toS, ?_, ?_⟩
  · rw [List.map_map]
    refine (List.map_id ys).symm.trans (List.map_congr_left fun v hv => ?_)
    obtain ⟨i, _, rfl⟩ := List.mem_map.mp (h.subset hv)
    rfl
  · have := h.map toS
    rw [List.map_map] at this
    refine this.trans (List.Perm.of_eq ((List.map_congr_left fun i _ => rfl).trans (List.map_id ns)))
theorem strs_plain (ns : List Str) : ∀ v ∈ ns.map V.str, ∀ r, v ≠ .ref r := fun v hv r e => by
  obtain ⟨s, _, rfl⟩ := List.mem_map.mp hv
  cases e
/-- a drawn machine -/
structure Dev (H : Hp) (m i o q : Addr) (ins outs : List Str) (T : Tab) : Prop where
  d : H m = some (devD i o q)
  hi : H i = some (.lst (ins.map V.str))
  ho : H o = some (.lst (outs.map V.str))
  ht : TabAt H q T
structure Nms (ins : List Str) : Prop where
  l3 : ins.length ≤ 3
  nd : ins.Nodup
  gd : ∀ n ∈ ins, Good n
theorem Dev.kp {H H' : Hp} {m i o q : Addr} {ins outs : List Str} {T : Tab} (k : Kp H H') (h : Dev H m i o q ins outs T) : Dev H' m i o q ins outs T :=
  ⟨k.keep _ _ nd_dK h.d, k.keep _ _ nd_strs h.hi, k.keep _ _ nd_strs h.ho, h.ht.kp k⟩
section
variable {P : Program} {w : World} {K : PySem.W.Frag} {mg : Str → Option Value} {base : Heap}
def spAny : Sp := fun vs H Q _ => ∃ (p l : Addr) (most : Nat), vs = [.ref p, .int most] ∧ Deal H p l ∧ 1 ≤ most ∧ most ≤ 60 ∧
  ∀ (H' : Hp) (m i o q : Addr) (ins outs : List Str) (T : Tab), Kp H H' → Deal H' p l → H m = none → Dev H' m i o q ins outs T → 1 ≤ ins.length → Nms ins → Nms outs → Lawful T ins.length outs.length → T.length ≤ most → Q (.ref m) H'
theorem scAn : FnScope ["_law_deal_here", "_law_most", "_law_ins", "_law_outs"] ["_law_deal_here", "_law_most"] (defScope sAny) := ⟨rfl, rfl, rfl, by decide +kernel, rfl, by decide +kernel, by decide +kernel⟩
theorem ok_any {f fK fO fN fS fD : Addr} {fd fdK fdO fdN fdS fdD : FuncData} {k : Nat} (F : Fun K "_law_any_device" "_law_any_device" sAny f fd)
    (GK : FnOk P w K mg base CX0 k fK fdK ["_law_deal_here", "_law_many"] spPick) (kK : PySem.W.keepIn K (.ref fK) = true) (bK : Binds K fdK ["_law_deal_here", "_law_many"] []) (gK : mg "_law_pick" = some (.ref fK))
    (GO : FnOk P w K mg base CX0 k fO fdO ["_law_deal_here", "_law_some"] spOf) (kO : PySem.W.keepIn K (.ref fO) = true) (bO : Binds K fdO ["_law_deal_here", "_law_some"] []) (gO : mg "_law_of" = some (.ref fO))
    (GN : FnOk P w K mg base CX0 k fN fdN ["_law_deal_here", "_law_many"] spNames) (kN : PySem.W.keepIn K (.ref fN) = true) (bN : Binds K fdN ["_law_deal_here", "_law_many"] []) (gN : mg "_law_names" = some (.ref fN))
    (GS : FnOk P w K mg base CX0 k fS fdS ["_law_deal_here", "_law_some"] spShuf) (kS : PySem.W.keepIn K (.ref fS) = true) (bS : Binds K fdS ["_law_deal_here", "_law_some"] []) (gS : mg "_law_shuffled" = some (.ref fS))
    (GD : FnOk P w K mg base CX0 k fD fdD ["_law_deal_here", "_law_ins", "_law_outs", "_law_most"] spDev) (kD : PySem.W.keepIn K (.ref fD) = true) (bD : Binds K fdD ["_law_deal_here", "_law_ins", "_law_outs", "_law_most"] []) (gD : mg "_law_device" = some (.ref fD)) :
    FnOk P w K mg base CX0 (k + 1) f fd ["_law_deal_here", "_law_most"] spAny := by
  refine F.ok scAn (fun vs H Q E h => ?_) (fun cdv A outer s H vs Q E hr h => ?_)
  · obtain ⟨p, l, m, rfl, _⟩ := h
    rfl
  · obtain ⟨p, l, most, rfl, dl, m1, m60, q⟩ := h
    refine ⟨_, pss_cons (ps_set (i := 2) scAn.nd rfl (.inl rfl) (pe_call GN hr (by rfl) gN kN bN .nil pass0 (pa_cons (pv 0) (pa_cons (pe_op op_add pe_int (pe_call GO hr (by rfl) gO kO bO .nil pass0 (pa_cons (pv 0) (pa_cons (pe_lst (pa_cons pe_int (pa_cons pe_int (pa_cons pe_int (pa_cons pe_int pa_nil))))) pa_nil)))) pa_nil))))
      (pss_cons (ps_set (i := 3) scAn.nd rfl (.inl rfl) (pe_call GS hr (by rfl) gS kS bS .nil pass0 (pa_cons (pv 0) (pa_cons (pe_call GN hr (by rfl) gN kN bN .nil pass0 (pa_cons (pv 0) (pa_cons (pe_call GK hr (by rfl) gK kK bK .nil pass0 (pa_cons (pv 0) (pa_cons pe_int pa_nil))) pa_nil))) pa_nil))))
      (pss_one (ps_ret (pe_call GD hr (by rfl) gD kD bD .nil pass0 (pa_cons (pv 0) (pa_cons (pe_call GS hr (by rfl) gS kS bS .nil pass0 (pa_cons (pv 0) (pa_cons (pv 2) pa_nil))) (pa_cons (pv 3) (pa_cons (pv 1) pa_nil)))))))), ?_⟩
    refine ⟨_, rfl, _, rfl, (by show 4 ≤ sizeLine; decide), fun c nc => ?_⟩
    have sc := same_upd (o := .lst (([0, 1, 1, 2] : List Int).map V.int)) nc
    refine ⟨p, l, c, ([0, 1, 1, 2] : List Int).map V.int, rfl, dl.same sc, upd_same, nd_ints, by decide, by decide, fun H1 x hx k1 dl1 => ?_⟩
    obtain ⟨r, hr2, rfl⟩ := List.mem_map.mp hx
    have rb : 0 ≤ r ∧ r ≤ 2 := by
      simp only [List.mem_cons, List.not_mem_nil, or_false] at hr2
      omega
    obtain ⟨rn, rfl⟩ := Int.eq_ofNat_of_zero_le rb.1
    have K1 := (Kp.of sc).trans k1
    refine ⟨_, _, rfl, rfl, p, l, 1 + rn, by rw [Int.natCast_add]; rfl, dl1, by omega, fun H2 qi ns k2 dl2 nqi hqi ln nd gd => ?_⟩
    have K2 := K1.trans k2
    refine ⟨_, rfl, _, rfl, _, rfl, p, l, 4, rfl, dl2, by decide, lg (b := 11) (by decide) (by decide) (by decide), fun H3 r3 k3 dl3 a0 a1 => ?_⟩
    obtain ⟨on, rfl⟩ := Int.eq_ofNat_of_zero_le a0
    refine ⟨p, l, on, rfl, dl3, by omega, fun H4 qo os k4 dl4 nqo hqo lo ndo gdo => ?_⟩
    have K4 := (K2.trans k3).trans k4
    refine ⟨p, l, qo, os.map V.str, rfl, dl4, hqo, strs_plain os, by rw [List.length_map]; omega, fun H5 o ys k5 dl5 no ho pm => ?_⟩
    obtain ⟨outs, rfl, pmo⟩ := perm_strs pm
    have K5 := K4.trans k5
    have hqi5 := ((k3.trans k4).trans k5).keep _ _ nd_strs hqi
    refine ⟨_, rfl, _, rfl, _, rfl, p, l, qi, ns.map V.str, rfl, dl5, hqi5, strs_plain ns, by rw [List.length_map]; omega, fun H6 i ys6 k6 dl6 ni hi pm6 => ?_⟩
    obtain ⟨ins, rfl, pmi⟩ := perm_strs pm6
    have K6 := K5.trans k6
    have li := pmi.length_eq
    have lo' := pmo.length_eq
    have gi : ∀ n ∈ ins, Good n := fun n hn => gd n (pmi.subset hn)
    have go : ∀ n ∈ outs, Good n := fun n hn => gdo n (pmo.subset hn)
    have ho6 := k6.keep _ _ nd_strs ho
    refine ⟨_, rfl, _, rfl, p, l, i, o, ins, outs, most, rfl, dl6, hi, ho6, by omega, by omega, by omega, gi, go, m1, m60, fun H7 m qt rs stands rows ord k7 dl7 nm hm tab ok l4 inv hl hmo po h0 => ?_⟩
    have law := lawful ok l4 inv hl hmo m60 po h0
    refine q H7 m i o qt ins outs _ (K6.trans k7) dl7 (K6.free _ nm) ⟨hm, k7.keep _ _ nd_strs hi, k7.keep _ _ nd_strs ho6, tab⟩ (by omega) ⟨by omega, pmi.nodup_iff.mpr nd, gi⟩ ⟨by omega, pmo.nodup_iff.mpr ndo, go⟩ law ?_
    rw [renum_len, po.length_eq, List.length_range]
    omega
end
end Hl

set_option Elab.async false
set_option linter.all false
set_option maxRecDepth 100000
set_option maxHeartbeats 4000000
namespace Hl
open PySem PySem.Spec PyProof.Rows L2
abbrev sIsn : Stmt := topS 26
abbrev sRsz : Stmt := topS 27
abbrev sRnm : Stmt := topS 28
abbrev sPf : Stmt := topS 29
abbrev sRrw : Stmt := topS 30
theorem for_enum {K : PySem.W.Frag} {a : Addr} {xs : List V} {g : TG} {tb : TS} {D : Ends} {σ : L2.St} {H : Hp} (Pv : Nat → L2.St → Hp → Prop) (h0 : Pv 0 σ H) (hq : ∀ i σ H, Pv i σ H → SqL K H a xs)
    (hs : ∀ (i : Nat) (x : V) (T : Addr) (σ : L2.St) (H : Hp), xs[i]? = some x → Pv i σ H → H T = none → g (.ref T) σ (upd H T (.tup [.int (i : Nat), x])) fun σ2 H2 => tb { D with nx := Pv (i + 1), ct := Pv (i + 1), bk := D.nx } σ2 H2)
    (hd : ∀ σ H, Pv xs.length σ H → D.nx σ H) :
    ∃ W : Nat → Nat → L2.St → Hp → Prop, (∃ m, W 0 m σ H) ∧ ∀ i m σ H, W i m σ H →
      ((Ite K a).stop i H ∧ D.nx σ H) ∨ ((Ite K a).go i H ∧ ∃ N : L2.St → Hp → Prop, (∀ σ' H', N σ' H' → ∃ m', m' < m ∧ W (i + 1) m' σ' H') ∧ ∀ v H', (Ite K a).yld i H v H' → g v σ H' fun σ2 H2 => tb { D with nx := N, ct := N, bk := D.nx } σ2 H2) := by
  refine ⟨fun i m σ H => m = xs.length - i ∧ i ≤ xs.length ∧ Pv i σ H, ⟨xs.length, rfl, Nat.zero_le _, h0⟩, ?_⟩
  rintro i m σ H ⟨rfl, hi, p⟩
  have qx := hq i σ H p
  by_cases hlt : i < xs.length
  · refine .inr ⟨⟨xs, _, qx, List.getElem?_eq_getElem hlt⟩, Pv (i + 1), fun σ' H' p' => ⟨xs.length - (i + 1), by omega, rfl, hlt, p'⟩, ?_⟩
    rintro v H' ⟨T, x, rfl, hT, rfl, f1⟩
    exact hs i x T σ H (f1 _ qx) p hT
  · have e : i = xs.length := by omega
    subst e
    exact .inl ⟨⟨xs, qx, Nat.le_refl _⟩, hd σ H p⟩
theorem lc_str {x : Str} {g : TG} {tt : TT} {te : TE} {vs : List Nat} {σ : L2.St} {H1 : Hp} {D : Addr} {Qd : Hp → Prop} (Pv : Nat → Hp → Prop) (h0 : Pv 0 (upd H1 D (.lst [])))
    (hs : ∀ (i c : Nat) (H : Hp), x.cps[i]? = some c → Pv i H → g (.str ⟨#[c]⟩) (wipe σ vs) H fun σ2 H2 => wipe σ2 vs = wipe σ vs ∧ tt σ2 H2 fun b H3 =>
      if b = true then te σ2 H3 fun y H4 => ∃ acc, H4 D = some (.lst acc) ∧ acc.length < sizeLine ∧ Pv (i + 1) (upd H4 D (.lst (acc ++ [y]))) else Pv (i + 1) H3) (hd : ∀ H, Pv x.cps.size H → Qd H) :
    ∃ W : Nat → Nat → Hp → Prop, (∃ m, W 0 m (upd H1 D (.lst []))) ∧ ∀ i m H, W i m H →
      ((Its x).stop i H ∧ Qd H) ∨ ((Its x).go i H ∧ ∃ Nx : Hp → Prop, (∀ H', Nx H' → ∃ m', m' < m ∧ W (i + 1) m' H') ∧ ∀ v H', (Its x).yld i H v H' → g v (wipe σ vs) H' fun σ2 H2 => wipe σ2 vs = wipe σ vs ∧ tt σ2 H2 fun b H3 =>
        if b = true then te σ2 H3 fun y H4 => ∃ acc, H4 D = some (.lst acc) ∧ acc.length < sizeLine ∧ Nx (upd H4 D (.lst (acc ++ [y]))) else Nx H3) := by
  refine ⟨fun i m H => m = x.cps.size - i ∧ i ≤ x.cps.size ∧ Pv i H, ⟨x.cps.size, rfl, Nat.zero_le _, h0⟩, ?_⟩
  rintro i m H ⟨rfl, hi, p⟩
  by_cases hlt : i < x.cps.size
  · refine .inr ⟨hlt, Pv (i + 1), fun H' p' => ⟨x.cps.size - (i + 1), by omega, rfl, hlt, p'⟩, ?_⟩
    rintro v H' ⟨rfl, c, hc, rfl⟩
    exact hs i c _ hc p
  · have e : i = x.cps.size := by omega
    subst e
    exact .inl ⟨Nat.le_refl _, hd H p⟩
/-- the constants of machines -/
structure Cn (mg : Str → Option Value) : Prop where
  le : ∃ t, mg "LETTERS" = some (.int 3 t)
  sn : ∃ t, mg "STANDS" = some (.int 60 t)
  mo : ∃ t, mg "MOST" = some (.int 999999 t)
  ns : ∃ t, mg "NAME_SIGNS" = some (.int 6 t)
  en : mg "enumerate" = none
theorem all_true (n : Nat) : (List.replicate n true).all id = true := by simp
section
variable {P : Program} {w : World} {K : PySem.W.Frag} {mg : Str → Option Value} {base : Heap}
/-! is_name -/
def spIsn : Sp := fun vs H Q _ => ∃ s : Str, vs = [.str s] ∧ Good s ∧ ∀ H', Same H H' → Q (.bl true) H'
theorem scIs : FnScope ["text", "sign"] ["text"] (defScope sIsn) := ⟨rfl, rfl, rfl, by decide +kernel, rfl, by decide +kernel, by decide +kernel⟩
theorem ok_isn {f : Addr} {fd : FuncData} {k : Nat} (F : Fun K "is_name" "is_name" sIsn f fd) (B : Bi mg) (C : Cn mg) : FnOk P w K mg base CX0 (k + 1) f fd ["text"] spIsn := by
  obtain ⟨tn, hn⟩ := C.ns
  refine F.ok scIs (fun vs H Q E h => ?_) (fun cdv A outer s H vs Q E hr h => ?_)
  · obtain ⟨s, rfl, _⟩ := h
    rfl
  · obtain ⟨z, rfl, ⟨l1, l6, az⟩, q⟩ := h
    refine ⟨_, pss_one (ps_ret (pe_and (pe_chain op_le op_le pe_int (pe_callB call_len_str (by rfl) B.len PySem.boot_len (pa_cons (pv 0) pa_nil)) (pe_glob (v := .int 6) rfl hn ⟨_, rfl⟩))
      (pe_one (pe_callB (cr_all rfl) (by rfl) B.all (by decide +kernel) (pa_cons (pe_lc (own := [("sign", 1)]) (g := gName 1) rfl scIs.nd (pi_str (pv 0)) (blkOk_by (own := [("sign", 1)]) (N := ["text", "sign"]) (sc := defScope sIsn) (by decide +kernel)) (fun _ _ _ _ _ => pg_name (i := 1) scIs.nd rfl (Or.inl rfl)) (fun _ _ _ _ _ => pts_nil)
        (fun _ _ _ _ _ => pe_chain op_le_str op_le_str pe_str (pv 1) pe_str)) pa_nil))))), ?_⟩
    have e1 : decide ((1 : Int) ≤ z.length) = true := decide_eq_true (by omega)
    have e2 : decide ((z.length : Int) ≤ 6) = true := decide_eq_true (by omega)
    refine ⟨_, rfl, z, rfl, Nat.le_of_lt (small1000 (by omega)), _, _, rfl, rfl, _, rfl, iT e1 ⟨_, _, rfl, rfl, _, rfl, iT e2 ?_⟩⟩
    refine ⟨_, rfl, z, rfl, fun D nD => ?_⟩
    refine lc_str (x := z) (fun i H' => Same H H' ∧ H' D = some (.lst ((List.replicate i true).map V.bl))) ⟨same_upd nD, upd_same⟩ ?_ ?_
    · rintro i c H' hc ⟨sm, hD⟩
      obtain ⟨hi, ec⟩ := Array.getElem?_eq_some_iff.mp hc
      have cin : c ∈ z.cps.toList := by
        rw [← ec]
        exact Array.mem_toList_iff.mpr (Array.getElem_mem hi)
      obtain ⟨c1, c2⟩ := az c cin
      refine ⟨rfl, ?_⟩
      have f1 : (!decide (([c] : List Nat) < [97])) = true := by
        rw [decide_eq_false]
        · rfl
        · intro z'
          rw [List.cons_lt_cons_iff] at z'
          rcases z' with h | ⟨_, h⟩
          · omega
          · cases h
      have f2 : (!decide (([122] : List Nat) < [c])) = true := by
        rw [decide_eq_false]
        · rfl
        · intro z'
          rw [List.cons_lt_cons_iff] at z'
          rcases z' with h | ⟨_, h⟩
          · omega
          · cases h
      refine ⟨_, rfl, _, _, rfl, rfl, _, rfl, iT f1 ⟨_, _, rfl, rfl, _, hD, ?_, sm.put nD, ?_⟩⟩
      · rw [List.length_map, List.length_replicate]
        have : i < 6 := Nat.lt_of_lt_of_le hi l6
        exact small1000 (by omega)
      · rw [upd_same, List.replicate_succ', List.map_append]
        show some (HO.lst (_ ++ [V.bl (!decide (([122] : List Nat) < [c]))])) = _
        rw [f2]
        rfl
    · rintro H' ⟨sm, hD⟩
      refine ⟨D, _, rfl, SqL.of hD, ?_⟩
      rw [all_true]
      exact q H' sm
/-! refuse_sizes -/
def spRsz (K : PySem.W.Frag) : Sp := fun vs H Q _ => ∃ (a b c : Addr) (xs ys zs : List V), vs = [.ref a, .ref b, .ref c] ∧ (SqL K H a xs ∨ SqT K H a xs) ∧ (SqL K H b ys ∨ SqT K H b ys) ∧ (SqL K H c zs ∨ SqT K H c zs) ∧ 1 ≤ xs.length ∧ xs.length ≤ 3 ∧ ys.length ≤ 3 ∧ 1 ≤ zs.length ∧ zs.length ≤ 60 ∧ Q .non H
theorem scRs : FnScope ["letters", "outlets", "rows"] ["letters", "outlets", "rows"] (defScope sRsz) := ⟨rfl, rfl, rfl, by decide +kernel, rfl, by decide +kernel, by decide +kernel⟩
theorem ok_rsz {f : Addr} {fd : FuncData} {k : Nat} (F : Fun K "refuse_sizes" "refuse_sizes" sRsz f fd) (B : Bi mg) (C : Cn mg) : FnOk P w K mg base CX0 (k + 1) f fd ["letters", "outlets", "rows"] (spRsz K) := by
  obtain ⟨tl, hl⟩ := C.le
  obtain ⟨ts, hs⟩ := C.sn
  refine F.ok scRs (fun vs H Q E h => ?_) (fun cdv A outer s H vs Q E hr h => ?_)
  · obtain ⟨a, b, c, xs, ys, zs, rfl, _⟩ := h
    rfl
  · obtain ⟨a, b, c, xs, ys, zs, rfl, ha, hb, hc, x1, x3, y3, z1, z60, q⟩ := h
    refine ⟨_, pss_cons (ps_if (pt_not (pt_chain op_le op_le pe_int (pe_callB call_len_seq (by rfl) B.len PySem.boot_len (pa_cons (pv 0) pa_nil)) (pe_glob (v := .int 3) rfl hl ⟨_, rfl⟩))) (pss_one ps_never) pss_nil)
      (pss_cons (ps_if (pt_cmpR op_gt (pe_callB call_len_seq (by rfl) B.len PySem.boot_len (pa_cons (pv 1) pa_nil)) (pe_glob (v := .int 3) rfl hl ⟨_, rfl⟩) (nomark _)) (pss_one ps_never) pss_nil)
      (pss_one (ps_if (pt_not (pt_chain op_le op_le pe_int (pe_callB call_len_seq (by rfl) B.len PySem.boot_len (pa_cons (pv 2) pa_nil)) (pe_glob (v := .int 60) rfl hs ⟨_, rfl⟩))) (pss_one ps_never) pss_nil))), ?_⟩
    have e1 : decide ((1 : Int) ≤ xs.length) = true := decide_eq_true (by omega)
    have e2 : decide ((xs.length : Int) ≤ 3) = true := decide_eq_true (by omega)
    have e3 : decide ((3 : Int) < ys.length) = false := decide_eq_false (by omega)
    have e4 : decide ((1 : Int) ≤ zs.length) = true := decide_eq_true (by omega)
    have e5 : decide ((zs.length : Int) ≤ 60) = true := decide_eq_true (by omega)
    refine ⟨_, rfl, a, xs, rfl, ha, _, _, rfl, rfl, _, rfl, iT e1 ⟨_, _, rfl, rfl, _, rfl, iF (by rw [e2]; rfl) ?_⟩⟩
    refine ⟨_, rfl, b, ys, rfl, hb, _, _, rfl, rfl, _, rfl, iF e3 ?_⟩
    exact ⟨_, rfl, c, zs, rfl, hc, _, _, rfl, rfl, _, rfl, iT e4 ⟨_, _, rfl, rfl, _, rfl, iF (by rw [e5]; rfl) q⟩⟩
/-! refuse_names -/
def spRnm (K : PySem.W.Frag) : Sp := fun vs H Q _ => ∃ (a : Addr) (ns : List Str), vs = [.ref a] ∧ SqL K H a (ns.map V.str) ∧ Nms ns ∧ ∀ H', Same H H' → Q .non H'
theorem scRn : FnScope ["names", "at", "name"] ["names"] (defScope sRnm) := ⟨rfl, rfl, rfl, by decide +kernel, rfl, by decide +kernel, by decide +kernel⟩
theorem cutTake (xs : List V) (i : Nat) : cutV xs none (some (i : Int)) = xs.take i := by
  unfold cutV
  rw [HT.sIx_none, HT.sIx_nat, List.drop_zero, Nat.sub_zero]
  rcases Nat.le_total i xs.length with h | h
  · rw [Nat.min_eq_left h]
  · rw [Nat.min_eq_right h, List.take_length, List.take_of_length_le h]
theorem inV_no {n : Str} : ∀ {ns : List Str}, n ∉ ns → inV (.str n) (ns.map V.str) = false := by
  intro ns h
  unfold inV
  rw [List.any_map, List.any_eq_false]
  intro s hs
  have hne : s ≠ n := fun e => h (e ▸ hs)
  simp [eqV, hne]
theorem ok_rnm {f fI : Addr} {fd fdI : FuncData} {k : Nat} (F : Fun K "refuse_names" "refuse_names" sRnm f fd) (GI : FnOk P w K mg base CX0 k fI fdI ["text"] spIsn) (kI : PySem.W.keepIn K (.ref fI) = true) (bI : Binds K fdI ["text"] []) (gI : mg "is_name" = some (.ref fI)) (C : Cn mg) :
    FnOk P w K mg base CX0 (k + 1) f fd ["names"] (spRnm K) := by
  refine F.ok scRn (fun vs H Q E h => ?_) (fun cdv A outer s H vs Q E hr h => ?_)
  · obtain ⟨a, ns, rfl, _⟩ := h
    rfl
  · obtain ⟨a, ns, rfl, ha, nm, q⟩ := h
    refine ⟨_, pss_one (ps_for PassesOwn.never rfl (pi_enum (by rfl) C.en (pa_cons (pv 0) pa_nil)) (pg_tup rfl (pgs_cons (pg_name (i := 1) scRn.nd rfl (.inl rfl)) (pgs_cons (pg_name (i := 2) scRn.nd rfl (.inl rfl)) pgs_nil)))
      (pss_one (ps_if (PW.pt (pw_or (pt_not (pt_val (pe_call GI hr (by rfl) gI kI bI .nil pass0 (pa_cons (pv 2) pa_nil)))) (pw_or1 (pt_cmpR op_in_seq (pv 2) (pe_slice sl_list (pv 0) po_none (po_some (pv 1))) (by rfl))))) (pss_one ps_never) pss_nil))), ?_⟩
    refine ⟨_, rfl, a, _, rfl, ha, ?_⟩
    refine for_enum (K := K) (a := a) (xs := ns.map V.str) (fun i σ H' => ∃ v1 v2 : Option V, σ = [some (.ref a), v1, v2] ∧ Same H H') ⟨none, none, rfl, Same.refl H⟩ (fun i σ H' ⟨_, _, _, sm⟩ => sm.seq ha) ?_ ?_
    · rintro i x T σ H' hx ⟨v1, v2, rfl, sm⟩ nT
      obtain ⟨n, hn, rfl⟩ := map_str_get hx
      have sT := same_upd (o := .tup [.int (i : Nat), .str n]) nT
      refine ⟨T, _, rfl, SqT.of upd_same, rfl, _, _, rfl, _, _, rfl, rfl, ?_⟩
      refine ⟨_, rfl, n, rfl, nm.gd n (List.mem_of_getElem? hn), fun H2 s2 => ⟨_, rfl, iF rfl ?_⟩⟩
      have sm2 := (sm.trans sT).trans s2
      refine ⟨_, rfl, _, rfl, _, rfl, _, rfl, a, _, rfl, sm2.seq ha, fun c nc => ?_⟩
      rw [cutTake, ← List.map_take]
      have hno : n ∉ ns.take i := fun hin => by
        obtain ⟨j, hj, e⟩ := List.mem_iff_getElem.mp hin
        rw [List.length_take] at hj
        rw [List.getElem_take] at e
        have := nd_ix nm.nd (show ns[j]? = some n by rw [List.getElem?_eq_getElem (by omega), e]) hn
        omega
      refine ⟨c, _, rfl, .inl (SqL.of upd_same), rfl, strs_flat _, _, rfl, iF ?_ ⟨_, _, rfl, sm2.trans (same_upd nc)⟩⟩
      show (if false = true then _ else inV (.str n) ((ns.take i).map V.str)) = false
      rw [if_neg Bool.false_ne_true]
      exact inV_no hno
    · rintro σ H' ⟨v1, v2, rfl, sm⟩
      exact q H' sm
/-! pair_fits -/
def spPf : Sp := fun vs H Q _ => ∃ (v : V) (e : Ent) (t nO nS : Nat), vs = [v, .int nO, .int nS] ∧ EntAt H v e ∧ e.1 = t ∧ t < nS ∧ e.2.length = nO ∧ nO ≤ 100 ∧ (∀ x ∈ e.2, 0 ≤ x ∧ x ≤ 999999) ∧ ∀ H', Same H H' → Q (.bl true) H'
theorem scPf : FnScope ["pair", "outlets", "stands", "after", "sends", "many"] ["pair", "outlets", "stands"] (defScope sPf) := ⟨rfl, rfl, rfl, by decide +kernel, rfl, by decide +kernel, by decide +kernel⟩
theorem ok_pf {f : Addr} {fd : FuncData} {k : Nat} (F : Fun K "pair_fits" "pair_fits" sPf f fd) (B : Bi mg) (C : Cn mg) : FnOk P w K mg base CX0 (k + 1) f fd ["pair", "outlets", "stands"] spPf := by
  obtain ⟨tm', hm⟩ := C.mo
  refine F.ok scPf (fun vs H Q E h => ?_) (fun cdv A outer s H vs Q E hr h => ?_)
  · obtain ⟨v, e, t, nO, nS, rfl, _⟩ := h
    rfl
  · obtain ⟨v, e, t, nO, nS, rfl, ⟨c, sd, rfl, hc, hs⟩, et, tl, ol, o100, sv, q⟩ := h
    refine ⟨_, pss_cons (ps_if (pt_cmpR op_ne (pe_callB call_len_seq (by rfl) B.len PySem.boot_len (pa_cons (pv 0) pa_nil)) pe_int (nomark _)) (pss_one (ps_ret pe_bl)) pss_nil)
      (pss_cons (ps_asg (pv 0) (pg_tup rfl (pgs_cons (pg_name (i := 3) scPf.nd rfl (.inl rfl)) (pgs_cons (pg_name (i := 4) scPf.nd rfl (.inl rfl)) pgs_nil))))
      (pss_cons (ps_if (PW.pt (pw_or (pt_not (pt_chain op_le op_lt pe_int (pv 3) (pv 2))) (pw_or1 (pt_cmpR op_ne (pe_callB call_len_seq (by rfl) B.len PySem.boot_len (pa_cons (pv 4) pa_nil)) (pv 1) (nomark _))))) (pss_one (ps_ret pe_bl)) pss_nil)
      (pss_one (ps_ret (pe_callB (cr_all rfl) (by rfl) B.all (by decide +kernel) (pa_cons (pe_lc (own := [("many", 5)]) (g := gName 5) rfl scPf.nd (pi_tup (pv 4)) (blkOk_by (own := [("many", 5)]) (N := ["pair", "outlets", "stands", "after", "sends", "many"]) (sc := defScope sPf) (by decide +kernel)) (fun _ _ _ _ _ => pg_name (i := 5) scPf.nd rfl (Or.inl rfl)) (fun _ _ _ _ _ => pts_nil)
        (fun _ _ _ _ _ => pe_chain op_le op_le pe_int (pv 5) (pe_glob (v := .int 999999) rfl hm ⟨_, rfl⟩))) pa_nil)))))), ?_⟩
    refine ⟨_, rfl, c, _, rfl, .inr (SqT.of hc), rfl, _, rfl, iF (by rfl) ?_⟩
    refine ⟨_, rfl, c, _, rfl, SqT.of hc, rfl, _, _, rfl, _, _, rfl, rfl, ?_⟩
    have e1 : decide ((0 : Int) ≤ e.1) = true := decide_eq_true (by omega)
    have e2 : decide (e.1 < (nS : Int)) = true := decide_eq_true (by omega)
    have e3 : (!decide (V.int (((e.2.map V.int).length : Nat) : Int) = V.int (nO : Int))) = false := by
      rw [List.length_map, ol, decide_eq_true rfl]
      rfl
    refine ⟨_, rfl, _, _, rfl, rfl, _, rfl, iT e1 ⟨_, rfl, _, _, rfl, rfl, _, rfl, iF (by rw [e2]; rfl) ?_⟩⟩
    refine ⟨_, rfl, sd, _, rfl, .inr (SqT.of hs), _, rfl, rfl, _, rfl, iF e3 ?_⟩
    refine ⟨_, rfl, sd, rfl, ⟨_, SqT.of hs⟩, fun D nD => ?_⟩
    refine lc_tup (K := K) (a := sd) (xs := e.2.map V.int) (fun i H' => Same H H' ∧ H' D = some (.lst ((List.replicate i true).map V.bl))) ⟨same_upd nD, upd_same⟩ (fun i H' _ ⟨sm, _⟩ => SqT.of (sm _ _ hs)) ?_ ?_
    · rintro i x H' hx ⟨sm, hD⟩
      obtain ⟨y, hy, rfl⟩ := map_int_get hx
      have hi := (List.getElem?_eq_some_iff.mp hy).1
      obtain ⟨y0, y9⟩ := sv y (List.mem_of_getElem? hy)
      have f1 : decide ((0 : Int) ≤ y) = true := decide_eq_true y0
      have f2 : decide (y ≤ 999999) = true := decide_eq_true y9
      refine ⟨rfl, ?_⟩
      refine ⟨_, rfl, _, _, rfl, rfl, _, rfl, iT f1 ⟨_, _, rfl, rfl, _, hD, ?_, sm.put nD, ?_⟩⟩
      · rw [List.length_map, List.length_replicate]
        exact small1000 (by omega)
      · rw [upd_same, List.replicate_succ', List.map_append]
        show some (HO.lst (_ ++ [V.bl (decide (y ≤ 999999))])) = _
        rw [f2]
        rfl
    · rintro H' ⟨sm, hD⟩
      refine ⟨D, _, rfl, SqL.of hD, ?_⟩
      rw [all_true]
      exact q H' sm
/-! refuse_rows -/
def spRrw : Sp := fun vs H Q _ => ∃ (a : Addr) (T : Tab) (k n : Nat), vs = [.ref a, .int k, .int n] ∧ TabAt H a T ∧ Lawful T k n ∧ n ≤ 100 ∧ k ≤ 100 ∧ ∀ H', Same H H' → Q .non H'
abbrev nmRr : List Str := ["rows", "letters", "outlets", "stand", "row", "pair"]
theorem scRr : FnScope nmRr ["rows", "letters", "outlets"] (defScope sRrw) := ⟨rfl, rfl, rfl, by decide +kernel, rfl, by decide +kernel, by decide +kernel⟩
theorem ok_rrw {f fP : Addr} {fd fdP : FuncData} {k : Nat} (F : Fun K "refuse_rows" "refuse_rows" sRrw f fd) (GP : FnOk P w K mg base CX0 k fP fdP ["pair", "outlets", "stands"] spPf) (kP : PySem.W.keepIn K (.ref fP) = true) (bP : Binds K fdP ["pair", "outlets", "stands"] []) (gP : mg "pair_fits" = some (.ref fP)) (B : Bi mg) (C : Cn mg) :
    FnOk P w K mg base CX0 (k + 1) f fd ["rows", "letters", "outlets"] spRrw := by
  refine F.ok scRr (fun vs H Q E h => ?_) (fun cdv A outer s H vs Q E hr h => ?_)
  · obtain ⟨a, T, kk, n, rfl, _⟩ := h
    rfl
  · obtain ⟨a, T, kk, n, rfl, ⟨vs, hv, pv'⟩, law, n100, k100, q⟩ := h
    refine ⟨_, pss_one (ps_for PassesOwn.never rfl (pi_enum (by rfl) C.en (pa_cons (pv 0) pa_nil)) (pg_tup rfl (pgs_cons (pg_name (i := 3) scRr.nd rfl (.inl rfl)) (pgs_cons (pg_name (i := 4) scRr.nd rfl (.inl rfl)) pgs_nil)))
      (pss_one (ps_if (PW.pt (pw_or (pt_cmpR op_ne (pe_callB call_len_seq (by rfl) B.len PySem.boot_len (pa_cons (pv 4) pa_nil)) (pv 1) (nomark _)) (pw_or1 (pt_not (pt_val (pe_callB (cr_all rfl) (by rfl) B.all (by decide +kernel) (pa_cons
        (pe_lc (own := [("pair", 5)]) (g := gName 5) rfl scRr.nd (pi_list (pv 4)) (blkOk_by (own := [("pair", 5)]) (N := nmRr) (sc := defScope sRrw) (by decide +kernel)) (fun _ _ _ _ _ => pg_name (i := 5) scRr.nd rfl (Or.inl rfl)) (fun _ _ _ _ _ => pts_nil)
          (fun _ _ _ _ _ => pe_call GP hr (by rfl) gP kP bP .nil pass0 (pa_cons (pv 5) (pa_cons (pv 2) (pa_cons (pe_callB (r := fun xs H Q => ∃ p ys, xs = [.ref p] ∧ (SqL K H p ys ∨ SqT K H p ys) ∧ Q (.int ys.length) H) call_len_seq (by rfl) B.len PySem.boot_len (pa_cons (pv 0) pa_nil)) pa_nil))))) pa_nil))))))) (pss_one ps_never) pss_nil))), ?_⟩
    have lv := pv'.length
    refine ⟨_, rfl, a, _, rfl, SqL.of hv, ?_⟩
    refine for_enum (K := K) (a := a) (xs := vs) (fun i σ H' => ∃ v3 v4 v5 : Option V, σ = [some (.ref a), some (.int kk), some (.int n), v3, v4, v5] ∧ Same H H') ⟨none, none, none, rfl, Same.refl H⟩ (fun i σ H' ⟨_, _, _, _, sm⟩ => SqL.of (sm _ _ hv)) ?_ ?_
    · rintro i x T' σ H' hx ⟨v3, v4, v5, rfl, sm⟩ nT
      obtain ⟨row, hrow, b, us, rfl, hb, pe⟩ := paired_get pv' i x hx
      have rin : row ∈ T := List.mem_of_getElem? hrow
      have rl := law.rl row rin
      have lu := pe.length
      have sT := same_upd (o := .tup [.int (i : Nat), .ref b]) nT
      have sm1 := sm.trans sT
      refine ⟨T', _, rfl, SqT.of upd_same, rfl, _, _, rfl, _, _, rfl, rfl, ?_⟩
      generalize (upd H' T' (.tup [.int (i : Nat), .ref b])) = H1 at *
      have e3 : (!decide (V.int (us.length : Int) = V.int (kk : Int))) = false := by
        rw [lu, rl, decide_eq_true rfl]
        rfl
      refine ⟨_, rfl, b, _, rfl, .inl (SqL.of (sm1 _ _ hb)), _, rfl, rfl, _, rfl, iF e3 ?_⟩
      refine ⟨_, rfl, b, rfl, ⟨_, SqL.of (sm1 _ _ hb)⟩, fun D nD => ?_⟩
      refine lc_list (K := K) (a := b) (xs := us) (fun j H' => Same H1 H' ∧ H' D = some (.lst ((List.replicate j true).map V.bl))) ⟨same_upd nD, upd_same⟩ (fun j H' _ ⟨sm', _⟩ => SqL.of (sm' _ _ (sm1 _ _ hb))) ?_ ?_
      · rintro j y H2 hy ⟨sm2, hD⟩
        obtain ⟨e, he, ea⟩ := paired_get pe j y hy
        have ein : e ∈ row := List.mem_of_getElem? he
        obtain ⟨t, et, tl⟩ := law.nx row rin e ein
        have jl := (List.getElem?_eq_some_iff.mp he).1
        have sm12 := sm1.trans sm2
        refine ⟨rfl, ?_⟩
        refine ⟨_, rfl, _, rfl, _, rfl, a, vs, rfl, .inl (SqL.of (sm12 _ _ hv)), _, e, t, n, vs.length, rfl, ea.same sm12, et, by omega, law.sl row rin e ein, n100, law.sv row rin e ein, fun H3 s3 => ?_⟩
        refine ⟨_, s3 _ _ hD, ?_, (sm2.trans s3).put nD, ?_⟩
        · rw [List.length_map, List.length_replicate]
          exact small1000 (by omega)
        · rw [upd_same, List.replicate_succ', List.map_append]
          rfl
      · rintro H2 ⟨sm2, hD⟩
        refine ⟨D, _, rfl, SqL.of hD, ?_⟩
        rw [all_true]
        exact ⟨_, rfl, iF rfl ⟨_, _, _, rfl, sm1.trans sm2⟩⟩
    · rintro σ H' ⟨v3, v4, v5, rfl, sm⟩
      exact q H' sm
end
end Hl

set_option Elab.async false
set_option linter.all false
set_option maxRecDepth 100000
set_option maxHeartbeats 4000000
namespace Hl
open PySem PySem.Spec PyProof.Rows L2
abbrev sRea : Stmt := topS 31
abbrev sRun : Stmt := topS 32
/-! going through a list or a tuple -/
def SqO (H : Hp) (a : Addr) (vs : List V) : Prop := H a = some (.lst vs) ∨ H a = some (.tup vs)
def iSeq (K : PySem.W.Frag) (tl : TE) : TI := fun σ H R => tl σ H fun x H1 => ∃ a, x = .ref a ∧ ((∃ xs, SqL K H1 a xs) ∧ R (Itl K a) H1 ∨ (∃ xs, SqT K H1 a xs) ∧ R (Itt K a) H1)
theorem pi_seq {X : Cx} {tg l : Expr} {tl : TE} (hl : PE X l tl) : PI X tg l (iSeq X.K tl) := by
  refine ⟨fun pins s σ H R I h => thn (hl.run pins s σ H _ I h) fun v s1 ⟨x, H1, I1, r1, a, ex, q1⟩ => ?_⟩
  subst ex
  cases r1
  have fresh : ∀ b ∈ [s1.heap.objs.size], _ := fun b hb => by
    have e : b = s1.heap.objs.size := by simpa using hb
    subst e
    exact I1.fpOk (Nat.le_refl _) (I1.hok.fresh (Nat.le_refl _))
  rcases q1 with ⟨⟨xs, hq⟩, q⟩ | ⟨⟨xs, hq⟩, q⟩
  · obtain ⟨its, _, p, _⟩ := I1.list hq
    exact wpAny_pyIter_list p.isList ⟨s1.heap.objs.size, [s1.heap.objs.size], _, _, H1, rfl, I1.kept (t' := s1.toks) fun b o e => Heap.get?_push_of_some _ e, turn_list a _, ⟨_, Heap.get?_push_size _ rfl, rfl, rfl⟩, fresh, q⟩
  · obtain ⟨its, _, p, _⟩ := I1.tuple hq
    exact wpAny_pyIter_tuple (show s1.heap.IsTuple a its.toArray from p) ⟨s1.heap.objs.size, [s1.heap.objs.size], _, _, H1, rfl, I1.kept (t' := s1.toks) fun b o e => Heap.get?_push_of_some _ e, turn_tuple a _, ⟨_, Heap.get?_push_size _ rfl, rfl, rfl⟩, fresh, q⟩
theorem for_seq {K : PySem.W.Frag} {a : Addr} {xs : List V} {g : TG} {tb : TS} {D : Ends} {σ : L2.St} {H : Hp} (hO : SqO H a xs) (Pv : Nat → L2.St → Hp → Prop) (h0 : Pv 0 σ H) (hl : ∀ i σ H', Pv i σ H' → ∀ o, H a = some o → H' a = some o)
    (hs : ∀ i x σ H, xs[i]? = some x → Pv i σ H → g x σ H fun σ2 H2 => tb { D with nx := Pv (i + 1), ct := Pv (i + 1), bk := D.nx } σ2 H2) (hd : ∀ σ H, Pv xs.length σ H → D.nx σ H) :
    ((∃ xs, SqL K H a xs) ∧ ∃ W : Nat → Nat → L2.St → Hp → Prop, (∃ m, W 0 m σ H) ∧ ∀ i m σ H, W i m σ H →
      ((Itl K a).stop i H ∧ D.nx σ H) ∨ ((Itl K a).go i H ∧ ∃ N : L2.St → Hp → Prop, (∀ σ' H', N σ' H' → ∃ m', m' < m ∧ W (i + 1) m' σ' H') ∧ ∀ x H', (Itl K a).yld i H x H' → g x σ H' fun σ2 H2 => tb { D with nx := N, ct := N, bk := D.nx } σ2 H2)) ∨
    ((∃ xs, SqT K H a xs) ∧ ∃ W : Nat → Nat → L2.St → Hp → Prop, (∃ m, W 0 m σ H) ∧ ∀ i m σ H, W i m σ H →
      ((Itt K a).stop i H ∧ D.nx σ H) ∨ ((Itt K a).go i H ∧ ∃ N : L2.St → Hp → Prop, (∀ σ' H', N σ' H' → ∃ m', m' < m ∧ W (i + 1) m' σ' H') ∧ ∀ x H', (Itt K a).yld i H x H' → g x σ H' fun σ2 H2 => tb { D with nx := N, ct := N, bk := D.nx } σ2 H2)) := by
  rcases hO with h | h
  · exact .inl ⟨⟨xs, SqL.of h⟩, for_list Pv h0 (fun i σ H' _ p => SqL.of (hl i σ H' p _ h)) hs hd⟩
  · exact .inr ⟨⟨xs, SqT.of h⟩, for_tup Pv h0 (fun i σ H' _ p => SqT.of (hl i σ H' p _ h)) hs hd⟩
theorem lc_seq {K : PySem.W.Frag} {a : Addr} {xs : List V} {g : TG} {tt : TT} {te : TE} {vs : List Nat} {σ : L2.St} {H : Hp} {Qd : Addr → Hp → Prop} (hO : SqO H a xs) (Pv : Addr → Nat → Hp → Prop) (h0 : ∀ D, H D = none → Pv D 0 (upd H D (.lst []))) (hl : ∀ D i H', H D = none → Pv D i H' → ∀ o, H a = some o → H' a = some o)
    (hs : ∀ D i x H', H D = none → xs[i]? = some x → Pv D i H' → g x (wipe σ vs) H' fun σ2 H2 => wipe σ2 vs = wipe σ vs ∧ tt σ2 H2 fun b H3 =>
      if b = true then te σ2 H3 fun y H4 => ∃ acc, H4 D = some (.lst acc) ∧ acc.length < sizeLine ∧ Pv D (i + 1) (upd H4 D (.lst (acc ++ [y]))) else Pv D (i + 1) H3) (hd : ∀ D H', H D = none → Pv D xs.length H' → Qd D H') :
    ((∃ xs, SqL K H a xs) ∧ ∀ D, H D = none → ∃ W : Nat → Nat → Hp → Prop, (∃ m, W 0 m (upd H D (.lst []))) ∧ ∀ i m H, W i m H →
      ((Itl K a).stop i H ∧ Qd D H) ∨ ((Itl K a).go i H ∧ ∃ Nx : Hp → Prop, (∀ H', Nx H' → ∃ m', m' < m ∧ W (i + 1) m' H') ∧ ∀ x H', (Itl K a).yld i H x H' → g x (wipe σ vs) H' fun σ2 H2 => wipe σ2 vs = wipe σ vs ∧ tt σ2 H2 fun b H3 =>
        if b = true then te σ2 H3 fun y H4 => ∃ acc, H4 D = some (.lst acc) ∧ acc.length < sizeLine ∧ Nx (upd H4 D (.lst (acc ++ [y]))) else Nx H3)) ∨
    ((∃ xs, SqT K H a xs) ∧ ∀ D, H D = none → ∃ W : Nat → Nat → Hp → Prop, (∃ m, W 0 m (upd H D (.lst []))) ∧ ∀ i m H, W i m H →
      ((Itt K a).stop i H ∧ Qd D H) ∨ ((Itt K a).go i H ∧ ∃ Nx : Hp → Prop, (∀ H', Nx H' → ∃ m', m' < m ∧ W (i + 1) m' H') ∧ ∀ x H', (Itt K a).yld i H x H' → g x (wipe σ vs) H' fun σ2 H2 => wipe σ2 vs = wipe σ vs ∧ tt σ2 H2 fun b H3 =>
        if b = true then te σ2 H3 fun y H4 => ∃ acc, H4 D = some (.lst acc) ∧ acc.length < sizeLine ∧ Nx (upd H4 D (.lst (acc ++ [y]))) else Nx H3)) := by
  rcases hO with h | h
  · exact .inl ⟨⟨xs, SqL.of h⟩, fun D nD => lc_list (Pv D) (h0 D nD) (fun i H' _ p => SqL.of (hl D i H' nD p _ h)) (fun i x H' => hs D i x H' nD) fun H' => hd D H' nD⟩
  · exact .inr ⟨⟨xs, SqT.of h⟩, fun D nD => lc_tup (Pv D) (h0 D nD) (fun i H' _ p => SqT.of (hl D i H' nD p _ h)) (fun i x H' => hs D i x H' nD) fun H' => hd D H' nD⟩
/-! tables of lists or tuples -/
def RRow (H : Hp) (v : V) (row : List Ent) : Prop := ∃ a vs, v = .ref a ∧ SqO H a vs ∧ Paired (EntAt H) vs row
def RTab (H : Hp) (a : Addr) (tab : Tab) : Prop := ∃ vs, SqO H a vs ∧ Paired (RRow H) vs tab
section
variable {H H' : Hp}
theorem SqO.same {a : Addr} {vs : List V} (k : Same H H') (h : SqO H a vs) : SqO H' a vs := h.elim (fun h => .inl (k _ _ h)) fun h => .inr (k _ _ h)
theorem SqO.or {K : PySem.W.Frag} {a : Addr} {vs : List V} (h : SqO H a vs) : SqL K H a vs ∨ SqT K H a vs := h.elim (fun h => .inl (SqL.of h)) fun h => .inr (SqT.of h)
theorem SqO.there {a : Addr} {vs : List V} (h : SqO H a vs) : ∃ o, H a = some o := h.elim (fun h => ⟨_, h⟩) fun h => ⟨_, h⟩
theorem RRow.same {v : V} {s : List Ent} (k : Same H H') (h : RRow H v s) : RRow H' v s := by
  obtain ⟨a, vs, e, h, h2⟩ := h
  exact ⟨a, vs, e, h.same k, paired_mono (fun _ _ => EntAt.same k) h2⟩
theorem RTab.same {a : Addr} {s : Tab} (k : Same H H') (h : RTab H a s) : RTab H' a s := by
  obtain ⟨vs, h, h2⟩ := h
  exact ⟨vs, h.same k, paired_mono (fun _ _ => RRow.same k) h2⟩
theorem RowAt.any {v : V} {s : List Ent} (h : RowAt H v s) : RRow H v s := by
  obtain ⟨a, vs, e, h, h2⟩ := h
  exact ⟨a, vs, e, .inl h, h2⟩
theorem TabAt.any {a : Addr} {s : Tab} (h : TabAt H a s) : RTab H a s := by
  obtain ⟨vs, h, h2⟩ := h
  exact ⟨vs, .inl h, paired_mono (fun _ _ => RowAt.any) h2⟩
end
/-! going through -/
theorem nd_le : ∀ (n : Nat) (l : List Nat), l.Nodup → (∀ x ∈ l, x < n) → l.length ≤ n
  | 0, l, _, h => by
    cases l with
    | nil => exact Nat.le_refl _
    | cons x l => exact absurd (h x List.mem_cons_self) (Nat.not_lt_zero _)
  | n + 1, l, nd, h => by
    by_cases hn : n ∈ l
    · have := nd_le n (l.erase n) (nd.erase n) fun x hx => by
        obtain ⟨ne, hx⟩ := (List.Nodup.mem_erase_iff nd).mp hx
        have := h x hx
        omega
      rw [List.length_erase_of_mem hn] at this
      omega
    · have := nd_le n l nd fun x hx => by
        have := h x hx
        have : x ≠ n := fun e => hn (e ▸ hx)
        omega
      omega
structure FInv (T : Tab) (s at' : Nat) (found : List Nat) : Prop where
  nd : found.Nodup
  lt : ∀ x ∈ found, x < T.length
  rc : ∀ x ∈ found, Rch T s x
  fs : s ∈ found
  cl : ∀ i o a e, i < at' → found[i]? = some o → getE T o a = some e → e.1.toNat ∈ found
  le : at' ≤ found.length
theorem FInv.start {T : Tab} {s : Nat} (h : s < T.length) : FInv T s 0 [s] :=
  ⟨by simp, fun x hx => by rw [List.mem_singleton.mp hx]; exact h, fun x hx => by rw [List.mem_singleton.mp hx]; exact .refl, List.mem_singleton.mpr rfl, fun i o a e hi => absurd hi (Nat.not_lt_zero _), Nat.zero_le _⟩
theorem FInv.add {T : Tab} {s at' : Nat} {found : List Nat} (f : FInv T s at' found) {t : Nat} (n : t ∉ found) (l : t < T.length) (r : Rch T s t) : FInv T s at' (found ++ [t]) := by
  refine ⟨?_, fun x hx => ?_, fun x hx => ?_, List.mem_append_left _ f.fs, fun i o a e hi ho he => ?_, by rw [List.length_append]; exact Nat.le_trans f.le (Nat.le_add_right _ _)⟩
  · rw [List.nodup_append]
    refine ⟨f.nd, by simp, fun a ha b hb e => ?_⟩
    rw [List.mem_singleton.mp hb] at e
    exact n (e ▸ ha)
  · rcases List.mem_append.mp hx with h | h
    · exact f.lt x h
    · rw [List.mem_singleton.mp h]
      exact l
  · rcases List.mem_append.mp hx with h | h
    · exact f.rc x h
    · rw [List.mem_singleton.mp h]
      exact r
  · have := f.le
    rw [List.getElem?_append_left (by omega)] at ho
    exact List.mem_append_left _ (f.cl i o a e hi ho he)
theorem FInv.next {T : Tab} {s at' o : Nat} {found : List Nat} (f : FInv T s at' found) (ho : found[at']? = some o) (h : ∀ a e, getE T o a = some e → e.1.toNat ∈ found) : FInv T s (at' + 1) found :=
  ⟨f.nd, f.lt, f.rc, f.fs, fun i o' a e hi ho' he => by
    by_cases hl : i < at'
    · exact f.cl i o' a e hl ho' he
    · have : i = at' := by omega
      subst this
      have : o' = o := Option.some.inj (ho'.symm.trans ho)
      subst this
      exact h a e he, (List.getElem?_eq_some_iff.mp ho).1⟩
theorem FInv.fin {T : Tab} {s at' : Nat} {found : List Nat} (f : FInv T s at' found) (h : found.length ≤ at') : ∀ j, j ∈ found ↔ Rch T s j := by
  refine fun j => ⟨f.rc j, fun r => ?_⟩
  induction r with
  | refl => exact f.fs
  | step r he ih =>
    obtain ⟨i, hi, e⟩ := List.mem_iff_getElem.mp ih
    exact f.cl i _ _ _ (by omega) (by rw [List.getElem?_eq_getElem hi, e]) he
theorem FInv.len {T : Tab} {s at' : Nat} {found : List Nat} (f : FInv T s at' found) : found.length ≤ T.length := nd_le _ _ f.nd f.lt
/-- what is seen -/
def seenL (n : Nat) (found : List Nat) : List Bool := (List.range n).map fun i => decide (i ∈ found)
theorem seenL_get {n : Nat} {found : List Nat} {j : Nat} (h : j < n) : (seenL n found)[j]? = some (decide (j ∈ found)) := by
  unfold seenL
  rw [List.getElem?_map, List.getElem?_range h]
  rfl
theorem seenL_len {n : Nat} {found : List Nat} : (seenL n found).length = n := by
  unfold seenL
  rw [List.length_map, List.length_range]
theorem seenL_set {n : Nat} {found : List Nat} {t : Nat} : (seenL n found).set t true = seenL n (found ++ [t]) := by
  refine List.ext_getElem? fun j => ?_
  rw [List.getElem?_set, seenL_len]
  by_cases hj : j < n
  · rw [seenL_get hj, seenL_get hj]
    by_cases e : t = j
    · subst e
      rw [if_pos rfl, if_pos hj]
      congr 1
      exact (decide_eq_true (List.mem_append_right _ (List.mem_singleton.mpr rfl))).symm
    · rw [if_neg e]
      congr 1
      have : (j ∈ found ++ [t]) ↔ j ∈ found := by
        rw [List.mem_append, List.mem_singleton]
        exact ⟨fun h => h.elim id fun h => absurd h.symm e, .inl⟩
      exact decide_eq_decide.mpr this.symm
  · rw [List.getElem?_eq_none (by rw [seenL_len]; omega), List.getElem?_eq_none (by rw [seenL_len]; omega)]
    by_cases e : t = j
    · rw [if_pos e, if_neg (by omega)]
    · rw [if_neg e]
theorem bl_get {bs : List Bool} {i : Nat} {v : V} (h : (bs.map V.bl)[i]? = some v) : ∃ b, bs[i]? = some b ∧ v = .bl b := by
  rw [List.getElem?_map] at h
  cases e : bs[i]? with
  | none =>
    rw [e] at h
    cases h
  | some s =>
    rw [e] at h
    exact ⟨s, rfl, (Option.some.inj h).symm⟩
/-- next stands are stands -/
structure Nxt (T : Tab) : Prop where
  n60 : T.length ≤ 60
  rl : ∀ row ∈ T, row.length ≤ 3
  nx : ∀ row ∈ T, ∀ e ∈ row, ∃ t : Nat, e.1 = t ∧ t < T.length
theorem Lawful.nxt {T : Tab} {k n : Nat} (l : Lawful T k n) (h : k ≤ 3) : Nxt T := ⟨l.n60, fun r hr => by rw [l.rl r hr]; exact h, l.nx⟩
section
variable {P : Program} {w : World} {K : PySem.W.Frag} {mg : Str → Option Value} {base : Heap}
/-! reached -/
def spRea : Sp := fun vs H Q _ => ∃ (a : Addr) (T : Tab) (s : Nat), vs = [.ref a, .int s] ∧ RTab H a T ∧ Nxt T ∧ s < T.length ∧
  ∀ (H' : Hp) (q : Addr) (found : List Nat), Same H H' → H q = none → H' q = some (.lst ((seenL T.length found).map V.bl)) → (∀ j, j ∈ found ↔ Rch T s j) → Q (.ref q) H'
abbrev nmRc : List Str := ["rows", "first", "seen", "found", "at", "after", "sends", "stand"]
theorem scRc : FnScope nmRc ["rows", "first"] (defScope sRea) := ⟨rfl, rfl, rfl, by decide +kernel, rfl, by decide +kernel, by decide +kernel⟩
theorem ok_rea {f : Addr} {fd : FuncData} {k : Nat} (F : Fun K "reached" "reached" sRea f fd) (B : Bi mg) : FnOk P w K mg base CX0 (k + 1) f fd ["rows", "first"] spRea := by
  refine F.ok scRc (fun vs H Q E h => ?_) (fun cdv A outer s H vs Q E hr h => ?_)
  · obtain ⟨a, T, s, rfl, _⟩ := h
    rfl
  · obtain ⟨a, T, st0, rfl, ⟨vs, hv, pr⟩, nx, sl, q⟩ := h
    refine ⟨_, pss_cons (ps_setLc (i := 2) (own := [("stand", 7)]) (g := gName 7) (tt := tYes) rfl scRc.nd rfl rfl (sw_true rfl rfl rfl (by decide +kernel)) (pi_range1 (by rfl) B.rng (pa_cons (pe_callB call_len_seq (by rfl) B.len PySem.boot_len (pa_cons (pv 0) pa_nil)) pa_nil))
          (blkOk_by (own := [("stand", 7)]) (N := nmRc) (sc := defScope sRea) (by decide +kernel))
          (fun _ _ _ _ _ => pg_name (i := 7) scRc.nd rfl (Or.inl rfl)) (fun _ _ _ _ _ => pts_nil)
          (fun _ _ _ _ _ => pe_cmpR op_eq (pv 7) (pv 1) (nomark _)))
      (pss_cons (ps_set (i := 3) scRc.nd rfl (.inl rfl) (pe_lst (pa_cons (pv 1) pa_nil)))
      (pss_cons (ps_set (i := 4) scRc.nd rfl (.inl rfl) pe_int)
      (pss_cons (ps_while PassesOwn.never (pt_cmpR op_lt (pv 4) (pe_callB call_len_seq (by rfl) B.len PySem.boot_len (pa_cons (pv 3) pa_nil)) (nomark _))
        (pss_cons (ps_for PassesOwn.never rfl (pi_seq (pe_ix (r := rIx K) ix_seq (pv 0) (pe_ix (r := rIxL K) ix_list (pv 3) (pv 4) (fun _ _ => rfl)) (fun _ _ => rfl)))
            (pg_tup rfl (pgs_cons (pg_name (i := 5) scRc.nd rfl (.inl rfl)) (pgs_cons (pg_name (i := 6) scRc.nd rfl (.inl rfl)) pgs_nil)))
            (pss_one (ps_if (pt_not (pt_val (pe_ix (r := rIxL K) ix_list (pv 2) (pv 5) (fun _ _ => rfl))))
              (pss_cons (ps_asg pe_bl (pg_sub (pv 2) (pv 5) set_list)) (pss_one (ps_expr (pe_bm PySem.F.plainAttrs_list PySem.F.slot_list_append PySem.F.type_list_append mt_append (pv 3) (pa_cons (pv 5) pa_nil))))) pss_nil)))
          (pss_one (ps_aug (i := 4) scRc.nd rfl (.inl rfl) pe_int ip_add))))
      (pss_one (ps_ret (pv 2)))))), ?_⟩
    have lvs := pr.length
    have n60 := nx.n60
    refine ⟨_, rfl, a, vs, rfl, hv.or, (vs.length : Int), rfl, by omega, by omega, fun S nS => ?_⟩
    refine lc_range (lo := 0) (n := vs.length) (fun i H' => Same H H' ∧ H' S = some (.lst (((List.range i).map fun i => decide (i ∈ [st0])).map V.bl))) ⟨same_upd nS, upd_same⟩ ?_ ?_
    · rintro i H' hi ⟨sm, hS⟩
      refine ⟨rfl, ?_⟩
      refine ⟨_, rfl, _, rfl, rfl, _, hS, ?_, sm.put nS, ?_⟩
      · rw [List.length_map, List.length_map, List.length_range]
        exact small1000 (by omega)
      · rw [upd_same, List.range_succ, List.map_append, List.map_append]
        congr 4
        show V.bl (decide (V.int (0 + (i : Nat)) = V.int st0)) = V.bl (decide (i ∈ [st0]))
        congr 1
        refine decide_eq_decide.mpr ⟨fun h => ?_, fun h => ?_⟩
        · have := V.int.inj h
          exact List.mem_singleton.mpr (by omega)
        · rw [List.mem_singleton.mp h]
          simp
    rintro H1 ⟨sm1, hS1⟩
    rw [lvs, show ((List.range T.length).map fun i => decide (i ∈ [st0])) = seenL T.length [st0] from rfl] at hS1
    refine ⟨_, rfl, (by show 1 ≤ sizeLine; decide), fun Fd nF => ?_⟩
    have sF := same_upd (o := .lst (natV [st0])) nF
    have nF0 := sm1.free nF
    have nSF : S ≠ Fd := ne_of_none hS1 nF
    refine ⟨fun m σ H' => ∃ (found : List Nat) (at' : Nat) (v5 v6 : Option V), σ = [some (.ref a), some (.int st0), some (.ref S), some (.ref Fd), some (.int at'), v5, v6, none] ∧ Same H H' ∧ H' S = some (.lst ((seenL T.length found).map V.bl)) ∧ H' Fd = some (.lst (natV found)) ∧ FInv T st0 at' found ∧ m = T.length - at',
      ⟨_, [st0], 0, none, none, rfl, sm1.trans sF, sF _ _ hS1, upd_same, FInv.start sl, rfl⟩, ?_⟩
    rintro m σ H2 ⟨found, at', v5, v6, rfl, sm2, hS2, hF2, fi, rfl⟩
    have lf := fi.len
    have lnat : (natV found).length = found.length := by
      unfold natV
      rw [List.length_map]
    refine ⟨_, rfl, _, rfl, Fd, natV found, rfl, .inl (SqL.of hF2), _, _, rfl, rfl, _, rfl, ite2 (fun e => ?_) (fun e => ?_)⟩
    · have atl : at' < found.length := by
        have := of_decide_eq_true e
        rw [lnat] at this
        omega
      have ho : found[at']? = some found[at'] := List.getElem?_eq_getElem atl
      have oin : found[at'] ∈ found := List.getElem_mem atl
      generalize found[at'] = o at ho oin
      have ol := fi.lt o oin
      have hrow : T[o]? = some T[o] := List.getElem?_eq_getElem ol
      have rowin : T[o] ∈ T := List.getElem_mem ol
      generalize T[o] = row at hrow rowin
      obtain ⟨v, hvo, b, us, rfl, hb, pe⟩ := paired_get2 pr o row hrow
      have lus := pe.length
      have hnf : (natV found)[at']? = some (.int (o : Nat)) := by
        unfold natV
        rw [List.getElem?_map, ho]
        rfl
      refine ⟨fun σ H' => ∃ (found : List Nat) (v5 v6 : Option V), σ = [some (.ref a), some (.int st0), some (.ref S), some (.ref Fd), some (.int (at' + 1 : Nat)), v5, v6, none] ∧ Same H H' ∧ H' S = some (.lst ((seenL T.length found).map V.bl)) ∧ H' Fd = some (.lst (natV found)) ∧ FInv T st0 (at' + 1) found,
        fun σ' H' ⟨f', w5, w6, e1, e2, e3, e4, e5⟩ => ⟨T.length - (at' + 1), by omega, f', at' + 1, w5, w6, e1, e2, e3, e4, e5, rfl⟩, ?_⟩
      have rIt : ∀ R : VK, R (.ref b) H2 → rIx K (.ref a) (.int (o : Nat)) H2 R := fun R hR => by
        rcases hv.same sm2 with h | h
        · exact .inl ⟨a, vs, _, _, rfl, rfl, SqL.of h, atI_nat (j := o) hvo, hR⟩
        · exact .inr (.inl ⟨a, vs, _, _, rfl, rfl, SqT.of h, atI_nat (j := o) hvo, hR⟩)
      have gE : ∀ j, getE T o j = row[j]? := fun j => by
        unfold getE
        rw [hrow]
        rfl
      refine ⟨_, rfl, _, rfl, _, rfl, Fd, natV found, _, _, rfl, rfl, SqL.of hF2, atI_nat (j := at') hnf, rIt _ ⟨b, rfl, ?_⟩⟩
      refine for_seq (K := K) (xs := us) (hb.same sm2) (fun j σ H' => ∃ (f' : List Nat) (v5 v6 : Option V), σ = [some (.ref a), some (.int st0), some (.ref S), some (.ref Fd), some (.int at'), v5, v6, none] ∧ Same H H' ∧ H' S = some (.lst ((seenL T.length f').map V.bl)) ∧ H' Fd = some (.lst (natV f')) ∧ FInv T st0 at' f' ∧ f'[at']? = some o ∧ ∀ i e, i < j → row[i]? = some e → e.1.toNat ∈ f')
        ⟨found, v5, v6, rfl, sm2, hS2, hF2, fi, ho, fun i e hi => absurd hi (Nat.not_lt_zero _)⟩ (fun j σ H' ⟨_, _, _, _, sm', _⟩ o' ho' => ?_) ?_ ?_
      · obtain ⟨oo, hoo⟩ := hb.there
        rw [sm2 _ _ hoo] at ho'
        rw [← Option.some.inj ho']
        exact sm' _ _ hoo
      · rintro j x σ H3 hx ⟨f', w5, w6, rfl, sm3, hS3, hF3, fi3, ho3, cl3⟩
        obtain ⟨e, hej, c, t, rfl, hc, ht⟩ := paired_get pe j _ hx
        obtain ⟨tn, htn, tlt⟩ := nx.nx row rowin e (List.mem_of_getElem? hej)
        have ett : e.1.toNat = tn := by omega
        have cl' : ∀ f'' : List Nat, (∀ x ∈ f', x ∈ f'') → tn ∈ f'' → ∀ i e', i < j + 1 → row[i]? = some e' → e'.1.toNat ∈ f'' := fun f'' sub hin i e' hi he' => by
          by_cases hij : i < j
          · exact sub _ (cl3 i e' hij he')
          · have : i = j := by omega
            subst this
            have : e' = e := Option.some.inj (he'.symm.trans hej)
            subst this
            rw [ett]
            exact hin
        refine ⟨c, _, rfl, SqT.of (sm3 _ _ hc), rfl, _, _, rfl, _, _, rfl, rfl, ?_⟩
        have hbs : ((seenL T.length f').map V.bl)[tn]? = some (.bl (decide (tn ∈ f'))) := by
          rw [List.getElem?_map, seenL_get tlt]
          rfl
        rw [htn]
        refine ⟨_, rfl, _, rfl, S, _, _, _, rfl, rfl, SqL.of hS3, atI_nat (j := tn) hbs, _, rfl, ?_⟩
        by_cases hin : tn ∈ f'
        · rw [decide_eq_true hin]
          exact iF rfl ⟨f', _, _, rfl, sm3, hS3, hF3, fi3, ho3, cl' f' (fun _ h => h) hin⟩
        · rw [decide_eq_false hin]
          refine iT rfl ?_
          refine ⟨_, rfl, _, rfl, S, _, _, tn, rfl, rfl, hS3, ?_, ?_⟩
          · exact Evl.ixN_nat (by rw [List.length_map, seenL_len]; exact tlt)
          have eset : ((seenL T.length f').map V.bl).set tn (.bl true) = (seenL T.length (f' ++ [tn])).map V.bl := by
            rw [← List.map_set, seenL_set]
          rw [eset]
          have lf3 := fi3.len
          have rcn : Rch T st0 tn := by
            rw [← ett]
            exact .step (fi3.rc o (List.mem_of_getElem? ho3)) ((gE j).trans hej)
          refine ⟨_, rfl, .inl ⟨rfl, _, SqL.of (by rw [upd_ne nSF.symm]; exact hF3)⟩, _, rfl, Fd, _, _, rfl, rfl, by rw [upd_ne nSF.symm]; exact hF3, ?_, ?_⟩
          · unfold natV
            rw [List.length_map]
            exact small1000 (by omega)
          refine ⟨f' ++ [tn], _, _, rfl, (sm3.put nS).put nF0, by rw [upd_ne nSF]; exact upd_same, ?_, fi3.add hin tlt rcn, ?_, cl' _ (fun _ h => List.mem_append_left _ h) (List.mem_append_right _ (List.mem_singleton.mpr rfl))⟩
          · rw [upd_same]
            unfold natV
            rw [List.map_append]
            rfl
          · rw [List.getElem?_append_left (List.getElem?_eq_some_iff.mp ho3).1]
            exact ho3
      · rintro σ H3 ⟨f', w5, w6, rfl, sm3, hS3, hF3, fi3, ho3, cl3⟩
        refine ⟨_, rfl, _, _, rfl, rfl, f', w5, w6, ?_, sm3, hS3, hF3, fi3.next ho3 fun i e he => ?_⟩
        · show [some (V.ref a), some (V.int st0), some (V.ref S), some (V.ref Fd), some (V.int ((at' : Int) + 1)), w5, w6, none] = _
          rw [Int.natCast_add]
          rfl
        · rw [gE] at he
          exact cl3 i e (by rw [lus]; exact (List.getElem?_eq_some_iff.mp he).1) he
    · have atl : found.length ≤ at' := by
        have : ¬ ((at' : Int) < ((natV found).length : Nat)) := fun h => e (decide_eq_true h)
        rw [lnat] at this
        omega
      exact ⟨_, rfl, q H2 S found sm2 nS hS2 (fi.fin atl)⟩
end
end Hl

set_option Elab.async false
set_option linter.all false
set_option maxRecDepth 100000
set_option maxHeartbeats 4000000
namespace Hl
open PySem PySem.Spec PyProof.Rows L2
abbrev sAdd : Stmt := topS 33
abbrev sLp : Stmt := topS 34
abbrev sTwo : Stmt := topS 35
abbrev sRh : Stmt := topS 36
theorem w_rng {lo : Int} {n : Nat} {B : V → Hp → (Hp → Prop) → Prop} {H0 : Hp} {Qd : Hp → Prop} (Pv : Nat → Hp → Prop) (h0 : Pv 0 H0) (hs : ∀ j H, j < n → Pv j H → B (.int (lo + j)) H (Pv (j + 1))) (hd : ∀ H, Pv n H → Qd H) :
    ∃ W : Nat → Nat → Hp → Prop, (∃ m, W 0 m H0) ∧ ∀ j k H, W j k H → ((Itr lo n).stop j H ∧ Qd H) ∨ ((Itr lo n).go j H ∧ ∃ Nx : Hp → Prop, (∀ H', Nx H' → ∃ k', k' < k ∧ W (j + 1) k' H') ∧ ∀ x H', (Itr lo n).yld j H x H' → B x H' Nx) := by
  refine ⟨fun i m H => m = n - i ∧ i ≤ n ∧ Pv i H, ⟨n, by simp, Nat.zero_le _, h0⟩, ?_⟩
  rintro i m H ⟨rfl, hi, p⟩
  by_cases hlt : i < n
  · refine .inr ⟨hlt, Pv (i + 1), fun H' p' => ⟨n - (i + 1), by omega, rfl, hlt, p'⟩, ?_⟩
    rintro x H' ⟨rfl, rfl⟩
    exact hs i _ hlt p
  · have e : i = n := by omega
    subst e
    exact .inl ⟨Nat.le_refl _, hd H p⟩
/-- two lists, or two tuples, gone through together -/
theorem lc_zipA {K : PySem.W.Frag} {a b : Addr} {xs ys : List V} {g : TG} {tt : TT} {te : TE} {vs : List Nat} {σ : L2.St} {H : Hp} {Qd : Addr → Hp → Prop} (hl : xs.length = ys.length) (hO : (H a = some (.lst xs) ∧ H b = some (.lst ys)) ∨ (H a = some (.tup xs) ∧ H b = some (.tup ys))) (Pv : Addr → Nat → Hp → Prop) (h0 : ∀ D, H D = none → Pv D 0 (upd H D (.lst [])))
    (hq : ∀ D i H', H D = none → Pv D i H' → Same H H')
    (hs : ∀ (D : Addr) (i : Nat) (x y : V) (T : Addr) (H' : Hp), H D = none → xs[i]? = some x → ys[i]? = some y → Pv D i H' → H' T = none → g (.ref T) (wipe σ vs) (upd H' T (.tup [x, y])) fun σ2 H2 => wipe σ2 vs = wipe σ vs ∧ tt σ2 H2 fun b H3 =>
      if b = true then te σ2 H3 fun y H4 => ∃ acc, H4 D = some (.lst acc) ∧ acc.length < sizeLine ∧ Pv D (i + 1) (upd H4 D (.lst (acc ++ [y]))) else Pv D (i + 1) H3) (hd : ∀ D H', H D = none → Pv D xs.length H' → Qd D H') :
    ∃ xs ys, (SqL K H a xs ∧ SqL K H b ys ∧ ∀ D, H D = none → ∃ W : Nat → Nat → Hp → Prop, (∃ m, W 0 m (upd H D (.lst []))) ∧ ∀ i m H, W i m H →
      ((Itz K a b).stop i H ∧ Qd D H) ∨ ((Itz K a b).go i H ∧ ∃ Nx : Hp → Prop, (∀ H', Nx H' → ∃ m', m' < m ∧ W (i + 1) m' H') ∧ ∀ x H', (Itz K a b).yld i H x H' → g x (wipe σ vs) H' fun σ2 H2 => wipe σ2 vs = wipe σ vs ∧ tt σ2 H2 fun b H3 =>
        if b = true then te σ2 H3 fun y H4 => ∃ acc, H4 D = some (.lst acc) ∧ acc.length < sizeLine ∧ Nx (upd H4 D (.lst (acc ++ [y]))) else Nx H3)) ∨
     (SqT K H a xs ∧ SqT K H b ys ∧ ∀ D, H D = none → ∃ W : Nat → Nat → Hp → Prop, (∃ m, W 0 m (upd H D (.lst []))) ∧ ∀ i m H, W i m H →
      ((RZ.ItzT K a b).stop i H ∧ Qd D H) ∨ ((RZ.ItzT K a b).go i H ∧ ∃ Nx : Hp → Prop, (∀ H', Nx H' → ∃ m', m' < m ∧ W (i + 1) m' H') ∧ ∀ x H', (RZ.ItzT K a b).yld i H x H' → g x (wipe σ vs) H' fun σ2 H2 => wipe σ2 vs = wipe σ vs ∧ tt σ2 H2 fun b H3 =>
        if b = true then te σ2 H3 fun y H4 => ∃ acc, H4 D = some (.lst acc) ∧ acc.length < sizeLine ∧ Nx (upd H4 D (.lst (acc ++ [y]))) else Nx H3)) := by
  refine ⟨xs, ys, ?_⟩
  rcases hO with ⟨h1, h2⟩ | ⟨h1, h2⟩
  · refine .inl ⟨SqL.of h1, SqL.of h2, fun D nD => ?_⟩
    exact lc_zip hl (Pv D) (h0 D nD) (fun i H' p => ⟨SqL.of (hq D i H' nD p _ _ h1), SqL.of (hq D i H' nD p _ _ h2)⟩) (fun i x y T H' => hs D i x y T H' nD) fun H' => hd D H' nD
  · refine .inr ⟨SqT.of h1, SqT.of h2, fun D nD => ?_⟩
    refine ⟨fun i m H => m = xs.length - i ∧ i ≤ xs.length ∧ Pv D i H, ⟨xs.length, rfl, Nat.zero_le _, h0 D nD⟩, ?_⟩
    rintro i m H' ⟨rfl, hi, p⟩
    have sm := hq D i H' nD p
    have qx : SqT K H' a xs := SqT.of (sm _ _ h1)
    have qy : SqT K H' b ys := SqT.of (sm _ _ h2)
    by_cases hlt : i < xs.length
    · refine .inr ⟨⟨xs, ys, _, _, qx, qy, List.getElem?_eq_getElem hlt, List.getElem?_eq_getElem (show i < ys.length by omega)⟩, Pv D (i + 1), fun H' p' => ⟨xs.length - (i + 1), by omega, rfl, hlt, p'⟩, ?_⟩
      rintro v H'' ⟨T, x, y, rfl, hT, rfl, f1, f2⟩
      exact hs D i x y T H' nD (f1 _ qx) (f2 _ qy) p hT
    · have e : i = xs.length := by omega
      subst e
      exact .inl ⟨⟨xs, ys, qx, qy, .inl (Nat.le_refl _)⟩, hd D H' nD p⟩
/-- the pairs of letters -/
def lpRow (k i : Nat) : List (Nat × Nat) := (List.range (k - (i + 1))).map fun j => (i, i + 1 + j)
def lpL (k : Nat) : List (Nat × Nat) := (List.range k).flatMap (lpRow k)
theorem lpL_mem {k : Nat} {p : Nat × Nat} (h : p ∈ lpL k) : p.1 < p.2 ∧ p.2 < k := by
  unfold lpL at h
  obtain ⟨i, hi, h⟩ := List.mem_flatMap.mp h
  obtain ⟨j, hj, rfl⟩ := List.mem_map.mp h
  have := List.mem_range.mp hj
  exact ⟨by show i < i + 1 + j; omega, by show i + 1 + j < k; omega⟩
theorem lpRow_len (k i : Nat) : (lpRow k i).length ≤ k := by
  unfold lpRow
  rw [List.length_map, List.length_range]
  omega
theorem lp_len (k : Nat) : ∀ i, ((List.range i).flatMap (lpRow k)).length ≤ i * k
  | 0 => by simp
  | i + 1 => by
    have := lp_len k i
    have := lpRow_len k i
    rw [List.range_succ, List.flatMap_append, List.length_append, Nat.succ_mul]
    show _ + ([i].flatMap (lpRow k)).length ≤ _
    rw [show [i].flatMap (lpRow k) = lpRow k i by simp]
    omega
def NPair (H : Hp) (v : V) (p : Nat × Nat) : Prop := ∃ c, v = .ref c ∧ H c = some (.tup [.int (p.1 : Nat), .int (p.2 : Nat)])
theorem NPair.same {H H' : Hp} {v : V} {p : Nat × Nat} (k : Same H H') (h : NPair H v p) : NPair H' v p := by
  obtain ⟨c, e, h⟩ := h
  exact ⟨c, e, k _ _ h⟩
section
variable {P : Program} {w : World} {K : PySem.W.Frag} {mg : Str → Option Value} {base : Heap}
/-! refuse_unreached -/
def spRun : Sp := fun vs H Q _ => ∃ (a : Addr) (T : Tab), vs = [.ref a] ∧ RTab H a T ∧ Nxt T ∧ 1 ≤ T.length ∧ (∀ i, i < T.length → Rch T 0 i) ∧ ∀ H', Same H H' → Q .non H'
theorem scUr : FnScope ["rows", "stand", "seen"] ["rows"] (defScope sRun) := ⟨rfl, rfl, rfl, by decide +kernel, rfl, by decide +kernel, by decide +kernel⟩
theorem ok_run {f fR : Addr} {fd fdR : FuncData} {k : Nat} (F : Fun K "refuse_unreached" "refuse_unreached" sRun f fd) (GR : FnOk P w K mg base CX0 k fR fdR ["rows", "first"] spRea) (kR : PySem.W.keepIn K (.ref fR) = true) (bR : Binds K fdR ["rows", "first"] []) (gR : mg "reached" = some (.ref fR)) (C : Cn mg) :
    FnOk P w K mg base CX0 (k + 1) f fd ["rows"] spRun := by
  refine F.ok scUr (fun vs H Q E h => ?_) (fun cdv A outer s H vs Q E hr h => ?_)
  · obtain ⟨a, T, rfl, _⟩ := h
    rfl
  · obtain ⟨a, T, rfl, ht, nx, n1, re, q⟩ := h
    refine ⟨_, pss_one (ps_for PassesOwn.never rfl (pi_enum (by rfl) C.en (pa_cons (pe_call GR hr (by rfl) gR kR bR .nil pass0 (pa_cons (pv 0) (pa_cons pe_int pa_nil))) pa_nil)) (pg_tup rfl (pgs_cons (pg_name (i := 1) scUr.nd rfl (.inl rfl)) (pgs_cons (pg_name (i := 2) scUr.nd rfl (.inl rfl)) pgs_nil)))
      (pss_one (ps_if (pt_not (pt_val (pv 2))) (pss_one ps_never) pss_nil))), ?_⟩
    refine ⟨_, rfl, a, T, 0, rfl, ht, nx, by omega, fun H1 q1 found sm1 nq hq fnd => ?_⟩
    refine ⟨q1, _, rfl, SqL.of hq, ?_⟩
    refine for_enum (K := K) (a := q1) (xs := (seenL T.length found).map V.bl) (fun i σ H' => ∃ v1 v2 : Option V, σ = [some (.ref a), v1, v2] ∧ Same H1 H') ⟨none, none, rfl, Same.refl H1⟩ (fun i σ H' ⟨_, _, _, sm⟩ => SqL.of (sm _ _ hq)) ?_ ?_
    · rintro i x T' σ H' hx ⟨v1, v2, rfl, sm⟩ nT
      obtain ⟨b, hb, rfl⟩ := bl_get hx
      have il : i < T.length := by
        have := (List.getElem?_eq_some_iff.mp hb).1
        rw [seenL_len] at this
        exact this
      rw [seenL_get il, decide_eq_true ((fnd i).mpr (re i il))] at hb
      have eb : b = true := (Option.some.inj hb).symm
      subst eb
      have sT := same_upd (o := .tup [.int (i : Nat), .bl true]) nT
      refine ⟨T', _, rfl, SqT.of upd_same, rfl, _, _, rfl, _, _, rfl, rfl, ?_⟩
      exact ⟨_, rfl, _, rfl, iF rfl ⟨_, _, rfl, sm.trans sT⟩⟩
    · rintro σ H' ⟨v1, v2, rfl, sm⟩
      exact q H' (sm1.trans sm)
/-! added -/
def spAdd : Sp := fun vs H Q _ => ∃ (a b : Addr) (xs ys : List Int), vs = [.ref a, .ref b] ∧ ((H a = some (.lst (xs.map V.int)) ∧ H b = some (.lst (ys.map V.int))) ∨ (H a = some (.tup (xs.map V.int)) ∧ H b = some (.tup (ys.map V.int)))) ∧ xs.length = ys.length ∧ xs.length ≤ 100 ∧
  ∀ (H' : Hp) (q : Addr), Same H H' → H q = none → H' q = some (.lst ((addL xs ys).map V.int)) → Q (.ref q) H'
theorem scAd : FnScope ["one", "other", "first", "second"] ["one", "other"] (defScope sAdd) := ⟨rfl, rfl, rfl, by decide +kernel, rfl, by decide +kernel, by decide +kernel⟩
theorem addL_get {xs ys : List Int} {i : Nat} {x y : Int} (h1 : xs[i]? = some x) (h2 : ys[i]? = some y) : (addL xs ys)[i]? = some (x + y) := by
  unfold addL
  rw [List.getElem?_zipWith, h1, h2]
theorem ok_add {f : Addr} {fd : FuncData} {k : Nat} (F : Fun K "added" "added" sAdd f fd) (J : Bj mg) : FnOk P w K mg base CX0 (k + 1) f fd ["one", "other"] spAdd := by
  refine F.ok scAd (fun vs H Q E h => ?_) (fun cdv A outer s H vs Q E hr h => ?_)
  · obtain ⟨a, b, xs, ys, rfl, _⟩ := h
    rfl
  · obtain ⟨a, b, xs, ys, rfl, hab, hl, l100, q⟩ := h
    refine ⟨_, pss_one (ps_ret (pe_lc (own := [("first", 2), ("second", 3)]) (g := gTup K 2 (gCons (gName 2) (gCons (gName 3) gNil))) (tt := tYes) rfl scAd.nd (RZ.pi_zipA (by rfl) J.zip (pa_cons (pv 0) (pa_cons (pv 1) pa_nil)))
      (blkOk_by (own := [("first", 2), ("second", 3)]) (N := ["one", "other", "first", "second"]) (sc := defScope sAdd) (by decide +kernel))
      (fun _ _ _ _ _ => pg_tup rfl (pgs_cons (pg_name (i := 2) scAd.nd rfl (Or.inl rfl)) (pgs_cons (pg_name (i := 3) scAd.nd rfl (Or.inl rfl)) pgs_nil))) (fun _ _ _ _ _ => pts_nil)
      (fun _ _ _ _ _ => pe_op op_add (pv 2) (pv 3)))), ?_⟩
    have hl' : (xs.map V.int).length = (ys.map V.int).length := by rw [List.length_map, List.length_map, hl]
    have la : (addL xs ys).length = xs.length := by
      unfold addL
      rw [List.length_zipWith, ← hl, Nat.min_self]
    refine ⟨_, rfl, _, rfl, a, b, ?_⟩
    refine Exists.elim (lc_zipA (K := K) (g := gTup K 2 (gCons (gName 2) (gCons (gName 3) gNil))) (tt := tYes) (te := tOp _ (tVar 2) (tVar 3)) (vs := [2, 3]) (σ := [some (.ref a), some (.ref b), none, none]) (Qd := fun D H' => Q (.ref D) H') hl' hab (fun D i H' => Same H H' ∧ H' D = some (.lst (((addL xs ys).take i).map V.int))) (fun D nD => ⟨same_upd nD, upd_same⟩) (fun D i H' _ ⟨sm, _⟩ => sm) ?_ ?_) (fun xs' hx => Exists.elim hx fun ys' h => ⟨xs', ys', rfl, h⟩)
    · rintro D i x y T H' nD hx hy ⟨sm, hD⟩ nT
      obtain ⟨x', hx', rfl⟩ := map_int_get hx
      obtain ⟨y', hy', rfl⟩ := map_int_get hy
      have sT := same_upd (o := .tup [.int x', .int y']) nT
      have il := (List.getElem?_eq_some_iff.mp hx').1
      refine ⟨T, _, rfl, SqT.of upd_same, rfl, _, _, rfl, _, _, rfl, rfl, ?_⟩
      refine ⟨rfl, ?_⟩
      refine ⟨_, rfl, _, rfl, _, _, rfl, rfl, _, sT _ _ hD, ?_, (sm.trans sT).put nD, ?_⟩
      · rw [List.length_map, List.length_take]
        exact small1000 (by omega)
      · rw [upd_same, List.take_add_one, addL_get hx' hy', List.map_append]
        rfl
    · rintro D H' nD ⟨sm, hD⟩
      rw [List.take_of_length_le (by rw [List.length_map]; omega)] at hD
      exact q H' D sm nD hD
/-! letter_pairs -/
def spLp : Sp := fun vs H Q _ => ∃ (k : Nat), vs = [.int k] ∧ k ≤ 10 ∧ ∀ (H' : Hp) (q : Addr) (ws : List V), Same H H' → H q = none → H' q = some (.lst ws) → Paired (NPair H') ws (lpL k) → Q (.ref q) H'
theorem scLp : FnScope ["letters", "one", "other"] ["letters"] (defScope sLp) := ⟨rfl, rfl, rfl, by decide +kernel, rfl, by decide +kernel, by decide +kernel⟩
theorem ok_lp {f : Addr} {fd : FuncData} {k : Nat} (F : Fun K "letter_pairs" "letter_pairs" sLp f fd) (B : Bi mg) : FnOk P w K mg base CX0 (k + 1) f fd ["letters"] spLp := by
  refine F.ok scLp (fun vs H Q E h => ?_) (fun cdv A outer s H vs Q E hr h => ?_)
  · obtain ⟨kk, rfl, _⟩ := h
    rfl
  · obtain ⟨kk, rfl, k10, q⟩ := h
    refine ⟨_, pss_one (ps_ret (pe_lc2 (own := [("one", 1), ("other", 2)]) (vs1 := [2]) (g := gName 1) (g1 := gName 2) (tt := tYes) (tt1 := tYes) rfl scLp.nd (pi_range1 (by rfl) B.rng (pa_cons (pv 0) pa_nil))
      (blkOk_by (own := [("one", 1), ("other", 2)]) (N := ["letters", "one", "other"]) (sc := defScope sLp) (by decide +kernel)) (by decide)
      (fun _ _ _ _ _ => pg_name (i := 1) scLp.nd rfl (Or.inl rfl)) (fun _ _ _ _ _ => pts_nil)
      (fun _ _ _ _ _ => pi_range2 (by rfl) B.rng (pa_cons (pe_op op_add (pv 1) pe_int) (pa_cons (pv 0) pa_nil)))
      (fun _ _ _ _ _ => pg_name (i := 2) scLp.nd rfl (Or.inl rfl)) (fun _ _ _ _ _ => pts_nil)
      (fun _ _ _ _ _ => pe_tup (pa_cons (pv 1) (pa_cons (pv 2) pa_nil))))), ?_⟩
    refine ⟨_, rfl, (kk : Int), rfl, by omega, by omega, fun D nD => ?_⟩
    refine w_rng (n := kk) (fun i H' => ∃ ws, Same H H' ∧ H' D = some (.lst ws) ∧ Paired (NPair (st [D] H')) ws ((List.range i).flatMap (lpRow kk))) ⟨[], same_upd nD, upd_same, .nil⟩ ?_ ?_
    · rintro i H1 hi ⟨ws, sm1, hD1, pp1⟩
      refine ⟨rfl, ?_⟩
      have ll := lp_len kk i
      have ik : i * kk ≤ 100 := Nat.le_trans (Nat.mul_le_mul (show i ≤ 10 by omega) k10) (by decide)
      have e1 : ((kk : Int) - (0 + (i : Nat) + 1)).toNat = kk - (i + 1) := by omega
      refine ⟨_, rfl, _, _, rfl, rfl, _, rfl, 0 + (i : Nat) + 1, (kk : Int), rfl, ⟨by omega, by omega, by omega, by omega⟩, ?_⟩
      rw [e1]
      refine w_rng (n := kk - (i + 1)) (fun j H' => ∃ ws, Same H H' ∧ H' D = some (.lst ws) ∧ Paired (NPair (st [D] H')) ws ((List.range i).flatMap (lpRow kk) ++ (lpRow kk i).take j)) ⟨ws, sm1, hD1, by rw [List.take_zero, List.append_nil]; exact pp1⟩ ?_ ?_
      · rintro j H2 hj ⟨us, sm2, hD2, pp2⟩
        refine ⟨rfl, ?_⟩
        have lu := pp2.length
        rw [List.length_append, List.length_take] at lu
        refine ⟨_, rfl, _, rfl, (by show 2 ≤ sizeLine; decide), fun c nc => ?_⟩
        have sc := same_upd (o := .tup [.int (0 + (i : Nat)), .int (0 + (i : Nat) + 1 + (j : Nat))]) nc
        have ncD : c ≠ D := ne_of_fresh hD2 nc
        refine ⟨_, sc _ _ hD2, small1000 (by omega), us ++ [.ref c], (sm2.trans sc).put nD, upd_same, ?_⟩
        have ej : (lpRow kk i)[j]? = some (i, i + 1 + j) := by
          unfold lpRow
          rw [List.getElem?_map, List.getElem?_range hj]
          rfl
        rw [st_upd (by simp), List.take_add_one, ej, ← List.append_assoc]
        refine paired_snoc (paired_mono (fun _ _ => NPair.same (st_mono sc)) pp2) ⟨c, rfl, ?_⟩
        rw [st_get (by simp [ncD]), upd_same]
        show some (HO.tup [V.int (0 + (i : Nat)), V.int (0 + (i : Nat) + 1 + (j : Nat))]) = some (HO.tup [V.int ((i : Nat) : Int), V.int ((i + 1 + j : Nat) : Int)])
        rw [show (0 + (i : Int)) = (i : Int) by omega, show ((i : Int) + 1 + (j : Int)) = ((i + 1 + j : Nat) : Int) by omega]
      · rintro H2 ⟨us, sm2, hD2, pp2⟩
        refine ⟨us, sm2, hD2, ?_⟩
        rw [List.take_of_length_le (by unfold lpRow; rw [List.length_map, List.length_range]; omega)] at pp2
        rw [List.range_succ, List.flatMap_append, show [i].flatMap (lpRow kk) = lpRow kk i by simp]
        exact pp2
    · rintro H1 ⟨ws, sm1, hD1, pp1⟩
      exact q H1 D ws sm1 nD hD1 (paired_mono (fun _ _ => NPair.same st_same) pp1)
end
end Hl

set_option Elab.async false
set_option linter.all false
set_option maxRecDepth 100000
set_option maxHeartbeats 4000000
namespace Hl
open PySem PySem.Spec PyProof.Rows L2
/-! reading a table -/
section
variable {K : PySem.W.Frag} {H : Hp}
theorem rt_row {a : Addr} {T : Tab} {s : Nat} {row : List Ent} (h : RTab H a T) (hs : T[s]? = some row) : ∃ v, RRow H v row ∧ ∀ R : VK, R v H → rIx K (.ref a) (.int (s : Nat)) H R := by
  obtain ⟨vs, hv, pr⟩ := h
  obtain ⟨v, hvs, rv⟩ := paired_get2 pr s row hs
  refine ⟨v, rv, fun R hR => ?_⟩
  rcases hv with h | h
  · exact .inl ⟨a, vs, _, _, rfl, rfl, SqL.of h, atI_nat (j := s) hvs, hR⟩
  · exact .inr (.inl ⟨a, vs, _, _, rfl, rfl, SqT.of h, atI_nat (j := s) hvs, hR⟩)
theorem rr_ent {v : V} {row : List Ent} {i : Nat} {e : Ent} (h : RRow H v row) (hi : row[i]? = some e) : ∃ c t, H c = some (.tup [.int e.1, .ref t]) ∧ H t = some (.tup (e.2.map V.int)) ∧ ∀ R : VK, R (.ref c) H → rIx K v (.int (i : Nat)) H R := by
  obtain ⟨a, us, rfl, hu, pe⟩ := h
  obtain ⟨u, hus, c, t, rfl, hc, ht⟩ := paired_get2 pe i e hi
  refine ⟨c, t, hc, ht, fun R hR => ?_⟩
  rcases hu with h | h
  · exact .inl ⟨a, us, _, _, rfl, rfl, SqL.of h, atI_nat (j := i) hus, hR⟩
  · exact .inr (.inl ⟨a, us, _, _, rfl, rfl, SqT.of h, atI_nat (j := i) hus, hR⟩)
theorem getE_row {T : Tab} {s i : Nat} {e : Ent} (h : getE T s i = some e) : ∃ row, T[s]? = some row ∧ row[i]? = some e := by
  unfold getE at h
  cases hr : T[s]? with
  | none =>
    rw [hr] at h
    cases h
  | some row =>
    rw [hr] at h
    exact ⟨row, rfl, h⟩
theorem getE_mem {T : Tab} {s i : Nat} {e : Ent} (h : getE T s i = some e) : ∃ row, row ∈ T ∧ e ∈ row := by
  obtain ⟨row, h1, h2⟩ := getE_row h
  exact ⟨row, List.mem_of_getElem? h1, List.mem_of_getElem? h2⟩
end
/-- what two steps tell, as data -/
def twoD (e : Int) (s : List Int) : PyData := .tuple [.int e, stD s]
theorem twoD_shaped (e : Int) (s : List Int) : SeqAt.shaped (twoD e s) = true := by
  have h := stD_depth s
  have h2 : (twoD e s).depth ≤ 64 := by
    simp only [twoD, PyData.depth, PyData.depthAll]
    omega
  show ((twoD e s).canLay0 && decide ((twoD e s).depth ≤ 64)) = true
  rw [Bool.and_eq_true]
  refine ⟨?_, decide_eq_true h2⟩
  simp [twoD, PyData.canLay0, PyData.canLayAll0, stD_lay s]
theorem twoD_eqv (e : Int) (s : List Int) : PyData.eqv (twoD e s) (twoD e s) = true := by
  simp [twoD, PyData.eqv, PyData.eqvAll, stD_eqv]
def TwoAt (H : Hp) (q : Addr) (e : Int) (s : List Int) : Prop := ∃ l, H q = some (.tup [.int e, .ref l]) ∧ H l = some (.lst (s.map V.int))
theorem TwoAt.same {H H' : Hp} {q : Addr} {e : Int} {s : List Int} (k : Same H H') (h : TwoAt H q e s) : TwoAt H' q e s := by
  obtain ⟨l, h1, h2⟩ := h
  exact ⟨l, k _ _ h1, k _ _ h2⟩
theorem TwoAt.dp {K : PySem.W.Frag} {H : Hp} {q : Addr} {e : Int} {s : List Int} (h : TwoAt H q e s) : Dp K H (.ref q) (twoD e s) := by
  obtain ⟨l, h1, h2⟩ := h
  exact .tup (SqT.of h1) (.cons (.int e) (.cons (.lst (SqL.of h2) (ints_dp s)) .nil))
section
variable {P : Program} {w : World} {K : PySem.W.Frag} {mg : Str → Option Value} {base : Heap}
/-! two_steps -/
def spTwo : Sp := fun vs H Q _ => ∃ (a : Addr) (T : Tab) (s i j t n : Nat) (e1 e2 : Ent), vs = [.ref a, .int s, .int i, .int j] ∧ RTab H a T ∧ getE T s i = some e1 ∧ e1.1 = t ∧ getE T t j = some e2 ∧ e1.2.length = n ∧ e2.2.length = n ∧ n ≤ 100 ∧
  ∀ (H' : Hp) (q : Addr), Same H H' → TwoAt H' q e2.1 (addL e1.2 e2.2) → Q (.ref q) H'
abbrev nmTw : List Str := ["rows", "stand", "one", "other", "middle", "first", "end", "second"]
theorem scTw : FnScope nmTw ["rows", "stand", "one", "other"] (defScope sTwo) := ⟨rfl, rfl, rfl, by decide +kernel, rfl, by decide +kernel, by decide +kernel⟩
theorem ok_two {f fA : Addr} {fd fdA : FuncData} {k : Nat} (F : Fun K "two_steps" "two_steps" sTwo f fd) (GA : FnOk P w K mg base CX0 k fA fdA ["one", "other"] spAdd) (kA : PySem.W.keepIn K (.ref fA) = true) (bA : Binds K fdA ["one", "other"] []) (gA : mg "added" = some (.ref fA)) :
    FnOk P w K mg base CX0 (k + 1) f fd ["rows", "stand", "one", "other"] spTwo := by
  refine F.ok scTw (fun vs H Q E h => ?_) (fun cdv A outer s H vs Q E hr h => ?_)
  · obtain ⟨a, T, s, i, j, t, n, e1, e2, rfl, _⟩ := h
    rfl
  · obtain ⟨a, T, s, i, j, t, n, e1, e2, rfl, ht, g1, et, g2, l1, l2, n100, q⟩ := h
    refine ⟨_, pss_cons (ps_asg (pe_ix (r := rIx K) ix_seq (pe_ix (r := rIx K) ix_seq (pv 0) (pv 1) (fun _ _ => rfl)) (pv 2) (fun _ _ => rfl)) (pg_tup rfl (pgs_cons (pg_name (i := 4) scTw.nd rfl (.inl rfl)) (pgs_cons (pg_name (i := 5) scTw.nd rfl (.inl rfl)) pgs_nil))))
      (pss_cons (ps_asg (pe_ix (r := rIx K) ix_seq (pe_ix (r := rIx K) ix_seq (pv 0) (pv 4) (fun _ _ => rfl)) (pv 3) (fun _ _ => rfl)) (pg_tup rfl (pgs_cons (pg_name (i := 6) scTw.nd rfl (.inl rfl)) (pgs_cons (pg_name (i := 7) scTw.nd rfl (.inl rfl)) pgs_nil))))
      (pss_one (ps_ret (pe_tup (pa_cons (pv 6) (pa_cons (pe_call GA hr (by rfl) gA kA bA .nil pass0 (pa_cons (pv 5) (pa_cons (pv 7) pa_nil))) pa_nil)))))), ?_⟩
    obtain ⟨r1, hr1, he1⟩ := getE_row g1
    obtain ⟨r2, hr2, he2⟩ := getE_row g2
    obtain ⟨v1, rv1, x1⟩ := rt_row (K := K) ht hr1
    obtain ⟨c1, t1, hc1, ht1, y1⟩ := rr_ent (K := K) rv1 he1
    obtain ⟨v2, rv2, x2⟩ := rt_row (K := K) ht hr2
    obtain ⟨c2, t2, hc2, ht2, y2⟩ := rr_ent (K := K) rv2 he2
    rw [et] at hc1
    refine ⟨_, rfl, _, rfl, x1 _ ⟨_, rfl, y1 _ ⟨c1, _, rfl, SqT.of hc1, rfl, _, _, rfl, _, _, rfl, rfl, ?_⟩⟩⟩
    refine ⟨_, rfl, _, rfl, x2 _ ⟨_, rfl, y2 _ ⟨c2, _, rfl, SqT.of hc2, rfl, _, _, rfl, _, _, rfl, rfl, ?_⟩⟩⟩
    refine ⟨_, rfl, _, rfl, _, rfl, t1, t2, _, _, rfl, .inr ⟨ht1, ht2⟩, by rw [l1, l2], by rw [l1]; exact n100, fun H2 q2 sm2 nq2 hq2 => ?_⟩
    refine ⟨(by show 2 ≤ sizeLine; decide), fun p np => ?_⟩
    have sp := same_upd (o := .tup [.int e2.1, .ref q2]) np
    exact q _ p (sm2.trans sp) ⟨q2, upd_same, sp _ _ hq2⟩
/-! refuse_heeding -/
def spRh (K : PySem.W.Frag) : Sp := fun vs H Q _ => ∃ (a b : Addr) (T : Tab) (ns : List V) (n : Nat), vs = [.ref a, .ref b] ∧ RTab H a T ∧ (SqL K H b ns ∨ SqT K H b ns) ∧ (∀ H', Same H H' → SqL K H' b ns ∨ SqT K H' b ns) ∧ ns.length ≤ 3 ∧ Lawful T ns.length n ∧ n ≤ 100 ∧ ∀ H', Same H H' → Q .non H'
abbrev nmRh : List Str := ["rows", "letters", "stand", "one", "other"]
theorem scRh : FnScope nmRh ["rows", "letters"] (defScope sRh) := ⟨rfl, rfl, rfl, by decide +kernel, rfl, by decide +kernel, by decide +kernel⟩
theorem lawful_get {T : Tab} {k n s i : Nat} (l : Lawful T k n) (hs : s < T.length) (hi : i < k) : ∃ e, ∃ t : Nat, getE T s i = some e ∧ e.1 = t ∧ t < T.length ∧ e.2.length = n := by
  have h1 : T[s]? = some T[s] := List.getElem?_eq_getElem hs
  have m1 : T[s] ∈ T := List.getElem_mem hs
  have rl := l.rl _ m1
  have h2 : T[s][i]? = some (T[s])[i] := List.getElem?_eq_getElem (by omega)
  have m2 : (T[s])[i] ∈ T[s] := List.getElem_mem (by omega)
  obtain ⟨t, et, tl⟩ := l.nx _ m1 _ m2
  refine ⟨(T[s])[i], t, ?_, et, tl, l.sl _ m1 _ m2⟩
  unfold getE
  rw [h1]
  exact h2
theorem ok_rh {f fL fT : Addr} {fd fdL fdT : FuncData} {k : Nat} (F : Fun K "refuse_heeding" "refuse_heeding" sRh f fd) (GL : FnOk P w K mg base CX0 k fL fdL ["letters"] spLp) (kL : PySem.W.keepIn K (.ref fL) = true) (bL : Binds K fdL ["letters"] []) (gL : mg "letter_pairs" = some (.ref fL))
    (GT : FnOk P w K mg base CX0 k fT fdT ["rows", "stand", "one", "other"] spTwo) (kT : PySem.W.keepIn K (.ref fT) = true) (bT : Binds K fdT ["rows", "stand", "one", "other"] []) (gT : mg "two_steps" = some (.ref fT)) (B : Bi mg) :
    FnOk P w K mg base CX0 (k + 1) f fd ["rows", "letters"] (spRh K) := by
  refine F.ok scRh (fun vs H Q E h => ?_) (fun cdv A outer s H vs Q E hr h => ?_)
  · obtain ⟨a, b, T, ns, n, rfl, _⟩ := h
    rfl
  · obtain ⟨a, b, T, ns, n, rfl, ht, hb, hbs, n3, law, n100, q⟩ := h
    refine ⟨_, pss_one (ps_for PassesOwn.never rfl (pi_range1 (by rfl) B.rng (pa_cons (pe_callB call_len_seq (by rfl) B.len PySem.boot_len (pa_cons (pv 0) pa_nil)) pa_nil)) (pg_name (i := 2) scRh.nd rfl (.inl rfl))
      (pss_one (ps_for PassesOwn.never rfl (pi_list (pe_call GL hr (by rfl) gL kL bL .nil pass0 (pa_cons (pe_callB call_len_seq (by rfl) B.len PySem.boot_len (pa_cons (pv 1) pa_nil)) pa_nil))) (pg_tup rfl (pgs_cons (pg_name (i := 3) scRh.nd rfl (.inl rfl)) (pgs_cons (pg_name (i := 4) scRh.nd rfl (.inl rfl)) pgs_nil)))
        (pss_one (ps_if (pt_cmpR (op_neD (Nat.lt_of_succ_lt (hu65_of hr))) (pe_call GT hr (by rfl) gT kT bT .nil pass0 (pa_cons (pv 0) (pa_cons (pv 2) (pa_cons (pv 3) (pa_cons (pv 4) pa_nil))))) (pe_call GT hr (by rfl) gT kT bT .nil pass0 (pa_cons (pv 0) (pa_cons (pv 2) (pa_cons (pv 4) (pa_cons (pv 3) pa_nil))))) (by rfl))
          (pss_one ps_never) pss_nil))))), ?_⟩
    obtain ⟨vs, hv, pr⟩ := id ht
    have lvs := pr.length
    have n60 := law.n60
    refine ⟨_, rfl, a, vs, rfl, hv.or, (vs.length : Int), rfl, by omega, by omega, ?_⟩
    refine for_range (lo := 0) (n := vs.length) (fun i σ H' => ∃ v2 v3 v4 : Option V, σ = [some (.ref a), some (.ref b), v2, v3, v4] ∧ Same H H') ⟨none, none, none, rfl, Same.refl H⟩ ?_ ?_
    · rintro i σ H1 hi ⟨v2, v3, v4, rfl, sm1⟩
      refine ⟨_, rfl, b, ns, rfl, hbs _ sm1, ns.length, rfl, by omega, fun H2 q2 ws sm2 nq2 hq2 pp => ?_⟩
      have sm12 := sm1.trans sm2
      refine ⟨q2, rfl, ⟨_, SqL.of hq2⟩, ?_⟩
      refine for_list (K := K) (a := q2) (xs := ws) (fun j σ H' => ∃ v3 v4 : Option V, σ = [some (.ref a), some (.ref b), some (.int (i : Nat)), v3, v4] ∧ Same H2 H') ⟨v3, v4, by show [some (V.ref a), some (V.ref b), some (V.int (0 + (i : Nat))), v3, v4] = _; rw [Int.zero_add], Same.refl H2⟩ (fun j σ H' _ ⟨_, _, _, sm'⟩ => SqL.of (sm' _ _ hq2)) ?_ ?_
      · rintro j x σ H3 hx ⟨w3, w4, rfl, sm3⟩
        obtain ⟨p, hp, c, rfl, hc⟩ := paired_get pp j x hx
        obtain ⟨p1, p2⟩ := lpL_mem (List.mem_of_getElem? hp)
        have il : i < T.length := by omega
        obtain ⟨e1, t1, g1, et1, tl1, sl1⟩ := lawful_get law il (show p.1 < ns.length by omega)
        obtain ⟨e2, t2, g2, et2, tl2, sl2⟩ := lawful_get law il p2
        obtain ⟨e12, t12, g12, et12, tl12, sl12⟩ := lawful_get law tl1 p2
        obtain ⟨e21, t21, g21, et21, tl21, sl21⟩ := lawful_get law tl2 (show p.1 < ns.length by omega)
        have sm13 := sm12.trans sm3
        obtain ⟨he1, he2⟩ := law.he i p.1 p.2 e1 e2 e12 e21 g1 g2 (by rw [et1]; exact g12) (by rw [et2]; exact g21)
        refine ⟨c, _, rfl, SqT.of (sm3 _ _ hc), rfl, _, _, rfl, _, _, rfl, rfl, ?_⟩
        refine ⟨_, rfl, _, rfl, _, rfl, _, rfl, a, T, i, p.1, p.2, t1, n, e1, e12, rfl, ht.same sm13, g1, et1, g12, sl1, sl12, n100, fun H4 q4 sm4 tw4 => ?_⟩
        refine ⟨_, rfl, _, rfl, _, rfl, _, rfl, a, T, i, p.2, p.1, t2, n, e2, e21, rfl, (ht.same sm13).same sm4, g2, et2, g21, sl2, sl21, n100, fun H5 q5 sm5 tw5 => ?_⟩
        rw [← he1, ← he2] at tw5
        refine ⟨_, _, (tw4.same sm5).dp, tw5.dp, twoD_shaped _ _, twoD_shaped _ _, _, rfl, iF (by rw [twoD_eqv]; rfl) ⟨_, _, rfl, (sm3.trans sm4).trans sm5⟩⟩
      · rintro σ H3 ⟨w3, w4, rfl, sm3⟩
        exact ⟨_, _, _, rfl, sm12.trans sm3⟩
    · rintro σ H1 ⟨v2, v3, v4, rfl, sm1⟩
      exact q H1 sm1
end
end Hl

set_option Elab.async false
set_option linter.all false
set_option maxRecDepth 100000
set_option maxHeartbeats 4000000
namespace Hl
open PySem PySem.Spec PyProof.Rows L2
abbrev sMi : Stmt := inClass (topS 38) 0
abbrev sMr : Stmt := inClass (topS 38) 3
theorem f_ol : ¬ (("outlet_names" : Str) = "letter_names") := by decide +kernel
theorem f_lo : ¬ (("letter_names" : Str) = "outlet_names") := by decide +kernel
theorem f_tl : ¬ (("table" : Str) = "letter_names") := by decide +kernel
theorem f_lt : ¬ (("letter_names" : Str) = "table") := by decide +kernel
theorem f_to : ¬ (("table" : Str) = "outlet_names") := by decide +kernel
theorem f_ot : ¬ (("outlet_names" : Str) = "table") := by decide +kernel
/-- a machine's fields -/
def mf (a b t : Addr) : List (Str × V) := putF "table" (.ref t) (putF "outlet_names" (.ref b) (putF "letter_names" (.ref a) []))
theorem mf_l (a b t : Addr) : (mf a b t).lookup ("letter_names" : Str) = some (.ref a) := by
  unfold mf
  rw [lookup_putF, if_neg f_lt, lookup_putF, if_neg f_lo, lookup_putF, if_pos rfl]
theorem mf_o (a b t : Addr) : (mf a b t).lookup ("outlet_names" : Str) = some (.ref b) := by
  unfold mf
  rw [lookup_putF, if_neg f_ot, lookup_putF, if_pos rfl]
theorem mf_t (a b t : Addr) : (mf a b t).lookup ("table" : Str) = some (.ref t) := by
  unfold mf
  rw [lookup_putF, if_pos rfl]
theorem mf_no (a b t : Addr) {m : Str} (h1 : ¬ m = "table") (h2 : ¬ m = "outlet_names") (h3 : ¬ m = "letter_names") : (mf a b t).lookup m = none := by
  unfold mf
  rw [lookup_putF, if_neg h1, lookup_putF, if_neg h2, lookup_putF, if_neg h3]
  rfl
theorem put_len (f : Str) (v : V) : ∀ fs : List (Str × V), (putF f v fs).length ≤ fs.length + 1
  | [] => Nat.le_refl _
  | (g, u) :: fs => by
    have := put_len f v fs
    unfold putF
    split
    · simp
    · simp only [List.length_cons]
      omega
def TRow (H : Hp) (v : V) (row : List Ent) : Prop := ∃ a vs, v = .ref a ∧ H a = some (.tup vs) ∧ Paired (EntAt H) vs row
def TTab (H : Hp) (a : Addr) (tab : Tab) : Prop := ∃ vs, H a = some (.tup vs) ∧ Paired (TRow H) vs tab
section
variable {H H' : Hp}
theorem TRow.same {v : V} {s : List Ent} (k : Same H H') (h : TRow H v s) : TRow H' v s := by
  obtain ⟨a, vs, e, h, h2⟩ := h
  exact ⟨a, vs, e, k _ _ h, paired_mono (fun _ _ => EntAt.same k) h2⟩
theorem TTab.same {a : Addr} {s : Tab} (k : Same H H') (h : TTab H a s) : TTab H' a s := by
  obtain ⟨vs, h, h2⟩ := h
  exact ⟨vs, k _ _ h, paired_mono (fun _ _ => TRow.same k) h2⟩
theorem TRow.kp {v : V} {s : List Ent} (k : Kp H H') (h : TRow H v s) : TRow H' v s := by
  obtain ⟨a, vs, e, h, h2⟩ := h
  exact ⟨a, vs, e, k.keep _ _ nd_tup h, paired_mono (fun _ _ => EntAt.kp k) h2⟩
theorem TTab.kp {a : Addr} {s : Tab} (k : Kp H H') (h : TTab H a s) : TTab H' a s := by
  obtain ⟨vs, h, h2⟩ := h
  exact ⟨vs, k.keep _ _ nd_tup h, paired_mono (fun _ _ => TRow.kp k) h2⟩
theorem TRow.any {v : V} {s : List Ent} (h : TRow H v s) : RRow H v s := by
  obtain ⟨a, vs, e, h, h2⟩ := h
  exact ⟨a, vs, e, .inr h, h2⟩
theorem TTab.any {a : Addr} {s : Tab} (h : TTab H a s) : RTab H a s := by
  obtain ⟨vs, h, h2⟩ := h
  exact ⟨vs, .inr h, paired_mono (fun _ _ => TRow.any) h2⟩
end
theorem EntAt.tp' {H H' : Hp} {v : V} {s : Ent} (k : ∀ b xs, H b = some (.tup xs) → H' b = some (.tup xs)) (h : EntAt H v s) : EntAt H' v s := by
  obtain ⟨a, t, e, h, h2⟩ := h
  exact ⟨a, t, e, k _ _ h, k _ _ h2⟩
theorem TRow.tp {H H' : Hp} {v : V} {s : List Ent} (k : ∀ b xs, H b = some (.tup xs) → H' b = some (.tup xs)) (h : TRow H v s) : TRow H' v s := by
  obtain ⟨a, vs, e, h, h2⟩ := h
  exact ⟨a, vs, e, k _ _ h, paired_mono (fun _ _ => EntAt.tp' k) h2⟩
structure MachAt (C : Addr) (H : Hp) (p dx a b t : Addr) (ins outs : List Str) (T : Tab) : Prop where
  hp : H p = some (.ins C dx (mf a b t))
  ha : H a = some (.tup (ins.map V.str))
  hb : H b = some (.tup (outs.map V.str))
  ht : TTab H t T
theorem nd_ins {C dx : Addr} {fs : List (Str × V)} : Nd (.ins C dx fs) := fun _ _ _ _ _ h => by cases h
theorem MachAt.same {C : Addr} {H H' : Hp} {p dx a b t : Addr} {ins outs : List Str} {T : Tab} (k : Same H H') (h : MachAt C H p dx a b t ins outs T) : MachAt C H' p dx a b t ins outs T := ⟨k _ _ h.hp, k _ _ h.ha, k _ _ h.hb, h.ht.same k⟩
theorem MachAt.kp {C : Addr} {H H' : Hp} {p dx a b t : Addr} {ins outs : List Str} {T : Tab} (k : Kp H H') (h : MachAt C H p dx a b t ins outs T) : MachAt C H' p dx a b t ins outs T := ⟨k.keep _ _ nd_ins h.hp, k.keep _ _ nd_tup h.ha, k.keep _ _ nd_tup h.hb, h.ht.kp k⟩
/-- Machine -/
structure Mc (K : PySem.W.Frag) (mg : Str → Option Value) (C : Addr) : Prop where
  cl : Cls K C
  nL : NoAttr K C "letter_names"
  nO : NoAttr K C "outlet_names"
  nT : NoAttr K C "table"
  mgC : mg "Machine" = some (.ref C)
def rTup (K : PySem.W.Frag) : List V → Hp → VK → Prop := fun xs H Q => ∃ p ys, xs = [.ref p] ∧ ((SqL K H p ys ∧ ∀ l, H l = none → Q (.ref l) (upd H l (.tup ys))) ∨ (SqT K H p ys ∧ Q (.ref p) H))
section
variable {P : Program} {w : World} {K : PySem.W.Frag} {mg : Str → Option Value} {base : Heap}
def spMi (C : Addr) : Sp := fun vs H Q _ => ∃ (H0 : Hp) (p dx i o q : Addr) (ins outs : List Str) (T : Tab), vs = [.ref p, .ref i, .ref o, .ref q] ∧ Same H0 H ∧ H0 p = none ∧ H p = some (.ins C dx []) ∧ H0 i = some (.lst (ins.map V.str)) ∧ H0 o = some (.lst (outs.map V.str)) ∧ TabAt H0 q T ∧
  1 ≤ ins.length ∧ Nms ins ∧ Nms outs ∧ Lawful T ins.length outs.length ∧ ∀ (H' : Hp) (a b t : Addr), Same H0 H' → MachAt C H' p dx a b t ins outs T → Q .non H'
abbrev nmMi : List Str := ["self", "letters", "outlets", "rows", "row", "after", "sends"]
theorem scMi : FnScope nmMi ["self", "letters", "outlets", "rows"] (defScope sMi) := ⟨rfl, rfl, rfl, by decide +kernel, rfl, by decide +kernel, by decide +kernel⟩
def fldE : Stmt → Expr
  | .Assign _ (.Call _ (e :: _) _ _) _ => e
  | _ => .Constant .none 0 ⟨0, 0, 0, 0⟩
abbrev scMi1 : Scope := lcScope (fldE ((defBody sMi).getD 6 (.Pass ⟨0, 0, 0, 0⟩)))
abbrev teRow (K : PySem.W.Frag) : TE := tCB (rTup K) (tCons (tLc (iSeq K (tVar 4)) (gTup K 2 (gCons (gName 5) (gCons (gName 6) gNil))) tYes (tTup (tCons (tVar 5) (tCons (tCB (rTup K) (tCons (tVar 6) tNil)) tNil))) [5, 6]) tNil)
theorem ok_mi {f C fS fN fR fU fH : Addr} {fd fdS fdN fdR fdU fdH : FuncData} {k : Nat} (F : Fun K "__init__" "Machine.__init__" sMi f fd) (M : Mc K mg C)
    (GS : FnOk P w K mg base CX0 k fS fdS ["letters", "outlets", "rows"] (spRsz K)) (kS : PySem.W.keepIn K (.ref fS) = true) (bS : Binds K fdS ["letters", "outlets", "rows"] []) (gS : mg "refuse_sizes" = some (.ref fS))
    (GN : FnOk P w K mg base CX0 k fN fdN ["names"] (spRnm K)) (kN : PySem.W.keepIn K (.ref fN) = true) (bN : Binds K fdN ["names"] []) (gN : mg "refuse_names" = some (.ref fN))
    (GR : FnOk P w K mg base CX0 k fR fdR ["rows", "letters", "outlets"] spRrw) (kR : PySem.W.keepIn K (.ref fR) = true) (bR : Binds K fdR ["rows", "letters", "outlets"] []) (gR : mg "refuse_rows" = some (.ref fR))
    (GU : FnOk P w K mg base CX0 k fU fdU ["rows"] spRun) (kU : PySem.W.keepIn K (.ref fU) = true) (bU : Binds K fdU ["rows"] []) (gU : mg "refuse_unreached" = some (.ref fU))
    (GH : FnOk P w K mg base CX0 k fH fdH ["rows", "letters"] (spRh K)) (kH : PySem.W.keepIn K (.ref fH) = true) (bH : Binds K fdH ["rows", "letters"] []) (gH : mg "refuse_heeding" = some (.ref fH)) (B : Bi mg) :
    FnOk P w K mg base CX0 (k + 1) f fd ["self", "letters", "outlets", "rows"] (spMi C) := by
  refine F.ok scMi (fun vs H Q E h => ?_) (fun cdv A outer s H vs Q E hr h => ?_)
  · obtain ⟨H0, p, dx, i, o, q, ins, outs, T, rfl, _⟩ := h
    rfl
  · obtain ⟨H0, p, dx, i, o, q, ins, outs, T, rfl, s0, p0, hp, hi, ho, hq, i1, ni, no, law, Qk⟩ := h
    refine ⟨_, pss_cons (ps_expr (pe_call GS hr (by rfl) gS kS bS .nil pass0 (pa_cons (pv 1) (pa_cons (pv 2) (pa_cons (pv 3) pa_nil)))))
      (pss_cons (ps_expr (pe_call GN hr (by rfl) gN kN bN .nil pass0 (pa_cons (pv 1) pa_nil)))
      (pss_cons (ps_expr (pe_call GN hr (by rfl) gN kN bN .nil pass0 (pa_cons (pv 2) pa_nil)))
      (pss_cons (ps_expr (pe_call GR hr (by rfl) gR kR bR .nil pass0 (pa_cons (pv 3) (pa_cons (pe_callB call_len_seq (by rfl) B.len PySem.boot_len (pa_cons (pv 1) pa_nil)) (pa_cons (pe_callB call_len_seq (by rfl) B.len PySem.boot_len (pa_cons (pv 2) pa_nil)) pa_nil)))))
      (pss_cons (ps_fld (pv 0) (pe_callTy (r := rTup K) call_tuple_of (by rfl) B.tup (by decide +kernel) (pa_cons (pv 1) pa_nil)) rfl)
      (pss_cons (ps_fld (pv 0) (pe_callTy (r := rTup K) call_tuple_of (by rfl) B.tup (by decide +kernel) (pa_cons (pv 2) pa_nil)) rfl)
      (pss_cons (ps_fld (pv 0) (pe_callTy (r := rTup K) call_tuple_of (by rfl) B.tup (by decide +kernel) (pa_cons
        (pe_lc (own := [("row", 4)]) (g := gName 4) (te := teRow K) rfl scMi.nd (pi_seq (pv 3)) (blkOk_by (own := [("row", 4)]) (N := nmMi) (sc := defScope sMi) (by decide +kernel)) (fun _ _ _ _ _ => pg_name (i := 4) scMi.nd rfl (Or.inl rfl)) (fun _ _ _ _ _ => pts_nil)
          (fun _ _ _ _ _ => pe_callTy (r := rTup K) call_tuple_of (by rfl) B.tup (by decide +kernel) (pa_cons
            (pe_lc (own := [("after", 5), ("sends", 6)]) rfl scMi.nd (pi_seq (pv 4)) (blkOk_by (own := [("after", 5), ("sends", 6)]) (N := nmMi) (sc := scMi1) (by decide +kernel))
              (fun _ _ _ _ _ => pg_tup rfl (pgs_cons (pg_name (i := 5) scMi.nd rfl (Or.inl rfl)) (pgs_cons (pg_name (i := 6) scMi.nd rfl (Or.inl rfl)) pgs_nil))) (fun _ _ _ _ _ => pts_nil)
              (fun _ _ _ _ _ => pe_tup (pa_cons (pv 5) (pa_cons (pe_callTy (r := rTup K) call_tuple_of (by rfl) B.tup (by decide +kernel) (pa_cons (pv 6) pa_nil)) pa_nil)))) pa_nil))) pa_nil)) rfl)
      (pss_cons (ps_expr (pe_call GU hr (by rfl) gU kU bU .nil pass0 (pa_cons (pe_fld (pv 0) rfl) pa_nil)))
      (pss_one (ps_expr (pe_call GH hr (by rfl) gH kH bH .nil pass0 (pa_cons (pe_fld (pv 0) rfl) (pa_cons (pe_fld (pv 0) rfl) pa_nil)))))))))))), ?_⟩
    have li : (ins.map V.str).length = ins.length := List.length_map _
    have lo : (outs.map V.str).length = outs.length := List.length_map _
    have law' : Lawful T (ins.map V.str).length (outs.map V.str).length := by
      rw [li, lo]
      exact law
    have n1 := law.n1
    have n60 := law.n60
    have i3 := ni.l3
    have o3 := no.l3
    obtain ⟨vt, hvt, pvt⟩ := id hq
    have lvt := pvt.length
    refine ⟨_, rfl, _, rfl, _, rfl, i, o, q, _, _, _, rfl, .inl (SqL.of (s0 _ _ hi)), .inl (SqL.of (s0 _ _ ho)), .inl (SqL.of (s0 _ _ hvt)), by omega, by omega, by omega, by omega, by omega, ?_⟩
    refine ⟨_, rfl, i, ins, rfl, SqL.of (s0 _ _ hi), ni, fun H1 s1 => ?_⟩
    have s01 := s0.trans s1
    refine ⟨_, rfl, o, outs, rfl, SqL.of (s01 _ _ ho), no, fun H2 s2 => ?_⟩
    have s02 := s01.trans s2
    refine ⟨_, rfl, _, rfl, i, _, rfl, .inl (SqL.of (s02 _ _ hi)), _, rfl, o, _, rfl, .inl (SqL.of (s02 _ _ ho)), q, T, _, _, rfl, hq.same s02, law', by omega, by omega, fun H3 s3 => ?_⟩
    have s03 := s02.trans s3
    have hp3 := ((s1.trans s2).trans s3) _ _ hp
    clear s0 s1 s2 s3 s01 s02 hp
    -- letter_names
    refine ⟨_, rfl, i, _, rfl, .inl ⟨SqL.of (s03 _ _ hi), fun a na => ?_⟩⟩
    have sa := same_upd (o := .tup (ins.map V.str)) na
    have a0 := s03.free na
    have nap : a ≠ p := ne_of_fresh hp3 na
    refine ⟨_, rfl, p, C, dx, [], rfl, sa _ _ hp3, M.cl, M.nL, (by show 0 < 1000; decide), ?_⟩
    have s04 := (s03.trans sa).put (o := .ins C dx (putF "letter_names" (.ref a) [])) p0
    have hp4 : (upd (upd H3 a (.tup (ins.map V.str))) p (.ins C dx (putF "letter_names" (.ref a) []))) p = some (.ins C dx (putF "letter_names" (.ref a) [])) := upd_same
    have ha4 : (upd (upd H3 a (.tup (ins.map V.str))) p (.ins C dx (putF "letter_names" (.ref a) []))) a = some (.tup (ins.map V.str)) := by rw [upd_ne nap, upd_same]
    generalize (upd (upd H3 a (.tup (ins.map V.str))) p (.ins C dx (putF "letter_names" (.ref a) []))) = H4 at *
    -- outlet_names
    refine ⟨_, rfl, o, _, rfl, .inl ⟨SqL.of (s04 _ _ ho), fun b nb => ?_⟩⟩
    have sb := same_upd (o := .tup (outs.map V.str)) nb
    have b0 := s04.free nb
    have nbp : b ≠ p := ne_of_fresh hp4 nb
    refine ⟨_, rfl, p, C, dx, _, rfl, sb _ _ hp4, M.cl, M.nO, Nat.lt_of_le_of_lt (put_len _ _ _) (by show 1 < 1000; decide), ?_⟩
    have s05 := (s04.trans sb).put (o := .ins C dx (putF "outlet_names" (.ref b) (putF "letter_names" (.ref a) []))) p0
    have hp5 : (upd (upd H4 b (.tup (outs.map V.str))) p (.ins C dx (putF "outlet_names" (.ref b) (putF "letter_names" (.ref a) [])))) p = some (.ins C dx (putF "outlet_names" (.ref b) (putF "letter_names" (.ref a) []))) := upd_same
    have hb5 : (upd (upd H4 b (.tup (outs.map V.str))) p (.ins C dx (putF "outlet_names" (.ref b) (putF "letter_names" (.ref a) [])))) b = some (.tup (outs.map V.str)) := by rw [upd_ne nbp, upd_same]
    have ha5 : (upd (upd H4 b (.tup (outs.map V.str))) p (.ins C dx (putF "outlet_names" (.ref b) (putF "letter_names" (.ref a) [])))) a = some (.tup (ins.map V.str)) := by
      rw [upd_ne nap]
      exact sb _ _ ha4
    generalize (upd (upd H4 b (.tup (outs.map V.str))) p (.ins C dx (putF "outlet_names" (.ref b) (putF "letter_names" (.ref a) [])))) = H5 at *
    -- table
    obtain ⟨vs, hv, pr⟩ := (hq.same s05).any
    refine ⟨_, rfl, q, rfl, ?_⟩
    refine lc_seq (K := K) (a := q) (xs := vs) hv (fun D j H' => ∃ ws : List V, Same H5 H' ∧ H' D = some (.lst ws) ∧ Paired (TRow (st [D] H')) ws (T.take j)) (fun D nD => ⟨[], same_upd nD, upd_same, by rw [List.take_zero]; exact .nil⟩) (fun D j H' nD ⟨_, sm, _⟩ o' ho' => sm _ _ ho') ?_ ?_
    · rintro D j x H6 nD hx ⟨ws, sm6, hD6, pp6⟩
      obtain ⟨row, hrow, b', us, rfl, hb', pe⟩ := paired_get pr j x hx
      have rin := List.mem_of_getElem? hrow
      have rl := law.rl row rin
      have lws := pp6.length
      rw [List.length_take] at lws
      have jl := (List.getElem?_eq_some_iff.mp hrow).1
      have lus := pe.length
      refine ⟨rfl, ?_⟩
      refine ⟨_, rfl, b', rfl, ?_⟩
      refine lc_seq (K := K) (a := b') (xs := us) (hb'.same sm6) (fun D2 m H' => ∃ es : List V, Same H6 H' ∧ H' D2 = some (.lst es) ∧ Paired (EntAt (st [D2, D] H')) es (row.take m)) (fun D2 nD2 => ⟨[], same_upd nD2, upd_same, by rw [List.take_zero]; exact .nil⟩) (fun D2 m H' nD2 ⟨_, sm, _⟩ o' ho' => sm _ _ ho') ?_ ?_
      · rintro D2 m y H7 nD2 hy ⟨es, sm7, hD7, pp7⟩
        obtain ⟨e, hem, c, t, rfl, hc, ht⟩ := paired_get pe m y hy
        have sm57 := sm6.trans sm7
        have les := pp7.length
        rw [List.length_take] at les
        have ml := (List.getElem?_eq_some_iff.mp hem).1
        refine ⟨c, _, rfl, SqT.of (sm57 _ _ hc), rfl, _, _, rfl, _, _, rfl, rfl, ?_⟩
        refine ⟨rfl, ?_⟩
        refine ⟨_, rfl, _, rfl, t, _, rfl, .inr ⟨SqT.of (sm57 _ _ ht), ?_⟩⟩
        refine ⟨(by show 2 ≤ sizeLine; decide), fun g ng => ?_⟩
        have sg := same_upd (o := .tup [.int e.1, .ref t]) ng
        refine ⟨_, sg _ _ hD7, small1000 (by omega), es ++ [.ref g], (sm7.trans sg).put nD2, upd_same, ?_⟩
        rw [st_upd (by simp), List.take_add_one, hem]
        have ngD2 : g ≠ D2 := ne_of_fresh hD7 ng
        have ngD : g ≠ D := ne_of_fresh (sm7 _ _ hD6) ng
        have ntD2 : t ≠ D2 := ne_of_none (sm6 _ _ ht) nD2
        have ntD : t ≠ D := ne_of_none ht nD
        refine paired_snoc (paired_mono (fun _ _ => EntAt.same (st_mono sg)) pp7) ⟨g, t, rfl, ?_, ?_⟩
        · rw [st_get (by simp [ngD2, ngD])]
          exact upd_same
        · rw [st_get (by simp [ntD2, ntD])]
          exact sg _ _ (sm57 _ _ ht)
      · rintro D2 H7 nD2 ⟨es, sm7, hD7, pp7⟩
        rw [List.take_of_length_le (by omega)] at pp7
        refine ⟨D2, es, rfl, .inl ⟨SqL.of hD7, fun g ng => ?_⟩⟩
        have sg := same_upd (o := .tup es) ng
        have ngD : g ≠ D := ne_of_fresh (sm7 _ _ hD6) ng
        refine ⟨_, sg _ _ (sm7 _ _ hD6), small1000 (by omega), ws ++ [.ref g], ((sm6.trans sm7).trans sg).put nD, upd_same, ?_⟩
        rw [st_upd (by simp), List.take_add_one, hrow]
        refine paired_snoc (paired_mono (fun _ _ => TRow.same (st_mono (sm7.trans sg))) pp6) ⟨g, es, rfl, ?_, paired_mono (fun _ _ h => EntAt.same (st_mono sg) (EntAt.same st_sub h)) pp7⟩
        rw [st_get (by simp [ngD])]
        exact upd_same
    rintro D H6 nD ⟨ws, sm6, hD6, pp6⟩
    rw [List.take_of_length_le (by rw [pr.length]; exact Nat.le_refl _)] at pp6
    refine ⟨D, ws, rfl, .inl ⟨SqL.of hD6, fun t nt => ?_⟩⟩
    have st' := same_upd (o := .tup ws) nt
    have ntp : t ≠ p := ne_of_fresh (sm6 _ _ hp5) nt
    refine ⟨_, rfl, p, C, dx, _, rfl, st' _ _ (sm6 _ _ hp5), M.cl, M.nT, Nat.lt_of_le_of_lt (put_len _ _ _) (Nat.lt_of_le_of_lt (Nat.succ_le_succ (put_len _ _ _)) (by show 2 < 1000; decide)), ?_⟩
    have s07 := ((s05.trans sm6).trans st').put (o := .ins C dx (mf a b t)) p0
    have hp6 := st' _ _ (sm6 _ _ hp5)
    have tp7 : ∀ c xs, (upd H6 t (.tup ws)) c = some (.tup xs) → (upd (upd H6 t (.tup ws)) p (.ins C dx (mf a b t))) c = some (.tup xs) := fun c xs hc => by
      rw [upd_ne]
      · exact hc
      · intro z
        rw [z, hp6] at hc
        cases hc
    have mc : MachAt C (upd (upd H6 t (.tup ws)) p (.ins C dx (mf a b t))) p dx a b t ins outs T :=
      ⟨upd_same, tp7 _ _ (st' _ _ (sm6 _ _ ha5)), tp7 _ _ (st' _ _ (sm6 _ _ hb5)), ws, tp7 _ _ upd_same, paired_mono (fun _ _ h => TRow.tp tp7 (TRow.same st' (TRow.same st_same h))) pp6⟩
    show tSeq _ _ _ _ (upd (upd H6 t (.tup ws)) p (.ins C dx (mf a b t)))
    generalize (upd (upd H6 t (.tup ws)) p (.ins C dx (mf a b t))) = H7 at *
    -- refuse_unreached, refuse_heeding
    refine ⟨_, rfl, p, C, dx, _, _, rfl, mc.hp, M.cl, M.nT, mf_t _ _ _, t, T, rfl, mc.ht.any, law.nxt (by omega), law.n1, law.re, fun H8 s8 => ?_⟩
    have mc8 := mc.same s8
    refine ⟨_, rfl, p, C, dx, _, _, rfl, mc8.hp, M.cl, M.nT, mf_t _ _ _, _, rfl, p, C, dx, _, _, rfl, mc8.hp, M.cl, M.nL, mf_l _ _ _, t, a, T, _, outs.length, rfl, mc8.ht.any, .inr (SqT.of mc8.ha), fun H9 s9 => .inr (SqT.of (s9 _ _ mc8.ha)), by omega, by rw [li]; exact law, by omega, fun H9 s9 => ?_⟩
    exact Qk H9 a b t ((s07.trans s8).trans s9) (mc8.same s9)
/-! rows -/
def spMr (C : Addr) : Sp := fun vs H Q _ => ∃ (p dx a b t : Addr) (ins outs : List Str) (T : Tab), vs = [.ref p] ∧ MachAt C H p dx a b t ins outs T ∧ T.length ≤ 60 ∧ ∀ (H' : Hp) (q : Addr), Same H H' → H q = none → TabAt H' q T → Q (.ref q) H'
theorem scMr : FnScope ["self", "row"] ["self"] (defScope sMr) := ⟨rfl, rfl, rfl, by decide +kernel, rfl, by decide +kernel, by decide +kernel⟩
def rLst (K : PySem.W.Frag) : List V → Hp → VK → Prop := fun xs H Q => ∃ p ys, xs = [.ref p] ∧ (SqL K H p ys ∨ SqT K H p ys) ∧ ∀ l, H l = none → Q (.ref l) (upd H l (.lst ys))
theorem ok_mr {f C : Addr} {fd : FuncData} {k : Nat} (F : Fun K "rows" "Machine.rows" sMr f fd) (M : Mc K mg C) (B : Bi mg) : FnOk P w K mg base CX0 (k + 1) f fd ["self"] (spMr C) := by
  refine F.ok scMr (fun vs H Q E h => ?_) (fun cdv A outer s H vs Q E hr h => ?_)
  · obtain ⟨p, dx, a, b, t, ins, outs, T, rfl, _⟩ := h
    rfl
  · obtain ⟨p, dx, a, b, t, ins, outs, T, rfl, mc, n60, q⟩ := h
    refine ⟨_, pss_one (ps_ret (pe_lc (own := [("row", 1)]) (g := gName 1) (te := tCB (rLst K) (tCons (tVar 1) tNil)) rfl scMr.nd (pi_tup (pe_fld (pv 0) rfl)) (blkOk_by (own := [("row", 1)]) (N := ["self", "row"]) (sc := defScope sMr) (by decide +kernel)) (fun _ _ _ _ _ => pg_name (i := 1) scMr.nd rfl (Or.inl rfl)) (fun _ _ _ _ _ => pts_nil)
      (fun _ _ _ _ _ => pe_callTy (r := rLst K) call_list_of (by rfl) B.lst (by decide +kernel) (pa_cons (pv 1) pa_nil)))), ?_⟩
    obtain ⟨vs, hv, pr⟩ := mc.ht
    have lvs := pr.length
    refine ⟨_, rfl, p, C, dx, _, _, rfl, mc.hp, M.cl, M.nT, mf_t _ _ _, t, rfl, ⟨_, SqT.of hv⟩, fun D nD => ?_⟩
    refine lc_tup (K := K) (a := t) (xs := vs) (fun j H' => ∃ ws : List V, Same H H' ∧ H' D = some (.lst ws) ∧ Paired (RowAt (st [D] H')) ws (T.take j)) ⟨[], same_upd nD, upd_same, by rw [List.take_zero]; exact .nil⟩ (fun j H' _ ⟨_, sm, _⟩ => SqT.of (sm _ _ hv)) ?_ ?_
    · rintro j x H1 hx ⟨ws, sm, hD, pp⟩
      obtain ⟨row, hrow, c, us, rfl, hc, pe⟩ := paired_get pr j x hx
      have lws := pp.length
      rw [List.length_take] at lws
      refine ⟨rfl, ?_⟩
      refine ⟨_, rfl, c, us, rfl, .inr (SqT.of (sm _ _ hc)), fun g ng => ?_⟩
      have sg := same_upd (o := .lst us) ng
      have ngD : g ≠ D := ne_of_fresh hD ng
      refine ⟨_, sg _ _ hD, small1000 (by omega), ws ++ [.ref g], (sm.trans sg).put nD, upd_same, ?_⟩
      rw [st_upd (by simp), List.take_add_one, hrow]
      have sD : Same H (st [D] (upd H1 g (.lst us))) := fun b' o' e' => by
        rw [st_get (by simp [ne_of_none e' nD])]
        exact (sm.trans sg) _ _ e'
      refine paired_snoc (paired_mono (fun _ _ => RowAt.same (st_mono sg)) pp) ⟨g, us, rfl, ?_, paired_mono (fun _ _ => EntAt.same sD) pe⟩
      rw [st_get (by simp [ngD])]
      exact upd_same
    · rintro H1 ⟨ws, sm, hD, pp⟩
      rw [List.take_of_length_le (by omega)] at pp
      exact q H1 D sm nD ⟨ws, hD, paired_mono (fun _ _ => RowAt.same st_same) pp⟩
end
end Hl

set_option Elab.async false
set_option linter.all false
set_option maxRecDepth 100000
set_option maxHeartbeats 4000000
namespace Hl
open PySem PySem.Spec PyProof.Rows L2
abbrev sCb : Stmt := topS 43
abbrev sCa : Stmt := topS 44
/-- a def that stands, keeps its promise, is called by its place -/
structure Has (P : Program) (w : World) (K : PySem.W.Frag) (mg : Str → Option Value) (base : Heap) (k : Nat) (x : Str) (ps : List Str) (sp : Sp) (f : Addr) (fd : FuncData) : Prop where
  G : FnOk P w K mg base CX0 k f fd ps sp
  kp : PySem.W.keepIn K (.ref f) = true
  b : Binds K fd ps []
  g : mg x = some (.ref f)
/-- what is come to from a stand -/
def SeenAt (T : Tab) (H : Hp) (v : V) (j : Nat) : Prop := ∃ c found, v = .ref c ∧ H c = some (.lst ((seenL T.length found).map V.bl)) ∧ ∀ x, x ∈ found ↔ Rch T j x
theorem SeenAt.same {T : Tab} {H H' : Hp} {v : V} {j : Nat} (k : Same H H') (h : SeenAt T H v j) : SeenAt T H' v j := by
  obtain ⟨c, f, e, h, x⟩ := h
  exact ⟨c, f, e, k _ _ h, x⟩
def ReachAt (H : Hp) (a : Addr) (T : Tab) : Prop := ∃ vs, H a = some (.lst vs) ∧ Paired (SeenAt T H) vs (List.range T.length)
theorem ReachAt.same {T : Tab} {H H' : Hp} {a : Addr} (k : Same H H') (h : ReachAt H a T) : ReachAt H' a T := by
  obtain ⟨vs, h, p⟩ := h
  exact ⟨vs, k _ _ h, paired_mono (fun _ _ => SeenAt.same k) p⟩
/-- a stand that comes again -/
def Bk (T : Tab) (s : Nat) : Prop := ∀ j, j < T.length → Rch T s j → Rch T j s
open Classical in
noncomputable def bkB (T : Tab) (s : Nat) : Bool := decide (Bk T s)
open Classical in
theorem bkB_of {T : Tab} {s : Nat} {b : Bool} (h : b = true ↔ Bk T s) : b = bkB T s := by
  unfold bkB
  by_cases hb : Bk T s
  · rw [h.mpr hb]
    exact (decide_eq_true hb).symm
  · rw [decide_eq_false hb]
    cases b with
    | false => rfl
    | true => exact absurd (h.mp rfl) hb
noncomputable def againL (T : Tab) (n : Nat) : List Nat := (List.range n).filter (bkB T)
theorem againL_succ {T : Tab} {n : Nat} : againL T (n + 1) = againL T n ++ (if bkB T n = true then [n] else []) := by
  unfold againL
  rw [List.range_succ, List.filter_append]
  congr 1
  by_cases h : bkB T n = true
  · rw [if_pos h, List.filter_cons_of_pos h]
    rfl
  · rw [if_neg h, List.filter_cons_of_neg h]
    rfl
theorem againL_len (T : Tab) (n : Nat) : (againL T n).length ≤ n := Nat.le_trans (List.length_filter_le _ _) (by rw [List.length_range]; exact Nat.le_refl _)
theorem range_get2 {α : Type} {R : α → Nat → Prop} {vs : List α} {n i : Nat} (h : Paired R vs (List.range n)) (hi : i < n) : ∃ v, vs[i]? = some v ∧ R v i := paired_get2 h i i (List.getElem?_range hi)
section
variable {P : Program} {w : World} {K : PySem.W.Frag} {mg : Str → Option Value} {base : Heap}
/-! comes_back -/
def spCb : Sp := fun vs H Q _ => ∃ (a : Addr) (T : Tab) (s : Nat), vs = [.ref a, .int s] ∧ ReachAt H a T ∧ s < T.length ∧ T.length ≤ 60 ∧ ∀ H', Same H H' → Q (.bl (bkB T s)) H'
theorem scCb : FnScope ["reach", "stand", "other"] ["reach", "stand"] (defScope sCb) := ⟨rfl, rfl, rfl, by decide +kernel, rfl, by decide +kernel, by decide +kernel⟩
theorem ok_cb {f : Addr} {fd : FuncData} {k : Nat} (F : Fun K "comes_back" "comes_back" sCb f fd) (B : Bi mg) : FnOk P w K mg base CX0 (k + 1) f fd ["reach", "stand"] spCb := by
  refine F.ok scCb (fun vs H Q E h => ?_) (fun cdv A outer s H vs Q E hr h => ?_)
  · obtain ⟨a, T, s, rfl, _⟩ := h
    rfl
  · obtain ⟨a, T, st0, rfl, ⟨vs, hv, pr⟩, sl, n60, q⟩ := h
    refine ⟨_, pss_one (ps_ret (pe_callB (cr_all rfl) (by rfl) B.all (by decide +kernel) (pa_cons
      (pe_lc (own := [("other", 2)]) (g := gName 2) (te := tOp (rIxL K) (tOp (rIxL K) (tVar 0) (tVar 2)) (tVar 1)) rfl scCb.nd (pi_range1 (by rfl) B.rng (pa_cons (pe_callB call_len_seq (by rfl) B.len PySem.boot_len (pa_cons (pv 0) pa_nil)) pa_nil)) (blkOk_by (own := [("other", 2)]) (N := ["reach", "stand", "other"]) (sc := defScope sCb) (by decide +kernel))
        (fun _ _ _ _ _ => pg_name (i := 2) scCb.nd rfl (Or.inl rfl)) (fun _ _ _ _ _ => pts_one (pt_val (pe_ix (r := rIxL K) ix_list (pe_ix (r := rIxL K) ix_list (pv 0) (pv 1) (fun _ _ => rfl)) (pv 2) (fun _ _ => rfl))))
        (fun _ _ _ _ _ => pe_ix (r := rIxL K) ix_list (pe_ix (r := rIxL K) ix_list (pv 0) (pv 2) (fun _ _ => rfl)) (pv 1) (fun _ _ => rfl))) pa_nil))), ?_⟩
    have lvs := pr.length
    rw [List.length_range] at lvs
    obtain ⟨v0, hv0, c0, f0, rfl, hc0, x0⟩ := range_get2 pr sl
    refine ⟨_, rfl, a, vs, rfl, .inl (SqL.of hv), (vs.length : Int), rfl, by omega, by omega, fun D nD => ?_⟩
    refine lc_range (lo := 0) (n := vs.length) (fun j H' => ∃ bs : List Bool, Same H H' ∧ H' D = some (.lst (bs.map V.bl)) ∧ bs.length ≤ j ∧ (bs.all id = true ↔ ∀ x, x < j → Rch T st0 x → Rch T x st0)) ⟨[], same_upd nD, upd_same, Nat.le_refl _, ⟨fun _ x hx => absurd hx (Nat.not_lt_zero _), fun _ => rfl⟩⟩ ?_ ?_
    · rintro j H1 hj ⟨bs, sm, hD, lb, al⟩
      have jl : j < T.length := by omega
      obtain ⟨v1, hv1, c1, f1, rfl, hc1, x1⟩ := range_get2 pr jl
      have g0 : ((seenL T.length f0).map V.bl)[j]? = some (.bl (decide (j ∈ f0))) := by
        rw [List.getElem?_map, seenL_get jl]
        rfl
      have g1 : ((seenL T.length f1).map V.bl)[st0]? = some (.bl (decide (st0 ∈ f1))) := by
        rw [List.getElem?_map, seenL_get sl]
        rfl
      refine ⟨rfl, ?_⟩
      refine ⟨_, rfl, _, rfl, a, vs, _, _, rfl, rfl, SqL.of (sm _ _ hv), atI_nat (j := st0) hv0, _, rfl, c0, _, _, _, rfl, rfl, SqL.of (sm _ _ hc0), at_of (j := j) (by omega) g0, _, rfl, ?_⟩
      by_cases hin : j ∈ f0
      · rw [decide_eq_true hin]
        refine iT rfl ?_
        refine ⟨_, rfl, _, rfl, a, vs, _, _, rfl, rfl, SqL.of (sm _ _ hv), at_of (j := j) (by omega) hv1, _, rfl, c1, _, _, _, rfl, rfl, SqL.of (sm _ _ hc1), atI_nat (j := st0) g1, ?_⟩
        refine ⟨_, hD, ?_, bs ++ [decide (st0 ∈ f1)], sm.put nD, ?_, ?_, ?_⟩
        · rw [List.length_map]
          exact small1000 (by omega)
        · rw [upd_same, List.map_append]
          rfl
        · rw [List.length_append]
          exact Nat.succ_le_succ lb
        · rw [List.all_append, Bool.and_eq_true, al]
          constructor
          · rintro ⟨h1, h2⟩ x hx rx
            by_cases hxj : x < j
            · exact h1 x hxj rx
            · have : x = j := by omega
              subst this
              exact (x1 st0).mp (of_decide_eq_true (by simpa using h2))
          · intro h
            refine ⟨fun x hx => h x (by omega), ?_⟩
            have := (x1 st0).mpr (h j (by omega) ((x0 j).mp hin))
            simp [this]
      · rw [decide_eq_false hin]
        refine iF rfl ⟨bs, sm, hD, by omega, ?_⟩
        rw [al]
        constructor
        · intro h x hx rx
          by_cases hxj : x < j
          · exact h x hxj rx
          · have : x = j := by omega
            subst this
            exact absurd ((x0 x).mpr rx) hin
        · intro h x hx
          exact h x (by omega)
    · rintro H1 ⟨bs, sm, hD, lb, al⟩
      refine ⟨D, bs, rfl, SqL.of hD, ?_⟩
      rw [lvs] at al
      rw [show bs.all id = bkB T st0 from bkB_of al]
      exact q H1 sm
/-! coming_again -/
def spCa (C : Addr) : Sp := fun vs H Q _ => ∃ (p dx a b t : Addr) (ins outs : List Str) (T : Tab), vs = [.ref p] ∧ MachAt C H p dx a b t ins outs T ∧ Nxt T ∧ ∀ (H' : Hp) (q : Addr), Same H H' → H q = none → H' q = some (.lst (natV (againL T T.length))) → Q (.ref q) H'
abbrev nmCa : List Str := ["machine", "rows", "reach", "stand"]
theorem scCa : FnScope nmCa ["machine"] (defScope sCa) := ⟨rfl, rfl, rfl, by decide +kernel, rfl, by decide +kernel, by decide +kernel⟩
theorem ok_ca {f C fR fX fB : Addr} {fd fdR fdX fdB : FuncData} {k : Nat} (F : Fun K "coming_again" "coming_again" sCa f fd) (M : Mc K mg C) (B : Bi mg)
    (GR : FnOk P w K mg base CX0 k fR fdR ["self"] (spMr C)) (mR : Meth K C "rows" fR) (bR : Binds K fdR ["self"] [])
    (X : Has P w K mg base k "reached" ["rows", "first"] spRea fX fdX) (Cb : Has P w K mg base k "comes_back" ["reach", "stand"] spCb fB fdB) :
    FnOk P w K mg base CX0 (k + 1) f fd ["machine"] (spCa C) := by
  refine F.ok scCa (fun vs H Q E h => ?_) (fun cdv A outer s H vs Q E hr h => ?_)
  · obtain ⟨p, dx, a, b, t, ins, outs, T, rfl, _⟩ := h
    rfl
  · obtain ⟨p, dx, a, b, t, ins, outs, T, rfl, mc, nx, q⟩ := h
    refine ⟨_, pss_cons (ps_set (i := 1) scCa.nd rfl (.inr rfl) (pe_meth0 (pv 0) M.cl mR GR hr bR .nil pass0))
      (pss_cons (ps_set (i := 2) scCa.nd rfl (.inr rfl) (pe_lc (own := [("stand", 3)]) (g := gName 3) rfl scCa.nd (pi_range1 (by rfl) B.rng (pa_cons (pe_callB call_len_seq (by rfl) B.len PySem.boot_len (pa_cons (pv 1) pa_nil)) pa_nil)) (blkOk_by (own := [("stand", 3)]) (N := nmCa) (sc := defScope sCa) (by decide +kernel))
        (fun _ _ _ _ _ => pg_name (i := 3) scCa.nd rfl (Or.inl rfl)) (fun _ _ _ _ _ => pts_nil)
        (fun _ _ _ _ _ => pe_call X.G hr (by rfl) X.g X.kp X.b .nil pass0 (pa_cons (pv 1) (pa_cons (pv 3) pa_nil)))))
      (pss_one (ps_ret (pe_lc (own := [("stand", 3)]) (g := gName 3) rfl scCa.nd (pi_range1 (by rfl) B.rng (pa_cons (pe_callB call_len_seq (by rfl) B.len PySem.boot_len (pa_cons (pv 1) pa_nil)) pa_nil)) (blkOk_by (own := [("stand", 3)]) (N := nmCa) (sc := defScope sCa) (by decide +kernel))
        (fun _ _ _ _ _ => pg_name (i := 3) scCa.nd rfl (Or.inl rfl)) (fun _ _ _ _ _ => pts_one (pt_val (pe_call Cb.G hr (by rfl) Cb.g Cb.kp Cb.b .nil pass0 (pa_cons (pv 2) (pa_cons (pv 3) pa_nil)))))
        (fun _ _ _ _ _ => pv 3))))), ?_⟩
    have n60 := nx.n60
    refine ⟨_, rfl, p, dx, _, rfl, mc.hp, mf_no _ _ _ (by decide +kernel) (by decide +kernel) (by decide +kernel), p, dx, a, b, t, ins, outs, T, rfl, mc, n60, fun H1 r sm1 nr ht => ?_⟩
    obtain ⟨vs, hv, pr⟩ := id ht
    have lvs := pr.length
    refine ⟨_, rfl, r, vs, rfl, .inl (SqL.of hv), (vs.length : Int), rfl, by omega, by omega, fun D nD => ?_⟩
    refine lc_range (lo := 0) (n := vs.length) (fun j H' => ∃ ws : List V, Same H1 H' ∧ H' D = some (.lst ws) ∧ Paired (SeenAt T (st [D] H')) ws (List.range j)) ⟨[], same_upd nD, upd_same, .nil⟩ ?_ ?_
    · rintro j H2 hj ⟨ws, sm2, hD, pp⟩
      have lws := pp.length
      rw [List.length_range] at lws
      refine ⟨rfl, ?_⟩
      refine ⟨_, rfl, _, rfl, r, T, j, by rw [Int.zero_add]; rfl, (ht.same sm2).any, nx, by omega, fun H3 q3 found sm3 nq3 hq3 fnd => ?_⟩
      have nqD : q3 ≠ D := ne_of_fresh hD nq3
      refine ⟨_, sm3 _ _ hD, small1000 (by omega), ws ++ [.ref q3], (sm2.trans sm3).put nD, upd_same, ?_⟩
      rw [st_upd (by simp), List.range_succ]
      refine paired_snoc (paired_mono (fun _ _ => SeenAt.same (st_mono sm3)) pp) ⟨q3, found, rfl, ?_, fnd⟩
      rw [st_get (by simp [nqD])]
      exact hq3
    rintro H2 ⟨ws, sm2, hD, pp⟩
    rw [lvs] at pp
    have rc : ReachAt H2 D T := ⟨ws, hD, paired_mono (fun _ _ => SeenAt.same st_same) pp⟩
    refine ⟨_, rfl, r, vs, rfl, .inl (SqL.of (sm2 _ _ hv)), (vs.length : Int), rfl, by omega, by omega, fun D2 nD2 => ?_⟩
    refine lc_range (lo := 0) (n := vs.length) (fun j H' => Same H2 H' ∧ H' D2 = some (.lst (natV (againL T j)))) ⟨same_upd nD2, upd_same⟩ ?_ ?_
    · rintro j H3 hj ⟨sm3, hD3⟩
      refine ⟨rfl, ?_⟩
      refine ⟨_, rfl, _, rfl, D, T, j, by rw [Int.zero_add]; rfl, rc.same sm3, by omega, n60, fun H4 sm4 => ⟨_, rfl, ?_⟩⟩
      have hD4 := sm4 _ _ hD3
      have la := againL_len T j
      refine ite2 (fun e => ?_) (fun e => ?_)
      · refine ⟨_, rfl, _, hD4, ?_, (sm3.trans sm4).put nD2, ?_⟩
        · unfold natV
          rw [List.length_map]
          exact small1000 (by omega)
        · rw [upd_same, againL_succ, if_pos e]
          unfold natV
          rw [List.map_append]
          show some (HO.lst (_ ++ [V.int (0 + (j : Nat))])) = _
          rw [Int.zero_add]
          rfl
      · refine ⟨sm3.trans sm4, ?_⟩
        rw [hD4, againL_succ, if_neg e, List.append_nil]
    · rintro H3 ⟨sm3, hD3⟩
      rw [lvs] at hD3
      exact q H3 D2 ((sm1.trans sm2).trans sm3) (sm1.free (sm2.free nD2)) hD3
end
end Hl

set_option Elab.async false
set_option linter.all false
set_option maxRecDepth 100000
set_option maxHeartbeats 4000000
namespace Hl
open PySem PySem.Spec PyProof.Rows L2
abbrev sMade : Stmt := topS 66
theorem valV_ne {k k' : Key} {v : V} {l : List (Key × V)} (h : ¬ k' = k) : valV ((k', v) :: l) k = valV l k := by
  unfold valV
  rw [List.find?_cons_of_neg (by simpa using h)]
theorem valV_eq {k : Key} {v : V} {l : List (Key × V)} : valV ((k, v) :: l) k = some v := by
  unfold valV
  rw [List.find?_cons_of_pos (by simp)]
  rfl
theorem k_io : ¬ (Sum.inr "ins" : Key) = (Sum.inr "outs" : Key) := by decide +kernel
theorem k_ir : ¬ (Sum.inr "ins" : Key) = (Sum.inr "rows" : Key) := by decide +kernel
theorem k_or : ¬ (Sum.inr "outs" : Key) = (Sum.inr "rows" : Key) := by decide +kernel
section
variable {H : Hp} {m i o q : Addr} {ins outs : List Str} {T : Tab}
theorem Dev.gi (d : Dev H m i o q ins outs T) : DGet H m (.str "ins") (some (.ref i)) := DGet.k (k := Sum.inr "ins") d.d
theorem Dev.go (d : Dev H m i o q ins outs T) : DGet H m (.str "outs") (some (.ref o)) := by
  have h := DGet.k (k := Sum.inr "outs") d.d
  have e : valV ([(Sum.inr "ins", V.ref i), (Sum.inr "outs", V.ref o), (Sum.inr "rows", V.ref q)] : List (Key × V)) (Sum.inr "outs" : Key) = some (.ref o) := by
    rw [valV_ne k_io, valV_eq]
  rw [e] at h
  exact h
theorem Dev.gr (d : Dev H m i o q ins outs T) : DGet H m (.str "rows") (some (.ref q)) := by
  have h := DGet.k (k := Sum.inr "rows") d.d
  have e : valV ([(Sum.inr "ins", V.ref i), (Sum.inr "outs", V.ref o), (Sum.inr "rows", V.ref q)] : List (Key × V)) (Sum.inr "rows" : Key) = some (.ref q) := by
    rw [valV_ne k_ir, valV_ne k_or, valV_eq]
  rw [e] at h
  exact h
theorem Dev.same {H' : Hp} (k : Same H H') (d : Dev H m i o q ins outs T) : Dev H' m i o q ins outs T := ⟨k _ _ d.d, k _ _ d.hi, k _ _ d.ho, d.ht.same k⟩
end
theorem inV_nat {t : Nat} {ns : List Nat} : inV (.int (t : Nat)) (natV ns) = decide (t ∈ ns) := by
  unfold inV natV
  rw [List.any_map]
  by_cases h : t ∈ ns
  · rw [decide_eq_true h, List.any_eq_true]
    exact ⟨t, h, by simp [eqV]⟩
  · rw [decide_eq_false h, List.any_eq_false]
    intro x hx
    have : x ≠ t := fun e => h (e ▸ hx)
    simp [eqV]
    omega
theorem natV_len (ns : List Nat) : (natV ns).length = ns.length := by
  unfold natV
  rw [List.length_map]
section
variable {P : Program} {w : World} {K : PySem.W.Frag} {mg : Str → Option Value} {base : Heap}
/-! _law_made -/
def spMade (C : Addr) : Sp := fun vs H Q _ => ∃ (m i o q : Addr) (ins outs : List Str) (T : Tab), vs = [.ref m] ∧ Dev H m i o q ins outs T ∧ 1 ≤ ins.length ∧ Nms ins ∧ Nms outs ∧ Lawful T ins.length outs.length ∧
  ∀ (H' : Hp) (p dx a b t : Addr), Same H H' → H p = none → MachAt C H' p dx a b t ins outs T → Q (.ref p) H'
theorem scMd : FnScope ["_law_m", "_law_row"] ["_law_m"] (defScope sMade) := ⟨rfl, rfl, rfl, by decide +kernel, rfl, by decide +kernel, by decide +kernel⟩
theorem ok_made {f C fI : Addr} {fd fdI : FuncData} {k : Nat} (F : Fun K "_law_made" "_law_made" sMade f fd) (M : Mc K mg C) (B : Bi mg) (MK : Mk K C fI) (GI : FnOk P w K mg base CX0 k fI fdI ["self", "letters", "outlets", "rows"] (spMi C)) (bI : Binds K fdI ["self", "letters", "outlets", "rows"] []) :
    FnOk P w K mg base CX0 (k + 2) f fd ["_law_m"] (spMade C) := by
  refine F.ok scMd (fun vs H Q E h => ?_) (fun cdv A outer s H vs Q E hr h => ?_)
  · obtain ⟨m, i, o, q, ins, outs, T, rfl, _⟩ := h
    rfl
  · obtain ⟨m, i, o, q, ins, outs, T, rfl, dv, i1, ni, no, law, Qk⟩ := h
    refine ⟨_, pss_one (ps_ret (pe_make MK GI hr (by rfl) M.mgC bI .nil pass0 (pa_cons (pe_callTy (r := rLst K) call_list_of (by rfl) B.lst (by decide +kernel) (pa_cons (pe_dget (hu_of hr) (pv 0) pe_str (fun _ _ => rfl)) pa_nil))
      (pa_cons (pe_callTy (r := rLst K) call_list_of (by rfl) B.lst (by decide +kernel) (pa_cons (pe_dget (hu_of hr) (pv 0) pe_str (fun _ _ => rfl)) pa_nil))
      (pa_cons (pe_lc (own := [("_law_row", 1)]) (g := gName 1) (te := tCB (rLst K) (tCons (tVar 1) tNil)) rfl scMd.nd (pi_list (pe_dget (hu_of hr) (pv 0) pe_str (fun _ _ => rfl))) (blkOk_by (own := [("_law_row", 1)]) (N := ["_law_m", "_law_row"]) (sc := defScope sMade) (by decide +kernel)) (fun _ _ _ _ _ => pg_name (i := 1) scMd.nd rfl (Or.inl rfl)) (fun _ _ _ _ _ => pts_nil)
        (fun _ _ _ _ _ => pe_callTy (r := rLst K) call_list_of (by rfl) B.lst (by decide +kernel) (pa_cons (pv 1) pa_nil))) pa_nil))))), ?_⟩
    refine ⟨_, rfl, m, _, rfl, dv.gi, i, _, rfl, .inl (SqL.of dv.hi), fun a na => ?_⟩
    have sa := same_upd (o := .lst (ins.map V.str)) na
    have dv1 := dv.same sa
    have ha1 : (upd H a (.lst (ins.map V.str))) a = some (.lst (ins.map V.str)) := upd_same
    generalize (upd H a (.lst (ins.map V.str))) = H1 at *
    refine ⟨_, rfl, m, _, rfl, dv1.go, o, _, rfl, .inl (SqL.of dv1.ho), fun b nb => ?_⟩
    have sb := same_upd (o := .lst (outs.map V.str)) nb
    have dv2 := dv1.same sb
    have ha2 := sb _ _ ha1
    have hb2 : (upd H1 b (.lst (outs.map V.str))) b = some (.lst (outs.map V.str)) := upd_same
    have s02 := sa.trans sb
    generalize (upd H1 b (.lst (outs.map V.str))) = H2 at *
    obtain ⟨vs, hv, pr⟩ := dv2.ht
    have lvs := pr.length
    have n60 := law.n60
    refine ⟨_, rfl, m, _, rfl, dv2.gr, q, rfl, ⟨_, SqL.of hv⟩, fun D nD => ?_⟩
    refine lc_list (K := K) (a := q) (xs := vs) (fun j H' => ∃ ws : List V, Same H2 H' ∧ H' D = some (.lst ws) ∧ Paired (RowAt (st [D] H')) ws (T.take j)) ⟨[], same_upd nD, upd_same, by rw [List.take_zero]; exact .nil⟩ (fun j H' _ ⟨_, sm, _⟩ => SqL.of (sm _ _ hv)) ?_ ?_
    · rintro j x H3 hx ⟨ws, sm, hD, pp⟩
      obtain ⟨row, hrow, c, us, rfl, hc, pe⟩ := paired_get pr j x hx
      have lws := pp.length
      rw [List.length_take] at lws
      refine ⟨rfl, ?_⟩
      refine ⟨_, rfl, c, us, rfl, .inl (SqL.of (sm _ _ hc)), fun g ng => ?_⟩
      have sg := same_upd (o := .lst us) ng
      have ngD : g ≠ D := ne_of_fresh hD ng
      refine ⟨_, sg _ _ hD, small1000 (by omega), ws ++ [.ref g], (sm.trans sg).put nD, upd_same, ?_⟩
      rw [st_upd (by simp), List.take_add_one, hrow]
      have sD : Same H2 (st [D] (upd H3 g (.lst us))) := fun b' o' e' => by
        rw [st_get (by simp [ne_of_none e' nD])]
        exact (sm.trans sg) _ _ e'
      refine paired_snoc (paired_mono (fun _ _ => RowAt.same (st_mono sg)) pp) ⟨g, us, rfl, ?_, paired_mono (fun _ _ => EntAt.same sD) pe⟩
      rw [st_get (by simp [ngD])]
      exact upd_same
    · rintro H3 ⟨ws, sm, hD, pp⟩
      rw [List.take_of_length_le (by omega)] at pp
      have tab3 : TabAt H3 D T := ⟨ws, hD, paired_mono (fun _ _ => RowAt.same st_same) pp⟩
      have s03 := s02.trans sm
      intro x dx nx ndx nex
      have s4 : Same H3 (upd (upd H3 dx (.own x)) x (.ins C dx [])) := fun b' o' e' => by
        rw [upd_ne (ne_of_none e' nx), upd_ne (ne_of_none e' ndx)]
        exact e'
      refine ⟨H3, x, dx, a, b, D, ins, outs, T, rfl, s4, nx, upd_same, sm _ _ ha2, sm _ _ hb2, tab3, i1, ni, no, law, fun H5 a5 b5 t5 sm5 mc5 => ⟨rfl, ?_⟩⟩
      exact Qk H5 x dx a5 b5 t5 (s03.trans sm5) (s03.free nx) mc5
end
end Hl

set_option Elab.async false
set_option linter.all false
set_option maxRecDepth 100000
set_option maxHeartbeats 4000000
namespace Hl
open PySem PySem.Spec PyProof.Rows L2
/-! walking by one letter -/
def nxN (T : Tab) (a s : Nat) : Nat := ((getE T s a).map fun e => e.1.toNat).getD 0
def sdN (T : Tab) (a s j : Nat) : Int := ((getE T s a).map fun e => (e.2[j]?).getD 0).getD 0
def endN (T : Tab) (a : Nat) : Nat → Nat → Nat
  | 0, s => s
  | m + 1, s => nxN T a (endN T a m s)
def sumF : Nat → (Nat → Int) → Int
  | 0, _ => 0
  | m + 1, f => sumF m f + f m
def sntN (T : Tab) (a m s j : Nat) : Int := sumF m fun i => sdN T a (endN T a i s) j
def vec (n : Nat) (f : Nat → Int) : List Int := (List.range n).map f
theorem vec_len (n : Nat) (f : Nat → Int) : (vec n f).length = n := by
  unfold vec
  rw [List.length_map, List.length_range]
theorem vec_get {n i : Nat} {f : Nat → Int} (h : i < n) : (vec n f)[i]? = some (f i) := by
  unfold vec
  rw [List.getElem?_map, List.getElem?_range h]
  rfl
theorem vec_of {l : List Int} {n : Nat} {f : Nat → Int} (hl : l.length = n) (h : ∀ i, i < n → l[i]? = some (f i)) : l = vec n f := by
  refine List.ext_getElem? fun i => ?_
  by_cases hi : i < n
  · rw [h i hi, vec_get hi]
  · rw [List.getElem?_eq_none (by omega), List.getElem?_eq_none (by rw [vec_len]; omega)]
theorem vec_congr {n : Nat} {f g : Nat → Int} (h : ∀ i, i < n → f i = g i) : vec n f = vec n g := vec_of (vec_len _ _) fun i hi => by rw [vec_get hi, h i hi]
theorem addL_vec {n : Nat} {f g : Nat → Int} : addL (vec n f) (vec n g) = vec n fun j => f j + g j := by
  refine vec_of ?_ fun i hi => addL_get (vec_get hi) (vec_get hi)
  unfold addL
  rw [List.length_zipWith, vec_len, vec_len, Nat.min_self]
theorem sumF_congr {f g : Nat → Int} : ∀ {m : Nat}, (∀ i, i < m → f i = g i) → sumF m f = sumF m g
  | 0, _ => rfl
  | m + 1, h => by
    show sumF m f + f m = sumF m g + g m
    rw [sumF_congr fun i hi => h i (by omega), h m (by omega)]
theorem sumF_add (k : Nat) (f : Nat → Int) : ∀ m, sumF (k + m) f = sumF k f + sumF m fun i => f (k + i)
  | 0 => by
    show sumF k f = sumF k f + 0
    omega
  | m + 1 => by
    show sumF (k + m) f + f (k + m) = sumF k f + (sumF m (fun i => f (k + i)) + f (k + m))
    rw [sumF_add k f m]
    omega
theorem sumF_plus (f g : Nat → Int) : ∀ m, sumF m (fun i => f i + g i) = sumF m f + sumF m g
  | 0 => rfl
  | m + 1 => by
    show sumF m (fun i => f i + g i) + (f m + g m) = sumF m f + f m + (sumF m g + g m)
    rw [sumF_plus f g m]
    omega
theorem sumF_zero {f : Nat → Int} : ∀ {m : Nat}, (∀ i, i < m → f i = 0) → sumF m f = 0
  | 0, _ => rfl
  | m + 1, h => by
    show sumF m f + f m = 0
    rw [sumF_zero fun i hi => h i (by omega), h m (by omega)]
    rfl
theorem sumF_one {f : Nat → Int} {r : Nat} : ∀ {m : Nat}, r < m → sumF m (fun i => if i = r then f i else 0) = f r
  | 0, h => absurd h (Nat.not_lt_zero _)
  | m + 1, h => by
    show sumF m (fun i => if i = r then f i else 0) + (if m = r then f m else 0) = f r
    by_cases e : m = r
    · subst e
      rw [if_pos rfl, sumF_zero fun i hi => if_neg (by omega)]
      omega
    · rw [if_neg e, sumF_one (by omega)]
      omega
theorem endN_add (T : Tab) (a k s : Nat) : ∀ m, endN T a (k + m) s = endN T a m (endN T a k s)
  | 0 => rfl
  | m + 1 => by
    show nxN T a (endN T a (k + m) s) = nxN T a (endN T a m (endN T a k s))
    rw [endN_add T a k s m]
theorem sntN_add (T : Tab) (a k m s j : Nat) : sntN T a (k + m) s j = sntN T a k s j + sntN T a m (endN T a k s) j := by
  unfold sntN
  rw [sumF_add]
  congr 1
  exact sumF_congr fun i _ => by rw [endN_add]
section
variable {T : Tab} {k n : Nat}
theorem law_at (l : Lawful T k n) {s a : Nat} (hs : s < T.length) (ha : a < k) : ∃ e, getE T s a = some e ∧ e.1 = (nxN T a s : Nat) ∧ nxN T a s < T.length ∧ e.2 = vec n (sdN T a s) := by
  obtain ⟨e, t, g, et, tl, sl⟩ := lawful_get l hs ha
  have en : nxN T a s = t := by
    unfold nxN
    rw [g]
    show e.1.toNat = t
    omega
  refine ⟨e, g, by rw [en]; exact et, by rw [en]; exact tl, vec_of sl fun i hi => ?_⟩
  unfold sdN
  rw [g]
  show e.2[i]? = some ((e.2[i]?).getD 0)
  rw [List.getElem?_eq_getElem (by omega)]
  rfl
theorem endN_lt (l : Lawful T k n) {s a : Nat} (hs : s < T.length) (ha : a < k) : ∀ m, endN T a m s < T.length
  | 0 => hs
  | m + 1 => by
    obtain ⟨_, _, _, h, _⟩ := law_at l (endN_lt l hs ha m) ha
    exact h
theorem sdN_val (l : Lawful T k n) {s a j : Nat} (hs : s < T.length) (ha : a < k) (hj : j < n) : 0 ≤ sdN T a s j ∧ sdN T a s j ≤ 999999 := by
  obtain ⟨e, g, _, _, ev⟩ := law_at l hs ha
  obtain ⟨row, h1, h2⟩ := getE_mem g
  refine l.sv row h1 e h2 _ ?_
  rw [ev]
  exact List.mem_of_getElem? (vec_get hj)
/-! either way about -/
theorem nx_comm (l : Lawful T k n) {s a b : Nat} (hs : s < T.length) (ha : a < k) (hb : b < k) : nxN T b (nxN T a s) = nxN T a (nxN T b s) ∧ ∀ j, j < n → sdN T a s j + sdN T b (nxN T a s) j = sdN T b s j + sdN T a (nxN T b s) j := by
  obtain ⟨ea, g1, n1, t1, v1⟩ := law_at l hs ha
  obtain ⟨eb, g2, n2, t2, v2⟩ := law_at l hs hb
  obtain ⟨eab, g3, n3, t3, v3⟩ := law_at l t1 hb
  obtain ⟨eba, g4, n4, t4, v4⟩ := law_at l t2 ha
  obtain ⟨h1, h2⟩ := l.he s a b ea eb eab eba g1 g2 (by rw [n1]; exact g3) (by rw [n2]; exact g4)
  refine ⟨by omega, fun j hj => ?_⟩
  rw [v1, v2, v3, v4, addL_vec, addL_vec] at h2
  have := congrArg (fun l => l[j]?) h2
  simp only [vec_get hj] at this
  exact Option.some.inj this
theorem nx_end (l : Lawful T k n) {s a b : Nat} (hs : s < T.length) (ha : a < k) (hb : b < k) : ∀ m, endN T a m (nxN T b s) = nxN T b (endN T a m s) ∧ ∀ j, j < n → sntN T a m s j + sdN T b (endN T a m s) j = sdN T b s j + sntN T a m (nxN T b s) j
  | 0 => ⟨rfl, fun j _ => by
    show 0 + sdN T b s j = sdN T b s j + 0
    omega⟩
  | m + 1 => by
    obtain ⟨e, h⟩ := nx_end l hs ha hb m
    obtain ⟨e2, h2⟩ := nx_comm l (endN_lt l hs ha m) ha hb
    refine ⟨?_, fun j hj => ?_⟩
    · show nxN T a (endN T a m (nxN T b s)) = nxN T b (nxN T a (endN T a m s))
      rw [e, e2]
    · have h1 := h j hj
      have h3 := h2 j hj
      show sntN T a m s j + sdN T a (endN T a m s) j + sdN T b (nxN T a (endN T a m s)) j = sdN T b s j + (sntN T a m (nxN T b s) j + sdN T a (endN T a m (nxN T b s)) j)
      rw [e]
      omega
theorem end_end (l : Lawful T k n) {s a b : Nat} (hs : s < T.length) (ha : a < k) (hb : b < k) (m : Nat) : ∀ r, endN T a m (endN T b r s) = endN T b r (endN T a m s) ∧ ∀ j, j < n → sntN T a m s j + sntN T b r (endN T a m s) j = sntN T b r s j + sntN T a m (endN T b r s) j
  | 0 => ⟨rfl, fun j _ => by
    show sntN T a m s j + 0 = 0 + sntN T a m s j
    omega⟩
  | r + 1 => by
    obtain ⟨e, h⟩ := end_end l hs ha hb m r
    obtain ⟨e2, h2⟩ := nx_end l (endN_lt l hs hb r) ha hb m
    refine ⟨?_, fun j hj => ?_⟩
    · show endN T a m (nxN T b (endN T b r s)) = nxN T b (endN T b r (endN T a m s))
      rw [e2, e]
    · have h1 := h j hj
      have h3 := h2 j hj
      show sntN T a m s j + (sntN T b r (endN T a m s) j + sdN T b (endN T b r (endN T a m s)) j) = sntN T b r s j + sdN T b (endN T b r s) j + sntN T a m (nxN T b (endN T b r s)) j
      rw [← e]
      omega
/-! letters with their counts, one behind the other -/
def wE (T : Tab) : List (Nat × Nat) → Nat → Nat
  | [], s => s
  | p :: l, s => wE T l (endN T p.1 p.2 s)
def wS (T : Tab) : List (Nat × Nat) → Nat → Nat → Int
  | [], _, _ => 0
  | p :: l, s, j => sntN T p.1 p.2 s j + wS T l (endN T p.1 p.2 s) j
theorem wE_lt (l : Lawful T k n) : ∀ (q : List (Nat × Nat)) {s : Nat}, s < T.length → (∀ p ∈ q, p.1 < k) → wE T q s < T.length
  | [], s, hs, _ => hs
  | p :: q, s, hs, h => wE_lt l q (endN_lt l hs (h p List.mem_cons_self) p.2) fun r hr => h r (List.mem_cons_of_mem _ hr)
theorem wE_snoc (p : Nat × Nat) : ∀ (q : List (Nat × Nat)) (s : Nat), wE T (q ++ [p]) s = endN T p.1 p.2 (wE T q s)
  | [], s => rfl
  | r :: q, s => wE_snoc p q _
theorem wS_snoc (p : Nat × Nat) (j : Nat) : ∀ (q : List (Nat × Nat)) (s : Nat), wS T (q ++ [p]) s j = wS T q s j + sntN T p.1 p.2 (wE T q s) j
  | [], s => by
    show sntN T p.1 p.2 s j + 0 = 0 + sntN T p.1 p.2 s j
    omega
  | r :: q, s => by
    show sntN T r.1 r.2 s j + wS T (q ++ [p]) (endN T r.1 r.2 s) j = sntN T r.1 r.2 s j + wS T q (endN T r.1 r.2 s) j + sntN T p.1 p.2 (wE T q (endN T r.1 r.2 s)) j
    rw [wS_snoc p j q]
    omega
theorem w_perm (l : Lawful T k n) {q q' : List (Nat × Nat)} (h : q.Perm q') : (∀ p ∈ q, p.1 < k) → ∀ {s : Nat}, s < T.length → wE T q s = wE T q' s ∧ ∀ j, j < n → wS T q s j = wS T q' s j := by
  induction h with
  | nil => exact fun _ s _ => ⟨rfl, fun _ _ => rfl⟩
  | cons p h ih =>
    intro hk s hs
    obtain ⟨e, f⟩ := ih (fun r hr => hk r (List.mem_cons_of_mem _ hr)) (endN_lt l hs (hk p List.mem_cons_self) p.2)
    refine ⟨e, fun j hj => ?_⟩
    show sntN T p.1 p.2 s j + _ = sntN T p.1 p.2 s j + _
    rw [f j hj]
  | swap x y q =>
    intro hk s hs
    have hx : x.1 < k := hk x (by simp)
    have hy : y.1 < k := hk y (by simp)
    obtain ⟨e, f⟩ := end_end l hs hx hy x.2 y.2
    refine ⟨?_, fun j hj => ?_⟩
    · show wE T q (endN T x.1 x.2 (endN T y.1 y.2 s)) = wE T q (endN T y.1 y.2 (endN T x.1 x.2 s))
      rw [e]
    · have := f j hj
      show sntN T y.1 y.2 s j + (sntN T x.1 x.2 (endN T y.1 y.2 s) j + wS T q (endN T x.1 x.2 (endN T y.1 y.2 s)) j) = sntN T x.1 x.2 s j + (sntN T y.1 y.2 (endN T x.1 x.2 s) j + wS T q (endN T y.1 y.2 (endN T x.1 x.2 s)) j)
      rw [e]
      omega
  | trans h1 h2 ih1 ih2 =>
    intro hk s hs
    obtain ⟨e1, f1⟩ := ih1 hk hs
    obtain ⟨e2, f2⟩ := ih2 (fun p hp => hk p (h1.symm.subset hp)) hs
    exact ⟨e1.trans e2, fun j hj => (f1 j hj).trans (f2 j hj)⟩
end
/-! laps -/
structure Lap (T : Tab) (a s L ah : Nat) : Prop where
  lt : ah < L
  le : L ≤ T.length
  eq : endN T a L s = endN T a ah s
section
variable {T : Tab} {a s L ah : Nat}
theorem per_mul {t i0 : Nat} (h : ∀ i, i0 ≤ i → endN T a (i + t) s = endN T a i s) : ∀ (q i : Nat), i0 ≤ i → endN T a (i + t * q) s = endN T a i s
  | 0, i, _ => rfl
  | q + 1, i, hi => by
    rw [Nat.mul_succ, ← Nat.add_assoc, h _ (by omega)]
    exact per_mul h q i hi
theorem per_of {t i0 : Nat} (h : endN T a (i0 + t) s = endN T a i0 s) : ∀ i, i0 ≤ i → endN T a (i + t) s = endN T a i s := fun i hi => by
  obtain ⟨d, rfl⟩ : ∃ d, i = i0 + d := ⟨i - i0, by omega⟩
  rw [show i0 + d + t = i0 + t + d by omega, endN_add, h, ← endN_add]
theorem Lap.per (l : Lap T a s L ah) : ∀ i, ah ≤ i → endN T a (i + (L - ah)) s = endN T a i s := per_of (by
  have := l.lt
  rw [show ah + (L - ah) = L by omega]
  exact l.eq)
def red (L ah m : Nat) : Nat := if m < L then m else ah + (m - ah) % (L - ah)
theorem Lap.red (l : Lap T a s L ah) (m : Nat) : endN T a (Hl.red L ah m) s = endN T a m s := by
  unfold Hl.red
  by_cases h : m < L
  · rw [if_pos h]
  · rw [if_neg h]
    have := l.lt
    have e : m = ah + (m - ah) % (L - ah) + (L - ah) * ((m - ah) / (L - ah)) := by
      have := Nat.mod_add_div (m - ah) (L - ah)
      omega
    have := per_mul l.per ((m - ah) / (L - ah)) (ah + (m - ah) % (L - ah)) (by omega)
    rw [← e] at this
    exact this.symm
def oft (L ah many i : Nat) : Nat := if i < ah then 1 else (many - i - 1) / (L - ah) + 1
theorem oft_step {many i : Nat} (h : ah < L) (hm : L ≤ many) (hi : i < L) : oft L ah (many + 1) i = oft L ah many i + if i = ah + (many - ah) % (L - ah) then 1 else 0 := by
  unfold oft
  by_cases hia : i < ah
  · rw [if_pos hia, if_pos hia, if_neg (by omega)]
  · rw [if_neg hia, if_neg hia]
    obtain ⟨p, hp⟩ : ∃ p, p = L - ah := ⟨_, rfl⟩
    rw [← hp]
    have pp : 0 < p := by omega
    obtain ⟨t, rfl⟩ : ∃ t, i = ah + t := ⟨i - ah, by omega⟩
    have tp : t < p := by omega
    have e0 := Nat.mod_add_div (many - ah) p
    have r0 := Nat.mod_lt (many - ah) pp
    have q1 : 1 ≤ (many - ah) / p := (Nat.le_div_iff_mul_le pp).mpr (by omega)
    generalize (many - ah) % p = r at *
    obtain ⟨q, hq⟩ : ∃ q, (many - ah) / p = q + 1 := ⟨(many - ah) / p - 1, by omega⟩
    rw [hq, Nat.mul_succ] at e0
    have dv : ∀ x y z, z = p * x + y → y < p → z / p = x := fun x y z hz hy => by rw [hz, Nat.mul_add_div pp, Nat.div_eq_of_lt hy, Nat.add_zero]
    rcases Nat.lt_trichotomy t r with h1 | h1 | h1
    · rw [if_neg (by omega), dv (q + 1) (r - t) (many + 1 - (ah + t) - 1) (by rw [Nat.mul_succ]; omega) (by omega), dv (q + 1) (r - t - 1) (many - (ah + t) - 1) (by rw [Nat.mul_succ]; omega) (by omega)]
    · rw [if_pos (by omega), dv (q + 1) 0 (many + 1 - (ah + t) - 1) (by rw [Nat.mul_succ]; omega) pp, dv q (p - 1) (many - (ah + t) - 1) (by omega) (by omega)]
    · rw [if_neg (by omega), dv q (p + r - t) (many + 1 - (ah + t) - 1) (by omega) (by omega), dv q (p + r - t - 1) (many - (ah + t) - 1) (by omega) (by omega)]
theorem oft_low {many i : Nat} (h : ah < L) (hm : many < L) (hi : i < many) : oft L ah (many + 1) i = oft L ah many i := by
  unfold oft
  by_cases hia : i < ah
  · rw [if_pos hia, if_pos hia]
  · rw [if_neg hia, if_neg hia, Nat.div_eq_of_lt (by omega), Nat.div_eq_of_lt (by omega)]
theorem oft_new {many : Nat} : oft L ah (many + 1) many = 1 := by
  unfold oft
  by_cases hia : many < ah
  · rw [if_pos hia]
  · rw [if_neg hia, show many + 1 - many - 1 = 0 by omega, Nat.zero_div]
theorem lap_sum {f : Nat → Int} (h : ah < L) (hf : ∀ m, f (red L ah m) = f m) : ∀ many, sumF many f = sumF (min L many) fun i => (oft L ah many i : Nat) * f i
  | 0 => by rw [Nat.min_zero]; rfl
  | many + 1 => by
    show sumF many f + f many = _
    rw [lap_sum h hf many]
    by_cases hm : many < L
    · rw [Nat.min_eq_right (by omega), Nat.min_eq_right (by omega)]
      show _ = sumF many (fun i => (oft L ah (many + 1) i : Nat) * f i) + (oft L ah (many + 1) many : Nat) * f many
      rw [oft_new, sumF_congr (f := fun i => (oft L ah (many + 1) i : Nat) * f i) (g := fun i => (oft L ah many i : Nat) * f i) fun i hi => by rw [oft_low h hm hi]]
      simp
    · rw [Nat.min_eq_left (by omega), Nat.min_eq_left (by omega)]
      have hr : ah + (many - ah) % (L - ah) < L := by
        have := Nat.mod_lt (many - ah) (show 0 < L - ah by omega)
        omega
      have e : ∀ i, i < L → ((oft L ah (many + 1) i : Nat) : Int) * f i = (oft L ah many i : Nat) * f i + (if i = ah + (many - ah) % (L - ah) then f i else 0) := fun i hi => by
        rw [oft_step h (by omega) hi]
        by_cases hx : i = ah + (many - ah) % (L - ah)
        · rw [if_pos hx, if_pos hx, Int.natCast_add, Int.add_mul]
          simp
        · rw [if_neg hx, if_neg hx]
          simp
      rw [sumF_congr e, sumF_plus, sumF_one hr]
      congr 1
      rw [← hf many]
      unfold red
      rw [if_neg hm]
/-- going round -/
theorem sum_round {g : Nat → Int} {t : Nat} (hg : ∀ i, g (i + t) = g i) (r : Nat) : ∀ q, sumF (t * q + r) g = (q : Nat) * sumF t g + sumF r g
  | 0 => by
    rw [Nat.mul_zero, Nat.zero_add]
    simp
  | q + 1 => by
    rw [show t * (q + 1) + r = t + (t * q + r) by rw [Nat.mul_succ]; omega, sumF_add, sumF_congr (m := t * q + r) (f := fun i => g (t + i)) (g := g) fun i _ => by rw [Nat.add_comm, hg], sum_round hg r q, Int.natCast_add, Int.add_mul]
    simp
    omega
end
theorem pigeon {n : Nat} {f : Nat → Nat} (h : ∀ i, f i < n) : ∃ i j, i < j ∧ j ≤ n ∧ f i = f j := by
  by_cases hx : ∃ i j, i < j ∧ j ≤ n ∧ f i = f j
  · exact hx
  · have nd : ((List.range (n + 1)).map f).Nodup := by
      unfold List.Nodup
      rw [List.pairwise_map]
      refine List.Pairwise.imp_of_mem (R := fun a b => a < b) (fun {a b} ha hb hab e => hx ⟨a, b, hab, by have := List.mem_range.mp hb; omega, e⟩) List.pairwise_lt_range
    have := nd_le n _ nd fun x hxx => by
      obtain ⟨i, _, rfl⟩ := List.mem_map.mp hxx
      exact h i
    rw [List.length_map, List.length_range] at this
    omega
theorem ring_of {T : Tab} {k n a s : Nat} (l : Lawful T k n) (hs : s < T.length) (ha : a < k) : ∃ t, 0 < t ∧ t ≤ T.length ∧ endN T a (T.length + t) s = endN T a T.length s := by
  obtain ⟨i, j, hij, hj, e⟩ := pigeon (n := T.length) (f := fun m => endN T a m s) fun m => endN_lt l hs ha m
  refine ⟨j - i, by omega, by omega, ?_⟩
  exact per_of (i0 := i) (t := j - i) (by rw [show i + (j - i) = j by omega]; exact e.symm) _ (by omega)
end Hl

set_option Elab.async false
set_option linter.all false
set_option maxRecDepth 100000
set_option maxHeartbeats 4000000
namespace Hl
open PySem PySem.Spec PyProof.Rows L2
abbrev sLap : Stmt := topS 37
/-- what was met -/
def metK (f : Nat → Nat) (m : Nat) : List (Key × V) := (List.range m).map fun i => (Sum.inl ((f i : Nat) : Int), V.int ((i : Nat) : Int))
theorem metK_len (f : Nat → Nat) (m : Nat) : (metK f m).length = m := by
  unfold metK
  rw [List.length_map, List.length_range]
theorem metK_no {f : Nat → Nat} {m x : Nat} (h : valV (metK f m) (Sum.inl ((x : Nat) : Int)) = none) : ∀ i, i < m → f i ≠ x := by
  unfold valV at h
  rw [Option.map_eq_none_iff, List.find?_eq_none] at h
  intro i hi e
  have := h (Sum.inl ((f i : Nat) : Int), V.int ((i : Nat) : Int)) (List.mem_map.mpr ⟨i, List.mem_range.mpr hi, rfl⟩)
  rw [e] at this
  simp at this
theorem metK_some {f : Nat → Nat} {m x : Nat} {v : V} (h : valV (metK f m) (Sum.inl ((x : Nat) : Int)) = some v) : ∃ i, i < m ∧ f i = x ∧ v = .int ((i : Nat) : Int) := by
  unfold valV at h
  obtain ⟨kv, h1, rfl⟩ := Option.map_eq_some_iff.mp h
  have h2 := List.find?_some h1
  obtain ⟨i, hi, rfl⟩ := List.mem_map.mp (List.mem_of_find?_eq_some h1)
  refine ⟨i, List.mem_range.mp hi, ?_, rfl⟩
  have h3 : (Sum.inl ((f i : Nat) : Int) : Key) = Sum.inl ((x : Nat) : Int) := of_decide_eq_true h2
  have := Sum.inl.inj h3
  omega
theorem metK_put {f : Nat → Nat} {m : Nat} (h : ∀ i, i < m → f i ≠ f m) : putK (metK f m) (Sum.inl ((f m : Nat) : Int)) (.int ((m : Nat) : Int)) = metK f (m + 1) := by
  unfold putK
  rw [if_neg]
  · unfold metK
    rw [List.range_succ, List.map_append]
    rfl
  · rw [List.any_eq_true]
    rintro ⟨kv, h1, h2⟩
    obtain ⟨i, hi, rfl⟩ := List.mem_map.mp h1
    have h3 : (Sum.inl ((f i : Nat) : Int) : Key) = Sum.inl ((f m : Nat) : Int) := of_decide_eq_true h2
    have := Sum.inl.inj h3
    exact h i (List.mem_range.mp hi) (by omega)
theorem nd_snoc {f : Nat → Nat} {m : Nat} (h : ((List.range m).map f).Nodup) (n : ∀ i, i < m → f i ≠ f m) : ((List.range (m + 1)).map f).Nodup := by
  rw [List.range_succ, List.map_append, List.nodup_append]
  refine ⟨h, by simp, fun a ha b hb e => ?_⟩
  obtain ⟨i, hi, rfl⟩ := List.mem_map.mp ha
  have : b = f m := by simpa using hb
  exact n i (List.mem_range.mp hi) (e.trans this)
def pathN (T : Tab) (a s m : Nat) : List Nat := (List.range m).map fun i => endN T a i s
theorem pathN_len (T : Tab) (a s m : Nat) : (pathN T a s m).length = m := by
  unfold pathN
  rw [List.length_map, List.length_range]
theorem pathN_get {T : Tab} {a s m i : Nat} (h : i < m) : (pathN T a s m)[i]? = some (endN T a i s) := by
  unfold pathN
  rw [List.getElem?_map, List.getElem?_range h]
  rfl
section
variable {P : Program} {w : World} {K : PySem.W.Frag} {mg : Str → Option Value} {base : Heap}
/-! lap_from -/
def spLapF : Sp := fun vs H Q _ => ∃ (a : Addr) (T : Tab) (k n pl s : Nat), vs = [.ref a, .int pl, .int s] ∧ RTab H a T ∧ Lawful T k n ∧ pl < k ∧ s < T.length ∧
  ∀ (H' : Hp) (t q : Addr) (L ah : Nat), Same H H' → Lap T pl s L ah → (pathN T pl s L).Nodup → H' t = some (.tup [.ref q, .int ah]) → H' q = some (.lst (natV (pathN T pl s L))) → Q (.ref t) H'
abbrev nmLf : List Str := ["rows", "place", "stand", "met", "path"]
theorem scLf : FnScope nmLf ["rows", "place", "stand"] (defScope sLap) := ⟨rfl, rfl, rfl, by decide +kernel, rfl, by decide +kernel, by decide +kernel⟩
theorem ok_lap {f : Addr} {fd : FuncData} {k : Nat} (F : Fun K "lap_from" "lap_from" sLap f fd) (B : Bi mg) : FnOk P w K mg base CX0 (k + 1) f fd ["rows", "place", "stand"] spLapF := by
  refine F.ok scLf (fun vs H Q E h => ?_) (fun cdv A outer s H vs Q E hr h => ?_)
  · obtain ⟨a, T, k, n, pl, s, rfl, _⟩ := h
    rfl
  · obtain ⟨a, T, kk, n, pl, s0, rfl, ht, law, plk, sl, q⟩ := h
    refine ⟨_, pss_cons (ps_set (i := 3) scLf.nd rfl (.inl rfl) pe_dnewK) (pss_cons (ps_set (i := 4) scLf.nd rfl (.inl rfl) (pe_lst pa_nil))
      (pss_cons (ps_while PassesOwn.never (pt_cmp (pc_dnotin (hu_of hr) (pv 2) (pv 3)))
        (pss_cons (ps_dput (hu_of hr) (pv 3) (pv 2) (pe_callB call_len_seq (by rfl) B.len PySem.boot_len (pa_cons (pv 4) pa_nil)) rfl)
        (pss_cons (ps_expr (pe_bm PySem.F.plainAttrs_list PySem.F.slot_list_append PySem.F.type_list_append mt_append (pv 4) (pa_cons (pv 2) pa_nil)))
        (pss_one (ps_set (i := 2) scLf.nd rfl (.inl rfl) (pe_ix (r := rIx K) ix_seq (pe_ix (r := rIx K) ix_seq (pe_ix (r := rIx K) ix_seq (pv 0) (pv 2) (fun _ _ => rfl)) (pv 1) (fun _ _ => rfl)) pe_int (fun _ _ => rfl)))))))
      (pss_one (ps_ret (pe_tup (pa_cons (pv 4) (pa_cons (pe_dget (hu_of hr) (pv 3) (pv 2) (fun _ _ => rfl)) pa_nil))))))), ?_⟩
    have n60 := law.n60
    intro Md nM
    have sM := same_upd (o := .dK []) nM
    refine ⟨Nat.zero_le _, fun Pd nP => ?_⟩
    have sP := same_upd (o := .lst []) nP
    have nP0 := sM.free nP
    have nMP : Md ≠ Pd := ne_of_none (o := .dK []) upd_same nP
    refine ⟨fun m σ H' => ∃ (i : Nat), σ = [some (.ref a), some (.int pl), some (.int (endN T pl i s0 : Nat)), some (.ref Md), some (.ref Pd)] ∧ Same H H' ∧ H' Md = some (.dK (metK (fun i => endN T pl i s0) i)) ∧ H' Pd = some (.lst (natV (pathN T pl s0 i))) ∧ (pathN T pl s0 i).Nodup ∧ m = T.length - i,
      ⟨_, 0, rfl, sM.trans sP, sP _ _ upd_same, upd_same, by show ([] : List Nat).Nodup; simp, rfl⟩, ?_⟩
    rintro m σ H1 ⟨i, rfl, sm, hM, hP, nd, rfl⟩
    have lp := nd_le T.length _ nd fun x hx => by
      unfold pathN at hx
      obtain ⟨y, _, rfl⟩ := List.mem_map.mp hx
      exact endN_lt law sl plk y
    rw [pathN_len] at lp
    refine ⟨_, rfl, _, rfl, Md, _, rfl, DGet.k (k := Sum.inl ((endN T pl i s0 : Nat) : Int)) hM, _, rfl, ?_⟩
    cases hv : valV (metK (fun i => endN T pl i s0) i) (Sum.inl ((endN T pl i s0 : Nat) : Int)) with
    | none =>
      refine iT rfl ?_
      have ne := metK_no hv
      have nd' : (pathN T pl s0 (i + 1)).Nodup := nd_snoc (f := fun i => endN T pl i s0) nd ne
      have lp' := nd_le T.length _ nd' fun x hx => by
        unfold pathN at hx
        obtain ⟨y, _, rfl⟩ := List.mem_map.mp hx
        exact endN_lt law sl plk y
      rw [pathN_len] at lp'
      obtain ⟨e, ge, e1, el, ev⟩ := law_at law (endN_lt law sl plk i) plk
      refine ⟨fun σ H' => σ = [some (.ref a), some (.int pl), some (.int (endN T pl (i + 1) s0 : Nat)), some (.ref Md), some (.ref Pd)] ∧ Same H H' ∧ H' Md = some (.dK (metK (fun i => endN T pl i s0) (i + 1))) ∧ H' Pd = some (.lst (natV (pathN T pl s0 (i + 1)))),
        fun σ' H' ⟨e1, e2, e3, e4⟩ => ⟨T.length - (i + 1), by omega, i + 1, e1, e2, e3, e4, nd', rfl⟩, ?_⟩
      refine ⟨_, rfl, Pd, _, rfl, .inl (SqL.of hP), _, rfl, _, rfl, Md, _, rfl, DPut.k (k := Sum.inl ((endN T pl i s0 : Nat) : Int)) hM (by rw [metK_len]; exact small1000 (by omega)), ?_⟩
      rw [natV_len, pathN_len, metK_put (f := fun i => endN T pl i s0) ne]
      have hP2 : (upd H1 Md (.dK (metK (fun i => endN T pl i s0) (i + 1)))) Pd = some (.lst (natV (pathN T pl s0 i))) := by
        rw [upd_ne nMP.symm]
        exact hP
      refine ⟨_, rfl, .inl ⟨rfl, _, SqL.of hP2⟩, _, rfl, Pd, _, _, rfl, rfl, hP2, by rw [natV_len, pathN_len]; exact small1000 (by omega), ?_⟩
      have sm3 : Same H (upd (upd H1 Md (.dK (metK (fun i => endN T pl i s0) (i + 1)))) Pd (.lst (natV (pathN T pl s0 i) ++ [.int (endN T pl i s0 : Nat)]))) := (sm.put nM).put nP0
      obtain ⟨row, hr1, hr2⟩ := getE_row ge
      obtain ⟨v1, rv1, x1⟩ := rt_row (K := K) (ht.same sm3) hr1
      obtain ⟨c1, t1, hc1, ht1, y1⟩ := rr_ent (K := K) rv1 hr2
      refine ⟨_, rfl, _, rfl, x1 _ ⟨_, rfl, y1 _ (.inr (.inl ⟨c1, _, 0, _, rfl, rfl, SqT.of hc1, atI_nat (j := 0) rfl, ?_⟩))⟩⟩
      refine ⟨?_, sm3, by rw [upd_ne nMP, upd_same], ?_⟩
      · show [some (V.ref a), some (V.int pl), some (V.int e.1), some (V.ref Md), some (V.ref Pd)] = _
        rw [e1]
        rfl
      · rw [upd_same]
        unfold natV pathN
        rw [List.range_succ, List.map_append, List.map_append]
        rfl
    | some v =>
      obtain ⟨ah, hah, ea, rfl⟩ := metK_some hv
      refine iF rfl ?_
      refine ⟨_, rfl, _, rfl, _, rfl, Md, _, rfl, by have := DGet.k (k := Sum.inl ((endN T pl i s0 : Nat) : Int)) hM; rw [hv] at this; exact this, (by show 2 ≤ sizeLine; decide), fun t nt => ?_⟩
      have st' := same_upd (o := .tup [.ref Pd, .int (ah : Nat)]) nt
      exact q _ t Pd i ah (sm.trans st') ⟨hah, lp, ea.symm⟩ nd upd_same (st' _ _ hP)
end
end Hl

set_option Elab.async false
set_option linter.all false
set_option maxRecDepth 100000
set_option maxHeartbeats 4000000
namespace Hl
open PySem PySem.Spec PyProof.Rows L2
abbrev sGcd : Stmt := topS 40
abbrev sPart : Stmt := topS 41
abbrev sLow : Stmt := topS 54
def gI (a b : Int) : Int := ((Int.gcd a b : Nat) : Int)
def sgn (o u : Int) : Int := if u < 0 then -(gI o u) else gI o u
def lowF (o u : Int) : List V := [.int (o.fdiv (sgn o u)), .int (u.fdiv (sgn o u))]
theorem gI_step {x y : Int} (hx : 0 ≤ x) (hy : 0 < y) : gI y (x % y) = gI x y := by
  obtain ⟨n, rfl⟩ := Int.eq_ofNat_of_zero_le hx
  obtain ⟨m, rfl⟩ := Int.eq_ofNat_of_zero_le (Int.le_of_lt hy)
  unfold gI Int.gcd
  rw [← Int.natCast_emod, Int.natAbs_natCast, Int.natAbs_natCast, Int.natAbs_natCast, Nat.gcd_comm n m, Nat.gcd_rec m n, Nat.gcd_comm]
theorem gI_zero {x : Int} (hx : 0 ≤ x) : gI x 0 = x := by
  unfold gI
  rw [Int.gcd_zero]
  omega
theorem absV (i : Int) : (if i < 0 then -i else i) = (i.natAbs : Int) := by
  split <;> omega
theorem gI_abs (o u : Int) : gI (o.natAbs : Int) (u.natAbs : Int) = gI o u := by
  unfold gI Int.gcd
  rw [Int.natAbs_natCast, Int.natAbs_natCast]
theorem gI_pos {o u : Int} (h : u ≠ 0) : 0 < gI o u := by
  unfold gI
  have := Int.gcd_pos_of_ne_zero_right o h
  omega
theorem gI_le {o u : Int} (h : u ≠ 0) : (gI o u).natAbs ≤ u.natAbs := by
  unfold gI
  have := Nat.gcd_le_right o.natAbs (Int.natAbs_pos.mpr h)
  unfold Int.gcd
  omega
theorem sgn_ne {o u : Int} (h : u ≠ 0) : sgn o u ≠ 0 := by
  have := gI_pos (o := o) h
  unfold sgn
  split <;> omega
theorem sgn_abs (o u : Int) : (sgn o u).natAbs = (gI o u).natAbs := by
  unfold sgn
  split <;> omega
/-- // by any divisor but nought, below 2 ^ 9000 in size -/
def CDivZ (_ j : Int) : Prop := j ≠ 0 ∧ j.natAbs.log2 < 9000
theorem op_fdivZ {X : Cx} : OpR X (binaryOp .FloorDiv) (rI CDivZ fun i j => .int (i.fdiv j)) :=
  opI fun _ _ _ _ _ _ _ hc q => floordiv_int hc.1 q (.inl (PyProof.noPylong_of_log2 hc.2))
theorem divZ {i j : Int} (h : j ≠ 0) (hb : j.natAbs < 2 ^ 9000) : CDivZ i j :=
  ⟨h, PySem.Flt.log2_lt_of (by decide) hb⟩
section
variable {P : Program} {w : World} {K : PySem.W.Frag} {mg : Str → Option Value} {base : Heap}
/-! greatest_common -/
def spGcd : Sp := fun vs H Q _ => ∃ a b : Int, vs = [.int a, .int b] ∧ 0 ≤ a ∧ 0 ≤ b ∧ Q (.int (gI a b)) H
theorem scG : FnScope ["one", "other"] ["one", "other"] (defScope sGcd) := ⟨rfl, rfl, rfl, by decide +kernel, rfl, by decide +kernel, by decide +kernel⟩
theorem ok_gcd {f : Addr} {fd : FuncData} {k : Nat} (F : Fun K "greatest_common" "greatest_common" sGcd f fd) : FnOk P w K mg base CX0 (k + 1) f fd ["one", "other"] spGcd := by
  refine F.ok scG (fun vs H Q E h => ?_) (fun cdv A outer s H vs Q E hr h => ?_)
  · obtain ⟨a, b, rfl, _⟩ := h
    rfl
  · obtain ⟨a, b, rfl, ha, hb, q⟩ := h
    refine ⟨_, pss_cons (ps_while PassesOwn.never (pt_cmpR op_ne (pv 1) pe_int (nomark _))
        (pss_one (ps_par (i := 0) (j := 1) rfl scG.nd rfl rfl (by decide) rfl rfl (pa_cons (pv 1) (pa_cons (pe_op op_mod (pv 0) (pv 1)) pa_nil)) (by rfl))))
      (pss_one (ps_ret (pv 0))), ?_⟩
    refine ⟨fun m σ H' => ∃ x y : Int, σ = [some (.int x), some (.int y)] ∧ 0 ≤ x ∧ 0 ≤ y ∧ m = y.toNat ∧ gI x y = gI a b ∧ H' = H,
      ⟨_, a, b, rfl, ha, hb, rfl, rfl, rfl⟩, ?_⟩
    rintro m σ H' ⟨x, y, rfl, hx, hy, rfl, hg, rfl⟩
    refine ⟨_, rfl, rfl, _, rfl, ite2 (fun e => ?_) (fun e => ?_)⟩
    · have hy0 : y ≠ 0 := fun z => by
        subst z
        exact absurd e (by decide)
      have hy1 : 0 < y := by omega
      refine ⟨fun σ' H'' => ∃ x' y' : Int, σ' = [some (.int x'), some (.int y')] ∧ 0 ≤ x' ∧ 0 ≤ y' ∧ y' < y ∧ gI x' y' = gI a b ∧ H'' = H', fun σ' H'' ⟨x', y', e1, e2, e3, e4, e5, e6⟩ => ⟨y'.toNat, by omega, x', y', e1, e2, e3, rfl, e5, e6⟩, ?_⟩
      refine ⟨_, rfl, _, rfl, _, rfl, _, _, rfl, rfl, hy1, _, _, rfl, ?_⟩
      exact ⟨y, x % y, rfl, hy, Int.emod_nonneg _ hy0, Int.emod_lt_of_pos _ hy1, (gI_step hx hy1).trans hg, rfl⟩
    · have hy0 : y = 0 := by
        by_cases z : y = 0
        · exact z
        · exact absurd (show (!decide (V.int y = V.int 0)) = true by simp [z]) e
      subst hy0
      rw [gI_zero hx] at hg
      subst hg
      exact ⟨_, rfl, q⟩
/-! part -/
def spPart : Sp := fun vs H Q _ => ∃ o u : Int, vs = [.int o, .int u] ∧ u ≠ 0 ∧ u.natAbs < 2 ^ 9000 ∧ ∀ p, H p = none → Q (.ref p) (upd H p (.tup (lowF o u)))
theorem scP : FnScope ["over", "under", "shared"] ["over", "under"] (defScope sPart) := ⟨rfl, rfl, rfl, by decide +kernel, rfl, by decide +kernel, by decide +kernel⟩
theorem ok_part {f fG : Addr} {fd fdG : FuncData} {dvs : List V} {kws : List (Str × V)} {k : Nat} (F : FunD K "part" "part" (defArgs sPart) (defBody sPart) (defScope sPart) dvs kws f fd) (FG : Fun K "greatest_common" "greatest_common" sGcd fG fdG) (bG : Binds K fdG ["one", "other"] [])
    (gG : mg "greatest_common" = some (.ref fG)) (mA : mg "abs" = none) : FnOk P w K mg base CX0 (k + 2) f fd ["over", "under"] spPart := by
  have GG : FnOk P w K mg base CX0 (k + 1) fG fdG ["one", "other"] spGcd := ok_gcd FG
  refine F.ok scP (fun vs H Q E h => ?_) (fun cdv A outer s H vs Q E hr h => ?_)
  · obtain ⟨o, u, rfl, _⟩ := h
    rfl
  · obtain ⟨o, u, rfl, hu0, hub, q⟩ := h
    refine ⟨_, PSs.nox (pss_cons (ps_if (pt_cmpR op_eq (pv 1) pe_int (nomark _)) (pss_one ps_never) pss_nil)
      (pss_cons (ps_set (i := 2) scP.nd rfl (.inl rfl) (pe_call GG hr (by rfl) gG FG.kp bG .nil pass0 (pa_cons (pe_callB call_abs (by rfl) mA (by decide +kernel) (pa_cons (pv 0) pa_nil)) (pa_cons (pe_callB call_abs (by rfl) mA (by decide +kernel) (pa_cons (pv 1) pa_nil)) pa_nil))))
      (pss_cons (ps_if (pt_cmpR op_lt (pv 1) pe_int (nomark _)) (pss_one (ps_set (i := 2) scP.nd rfl (.inl rfl) (pe_un un_neg (pv 2)))) pss_nil)
      (pss_one (ps_ret (pe_tup (pa_cons (pe_op op_fdivZ (pv 0) (pv 2)) (pa_cons (pe_op op_fdivZ (pv 1) (pv 2)) pa_nil)))))))), ?_⟩
    have hs0 : sgn o u ≠ 0 := sgn_ne hu0
    have hsb : (sgn o u).natAbs < 2 ^ 9000 := by
      rw [sgn_abs]
      exact Nat.lt_of_le_of_lt (gI_le hu0) hub
    refine ⟨_, rfl, rfl, _, rfl, ite2 (fun e => ?_) (fun e => ?_)⟩
    · exact absurd (V.int.inj (of_decide_eq_true e)) hu0
    · refine ⟨_, rfl, o, rfl, _, rfl, u, rfl, (o.natAbs : Int), (u.natAbs : Int), ?_, by omega, by omega, ?_⟩
      · rw [absV, absV]
        rfl
      · rw [gI_abs]
        refine ⟨_, rfl, _, _, rfl, rfl, _, rfl, ite2 (fun e2 => ?_) (fun e2 => ?_)⟩
        · have hn : u < 0 := of_decide_eq_true e2
          have es : sgn o u = -(gI o u) := if_pos hn
          refine ⟨_, rfl, _, rfl, ?_⟩
          dsimp only
          rw [← es]
          exact ⟨_, rfl, _, rfl, _, _, rfl, rfl, divZ hs0 hsb, _, rfl, _, rfl, _, _, rfl, rfl, divZ hs0 hsb, (by show 2 ≤ sizeLine; decide), fun p hp => q p hp⟩
        · have hn : ¬ u < 0 := fun z => e2 (decide_eq_true z)
          have es : sgn o u = gI o u := if_neg hn
          rw [← es]
          exact ⟨_, rfl, _, rfl, _, _, rfl, rfl, divZ hs0 hsb, _, rfl, _, rfl, _, _, rfl, rfl, divZ hs0 hsb, (by show 2 ≤ sizeLine; decide), fun p hp => q p hp⟩
end
/-! more of parts -/
theorem sgn_pos {o u : Int} (h : 0 < u) : sgn o u = gI o u := if_neg (by omega)
theorem gI_dvd_left (o u : Int) : gI o u ∣ o := by
  unfold gI
  exact Int.gcd_dvd_left o u
theorem gI_dvd_right (o u : Int) : gI o u ∣ u := by
  unfold gI
  exact Int.gcd_dvd_right o u
/-- a pair of ints as parts have them -/
structure P2 (xs : List V) (x y : Int) : Prop where
  e : xs = [.int x, .int y]
  bx : x.natAbs < 2 ^ 100
  y0 : 0 < y
  by' : y.natAbs < 2 ^ 100
theorem lowP {o u : Int} (h : 0 < u) (ho : o.natAbs < 2 ^ 100) (hu : u.natAbs < 2 ^ 100) : ∃ x y, P2 (lowF o u) x y := by
  have g0 : 0 < gI o u := gI_pos (by omega)
  refine ⟨_, _, ⟨rfl, ?_, ?_, ?_⟩⟩
  · rw [sgn_pos h, Int.fdiv_eq_ediv_of_nonneg _ (by omega)]
    exact Nat.lt_of_le_of_lt (Int.natAbs_ediv_le_natAbs _ _) ho
  · rw [sgn_pos h, Int.fdiv_eq_ediv_of_nonneg _ (by omega)]
    exact Int.ediv_pos_of_pos_of_dvd h (by omega) (gI_dvd_right o u)
  · rw [sgn_pos h, Int.fdiv_eq_ediv_of_nonneg _ (by omega)]
    exact Nat.lt_of_le_of_lt (Int.natAbs_ediv_le_natAbs _ _) hu
theorem mul_lt {x w : Int} {a b : Nat} (hx : x.natAbs < 2 ^ a) (hw : w.natAbs < 2 ^ b) : (x * w).natAbs < 2 ^ (a + b) := wide_lt hx hw
theorem add_lt {x w : Int} {a : Nat} (hx : x.natAbs < 2 ^ a) (hw : w.natAbs < 2 ^ a) : (x + w).natAbs < 2 ^ (a + 1) := by
  have := Int.natAbs_add_le x w
  rw [Nat.pow_succ]
  omega
theorem lt9000 {x : Int} {a : Nat} (h : x.natAbs < 2 ^ a) (ha : a ≤ 9000) : x.natAbs < 2 ^ 9000 := Nat.lt_of_lt_of_le h (Nat.pow_le_pow_right (by decide) ha)
theorem cm {x w : Int} (hx : x.natAbs < 2 ^ 100) (hw : w.natAbs < 2 ^ 100) : CMulW x w := wide_mul hx hw (by decide) (by decide) (by decide)
section
variable {P : Program} {w : World} {K : PySem.W.Frag} {mg : Str → Option Value} {base : Heap}
/-! _law_low -/
def spLow : Sp := fun vs H Q _ => ∃ o u : Int, vs = [.int o, .int u] ∧ u ≠ 0 ∧ u.natAbs < 2 ^ 9000 ∧ ∀ p, H p = none → Q (.ref p) (upd H p (.tup (lowF o u)))
theorem scW : FnScope ["_law_over", "_law_under", "_law_one", "_law_other"] ["_law_over", "_law_under"] (defScope sLow) := ⟨rfl, rfl, rfl, by decide +kernel, rfl, by decide +kernel, by decide +kernel⟩
theorem ok_low {f : Addr} {fd : FuncData} {k : Nat} (F : Fun K "_law_low" "_law_low" sLow f fd) (B : Bi mg) : FnOk P w K mg base CX0 (k + 1) f fd ["_law_over", "_law_under"] spLow := by
  refine F.ok scW (fun vs H Q E h => ?_) (fun cdv A outer s H vs Q E hr h => ?_)
  · obtain ⟨o, u, rfl, _⟩ := h
    rfl
  · obtain ⟨o, u, rfl, hu0, hub, q⟩ := h
    refine ⟨_, pss_cons (ps_par (i := 2) (j := 3) rfl scW.nd rfl rfl (by decide) rfl rfl (pa_cons (pe_callB call_abs (by rfl) B.abs (by decide +kernel) (pa_cons (pv 0) pa_nil)) (pa_cons (pe_callB call_abs (by rfl) B.abs (by decide +kernel) (pa_cons (pv 1) pa_nil)) pa_nil)) (by rfl))
      (pss_cons (ps_while PassesOwn.never (pt_cmpR op_gt (pv 3) pe_int (nomark _))
        (pss_one (ps_par (i := 2) (j := 3) rfl scW.nd rfl rfl (by decide) rfl rfl (pa_cons (pv 3) (pa_cons (pe_op op_mod (pv 2) (pv 3)) pa_nil)) (by rfl))))
      (pss_cons (ps_set (i := 2) scW.nd rfl (.inl rfl) (pe_ifExp (pt_cmpR op_lt (pv 1) pe_int (nomark _)) (pe_op op_sub pe_int (pv 2)) (pv 2)))
      (pss_one (ps_ret (pe_tup (pa_cons (pe_op op_fdivZ (pv 0) (pv 2)) (pa_cons (pe_op op_fdivZ (pv 1) (pv 2)) pa_nil))))))), ?_⟩
    have hs0 : sgn o u ≠ 0 := sgn_ne hu0
    have hsb : (sgn o u).natAbs < 2 ^ 9000 := by
      rw [sgn_abs]
      exact Nat.lt_of_le_of_lt (gI_le hu0) hub
    refine ⟨_, rfl, o, rfl, _, rfl, u, rfl, _, _, rfl, ?_⟩
    rw [absV, absV]
    refine ⟨fun m σ H' => ∃ x y : Int, σ = [some (.int o), some (.int u), some (.int x), some (.int y)] ∧ 0 ≤ x ∧ 0 ≤ y ∧ m = y.toNat ∧ gI x y = gI o u ∧ H' = H,
      ⟨_, (o.natAbs : Int), (u.natAbs : Int), rfl, by omega, by omega, rfl, gI_abs o u, rfl⟩, ?_⟩
    rintro m σ H' ⟨x, y, rfl, hx, hy, rfl, hg, rfl⟩
    refine ⟨_, rfl, _, _, rfl, rfl, _, rfl, ite2 (fun e => ?_) (fun e => ?_)⟩
    · have hy1 : 0 < y := of_decide_eq_true e
      refine ⟨fun σ' H'' => ∃ x' y' : Int, σ' = [some (.int o), some (.int u), some (.int x'), some (.int y')] ∧ 0 ≤ x' ∧ 0 ≤ y' ∧ y' < y ∧ gI x' y' = gI o u ∧ H'' = H', fun σ' H'' ⟨x', y', e1, e2, e3, e4, e5, e6⟩ => ⟨y'.toNat, by omega, x', y', e1, e2, e3, rfl, e5, e6⟩, ?_⟩
      refine ⟨_, rfl, _, rfl, _, rfl, _, _, rfl, rfl, hy1, _, _, rfl, ?_⟩
      exact ⟨y, x % y, rfl, hy, Int.emod_nonneg _ (by omega), Int.emod_lt_of_pos _ hy1, (gI_step hx hy1).trans hg, rfl⟩
    · have hy0 : y = 0 := by
        have : ¬ 0 < y := fun z => e (decide_eq_true z)
        omega
      subst hy0
      rw [gI_zero hx] at hg
      subst hg
      refine ⟨_, rfl, _, _, rfl, rfl, _, rfl, ite2 (fun e2 => ?_) (fun e2 => ?_)⟩
      · have hn : u < 0 := of_decide_eq_true e2
        have es : sgn o u = 0 - gI o u := by
          unfold sgn
          rw [if_pos hn]
          omega
        refine ⟨_, rfl, _, _, rfl, rfl, ?_⟩
        dsimp only
        rw [← es]
        exact ⟨_, rfl, _, rfl, _, _, rfl, rfl, divZ hs0 hsb, _, rfl, _, rfl, _, _, rfl, rfl, divZ hs0 hsb, (by show 2 ≤ sizeLine; decide), fun p hp => q p hp⟩
      · have hn : ¬ u < 0 := fun z => e2 (decide_eq_true z)
        have es : sgn o u = gI o u := if_neg hn
        refine ⟨_, rfl, ?_⟩
        rw [← es]
        exact ⟨_, rfl, _, rfl, _, _, rfl, rfl, divZ hs0 hsb, _, rfl, _, rfl, _, _, rfl, rfl, divZ hs0 hsb, (by show 2 ≤ sizeLine; decide), fun p hp => q p hp⟩
/-! two parts to one -/
def spBin (K : PySem.W.Frag) (num : Int → Int → Int → Int → Int) : Sp := fun vs H Q _ => ∃ (a b : Addr) (xs ys : List V) (x y z u : Int), vs = [.ref a, .ref b] ∧ SqT K H a xs ∧ SqT K H b ys ∧ P2 xs x y ∧ P2 ys z u ∧
  ∀ (H' : Hp) (p : Addr), Same H H' → H p = none → H' p = some (.tup (lowF (num x y z u) (y * u))) → Q (.ref p) H'
def nPlus (x y z u : Int) : Int := x * u + z * y
def nLess (x y z u : Int) : Int := x * u - z * y
def nTimes (x _ z _ : Int) : Int := x * z
theorem yu {y u : Int} (h1 : 0 < y) (h2 : 0 < u) : y * u ≠ 0 := by
  have := Int.mul_pos h1 h2
  omega
end
theorem gI_neg (o u : Int) : gI (-o) u = gI o u := by
  unfold gI
  rw [Int.neg_gcd]
theorem low_neg {o u : Int} (h : 0 < u) : (-o).fdiv (sgn (-o) u) = -(o.fdiv (sgn o u)) := by
  have g0 : 0 < gI o u := gI_pos (by omega)
  rw [sgn_pos h, sgn_pos h, gI_neg, Int.fdiv_eq_ediv_of_nonneg _ (by omega), Int.fdiv_eq_ediv_of_nonneg _ (by omega)]
  exact Int.neg_ediv_of_dvd (gI_dvd_left o u)
end Hl

set_option Elab.async false
set_option linter.all false
set_option maxRecDepth 100000
set_option maxHeartbeats 4000000
namespace Hl
open PySem PySem.Spec PyProof.Rows L2
/-! words -/
theorem wE_app {T : Tab} (r : List (Nat × Nat)) : ∀ (q : List (Nat × Nat)) (s : Nat), wE T (q ++ r) s = wE T r (wE T q s)
  | [], _ => rfl
  | p :: q, s => wE_app r q _
theorem wS_app {T : Tab} (r : List (Nat × Nat)) (j : Nat) : ∀ (q : List (Nat × Nat)) (s : Nat), wS T (q ++ r) s j = wS T q s j + wS T r (wE T q s) j
  | [], s => by
    show wS T r s j = 0 + wS T r s j
    omega
  | p :: q, s => by
    show sntN T p.1 p.2 s j + wS T (q ++ r) (endN T p.1 p.2 s) j = sntN T p.1 p.2 s j + wS T q (endN T p.1 p.2 s) j + wS T r (wE T q (endN T p.1 p.2 s)) j
    rw [wS_app r j q]
    omega
/-- letters that there are -/
def Gd (k : Nat) (q : List (Nat × Nat)) : Prop := ∀ p ∈ q, p.1 < k
theorem Gd.app {k : Nat} {q r : List (Nat × Nat)} (a : Gd k q) (b : Gd k r) : Gd k (q ++ r) := fun p hp => (List.mem_append.mp hp).elim (a p) (b p)
theorem Gd.one {k a m : Nat} (h : a < k) : Gd k [(a, m)] := fun p hp => by
  rw [List.mem_singleton.mp hp]
  exact h
section
variable {T : Tab} {k n : Nat}
theorem w_comm (l : Lawful T k n) {q r : List (Nat × Nat)} (a : Gd k q) (b : Gd k r) {s : Nat} (hs : s < T.length) : wE T r (wE T q s) = wE T q (wE T r s) ∧ ∀ j, j < n → wS T q s j + wS T r (wE T q s) j = wS T r s j + wS T q (wE T r s) j := by
  obtain ⟨e, f⟩ := w_perm l (q := q ++ r) (q' := r ++ q) List.perm_append_comm (a.app b) hs
  rw [wE_app, wE_app] at e
  refine ⟨e, fun j hj => ?_⟩
  have := f j hj
  rw [wS_app, wS_app] at this
  exact this
theorem rch_word (l : Lawful T k n) {s t : Nat} (hs : s < T.length) (h : Rch T s t) : ∃ q, Gd k q ∧ wE T q s = t := by
  induction h with
  | refl => exact ⟨[], (fun p hp => by cases hp), rfl⟩
  | @step i a e _ he ih =>
    obtain ⟨q, gq, eq⟩ := ih
    have il : i < T.length := by
      rw [← eq]
      exact wE_lt l q hs gq
    obtain ⟨row, hr, ha⟩ := getE_row he
    have ak : a < k := by
      have := (List.getElem?_eq_some_iff.mp ha).1
      rw [l.rl row (List.mem_of_getElem? hr)] at this
      exact this
    refine ⟨q ++ [(a, 1)], gq.app (Gd.one ak), ?_⟩
    rw [wE_app, eq]
    show nxN T a i = _
    unfold nxN
    rw [he]
    rfl
theorem rch_nx (l : Lawful T k n) {s a : Nat} (hs : s < T.length) (ha : a < k) : Rch T s (nxN T a s) := by
  obtain ⟨e, ge, e1, _, _⟩ := law_at l hs ha
  have := Rch.step (T := T) (s := s) .refl ge
  rw [e1] at this
  exact this
/-! a stand that comes again: its lap begins at once -/
theorem lap_zero (l : Lawful T k n) {r a L ah : Nat} (hr : r < T.length) (ha : a < k) (bk : Bk T r) (lp : Lap T a r L ah) (nd : (pathN T a r L).Nodup) : ah = 0 := by
  by_cases h0 : ah = 0
  · exact h0
  · exfalso
    have xl : nxN T a r < T.length := endN_lt l hr ha 1
    obtain ⟨d, gd, ed⟩ := rch_word l xl (bk _ xl (rch_nx l hr ha))
    have back : ∀ m, wE T d (endN T a (m + 1) r) = endN T a m r := fun m => by
      rw [Nat.add_comm, endN_add]
      have := (w_comm l (Gd.one (m := m) ha) gd (s := nxN T a r) xl).1
      show wE T d (endN T a m (nxN T a r)) = _
      rw [show endN T a m (nxN T a r) = wE T [(a, m)] (nxN T a r) from rfl, this, ed]
      rfl
    have lt := lp.lt
    have e1 := back (L - 1)
    have e2 := back (ah - 1)
    rw [show L - 1 + 1 = L by omega, lp.eq] at e1
    rw [show ah - 1 + 1 = ah by omega] at e2
    have e3 : endN T a (L - 1) r = endN T a (ah - 1) r := e1.symm.trans e2
    have p1 : (pathN T a r L)[L - 1]? = some (endN T a (L - 1) r) := pathN_get (by omega)
    have p2 : (pathN T a r L)[ah - 1]? = some (endN T a (L - 1) r) := by rw [e3]; exact pathN_get (by omega)
    have := nd_ix nd p1 p2
    omega
/-- so many of a letter lead r to itself, no fewer -/
structure Rnd (T : Tab) (a r L : Nat) : Prop where
  pos : 0 < L
  eq : endN T a L r = r
  nd : (pathN T a r L).Nodup
theorem Rnd.one {a r L L' : Nat} (h : Rnd T a r L) (h' : Rnd T a r L') : L = L' := by
  have key : ∀ {L L' : Nat}, Rnd T a r L → Rnd T a r L' → ¬ L < L' := fun {L L'} h h' hl => by
    have p1 : (pathN T a r L')[L]? = some (endN T a L r) := pathN_get hl
    have p2 : (pathN T a r L')[0]? = some (endN T a L r) := by rw [h.eq]; exact pathN_get (i := 0) h'.pos
    have := nd_ix h'.nd p1 p2
    have := h.pos
    omega
  have a1 := key h h'
  have a2 := key h' h
  omega
open Classical in
noncomputable def lapL (T : Tab) (r a : Nat) : Nat := if h : ∃ L, Rnd T a r L then Classical.choose h else 1
theorem lapL_of {a r L : Nat} (h : Rnd T a r L) : lapL T r a = L := by
  unfold lapL
  rw [dif_pos ⟨L, h⟩]
  exact Rnd.one (Classical.choose_spec (⟨L, h⟩ : ∃ L, Rnd T a r L)) h
/-- each letter has its round at r -/
structure Rds (T : Tab) (k r : Nat) : Prop where
  lt : r < T.length
  all : ∀ a, a < k → Rnd T a r (lapL T r a)
  le : ∀ a, a < k → lapL T r a ≤ 60
theorem path_le (l : Lawful T k n) {a r L : Nat} (hr : r < T.length) (ha : a < k) (nd : (pathN T a r L).Nodup) : L ≤ T.length := by
  have := nd_le T.length _ nd fun x hx => by
    unfold pathN at hx
    obtain ⟨y, _, rfl⟩ := List.mem_map.mp hx
    exact endN_lt l hr ha y
  rw [pathN_len] at this
  exact this
/-- each machine's walk by one letter has a lap with unlike stands -/
theorem lap_ex (l : Lawful T k n) {a r : Nat} (hr : r < T.length) (ha : a < k) : ∃ L ah, Lap T a r L ah ∧ (pathN T a r L).Nodup := by
  have key : ∀ m, m ≤ T.length + 1 → (pathN T a r m).Nodup ∨ ∃ L ah, Lap T a r L ah ∧ (pathN T a r L).Nodup := by
    intro m
    induction m with
    | zero => exact fun _ => .inl (by show ([] : List Nat).Nodup; simp)
    | succ m ih =>
      intro hm
      rcases ih (by omega) with nd | h
      · by_cases hx : ∃ i, i < m ∧ endN T a i r = endN T a m r
        · obtain ⟨i, im, e⟩ := hx
          exact .inr ⟨m, i, ⟨im, path_le l hr ha nd, e.symm⟩, nd⟩
        · exact .inl (nd_snoc (f := fun i => endN T a i r) nd fun i hi e => hx ⟨i, hi, e⟩)
      · exact .inr h
  rcases key (T.length + 1) (Nat.le_refl _) with nd | h
  · have := path_le l hr ha nd
    omega
  · exact h
theorem rds_of (l : Lawful T k n) {r : Nat} (hr : r < T.length) (bk : Bk T r) : Rds T k r := by
  have one : ∀ a, a < k → ∃ L, Rnd T a r L ∧ L ≤ 60 := fun a ha => by
    obtain ⟨L, ah, lp, nd⟩ := lap_ex l hr ha
    have z := lap_zero l hr ha bk lp nd
    subst z
    exact ⟨L, ⟨lp.lt, lp.eq, nd⟩, Nat.le_trans lp.le l.n60⟩
  refine ⟨hr, fun a ha => ?_, fun a ha => ?_⟩
  · obtain ⟨L, h, _⟩ := one a ha
    rw [lapL_of h]
    exact h
  · obtain ⟨L, h, h60⟩ := one a ha
    rw [lapL_of h]
    exact h60
end
/-! products -/
def prodF : Nat → (Nat → Nat) → Nat
  | 0, _ => 1
  | m + 1, f => prodF m f * f m
theorem prod_pos {f : Nat → Nat} : ∀ {m : Nat}, (∀ a, a < m → 0 < f a) → 0 < prodF m f
  | 0, _ => Nat.one_pos
  | m + 1, h => Nat.mul_pos (prod_pos fun a ha => h a (by omega)) (h m (by omega))
theorem prod_dvd {f : Nat → Nat} {a : Nat} : ∀ {m : Nat}, a < m → f a ∣ prodF m f
  | 0, h => absurd h (Nat.not_lt_zero _)
  | m + 1, h => by
    by_cases e : a = m
    · rw [e]
      exact Nat.dvd_mul_left _ _
    · exact Nat.dvd_trans (prod_dvd (m := m) (by omega)) (Nat.dvd_mul_right _ _)
theorem prod_le {f : Nat → Nat} : ∀ {m : Nat}, (∀ a, a < m → f a ≤ 60) → prodF m f ≤ 60 ^ m
  | 0, _ => Nat.le_refl _
  | m + 1, h => by
    rw [Nat.pow_succ]
    exact Nat.mul_le_mul (prod_le fun a ha => h a (by omega)) (h m (by omega))
/-! what is sent, less the rates -/
noncomputable def NN (T : Tab) (k r : Nat) : Nat := prodF k (lapL T r)
noncomputable def rtN (T : Tab) (k r a j : Nat) : Int := sntN T a (lapL T r a) r j * ((NN T k r / lapL T r a : Nat) : Int)
noncomputable def rq (T : Tab) (k r j : Nat) : List (Nat × Nat) → Int
  | [] => 0
  | p :: q => rtN T k r p.1 j * (p.2 : Int) + rq T k r j q
noncomputable def fQ (T : Tab) (k r j : Nat) (q : List (Nat × Nat)) (x : Nat) : Int := (NN T k r : Int) * wS T q x j - rq T k r j q
section
variable {T : Tab} {k n r j : Nat}
theorem rq_app (b : List (Nat × Nat)) : ∀ a : List (Nat × Nat), rq T k r j (a ++ b) = rq T k r j a + rq T k r j b
  | [] => by
    show rq T k r j b = 0 + rq T k r j b
    omega
  | p :: a => by
    show _ + rq T k r j (a ++ b) = _ + rq T k r j a + rq T k r j b
    rw [rq_app b a]
    omega
theorem fQ_app (a b : List (Nat × Nat)) (x : Nat) : fQ T k r j (a ++ b) x = fQ T k r j a x + fQ T k r j b (wE T a x) := by
  unfold fQ
  rw [rq_app, wS_app, Int.mul_add]
  omega
theorem fQ_comm (l : Lawful T k n) (hj : j < n) {a b : List (Nat × Nat)} (ga : Gd k a) (gb : Gd k b) {x : Nat} (hx : x < T.length) : fQ T k r j a x + fQ T k r j b (wE T a x) = fQ T k r j b x + fQ T k r j a (wE T b x) := by
  have := (w_comm l ga gb hx).2 j hj
  unfold fQ
  have e : (NN T k r : Int) * (wS T a x j + wS T b (wE T a x) j) = (NN T k r : Int) * (wS T b x j + wS T a (wE T b x) j) := by rw [this]
  rw [Int.mul_add, Int.mul_add] at e
  omega
theorem NN_pos (R : Rds T k r) : 0 < NN T k r := prod_pos fun a ha => (R.all a ha).pos
theorem fQ_round (R : Rds T k r) {a : Nat} (ha : a < k) : fQ T k r j [(a, lapL T r a)] r = 0 := by
  unfold fQ
  show (NN T k r : Int) * (sntN T a (lapL T r a) r j + 0) - (rtN T k r a j * (lapL T r a : Int) + 0) = 0
  unfold rtN
  have d : NN T k r / lapL T r a * lapL T r a = NN T k r := Nat.div_mul_cancel (prod_dvd ha)
  rw [Int.mul_assoc, ← Int.natCast_mul, d, Int.add_zero, Int.add_zero, Int.mul_comm]
  omega
/-- in the class of r -/
def Cls' (T : Tab) (k r x : Nat) : Prop := ∃ d, Gd k d ∧ wE T d r = x
theorem Cls'.lt (l : Lawful T k n) (R : Rds T k r) {x : Nat} (c : Cls' T k r x) : x < T.length := by
  obtain ⟨d, gd, rfl⟩ := c
  exact wE_lt l d R.lt gd
theorem Cls'.to {x : Nat} {q : List (Nat × Nat)} (gq : Gd k q) (c : Cls' T k r x) : Cls' T k r (wE T q x) := by
  obtain ⟨d, gd, rfl⟩ := c
  exact ⟨d ++ q, gd.app gq, wE_app _ _ _⟩
theorem cls_round (l : Lawful T k n) (hj : j < n) (R : Rds T k r) {a x : Nat} (ha : a < k) (c : Cls' T k r x) : endN T a (lapL T r a) x = x ∧ fQ T k r j [(a, lapL T r a)] x = 0 := by
  obtain ⟨d, gd, rfl⟩ := c
  have ga := Gd.one (k := k) (m := lapL T r a) ha
  have e := (w_comm l ga gd R.lt).1
  have e1 : wE T [(a, lapL T r a)] r = r := (R.all a ha).eq
  rw [e1] at e
  refine ⟨e.symm, ?_⟩
  have f := fQ_comm (r := r) l hj ga gd R.lt
  rw [e1, fQ_round R ha] at f
  omega
theorem fQ_split (a m m' x : Nat) : fQ T k r j [(a, m + m')] x = fQ T k r j [(a, m)] x + fQ T k r j [(a, m')] (endN T a m x) := by
  unfold fQ
  show (NN T k r : Int) * (sntN T a (m + m') x j + 0) - (rtN T k r a j * ((m + m' : Nat) : Int) + 0) = (NN T k r : Int) * (sntN T a m x j + 0) - (rtN T k r a j * (m : Int) + 0) + ((NN T k r : Int) * (sntN T a m' (endN T a m x) j + 0) - (rtN T k r a j * (m' : Int) + 0))
  simp only [Int.add_zero]
  rw [sntN_add, Int.natCast_add, Int.mul_add (rtN T k r a j), Int.mul_add]
  omega
theorem cls_mult (l : Lawful T k n) (hj : j < n) (R : Rds T k r) {a x : Nat} (ha : a < k) (c : Cls' T k r x) : ∀ t, endN T a (lapL T r a * t) x = x ∧ fQ T k r j [(a, lapL T r a * t)] x = 0
  | 0 => by
    refine ⟨rfl, ?_⟩
    rw [Nat.mul_zero]
    unfold fQ
    show (NN T k r : Int) * (0 + 0) - (rtN T k r a j * ((0 : Nat) : Int) + 0) = 0
    simp
  | t + 1 => by
    obtain ⟨e, f⟩ := cls_mult l hj R ha c t
    obtain ⟨e1, f1⟩ := cls_round l hj R ha c
    rw [Nat.mul_succ]
    refine ⟨by rw [endN_add, e, e1], ?_⟩
    rw [fQ_split, f, e, f1]
    rfl
def scale (m : Nat) (q : List (Nat × Nat)) : List (Nat × Nat) := q.map fun p => (p.1, m * p.2)
theorem scale_gd {m : Nat} {q : List (Nat × Nat)} (g : Gd k q) : Gd k (scale m q) := fun p hp => by
  obtain ⟨p', h, rfl⟩ := List.mem_map.mp hp
  exact g p' h
theorem cls_scale (l : Lawful T k n) (hj : j < n) (R : Rds T k r) : ∀ {q : List (Nat × Nat)}, Gd k q → ∀ {x : Nat}, Cls' T k r x → wE T (scale (NN T k r) q) x = x ∧ fQ T k r j (scale (NN T k r) q) x = 0
  | [], _, x, c => by
    refine ⟨rfl, ?_⟩
    unfold fQ
    show (NN T k r : Int) * 0 - 0 = 0
    simp
  | p :: q, g, x, c => by
    have hp := g p List.mem_cons_self
    obtain ⟨t, ht⟩ := prod_dvd (f := lapL T r) hp
    obtain ⟨e, f⟩ := cls_mult l hj R hp c (t * p.2)
    rw [← Nat.mul_assoc, show lapL T r p.1 * t = NN T k r from ht.symm] at e f
    obtain ⟨e2, f2⟩ := cls_scale l hj R (q := q) (fun p hp => g p (List.mem_cons_of_mem _ hp)) c
    refine ⟨?_, ?_⟩
    · show wE T (scale (NN T k r) q) (endN T p.1 (NN T k r * p.2) x) = x
      rw [e, e2]
    · have := fQ_app (T := T) (k := k) (r := r) (j := j) [(p.1, NN T k r * p.2)] (scale (NN T k r) q) x
      show fQ T k r j ([(p.1, NN T k r * p.2)] ++ scale (NN T k r) q) x = 0
      rw [this, f, show wE T [(p.1, NN T k r * p.2)] x = x from e, f2]
      rfl
theorem scale_succ (l : Lawful T k n) (hj : j < n) (m : Nat) : ∀ {q : List (Nat × Nat)}, Gd k q → ∀ {x : Nat}, x < T.length → wE T (scale (m + 1) q) x = wE T (scale m q) (wE T q x) ∧ fQ T k r j (scale (m + 1) q) x = fQ T k r j q x + fQ T k r j (scale m q) (wE T q x)
  | [], _, x, _ => by
    refine ⟨rfl, ?_⟩
    show fQ T k r j [] x = fQ T k r j [] x + fQ T k r j [] x
    unfold fQ
    show (NN T k r : Int) * 0 - 0 = (NN T k r : Int) * 0 - 0 + ((NN T k r : Int) * 0 - 0)
    simp
  | p :: q, g, x, hx => by
    have hp := g p List.mem_cons_self
    have gq : Gd k q := fun p hp => g p (List.mem_cons_of_mem _ hp)
    have x1 := endN_lt l hx hp p.2
    have x2 := endN_lt l hx hp ((m + 1) * p.2)
    obtain ⟨e, f⟩ := scale_succ l hj m gq x2
    have em : (m + 1) * p.2 = p.2 + m * p.2 := by rw [Nat.succ_mul, Nat.add_comm]
    have ga := Gd.one (k := k) (m := m * p.2) hp
    have cm := (w_comm l gq ga x1).1
    have cf := fQ_comm (r := r) l hj gq ga x1
    have s1 : endN T p.1 ((m + 1) * p.2) x = endN T p.1 (m * p.2) (endN T p.1 p.2 x) := by rw [em, endN_add]
    refine ⟨?_, ?_⟩
    · show wE T (scale (m + 1) q) (endN T p.1 ((m + 1) * p.2) x) = wE T (scale m q) (endN T p.1 (m * p.2) (wE T q (endN T p.1 p.2 x)))
      rw [e, s1]
      exact congrArg (wE T (scale m q)) cm.symm
    · have a1 := fQ_app (T := T) (k := k) (r := r) (j := j) [(p.1, (m + 1) * p.2)] (scale (m + 1) q) x
      have a2 := fQ_app (T := T) (k := k) (r := r) (j := j) [(p.1, p.2)] q x
      have a3 := fQ_app (T := T) (k := k) (r := r) (j := j) [(p.1, m * p.2)] (scale m q) (wE T q (endN T p.1 p.2 x))
      have a4 := fQ_split (T := T) (k := k) (r := r) (j := j) p.1 p.2 (m * p.2) x
      show fQ T k r j ([(p.1, (m + 1) * p.2)] ++ scale (m + 1) q) x = fQ T k r j ([(p.1, p.2)] ++ q) x + fQ T k r j ([(p.1, m * p.2)] ++ scale m q) (wE T q (endN T p.1 p.2 x))
      rw [a1, a2, a3]
      have b1 : wE T [(p.1, (m + 1) * p.2)] x = endN T p.1 ((m + 1) * p.2) x := rfl
      have b2 : wE T [(p.1, p.2)] x = endN T p.1 p.2 x := rfl
      have b3 : wE T [(p.1, m * p.2)] (wE T q (endN T p.1 p.2 x)) = endN T p.1 (m * p.2) (wE T q (endN T p.1 p.2 x)) := rfl
      have b4 : wE T [(p.1, m * p.2)] (endN T p.1 p.2 x) = endN T p.1 (m * p.2) (endN T p.1 p.2 x) := rfl
      rw [b1, b2, b3, f]
      rw [b4] at cm cf
      rw [show endN T p.1 (m * p.2) (wE T q (endN T p.1 p.2 x)) = wE T q (endN T p.1 (m * p.2) (endN T p.1 p.2 x)) from cm, ← s1]
      rw [← s1] at cf
      rw [← em] at a4
      rw [a4]
      omega
/-- in the class: what is sent less the rates hangs on the end alone -/
theorem cls_same (l : Lawful T k n) (hj : j < n) (R : Rds T k r) {q q' : List (Nat × Nat)} (g : Gd k q) (g' : Gd k q') {x : Nat} (c : Cls' T k r x) (e : wE T q x = wE T q' x) : fQ T k r j q x = fQ T k r j q' x := by
  have key : ∀ m x, Cls' T k r x → wE T q x = wE T q' x → fQ T k r j (scale m q) x - fQ T k r j (scale m q') x = (m : Int) * (fQ T k r j q x - fQ T k r j q' x) := by
    intro m
    induction m with
    | zero =>
      intro x c e
      have z : ∀ q : List (Nat × Nat), fQ T k r j (scale 0 q) x = 0 := fun q => by
        have : ∀ (q : List (Nat × Nat)) (x : Nat), wS T (scale 0 q) x j = 0 ∧ rq T k r j (scale 0 q) = 0 := by
          intro q
          induction q with
          | nil => exact fun _ => ⟨rfl, rfl⟩
          | cons p q ih =>
            intro x
            obtain ⟨h1, h2⟩ := ih (endN T p.1 (0 * p.2) x)
            refine ⟨?_, ?_⟩
            · show sntN T p.1 (0 * p.2) x j + wS T (scale 0 q) (endN T p.1 (0 * p.2) x) j = 0
              rw [h1, Nat.zero_mul]
              rfl
            · show rtN T k r p.1 j * ((0 * p.2 : Nat) : Int) + rq T k r j (scale 0 q) = 0
              rw [h2, Nat.zero_mul]
              simp
        unfold fQ
        rw [(this q x).1, (this q x).2]
        simp
      rw [z, z]
      simp
    | succ m ih =>
      intro x c e
      have xl := c.lt l R
      have s1 := (scale_succ (r := r) l hj m g xl).2
      have s2 := (scale_succ (r := r) l hj m g' xl).2
      have cm := fQ_comm (r := r) l hj g g' xl
      have cw := (w_comm l g g' xl).1
      rw [e] at cm cw s1
      have i1 := ih (wE T q' x) (c.to g') cw.symm
      rw [s1, s2, Int.natCast_add, Int.add_mul]
      have e1 : fQ T k r j q (wE T q' x) - fQ T k r j q' (wE T q' x) = fQ T k r j q x - fQ T k r j q' x := by omega
      rw [e1] at i1
      have : ((1 : Nat) : Int) * (fQ T k r j q x - fQ T k r j q' x) = fQ T k r j q x - fQ T k r j q' x := by simp
      omega
  have h := key (NN T k r) x c e
  rw [(cls_scale l hj R g c).2, (cls_scale l hj R g' c).2] at h
  have p := NN_pos R
  have z : (NN T k r : Int) * (fQ T k r j q x - fQ T k r j q' x) = 0 := by omega
  rcases Int.mul_eq_zero.mp z with z | z
  · omega
  · omega
/-- from any stand -/
theorem any_same (l : Lawful T k n) (hj : j < n) (R : Rds T k r) {q q' : List (Nat × Nat)} (g : Gd k q) (g' : Gd k q') {x : Nat} (hx : x < T.length) (e : wE T q x = wE T q' x) : fQ T k r j q x = fQ T k r j q' x := by
  obtain ⟨c, gc, ec⟩ := rch_word l l.n1 (l.re x hx)
  obtain ⟨d, gd, ed⟩ := rch_word l l.n1 (l.re r R.lt)
  have cl : Cls' T k r (wE T d x) := ⟨c, gc, by rw [← ed, (w_comm l gd gc l.n1).1, ec]⟩
  have f1 := fQ_comm (r := r) l hj g gd hx
  have f2 := fQ_comm (r := r) l hj g' gd hx
  have c1 := (w_comm l g gd hx).1
  have c2 := (w_comm l g' gd hx).1
  have f3 := cls_same l hj R g g' cl (by rw [← c1, ← c2, e])
  rw [e] at f1
  omega
end
end Hl

set_option Elab.async false
set_option linter.all false
set_option maxRecDepth 100000
set_option maxHeartbeats 4000000
namespace Hl
open PySem PySem.Spec PyProof.Rows L2
/-! some stand comes again -/
theorem rch_trans {T : Tab} {a b c : Nat} (h : Rch T a b) (h' : Rch T b c) : Rch T a c := by
  induction h' with
  | refl => exact h
  | step _ he ih => exact .step ih he
open Classical in
noncomputable def rcL (T : Tab) (s : Nat) : List Nat := (List.range T.length).filter fun j => decide (Rch T s j)
open Classical in
theorem rcL_lt {T : Tab} {s j : Nat} (hs : s < T.length) (h : Rch T s j) (n : ¬ Rch T j s) : (rcL T j).length < (rcL T s).length := by
  have e : rcL T j = (rcL T s).filter fun x => decide (x ∈ rcL T j) := by
    unfold rcL
    rw [List.filter_filter]
    refine List.filter_congr fun x hx => ?_
    by_cases hj : Rch T j x
    · have hsx := rch_trans h hj
      simp [hj, hsx, List.mem_range.mp hx]
    · simp [hj]
  rw [e, List.length_filter_lt_length_iff_exists]
  refine ⟨s, ?_, ?_⟩
  · unfold rcL
    rw [List.mem_filter]
    exact ⟨List.mem_range.mpr hs, decide_eq_true .refl⟩
  · intro hx
    have := of_decide_eq_true hx
    unfold rcL at this
    rw [List.mem_filter] at this
    exact n (of_decide_eq_true this.2)
theorem again_ex {T : Tab} (h1 : 1 ≤ T.length) : ∃ s, s < T.length ∧ Bk T s := by
  have key : ∀ m s, s < T.length → (rcL T s).length = m → ∃ s', s' < T.length ∧ Bk T s' := by
    intro m
    induction m using Nat.strongRecOn with
    | _ m ih =>
      intro s hs e
      by_cases hb : Bk T s
      · exact ⟨s, hs, hb⟩
      · have : ∃ j, j < T.length ∧ Rch T s j ∧ ¬ Rch T j s := by
          by_cases hx : ∃ j, j < T.length ∧ Rch T s j ∧ ¬ Rch T j s
          · exact hx
          · exact absurd (fun j hj h => by
              by_cases hy : Rch T j s
              · exact hy
              · exact absurd ⟨j, hj, h, hy⟩ hx) hb
        obtain ⟨j, hj, h, n⟩ := this
        exact ih _ (by rw [← e]; exact rcL_lt hs h n) j hj rfl
  exact key _ 0 h1 rfl
/-- the first stand that comes again -/
theorem again_head {T : Tab} (h1 : 1 ≤ T.length) : ∃ r rest, againL T T.length = r :: rest ∧ r < T.length ∧ Bk T r := by
  obtain ⟨s, hs, hb⟩ := again_ex h1
  have hin : s ∈ againL T T.length := by
    unfold againL
    rw [List.mem_filter]
    refine ⟨List.mem_range.mpr hs, ?_⟩
    unfold bkB
    classical exact decide_eq_true hb
  cases e : againL T T.length with
  | nil =>
    rw [e] at hin
    cases hin
  | cons r rest =>
    have hr : r ∈ againL T T.length := by rw [e]; exact List.mem_cons_self
    unfold againL at hr
    rw [List.mem_filter] at hr
    refine ⟨r, rest, rfl, List.mem_range.mp hr.1, ?_⟩
    have := hr.2
    unfold bkB at this
    classical exact of_decide_eq_true this
noncomputable def r0 (T : Tab) : Nat := ((againL T T.length)[0]?).getD 0
theorem r0_of {T : Tab} (h1 : 1 ≤ T.length) : (againL T T.length)[0]? = some (r0 T) ∧ r0 T < T.length ∧ Bk T (r0 T) := by
  obtain ⟨r, rest, e, hr, hb⟩ := again_head h1
  have : r0 T = r := by
    unfold r0
    rw [e]
    rfl
  rw [this, e]
  exact ⟨rfl, hr, hb⟩
theorem r0_rds {T : Tab} {k n : Nat} (l : Lawful T k n) : Rds T k (r0 T) := rds_of l (r0_of l.n1).2.1 (r0_of l.n1).2.2
/-! purses in whole numbers -/
noncomputable def N0 (T : Tab) (k : Nat) : Nat := NN T k (r0 T)
noncomputable def rt0 (T : Tab) (k a j : Nat) : Int := rtN T k (r0 T) a j
open Classical in
noncomputable def wd (T : Tab) (k s : Nat) : List (Nat × Nat) := if h : ∃ q, Gd k q ∧ wE T q 0 = s then Classical.choose h else []
noncomputable def phi (T : Tab) (k s j : Nat) : Int := fQ T k (r0 T) j (wd T k s) 0
section
variable {T : Tab} {k n : Nat}
theorem phi_of (l : Lawful T k n) {q : List (Nat × Nat)} (g : Gd k q) {j : Nat} (hj : j < n) : fQ T k (r0 T) j q 0 = phi T k (wE T q 0) j := by
  unfold phi wd
  rw [dif_pos ⟨q, g, rfl⟩]
  obtain ⟨g', e'⟩ := Classical.choose_spec (⟨q, g, rfl⟩ : ∃ q', Gd k q' ∧ wE T q' 0 = wE T q 0)
  exact any_same l hj (r0_rds l) g g' l.n1 e'.symm
theorem phi_walk (l : Lawful T k n) {q : List (Nat × Nat)} (g : Gd k q) {x j : Nat} (hx : x < T.length) (hj : j < n) : fQ T k (r0 T) j q x = phi T k (wE T q x) j - phi T k x j := by
  obtain ⟨c, gc, ec⟩ := rch_word l l.n1 (l.re x hx)
  have h1 := phi_of l gc hj
  have h2 := phi_of l (gc.app g) hj
  rw [fQ_app, wE_app, ec, h1, ec] at h2
  omega
theorem phi_zero (l : Lawful T k n) {j : Nat} (hj : j < n) : phi T k 0 j = 0 := by
  have h := phi_of l (q := []) (fun p hp => by cases hp) hj
  show phi T k (wE T [] 0) j = 0
  rw [← h]
  unfold fQ
  show (NN T k (r0 T) : Int) * 0 - 0 = 0
  simp
theorem phi_step (l : Lawful T k n) {a s j : Nat} (ha : a < k) (hs : s < T.length) (hj : j < n) : phi T k (nxN T a s) j = phi T k s j + (N0 T k : Int) * sdN T a s j - rt0 T k a j := by
  have h := phi_walk l (Gd.one (k := k) (m := 1) ha) hs hj
  unfold fQ at h
  have e1 : wS T [(a, 1)] s j = sdN T a s j := by
    show 0 + sdN T a s j + 0 = _
    omega
  have e2 : rq T k (r0 T) j [(a, 1)] = rtN T k (r0 T) a j := by
    show rtN T k (r0 T) a j * ((1 : Nat) : Int) + 0 = _
    simp
  rw [e1, e2] at h
  show phi T k (wE T [(a, 1)] s) j = _
  unfold N0 rt0
  omega
theorem N0_pos (l : Lawful T k n) : 0 < N0 T k := NN_pos (r0_rds l)
theorem N0_le (l : Lawful T k n) (h3 : k ≤ 3) : N0 T k ≤ 216000 := by
  have h := prod_le (f := lapL T (r0 T)) (m := k) fun a ha => (r0_rds l).le a ha
  have : 60 ^ k ≤ 60 ^ 3 := Nat.pow_le_pow_right (by decide) h3
  have : N0 T k ≤ 60 ^ 3 := Nat.le_trans h this
  omega
theorem snt_bound (l : Lawful T k n) {a s j : Nat} (ha : a < k) (hs : s < T.length) (hj : j < n) : ∀ m, 0 ≤ sntN T a m s j ∧ sntN T a m s j ≤ (m : Int) * 999999
  | 0 => ⟨Int.le_refl _, by show (0 : Int) ≤ _; simp⟩
  | m + 1 => by
    obtain ⟨h1, h2⟩ := snt_bound l ha hs hj m
    obtain ⟨h3, h4⟩ := sdN_val l (endN_lt l hs ha m) ha hj
    have e : sntN T a (m + 1) s j = sntN T a m s j + sdN T a (endN T a m s) j := rfl
    rw [e, Int.natCast_add, Int.add_mul]
    simp only [Int.natCast_one, Int.one_mul]
    omega
/-- a rate in whole numbers -/
theorem rt0_bound (l : Lawful T k n) (h3 : k ≤ 3) {a j : Nat} (ha : a < k) (hj : j < n) : 0 ≤ rt0 T k a j ∧ rt0 T k a j ≤ 12960000000000 := by
  have R := r0_rds l
  obtain ⟨h1, h2⟩ := snt_bound l ha R.lt hj (lapL T (r0 T) a)
  have hL := R.le a ha
  have hN := N0_le l h3
  have hd : NN T k (r0 T) / lapL T (r0 T) a ≤ N0 T k := Nat.div_le_self _ _
  unfold rt0 rtN
  generalize NN T k (r0 T) / lapL T (r0 T) a = D at *
  refine ⟨Int.mul_nonneg h1 (by omega), ?_⟩
  have b1 : sntN T a (lapL T (r0 T) a) (r0 T) j ≤ 60000000 := by
    have : ((lapL T (r0 T) a : Nat) : Int) * 999999 ≤ 60 * 999999 := Int.mul_le_mul_of_nonneg_right (by omega) (by decide)
    omega
  have : sntN T a (lapL T (r0 T) a) (r0 T) j * (D : Int) ≤ 60000000 * 216000 := Int.mul_le_mul b1 (by omega) (by omega) (by decide)
  omega
end
/-! parts with one under -/
theorem low_eq {o u : Int} (h : 0 < u) : lowF o u = [.int (o / gI o u), .int (u / gI o u)] := by
  have g0 := gI_pos (o := o) (u := u) (by omega)
  unfold lowF
  rw [sgn_pos h, Int.fdiv_eq_ediv_of_nonneg _ (by omega), Int.fdiv_eq_ediv_of_nonneg _ (by omega)]
theorem low_mul {o u x y : Int} (h : 0 < u) (e : lowF o u = [.int x, .int y]) : x * u = o * y := by
  rw [low_eq h] at e
  have e1 : o / gI o u = x := V.int.inj (List.cons.inj e).1
  have e2 : u / gI o u = y := V.int.inj (List.cons.inj (List.cons.inj e).2).1
  obtain ⟨a, ha⟩ := gI_dvd_left o u
  obtain ⟨b, hb⟩ := gI_dvd_right o u
  have g0 := gI_pos (o := o) (u := u) (by omega)
  generalize gI o u = g at *
  have x1 : x = a := by rw [← e1, ha]; exact Int.mul_ediv_cancel_left _ (by omega)
  have y1 : y = b := by rw [← e2, hb]; exact Int.mul_ediv_cancel_left _ (by omega)
  rw [x1, y1, ha, hb, Int.mul_comm g b, ← Int.mul_assoc, Int.mul_comm (a * b) g, ← Int.mul_assoc]
theorem low_cross {p q p' q' : Int} (h : 0 < q) (h' : 0 < q') (e : p * q' = p' * q) : lowF p q = lowF p' q' := by
  rw [low_eq h, low_eq h']
  have g0 := gI_pos (o := p) (u := q) (by omega)
  have g0' := gI_pos (o := p') (u := q') (by omega)
  have c : Int.gcd (p / gI p q) (q / gI p q) = 1 := Int.gcd_ediv_gcd_ediv_gcd (by unfold gI at g0; omega)
  have c' : Int.gcd (p' / gI p' q') (q' / gI p' q') = 1 := Int.gcd_ediv_gcd_ediv_gcd (by unfold gI at g0'; omega)
  obtain ⟨a, ha⟩ := gI_dvd_left p q
  obtain ⟨b, hb⟩ := gI_dvd_right p q
  obtain ⟨a', ha'⟩ := gI_dvd_left p' q'
  obtain ⟨b', hb'⟩ := gI_dvd_right p' q'
  generalize gI p q = g at *
  generalize gI p' q' = g' at *
  have i1 : p / g = a := by rw [ha]; exact Int.mul_ediv_cancel_left _ (by omega)
  have i2 : q / g = b := by rw [hb]; exact Int.mul_ediv_cancel_left _ (by omega)
  have i3 : p' / g' = a' := by rw [ha']; exact Int.mul_ediv_cancel_left _ (by omega)
  have i4 : q' / g' = b' := by rw [hb']; exact Int.mul_ediv_cancel_left _ (by omega)
  rw [i1, i2] at c
  rw [i3, i4] at c'
  rw [i1, i2, i3, i4]
  have ec : a * b' = a' * b := by
    rw [ha, hb', ha', hb] at e
    have : (g * g') * (a * b') = (g * g') * (a' * b) := by
      rw [show g * g' * (a * b') = g * a * (g' * b') by rw [Int.mul_assoc, Int.mul_left_comm g' a b', ← Int.mul_assoc], e, show g * g' * (a' * b) = g' * a' * (g * b) by rw [Int.mul_comm g g', Int.mul_assoc, Int.mul_left_comm g a' b, ← Int.mul_assoc]]
    exact Int.eq_of_mul_eq_mul_left (by
      have := Int.mul_pos g0 g0'
      omega) this
  have bp : 0 < b := by
    rcases Int.lt_or_le 0 b with h1 | h1
    · exact h1
    · have := Int.mul_nonpos_of_nonneg_of_nonpos (show 0 ≤ g by omega) h1
      omega
  have bp' : 0 < b' := by
    rcases Int.lt_or_le 0 b' with h1 | h1
    · exact h1
    · have := Int.mul_nonpos_of_nonneg_of_nonpos (show 0 ≤ g' by omega) h1
      omega
  have d1 : b ∣ b' := by
    have h2 : b ∣ a * b' := by rw [ec]; exact Int.dvd_mul_left _ _
    have h3 := Int.dvd_gcd_mul_iff_dvd_mul.mpr h2
    rw [Int.gcd_comm, c] at h3
    simpa using h3
  have d2 : b' ∣ b := by
    have h2 : b' ∣ a' * b := by rw [← ec]; exact Int.dvd_mul_left _ _
    have h3 := Int.dvd_gcd_mul_iff_dvd_mul.mpr h2
    rw [Int.gcd_comm, c'] at h3
    simpa using h3
  have eb : b = b' := Int.dvd_antisymm (by omega) (by omega) d1 d2
  subst eb
  have ea : a = a' := Int.eq_of_mul_eq_mul_right (by omega) ec
  rw [ea]
theorem low_int {s N : Int} (h : 0 < N) : [V.int s, .int 1] = lowF (N * s) N := by
  rw [← low_cross (p := s) (q := 1) (by decide) h (by rw [Int.mul_one, Int.mul_comm]), low_eq (by decide)]
  have : gI s 1 = 1 := by
    unfold gI
    rw [Int.gcd_one_right]
    rfl
  rw [this, Int.ediv_one, Int.ediv_one]
theorem low_plus {X Y N x y z u : Int} (h : 0 < N) (p : P2 (lowF X N) x y) (q : P2 (lowF Y N) z u) : lowF (nPlus x y z u) (y * u) = lowF (X + Y) N := by
  have e1 := low_mul h p.e
  have e2 := low_mul h q.e
  refine low_cross (Int.mul_pos p.y0 q.y0) h ?_
  unfold nPlus
  rw [Int.add_mul, Int.add_mul, show x * u * N = x * N * u by rw [Int.mul_assoc, Int.mul_comm u N, ← Int.mul_assoc], show z * y * N = z * N * y by rw [Int.mul_assoc, Int.mul_comm y N, ← Int.mul_assoc], e1, e2, show Y * u * y = Y * (y * u) by rw [Int.mul_assoc, Int.mul_comm u y], Int.mul_assoc]
theorem low_less {X Y N x y z u : Int} (h : 0 < N) (p : P2 (lowF X N) x y) (q : P2 (lowF Y N) z u) : lowF (nLess x y z u) (y * u) = lowF (X - Y) N := by
  have e1 := low_mul h p.e
  have e2 := low_mul h q.e
  refine low_cross (Int.mul_pos p.y0 q.y0) h ?_
  unfold nLess
  rw [Int.sub_mul, Int.sub_mul, show x * u * N = x * N * u by rw [Int.mul_assoc, Int.mul_comm u N, ← Int.mul_assoc], show z * y * N = z * N * y by rw [Int.mul_assoc, Int.mul_comm y N, ← Int.mul_assoc], e1, e2, show Y * u * y = Y * (y * u) by rw [Int.mul_assoc, Int.mul_comm u y], Int.mul_assoc]
theorem low_minus {X N x y : Int} (h : 0 < N) (e : lowF X N = [.int x, .int y]) : [V.int (0 - x), .int y] = lowF (-X) N := by
  rw [low_eq h] at e ⊢
  have e1 : X / gI X N = x := V.int.inj (List.cons.inj e).1
  have e2 : N / gI X N = y := V.int.inj (List.cons.inj (List.cons.inj e).2).1
  rw [gI_neg, ← e1, ← e2, Int.neg_ediv_of_dvd (gI_dvd_left X N), Int.zero_sub]
theorem low_rate {T : Tab} {k n a j : Nat} (l : Lawful T k n) (ha : a < k) : lowF (sntN T a (lapL T (r0 T) a) (r0 T) j) (lapL T (r0 T) a : Nat) = lowF (rt0 T k a j) (N0 T k : Nat) := by
  have R := r0_rds l
  have p1 := (R.all a ha).pos
  have p2 := N0_pos l
  refine low_cross (by omega) (by omega) ?_
  unfold rt0 rtN N0
  have d : NN T k (r0 T) / lapL T (r0 T) a * lapL T (r0 T) a = NN T k (r0 T) := Nat.div_mul_cancel (prod_dvd ha)
  rw [Int.mul_assoc, ← Int.natCast_mul, d]
end Hl

set_option Elab.async false
set_option linter.all false
set_option maxRecDepth 100000
set_option maxHeartbeats 4000000
namespace Hl
open PySem PySem.Spec PyProof.Rows L2
/-! zip of a list, a tuple and a list of one length -/
def Itz3m (K : PySem.W.Frag) (a b c : Addr) : It :=
  ⟨fun i H => ∃ (xs ys zs : List V), SqL K H a xs ∧ SqT K H b ys ∧ SqL K H c zs ∧ i < xs.length ∧ i < ys.length ∧ i < zs.length,
    fun i H v H' => ∃ T x y z, v = .ref T ∧ H T = none ∧ H' = upd H T (.tup [x, y, z]) ∧ (∀ xs, SqL K H a xs → xs[i]? = some x) ∧ (∀ ys, SqT K H b ys → ys[i]? = some y) ∧ ∀ zs, SqL K H c zs → zs[i]? = some z,
    fun i H => ∃ xs ys zs : List V, SqL K H a xs ∧ SqT K H b ys ∧ SqL K H c zs ∧ xs.length = i ∧ ys.length = i ∧ zs.length = i⟩
theorem turn_zip3m {P : Program} {w : World} {K : PySem.W.Frag} {elts : List Expr} {kk : Nat} {tpos : Pos} {a b c z TI TO i1 i2 i3 : Addr} (D : ZipSep3 z TI TO i1 i2 i3 [i1, a] [i2, b] [i3, c]) (n1 : a ≠ i1) (n2 : b ≠ i2) (n3 : c ≠ i3) :
    Turn P w K (.Tuple elts kk tpos) (Itz3m K a b c) [z, TI, TO, i1, i2, i3] z (fun i h => IsZip h z TI TO .none ∧ IsTupOf3 h TI (.ref i1) (.ref i2) (.ref i3) ∧ (∃ x y u, IsTupOf3 h TO x y u) ∧ h.IsListIter i1 a i ∧ h.IsTupleIter i2 b i ∧ h.IsListIter i3 c i) where
  mem := by simp
  obj := fun i h st d hd => by
    obtain ⟨hz, hTI, ⟨x, y, u, hTO⟩, ⟨o1, e1, _, d1⟩, ⟨o2, e2, _, d2⟩, ⟨o3, e3, _, d3⟩⟩ := st
    have e' : d = z ∨ d = TI ∨ d = TO ∨ d = i1 ∨ d = i2 ∨ d = i3 := by simpa using hd
    rcases e' with q | q | q | q | q | q
    · rw [q]; exact ⟨_, hz, fun v q => nomatch q⟩
    · rw [q]; exact ⟨_, hTI, fun v q => nomatch q⟩
    · rw [q]; exact ⟨_, hTO, fun v q => nomatch q⟩
    · rw [q]; exact ⟨o1, e1, fun v q => by rw [d1] at q; cases q⟩
    · rw [q]; exact ⟨o2, e2, fun v q => by rw [d2] at q; cases q⟩
    · rw [q]; exact ⟨o3, e3, fun v q => by rw [d3] at q; cases q⟩
  keep := fun i h h' st k => by
    obtain ⟨hz, hTI, ⟨x, y, u, hTO⟩, h1, h2, h3⟩ := st
    exact ⟨k z (by simp) _ hz, k TI (by simp) _ hTI, ⟨x, y, u, k TO (by simp) _ hTO⟩, h1.at fun o q => k i1 (by simp) o q, h2.at fun o q => k i2 (by simp) o q, h3.at fun o q => k i3 (by simp) o q⟩
  item := by
    intro X hP hw hK hc i pins s σ H E I hf st hg
    subst hP hw hK
    obtain ⟨hz, hTI, ⟨x0, y0, u0, hTO⟩, h1, h2, h3⟩ := st
    obtain ⟨xs, ys, zs, hqx, hqy, hqz, lx, ly, lz⟩ := hg
    obtain ⟨t1, rv1, p1, _⟩ := I.list hqx
    obtain ⟨t2, rv2, p2, _⟩ := I.tuple hqy
    obtain ⟨t3, rv3, p3, _⟩ := I.list hqz
    have hh : X.A.in1.handled = none := I.ok.hd hc
    have hzl : z < s.heap.objs.size := Heap.lt_size hz
    refine wpAny_pyNext_zipD3_item D (Draws.list hh i1 a n1 t1.toArray) (Draws.tuple hh i2 b n2 t2.toArray) (Draws.list hh i3 c n3 t3.toArray) hz hTI hTO ⟨h1, p1.isList⟩ ⟨h2, p2⟩ ⟨h3, p3.isList⟩
      (by have := rv1.length; simp; omega) (by have := rv2.length; simp; omega) (by have := rv3.length; simp; omega) ?_
    intro u1 u2 u3 h' tk q1 q2 q3 z' TO' d1 d2 d3 hT hsz hk
    obtain ⟨x, hx, rx⟩ : ∃ x, xs[i]? = some x ∧ RelV x u1 := by
      obtain ⟨u, hu, ru⟩ := rv1.get (List.getElem?_eq_getElem lx)
      have e1 : t1[i]? = some u1 := by simpa using q1
      rw [hu] at e1
      cases e1
      exact ⟨_, List.getElem?_eq_getElem lx, ru⟩
    obtain ⟨y, hy, ry⟩ : ∃ x, ys[i]? = some x ∧ RelV x u2 := by
      obtain ⟨u, hu, ru⟩ := rv2.get (List.getElem?_eq_getElem ly)
      have e1 : t2[i]? = some u2 := by simpa using q2
      rw [hu] at e1
      cases e1
      exact ⟨_, List.getElem?_eq_getElem ly, ru⟩
    obtain ⟨v, hv, rv⟩ : ∃ x, zs[i]? = some x ∧ RelV x u3 := by
      obtain ⟨u, hu, ru⟩ := rv3.get (List.getElem?_eq_getElem lz)
      have e1 : t3[i]? = some u3 := by simpa using q3
      rw [hu] at e1
      cases e1
      exact ⟨_, List.getElem?_eq_getElem lz, ru⟩
    refine ⟨_, rfl, wpAny_letOwnedTupleGo_zip (s := { s with heap := h', toks := tk }) z' fun h'' z'' sb => ?_⟩
    have hT2 : h''.get? s.heap.objs.size = some { cls := .type "tuple", data := .seq #[u1, u2, u3] } := (sb.2 _ (Nat.ne_of_gt hzl)).trans hT
    have new : ObjOk X.prog X.w (upd H s.heap.objs.size (.tup [x, y, v])) h'' s.heap.objs.size (.tup [x, y, v]) :=
      ⟨by show 3 ≤ sizeLine; decide, [u1, u2, u3], .cons rx (.cons ry (.cons rv .nil)), ⟨_, hT2, rfl, _, rfl⟩⟩
    have I1 := I.turnedNew (t' := tk) (ch := [z, TI, TO, i1, i2, i3]) (h' := h'') (fun d o hb q => (sb.2 d (fun q' => hb (by simp [q']))).trans
      (hk d o (fun q' => hb (by simp [q'])) (fun q' => hb (by simp [q'])) (fun q' => hb (by simp [q'])) (fun q' => hb (by simp [q'])) (fun q' => hb (by simp [q'])) q)) hf (Nat.le_refl _) new
    have ti1 : i1 ≠ z := D.zi1.symm
    have ti2 : i2 ≠ z := D.zi2.symm
    have ti3 : i3 ≠ z := D.zi3.symm
    refine ⟨.ref s.heap.objs.size, _, I1, rfl, ⟨_, x, y, v, rfl, I.hok.fresh (Nat.le_refl _), rfl, fun l hl => by rw [I.list_inj hl hqx]; exact hx, fun l hl => by rw [I.tuple_inj hl hqy]; exact hy, fun l hl => by rw [I.list_inj hl hqz]; exact hv⟩, ⟨z'', ?_, ⟨u1, u2, u3, ?_⟩, ?_, ?_, ?_⟩, fun d hdm => ?_⟩
    · exact (sb.2 _ D.TIz).trans (hk _ _ D.TIz D.TITO D.TIi1 D.TIi2 D.TIi3 hTI)
    · exact (sb.2 _ D.TOz).trans TO'
    · exact d1.1.at fun o q => (sb.2 _ ti1).trans q
    · exact d2.1.at fun o q => (sb.2 _ ti2).trans q
    · exact d3.1.at fun o q => (sb.2 _ ti3).trans q
    · have hlt : d < s.heap.objs.size := by
        have e' : d = z ∨ d = TI ∨ d = TO ∨ d = i1 ∨ d = i2 ∨ d = i3 := by simpa using hdm
        rcases e' with q | q | q | q | q | q
        · rw [q]; exact hzl
        · rw [q]; exact Heap.lt_size hTI
        · rw [q]; exact Heap.lt_size hTO
        · rw [q]; obtain ⟨_, e1, _⟩ := h1; exact Heap.lt_size e1
        · rw [q]; obtain ⟨_, e2, _⟩ := h2; exact Heap.lt_size e2
        · rw [q]; obtain ⟨_, e3, _⟩ := h3; exact Heap.lt_size e3
      rw [upd_ne (Nat.ne_of_lt hlt)]
      exact (hf d hdm).1
  done := by
    intro X hP hw hK hc i pins s σ H E I hf st hg
    subst hP hw hK
    obtain ⟨hz, hTI, ⟨x0, y0, u0, hTO⟩, h1, h2, h3⟩ := st
    obtain ⟨xs, ys, zs, hqx, hqy, hqz, lx, ly, lz⟩ := hg
    obtain ⟨t1, rv1, p1, _⟩ := I.list hqx
    obtain ⟨t2, rv2, p2, _⟩ := I.tuple hqy
    obtain ⟨t3, rv3, p3, _⟩ := I.list hqz
    have l1 := rv1.length
    have l2 := rv2.length
    have l3 := rv3.length
    have hh : X.A.in1.handled = none := I.ok.hd hc
    refine wpAny_pyNext_zipD3_end D (Draws.list hh i1 a n1 t1.toArray) (Draws.tuple hh i2 b n2 t2.toArray) (Draws.list hh i3 c n3 t3.toArray) hz hTI hTO ⟨h1, p1.isList⟩ ⟨h2, p2⟩ ⟨h3, p3.isList⟩
      (by simp; omega) (by simp; omega) (by simp; omega) (.inl (by simp; omega)) ?_
    intro h' tk hk
    exact ⟨rfl, I.turnedL (t' := tk) (ch := [z, TI, TO, i1, i2, i3]) (fun d o hb q =>
      hk d o (fun q' => hb (by simp [q'])) (fun q' => hb (by simp [q'])) (fun q' => hb (by simp [q'])) (fun q' => hb (by simp [q'])) (fun q' => hb (by simp [q'])) q) hf⟩
  self := fun A i s Q E st h => wpAny_pyIter_zip st.1 h
def iZip3m (K : PySem.W.Frag) (ta : TA) : TI := fun σ H R => ta σ H fun vs H1 => ∃ a b c xs ys zs, vs = [.ref a, .ref b, .ref c] ∧ SqL K H1 a xs ∧ SqT K H1 b ys ∧ SqL K H1 c zs ∧ R (Itz3m K a b c) H1
theorem pi_zip3m {X : Cx} {e e2 e3 : Expr} {ta : TA} {p pos tpos : Pos} {elts : List Expr} {kk : Nat} (hg : Gl X "zip") (hm : X.mg "zip" = none) (ha : PA X [e, e2, e3] ta)
    (hs : starEach [e, e2, e3] X.env = (false, eval e X.env) :: starEach [e2, e3] X.env := by rfl) (hpl : (backTo pos (starEach [e2, e3] X.env)).any (·.1) = false := by rfl) :
    PI X (.Tuple elts kk tpos) (.Call (.Name "zip" p) [e, e2, e3] [] pos) (iZip3m X.K ta) := by
  constructor
  intro pins s σ H R I h
  refine Call_ (ld_blt I hg hm PyProof.Rows.boot_zip (PyProof.Rows.callWith_type1 (thn (ha.run pos pins s σ H _ I h) ?_) hs hpl))
  rintro us s1 ⟨vs, H1, I1, r1, a, b, c, xs, ys, zs, rfl, hqx, hqy, hqz, q⟩
  cases r1 with
  | cons ra rr =>
    cases rr with
    | cons rb rr =>
      cases rr with
      | cons rc rr =>
        cases rr
        cases ra
        cases rb
        cases rc
        obtain ⟨t1, rv1, p1, _⟩ := I1.list hqx
        obtain ⟨t2, rv2, p2, _⟩ := I1.tuple hqy
        obtain ⟨t3, rv3, p3, _⟩ := I1.list hqz
        have la : a < s1.heap.objs.size := p1.lt
        have lb : b < s1.heap.objs.size := by obtain ⟨o, ho, _⟩ := p2; exact Heap.lt_size ho
        have lc : c < s1.heap.objs.size := p3.lt
        refine zip_begins3 (begins_list a t1.toArray) (begins_tuple b t2.toArray) (begins_list c t3.toArray) p1.isList p2 p3.isList fun h' hz hTI hTO g1 g2 g3 hsz hk => wpAny_pyIter_zip hz ?_
        have I2 : Inv X pins σ H1 { s1 with heap := h' } := I1.kept (t' := s1.toks) hk
        refine ⟨s1.heap.objs.size + 5, [s1.heap.objs.size + 5, s1.heap.objs.size + 3, s1.heap.objs.size + 4, s1.heap.objs.size, s1.heap.objs.size + 1, s1.heap.objs.size + 2], _, _, H1, rfl, I2,
          turn_zip3m (sep3 s1.heap.objs.size a b c la lb lc) (Nat.ne_of_lt la) (Nat.ne_of_lt (Nat.lt_of_lt_of_le lb (Nat.le_add_right _ 1))) (Nat.ne_of_lt (Nat.lt_of_lt_of_le lc (Nat.le_add_right _ 2))), ⟨hz, hTI, ⟨_, _, _, hTO⟩, ⟨_, g1, rfl, rfl⟩, ⟨_, g2, rfl, rfl⟩, ⟨_, g3, rfl, rfl⟩⟩, fun d hdm => ?_, q⟩
        have hle : s1.heap.objs.size ≤ d := by
          simp only [List.mem_cons, List.not_mem_nil, or_false] at hdm
          rcases hdm with z | z | z | z | z | z
          · rw [z]; exact Nat.le_add_right _ _
          · rw [z]; exact Nat.le_add_right _ _
          · rw [z]; exact Nat.le_add_right _ _
          · rw [z]; exact Nat.le_refl _
          · rw [z]; exact Nat.le_add_right _ _
          · rw [z]; exact Nat.le_add_right _ _
        exact I1.fpOk hle (I1.hok.fresh hle)
theorem lc_zip3m {K : PySem.W.Frag} {a b c : Addr} {xs ys zs : List V} {g : TG} {tt : TT} {te : TE} {vs : List Nat} {σ : L2.St} {H1 : Hp} {D : Addr} {Qd : Hp → Prop} {n : Nat} (hx : xs.length = n) (hy : ys.length = n) (hz : zs.length = n) (Pv : Nat → Hp → Prop) (h0 : Pv 0 (upd H1 D (.lst [])))
    (hq : ∀ i H, Pv i H → SqL K H a xs ∧ SqT K H b ys ∧ SqL K H c zs)
    (hs : ∀ (i : Nat) (x y z : V) (T : Addr) (H : Hp), xs[i]? = some x → ys[i]? = some y → zs[i]? = some z → Pv i H → H T = none → g (.ref T) (wipe σ vs) (upd H T (.tup [x, y, z])) fun σ2 H2 => wipe σ2 vs = wipe σ vs ∧ tt σ2 H2 fun b H3 =>
      if b = true then te σ2 H3 fun y H4 => ∃ acc, H4 D = some (.lst acc) ∧ acc.length < sizeLine ∧ Pv (i + 1) (upd H4 D (.lst (acc ++ [y]))) else Pv (i + 1) H3) (hd : ∀ H, Pv n H → Qd H) :
    ∃ W : Nat → Nat → Hp → Prop, (∃ m, W 0 m (upd H1 D (.lst []))) ∧ ∀ i m H, W i m H →
      ((Itz3m K a b c).stop i H ∧ Qd H) ∨ ((Itz3m K a b c).go i H ∧ ∃ Nx : Hp → Prop, (∀ H', Nx H' → ∃ m', m' < m ∧ W (i + 1) m' H') ∧ ∀ x H', (Itz3m K a b c).yld i H x H' → g x (wipe σ vs) H' fun σ2 H2 => wipe σ2 vs = wipe σ vs ∧ tt σ2 H2 fun b H3 =>
        if b = true then te σ2 H3 fun y H4 => ∃ acc, H4 D = some (.lst acc) ∧ acc.length < sizeLine ∧ Nx (upd H4 D (.lst (acc ++ [y]))) else Nx H3) := by
  refine ⟨fun i m H => m = n - i ∧ i ≤ n ∧ Pv i H, ⟨n, rfl, Nat.zero_le _, h0⟩, ?_⟩
  rintro i m H ⟨rfl, hi, p⟩
  obtain ⟨qx, qy, qz⟩ := hq i H p
  by_cases hlt : i < n
  · refine .inr ⟨⟨xs, ys, zs, qx, qy, qz, by omega, by omega, by omega⟩, Pv (i + 1), fun H' p' => ⟨n - (i + 1), by omega, rfl, hlt, p'⟩, ?_⟩
    rintro v H' ⟨T, x, y, z, rfl, hT, rfl, f1, f2, f3⟩
    exact hs i x y z T H (f1 _ qx) (f2 _ qy) (f3 _ qz) p hT
  · have e : i = n := by omega
    subst e
    exact .inl ⟨⟨xs, ys, zs, qx, qy, qz, hx, hy, hz⟩, hd H p⟩
end Hl

set_option Elab.async false
set_option linter.all false
set_option maxRecDepth 100000
set_option maxHeartbeats 4000000
namespace Hl
open PySem PySem.Spec PyProof.Rows L2
abbrev sLat : Stmt := topS 45
abbrev sLr : Stmt := topS 47
abbrev sRo : Stmt := topS 48
abbrev sLt : Stmt := inClass (topS 38) 1
abbrev sOt : Stmt := inClass (topS 38) 2
/-- a part X / N in lowest terms -/
def PtAt (H : Hp) (N : Int) (v : V) (X : Int) : Prop := ∃ a, v = .ref a ∧ H a = some (.tup (lowF X N))
def PtsAt (H : Hp) (N : Int) (v : V) (Xs : List Int) : Prop := ∃ b vs, v = .ref b ∧ H b = some (.lst vs) ∧ Paired (PtAt H N) vs Xs
theorem PtAt.same {H H' : Hp} {N : Int} {v : V} {X : Int} (k : Same H H') (h : PtAt H N v X) : PtAt H' N v X := let ⟨a, e, h⟩ := h; ⟨a, e, k _ _ h⟩
theorem PtsAt.same {H H' : Hp} {N : Int} {v : V} {X : List Int} (k : Same H H') (h : PtsAt H N v X) : PtsAt H' N v X := let ⟨b, vs, e, h, p⟩ := h; ⟨b, vs, e, k _ _ h, paired_mono (fun _ _ => PtAt.same k) p⟩
theorem PtsAt.st {H : Hp} {N : Int} {D b : Addr} {ds : List V} {Xs : List Int} (hD : H D = some (.lst ds)) (n : b ≠ D) (h : PtsAt H N (.ref b) Xs) : PtsAt (st [D] H) N (.ref b) Xs := by
  obtain ⟨b', vs, e, h1, p⟩ := h
  cases e
  refine ⟨b, vs, rfl, by rw [st_get (by simp [n])]; exact h1, paired_mono (fun v X ⟨a, e, ha⟩ => ⟨a, e, ?_⟩) p⟩
  have : a ≠ D := fun z => by
    rw [z, hD] at ha
    cases ha
  rw [st_get (by simp [this])]
  exact ha
noncomputable def ratesL (T : Tab) (k n a : Nat) : List Int := vec n (rt0 T k a)
def RatesAt (H : Hp) (q : Addr) (T : Tab) (k n : Nat) : Prop := ∃ vs, H q = some (.lst vs) ∧ Paired (fun v a => PtsAt H (N0 T k) v (ratesL T k n a)) vs (List.range k)
theorem RatesAt.same {H H' : Hp} {q : Addr} {T : Tab} {k n : Nat} (s : Same H H') (h : RatesAt H q T k n) : RatesAt H' q T k n := let ⟨vs, h, p⟩ := h; ⟨vs, s _ _ h, paired_mono (fun _ _ => PtsAt.same s) p⟩
theorem sum_path (T : Tab) (a r j : Nat) : ∀ m, ((List.range m).map fun i => sdN T a (endN T a i r) j).sum = sntN T a m r j
  | 0 => rfl
  | m + 1 => by
    rw [List.range_succ, List.map_append, List.sum_append, sum_path T a r j m]
    show _ + (sdN T a (endN T a m r) j + 0) = sntN T a m r j + sdN T a (endN T a m r) j
    omega
section
variable {P : Program} {w : World} {K : PySem.W.Frag} {mg : Str → Option Value} {base : Heap}
/-! lap_at -/
def spLat : Sp := fun vs H Q _ => ∃ (a : Addr) (T : Tab) (k n pl : Nat), vs = [.ref a, .int pl, .int (r0 T : Nat)] ∧ RTab H a T ∧ Lawful T k n ∧ pl < k ∧
  ∀ (H' : Hp) (q : Addr), Same H H' → H' q = some (.lst (natV (pathN T pl (r0 T) (lapL T (r0 T) pl)))) → Q (.ref q) H'
abbrev nmLat : List Str := ["rows", "place", "again", "path", "ahead"]
theorem scLat : FnScope nmLat ["rows", "place", "again"] (defScope sLat) := ⟨rfl, rfl, rfl, by decide +kernel, rfl, by decide +kernel, by decide +kernel⟩
theorem ok_lat {f fL : Addr} {fd fdL : FuncData} {k : Nat} (F : Fun K "lap_at" "lap_at" sLat f fd) (L : Has P w K mg base k "lap_from" ["rows", "place", "stand"] spLapF fL fdL) : FnOk P w K mg base CX0 (k + 1) f fd ["rows", "place", "again"] spLat := by
  refine F.ok scLat (fun vs H Q E h => ?_) (fun cdv A outer s H vs Q E hr h => ?_)
  · obtain ⟨a, T, k, n, pl, rfl, _⟩ := h
    rfl
  · obtain ⟨a, T, kk, n, pl, rfl, ht, law, plk, q⟩ := h
    refine ⟨_, pss_cons (ps_asg (pe_call L.G hr (by rfl) L.g L.kp L.b .nil pass0 (pa_cons (pv 0) (pa_cons (pv 1) (pa_cons (pv 2) pa_nil)))) (pg_tup rfl (pgs_cons (pg_name (i := 3) scLat.nd rfl (.inl rfl)) (pgs_cons (pg_name (i := 4) scLat.nd rfl (.inl rfl)) pgs_nil))))
      (pss_one (ps_ret (pv 3))), ?_⟩
    obtain ⟨_, rl, rb⟩ := r0_of law.n1
    refine ⟨_, rfl, _, rfl, _, rfl, a, T, kk, n, pl, r0 T, rfl, ht, law, plk, rl, fun H' t qq L' ah sm lp nd hT hq => ?_⟩
    have z := lap_zero law rl plk rb lp nd
    subst z
    have eL := lapL_of (T := T) (a := pl) (r := r0 T) (L := L') ⟨lp.lt, lp.eq, nd⟩
    refine ⟨t, _, rfl, SqT.of hT, rfl, _, _, rfl, _, _, rfl, rfl, ?_⟩
    refine ⟨_, rfl, q H' qq sm ?_⟩
    rw [eL]
    exact hq
/-! letter_rates -/
def spLr : Sp := fun vs H Q _ => ∃ (a : Addr) (T : Tab) (k n pl : Nat), vs = [.ref a, .int pl, .int (r0 T : Nat), .int n] ∧ RTab H a T ∧ Lawful T k n ∧ pl < k ∧ k ≤ 3 ∧ n ≤ 3 ∧
  ∀ (H' : Hp) (b : Addr), Same H H' → H b = none → PtsAt H' (N0 T k) (.ref b) (ratesL T k n pl) → Q (.ref b) H'
abbrev nmLR : List Str := ["rows", "place", "again", "outlets", "path", "outlet", "stand"]
theorem scLR : FnScope nmLR ["rows", "place", "again", "outlets"] (defScope sLr) := ⟨rfl, rfl, rfl, by decide +kernel, rfl, by decide +kernel, by decide +kernel⟩
abbrev scLR1 : Scope := lcScope (retE ((defBody sLr).getD 1 (.Pass ⟨0, 0, 0, 0⟩)))
def rLenK (K : PySem.W.Frag) : List V → Hp → VK → Prop := fun xs H Q => ∃ p ys, xs = [.ref p] ∧ (SqL K H p ys ∨ SqT K H p ys) ∧ Q (.int ys.length) H
abbrev teLr (K : PySem.W.Frag) : TE := tCall spPart [] E0 (tCons (tCB (rSum K) (tCons (tLc (iList K (tVar 4)) (gName 6) tYes (tOp (rIx K) (tOp (rIx K) (tOp (rIx K) (tOp (rIx K) (tVar 0) (tVar 6)) (tVar 1)) (tC (.int 1))) (tVar 5)) [6]) tNil)) (tCons (tCB (rLenK K) (tCons (tVar 4) tNil)) tNil))
theorem ok_lr {f fL fP : Addr} {fd fdL fdP : FuncData} {k : Nat} (F : Fun K "letter_rates" "letter_rates" sLr f fd) (B : Bi mg) (J : Bj mg) (L : Has P w K mg base k "lap_at" ["rows", "place", "again"] spLat fL fdL) (Pt : Has P w K mg base k "part" ["over", "under"] spPart fP fdP) :
    FnOk P w K mg base CX0 (k + 1) f fd ["rows", "place", "again", "outlets"] spLr := by
  refine F.ok scLR (fun vs H Q E h => ?_) (fun cdv A outer s H vs Q E hr h => ?_)
  · obtain ⟨a, T, k, n, pl, rfl, _⟩ := h
    rfl
  · obtain ⟨a, T, kk, n, pl, rfl, ht, law, plk, k3, n3, q⟩ := h
    refine ⟨_, pss_cons (ps_set (i := 4) scLR.nd rfl (.inr rfl) (pe_call L.G hr (by rfl) L.g L.kp L.b .nil pass0 (pa_cons (pv 0) (pa_cons (pv 1) (pa_cons (pv 2) pa_nil)))))
      (pss_one (ps_ret (pe_lc (own := [("outlet", 5)]) (g := gName 5) (tt := tYes) (te := teLr K) rfl scLR.nd (pi_range1 (by rfl) B.rng (pa_cons (pv 3) pa_nil)) (blkOk_by (own := [("outlet", 5)]) (N := nmLR) (sc := defScope sLr) (by decide +kernel)) (fun _ _ _ _ _ => pg_name (i := 5) scLR.nd rfl (Or.inr rfl)) (fun _ _ _ _ _ => pts_nil)
        (fun _ _ _ _ _ => pe_call Pt.G hr (by rfl) Pt.g Pt.kp Pt.b .nil pass0 (pa_cons (pe_callB (r := rSum K) (cr_sum rfl) (by rfl) J.sum (by decide +kernel) (pa_cons
          (pe_lc (own := [("stand", 6)]) (g := gName 6) (tt := tYes) rfl scLR.nd (pi_list (pv 4)) (blkOk_by (own := [("stand", 6)]) (N := nmLR) (sc := scLR1) (by decide +kernel)) (fun _ _ _ _ _ => pg_name (i := 6) scLR.nd rfl (Or.inl rfl)) (fun _ _ _ _ _ => pts_nil)
            (fun _ _ _ _ _ => pe_ix (r := rIx K) ix_seq (pe_ix (r := rIx K) ix_seq (pe_ix (r := rIx K) ix_seq (pe_ix (r := rIx K) ix_seq (pv 0) (pv 6) (fun _ _ => rfl)) (pv 1) (fun _ _ => rfl)) pe_int (fun _ _ => rfl)) (pv 5) (fun _ _ => rfl))) pa_nil))
          (pa_cons (pe_callB (r := rLenK K) call_len_seq (by rfl) B.len PySem.boot_len (pa_cons (pv 4) pa_nil)) pa_nil)))))), ?_⟩
    refine ⟨_, rfl, _, rfl, _, rfl, a, T, kk, n, pl, rfl, ht, law, plk, fun H1 qp sm1 hqp => ?_⟩
    have R := r0_rds law
    have pos := (R.all pl plk).pos
    have le60 := R.le pl plk
    have lp : (natV (pathN T pl (r0 T) (lapL T (r0 T) pl))).length = lapL T (r0 T) pl := by
      unfold natV
      rw [List.length_map, pathN_len]
    refine ⟨_, rfl, (n : Int), rfl, by omega, by omega, fun D nD => ?_⟩
    refine lc_range (lo := 0) (n := n) (fun j H' => ∃ vs : List V, Same H1 H' ∧ H' D = some (.lst vs) ∧ Paired (PtAt (st [D] H') (N0 T kk)) vs ((ratesL T kk n pl).take j)) ⟨[], same_upd nD, upd_same, by rw [List.take_zero]; exact .nil⟩ ?_ ?_
    · rintro j H2 hj ⟨vs, sm2, hD, pp⟩
      have sm12 := sm1.trans sm2
      have lvs := pp.length
      have lr : (ratesL T kk n pl).length = n := vec_len _ _
      rw [List.length_take, lr] at lvs
      refine ⟨rfl, ?_⟩
      refine ⟨_, rfl, qp, rfl, ⟨_, SqL.of (sm2 _ _ hqp)⟩, fun D2 nD2 => ?_⟩
      refine lc_list (K := K) (a := qp) (xs := natV (pathN T pl (r0 T) (lapL T (r0 T) pl))) (fun i H' => Same H2 H' ∧ H' D2 = some (.lst (((List.range i).map fun i => sdN T pl (endN T pl i (r0 T)) j).map V.int))) ⟨same_upd nD2, upd_same⟩ (fun i H' _ ⟨sm, _⟩ => SqL.of (sm _ _ (sm2 _ _ hqp))) ?_ ?_
      · rintro i x H3 hx ⟨sm3, hD2⟩
        obtain ⟨s1, hs1, rfl⟩ := natV_get hx
        have il := (List.getElem?_eq_some_iff.mp hs1).1
        rw [pathN_len] at il
        rw [pathN_get il] at hs1
        cases Option.some.inj hs1
        obtain ⟨e, ge, _, _, ev⟩ := law_at law (endN_lt law R.lt plk i) plk
        obtain ⟨row, hr1, hr2⟩ := getE_row ge
        have ht3 := ht.same (sm12.trans sm3)
        obtain ⟨v1, rv1, x1⟩ := rt_row (K := K) ht3 hr1
        obtain ⟨c1, t1, hc1, ht1, y1⟩ := rr_ent (K := K) rv1 hr2
        have ej : (e.2.map V.int)[j]? = some (.int (sdN T pl (endN T pl i (r0 T)) j)) := by
          rw [List.getElem?_map, ev, vec_get hj]
          rfl
        refine ⟨rfl, ?_⟩
        refine ⟨_, rfl, _, rfl, x1 _ ⟨_, rfl, y1 _ (.inr (.inl ⟨c1, _, 1, _, rfl, rfl, SqT.of hc1, atI_nat (j := 1) rfl, _, rfl, .inr (.inl ⟨t1, _, _, _, rfl, rfl, SqT.of ht1, at_of (j := j) (by omega) ej, ?_⟩)⟩))⟩⟩
        refine ⟨_, hD2, ?_, sm3.put nD2, ?_⟩
        · rw [List.length_map, List.length_map, List.length_range]
          exact small1000 (by omega)
        · rw [upd_same, List.range_succ, List.map_append, List.map_append]
          rfl
      · rintro H3 ⟨sm3, hD2⟩
        rw [lp] at hD2
        refine ⟨D2, _, rfl, SqL.of hD2, ?_⟩
        rw [sum_path]
        refine ⟨_, rfl, qp, _, rfl, .inl (SqL.of (sm3 _ _ (sm2 _ _ hqp))), ?_⟩
        rw [lp]
        refine ⟨_, _, rfl, by omega, lt9000 (a := 10) (by omega) (by decide), fun g ng => ?_⟩
        have sg := same_upd (o := .tup (lowF (sntN T pl (lapL T (r0 T) pl) (r0 T) j) (lapL T (r0 T) pl : Nat))) ng
        have ngD : g ≠ D := ne_of_fresh (sm3 _ _ hD) ng
        refine ⟨_, sg _ _ (sm3 _ _ hD), small1000 (by omega), vs ++ [.ref g], ((sm2.trans sm3).trans sg).put nD, upd_same, ?_⟩
        have gj : (ratesL T kk n pl)[j]? = some (rt0 T kk pl j) := vec_get hj
        rw [st_upd (by simp), List.take_add_one, gj]
        refine paired_snoc (paired_mono (fun _ _ => PtAt.same (st_mono (sm3.trans sg))) pp) ⟨g, rfl, ?_⟩
        rw [st_get (by simp [ngD]), upd_same, low_rate law plk]
    · rintro H2 ⟨vs, sm2, hD, pp⟩
      have lr : (ratesL T kk n pl).length = n := vec_len _ _
      rw [List.take_of_length_le (by omega)] at pp
      exact q H2 D (sm1.trans sm2) (sm1.free nD) ⟨D, vs, rfl, hD, paired_mono (fun _ _ => PtAt.same st_same) pp⟩
/-! letters, outlets -/
def spLt (C : Addr) : Sp := fun vs H Q _ => ∃ (p dx a b t : Addr) (ins outs : List Str) (T : Tab), vs = [.ref p] ∧ MachAt C H p dx a b t ins outs T ∧ ∀ l, H l = none → Q (.ref l) (upd H l (.lst (ins.map V.str)))
def spOt (C : Addr) : Sp := fun vs H Q _ => ∃ (p dx a b t : Addr) (ins outs : List Str) (T : Tab), vs = [.ref p] ∧ MachAt C H p dx a b t ins outs T ∧ ∀ l, H l = none → Q (.ref l) (upd H l (.lst (outs.map V.str)))
theorem scLt : FnScope ["self"] ["self"] (defScope sLt) := ⟨rfl, rfl, rfl, by decide +kernel, rfl, by decide +kernel, by decide +kernel⟩
theorem scOt : FnScope ["self"] ["self"] (defScope sOt) := ⟨rfl, rfl, rfl, by decide +kernel, rfl, by decide +kernel, by decide +kernel⟩
theorem ok_lt {f C : Addr} {fd : FuncData} {k : Nat} (F : Fun K "letters" "Machine.letters" sLt f fd) (M : Mc K mg C) (B : Bi mg) : FnOk P w K mg base CX0 (k + 1) f fd ["self"] (spLt C) := by
  refine F.ok scLt (fun vs H Q E h => ?_) (fun cdv A outer s H vs Q E hr h => ?_)
  · obtain ⟨p, dx, a, b, t, ins, outs, T, rfl, _⟩ := h
    rfl
  · obtain ⟨p, dx, a, b, t, ins, outs, T, rfl, mc, q⟩ := h
    refine ⟨_, pss_one (ps_ret (pe_callTy call_list_of (by rfl) B.lst (by decide +kernel) (pa_cons (pe_fld (pv 0) rfl) pa_nil))), ?_⟩
    exact ⟨_, rfl, p, C, dx, _, _, rfl, mc.hp, M.cl, M.nL, mf_l _ _ _, a, _, rfl, .inr (SqT.of mc.ha), q⟩
theorem ok_ot {f C : Addr} {fd : FuncData} {k : Nat} (F : Fun K "outlets" "Machine.outlets" sOt f fd) (M : Mc K mg C) (B : Bi mg) : FnOk P w K mg base CX0 (k + 1) f fd ["self"] (spOt C) := by
  refine F.ok scOt (fun vs H Q E h => ?_) (fun cdv A outer s H vs Q E hr h => ?_)
  · obtain ⟨p, dx, a, b, t, ins, outs, T, rfl, _⟩ := h
    rfl
  · obtain ⟨p, dx, a, b, t, ins, outs, T, rfl, mc, q⟩ := h
    refine ⟨_, pss_one (ps_ret (pe_callTy call_list_of (by rfl) B.lst (by decide +kernel) (pa_cons (pe_fld (pv 0) rfl) pa_nil))), ?_⟩
    exact ⟨_, rfl, p, C, dx, _, _, rfl, mc.hp, M.cl, M.nO, mf_o _ _ _, b, _, rfl, .inr (SqT.of mc.hb), q⟩
/-! rates_of -/
def spRo (C : Addr) : Sp := fun vs H Q _ => ∃ (p dx a b t : Addr) (ins outs : List Str) (T : Tab), vs = [.ref p] ∧ MachAt C H p dx a b t ins outs T ∧ Lawful T ins.length outs.length ∧ ins.length ≤ 3 ∧ outs.length ≤ 3 ∧ ∀ (H' : Hp) (q : Addr), Same H H' → RatesAt H' q T ins.length outs.length → Q (.ref q) H'
abbrev nmRo : List Str := ["machine", "rows", "again", "outlets", "place"]
theorem scRo : FnScope nmRo ["machine"] (defScope sRo) := ⟨rfl, rfl, rfl, by decide +kernel, rfl, by decide +kernel, by decide +kernel⟩
theorem ok_ro {f C fR fA fO fT fL : Addr} {fd fdR fdA fdO fdT fdL : FuncData} {k : Nat} (F : Fun K "rates_of" "rates_of" sRo f fd) (M : Mc K mg C) (B : Bi mg)
    (GR : FnOk P w K mg base CX0 k fR fdR ["self"] (spMr C)) (mR : Meth K C "rows" fR) (bR : Binds K fdR ["self"] [])
    (Ca : Has P w K mg base k "coming_again" ["machine"] (spCa C) fA fdA)
    (GO : FnOk P w K mg base CX0 k fO fdO ["self"] (spOt C)) (mO : Meth K C "outlets" fO) (bO : Binds K fdO ["self"] [])
    (GT : FnOk P w K mg base CX0 k fT fdT ["self"] (spLt C)) (mT : Meth K C "letters" fT) (bT : Binds K fdT ["self"] [])
    (Lr : Has P w K mg base k "letter_rates" ["rows", "place", "again", "outlets"] spLr fL fdL) :
    FnOk P w K mg base CX0 (k + 1) f fd ["machine"] (spRo C) := by
  refine F.ok scRo (fun vs H Q E h => ?_) (fun cdv A outer s H vs Q E hr h => ?_)
  · obtain ⟨p, dx, a, b, t, ins, outs, T, rfl, _⟩ := h
    rfl
  · obtain ⟨p, dx, a, b, t, ins, outs, T, rfl, mc, law, i3, o3, q⟩ := h
    refine ⟨_, pss_cons (ps_set (i := 1) scRo.nd rfl (.inr rfl) (pe_meth0 (pv 0) M.cl mR GR hr bR .nil pass0))
      (pss_cons (ps_set (i := 2) scRo.nd rfl (.inr rfl) (pe_ix ix_list (pe_call Ca.G hr (by rfl) Ca.g Ca.kp Ca.b .nil pass0 (pa_cons (pv 0) pa_nil)) pe_int (fun _ _ => rfl)))
      (pss_cons (ps_set (i := 3) scRo.nd rfl (.inr rfl) (pe_callB call_len_seq (by rfl) B.len PySem.boot_len (pa_cons (pe_meth0 (pv 0) M.cl mO GO hr bO .nil pass0) pa_nil)))
      (pss_one (ps_ret (pe_lc (own := [("place", 4)]) (g := gName 4) (tt := tYes) rfl scRo.nd (pi_range1 (by rfl) B.rng (pa_cons (pe_callB call_len_seq (by rfl) B.len PySem.boot_len (pa_cons (pe_meth0 (pv 0) M.cl mT GT hr bT .nil pass0) pa_nil)) pa_nil)) (blkOk_by (own := [("place", 4)]) (N := nmRo) (sc := defScope sRo) (by decide +kernel))
        (fun _ _ _ _ _ => pg_name (i := 4) scRo.nd rfl (Or.inl rfl)) (fun _ _ _ _ _ => pts_nil)
        (fun _ _ _ _ _ => pe_call Lr.G hr (by rfl) Lr.g Lr.kp Lr.b .nil pass0 (pa_cons (pv 1) (pa_cons (pv 4) (pa_cons (pv 2) (pa_cons (pv 3) pa_nil)))))))))), ?_⟩
    have li : (ins.map V.str).length = ins.length := List.length_map _
    have lo : (outs.map V.str).length = outs.length := List.length_map _
    have noa : ∀ {m : Str}, ¬ m = "table" → ¬ m = "outlet_names" → ¬ m = "letter_names" → (mf a b t).lookup m = none := fun h1 h2 h3 => mf_no _ _ _ h1 h2 h3
    refine ⟨_, rfl, p, dx, _, rfl, mc.hp, noa (by decide +kernel) (by decide +kernel) (by decide +kernel), p, dx, a, b, t, ins, outs, T, rfl, mc, law.n60, fun H1 qr sm1 nr hr1 => ?_⟩
    have mc1 := mc.same sm1
    refine ⟨_, rfl, p, dx, a, b, t, ins, outs, T, rfl, mc1, law.nxt i3, fun H2 qa sm2 na ha2 => ?_⟩
    obtain ⟨ra, rl, rb⟩ := r0_of law.n1
    have ga : (natV (againL T T.length))[0]? = some (.int (r0 T : Nat)) := by
      unfold natV
      rw [List.getElem?_map, ra]
      rfl
    refine ⟨qa, _, 0, _, rfl, rfl, SqL.of ha2, atI_nat (j := 0) ga, ?_⟩
    have mc2 := mc1.same sm2
    refine ⟨_, rfl, p, dx, _, rfl, mc2.hp, noa (by decide +kernel) (by decide +kernel) (by decide +kernel), p, dx, a, b, t, ins, outs, T, rfl, mc2, fun l1 n1 => ?_⟩
    have s1 := same_upd (o := .lst (outs.map V.str)) n1
    refine ⟨l1, _, rfl, .inl (SqL.of upd_same), ?_⟩
    have mc3 := mc2.same s1
    refine ⟨_, rfl, p, dx, _, rfl, mc3.hp, noa (by decide +kernel) (by decide +kernel) (by decide +kernel), p, dx, a, b, t, ins, outs, T, rfl, mc3, fun l2 n2 => ?_⟩
    have s2 := same_upd (o := .lst (ins.map V.str)) n2
    refine ⟨l2, _, rfl, .inl (SqL.of upd_same), ((ins.map V.str).length : Int), rfl, by omega, by omega, fun D nD => ?_⟩
    have s03 := ((sm1.trans sm2).trans s1).trans s2
    have s13 := (sm2.trans s1).trans s2
    rw [lo, li]
    generalize (upd (upd H2 l1 (.lst (outs.map V.str))) l2 (.lst (ins.map V.str))) = H3 at *
    refine lc_range (lo := 0) (n := ins.length) (fun j H' => ∃ vs : List V, Same H3 H' ∧ H' D = some (.lst vs) ∧ Paired (fun v a => PtsAt (st [D] H') (N0 T ins.length) v (ratesL T ins.length outs.length a)) vs (List.range j)) ⟨[], same_upd nD, upd_same, .nil⟩ ?_ ?_
    · rintro j H4 hj ⟨vs, sm4, hD, pp⟩
      have lvs := pp.length
      rw [List.length_range] at lvs
      refine ⟨rfl, ?_⟩
      refine ⟨_, rfl, _, rfl, _, rfl, _, rfl, qr, T, ins.length, outs.length, j, by rw [Int.zero_add]; rfl, (hr1.same (s13.trans sm4)).any, law, hj, i3, o3, fun H5 b5 sm5 n5 hv => ?_⟩
      have nbD : b5 ≠ D := ne_of_fresh hD n5
      refine ⟨_, sm5 _ _ hD, small1000 (by omega), vs ++ [.ref b5], (sm4.trans sm5).put nD, upd_same, ?_⟩
      rw [st_upd (by simp), List.range_succ]
      exact paired_snoc (paired_mono (fun _ _ => PtsAt.same (st_mono sm5)) pp) (hv.st (sm5 _ _ hD) nbD)
    · rintro H4 ⟨vs, sm4, hD, pp⟩
      exact q H4 D (s03.trans sm4) ⟨vs, hD, paired_mono (fun _ _ => PtsAt.same st_same) pp⟩
end
end Hl

set_option Elab.async false
set_option linter.all false
set_option maxRecDepth 100000
set_option maxHeartbeats 4000000
namespace Hl
open PySem PySem.Spec PyProof.Rows L2
/-! zip of a list and a tuple of one length -/
def Itzm (K : PySem.W.Frag) (a b : Addr) : It :=
  ⟨fun i H => ∃ (xs ys : List V), SqL K H a xs ∧ SqT K H b ys ∧ i < xs.length ∧ i < ys.length,
    fun i H v H' => ∃ T x y, v = .ref T ∧ H T = none ∧ H' = upd H T (.tup [x, y]) ∧ (∀ xs, SqL K H a xs → xs[i]? = some x) ∧ ∀ ys, SqT K H b ys → ys[i]? = some y,
    fun i H => ∃ xs ys : List V, SqL K H a xs ∧ SqT K H b ys ∧ xs.length = i ∧ ys.length = i⟩
theorem sep2 (I a b : Nat) (h1 : a < I) (h2 : b < I) : ZipSep2 (I + 4) (I + 2) (I + 3) I (I + 1) [I, a] [I + 1, b] := by
  constructor <;> simp <;> (intro e; have e' : (_ : Nat) = (_ : Nat) := e; clear e; omega)
theorem turn_zipm {P : Program} {w : World} {K : PySem.W.Frag} {elts : List Expr} {kk : Nat} {tpos : Pos} {a b z TI TO i1 i2 : Addr} (D : ZipSep2 z TI TO i1 i2 [i1, a] [i2, b]) (n1 : a ≠ i1) (n2 : b ≠ i2) :
    Turn P w K (.Tuple elts kk tpos) (Itzm K a b) [z, TI, TO, i1, i2] z (fun i h => IsZip h z TI TO .none ∧ IsTupOf2 h TI (.ref i1) (.ref i2) ∧ (∃ x y, IsTupOf2 h TO x y) ∧ h.IsListIter i1 a i ∧ h.IsTupleIter i2 b i) where
  mem := by simp
  obj := fun i h st d hd => by
    obtain ⟨hz, hTI, ⟨x, y, hTO⟩, ⟨o1, e1, _, d1⟩, ⟨o2, e2, _, d2⟩⟩ := st
    have e' : d = z ∨ d = TI ∨ d = TO ∨ d = i1 ∨ d = i2 := by simpa using hd
    rcases e' with q | q | q | q | q
    · rw [q]; exact ⟨_, hz, fun v q => nomatch q⟩
    · rw [q]; exact ⟨_, hTI, fun v q => nomatch q⟩
    · rw [q]; exact ⟨_, hTO, fun v q => nomatch q⟩
    · rw [q]; exact ⟨o1, e1, fun v q => by rw [d1] at q; cases q⟩
    · rw [q]; exact ⟨o2, e2, fun v q => by rw [d2] at q; cases q⟩
  keep := fun i h h' st k => by
    obtain ⟨hz, hTI, ⟨x, y, hTO⟩, h1, h2⟩ := st
    exact ⟨k z (by simp) _ hz, k TI (by simp) _ hTI, ⟨x, y, k TO (by simp) _ hTO⟩, h1.at fun o q => k i1 (by simp) o q, h2.at fun o q => k i2 (by simp) o q⟩
  item := by
    intro X hP hw hK hc i pins s σ H E I hf st hg
    subst hP hw hK
    obtain ⟨hz, hTI, ⟨x0, y0, hTO⟩, h1, h2⟩ := st
    obtain ⟨xs, ys, hqx, hqy, lx, ly⟩ := hg
    obtain ⟨t1, rv1, p1, _⟩ := I.list hqx
    obtain ⟨t2, rv2, p2, _⟩ := I.tuple hqy
    have hh : X.A.in1.handled = none := I.ok.hd hc
    have hzl : z < s.heap.objs.size := Heap.lt_size hz
    refine wpAny_pyNext_zipD2_item D (Draws.list hh i1 a n1 t1.toArray) (Draws.tuple hh i2 b n2 t2.toArray) hz hTI hTO ⟨h1, p1.isList⟩ ⟨h2, p2⟩
      (by have := rv1.length; simp; omega) (by have := rv2.length; simp; omega) ?_
    intro u1 u2 h' tk q1 q2 z' TO' d1 d2 hT hsz hk
    obtain ⟨x, hx, rx⟩ : ∃ x, xs[i]? = some x ∧ RelV x u1 := by
      obtain ⟨u, hu, ru⟩ := rv1.get (List.getElem?_eq_getElem lx)
      have e1 : t1[i]? = some u1 := by simpa using q1
      rw [hu] at e1
      cases e1
      exact ⟨_, List.getElem?_eq_getElem lx, ru⟩
    obtain ⟨y, hy, ry⟩ : ∃ x, ys[i]? = some x ∧ RelV x u2 := by
      obtain ⟨u, hu, ru⟩ := rv2.get (List.getElem?_eq_getElem ly)
      have e1 : t2[i]? = some u2 := by simpa using q2
      rw [hu] at e1
      cases e1
      exact ⟨_, List.getElem?_eq_getElem ly, ru⟩
    refine ⟨_, rfl, wpAny_letOwnedTupleGo_zip (s := { s with heap := h', toks := tk }) z' fun h'' z'' sb => ?_⟩
    have hT2 : h''.get? s.heap.objs.size = some { cls := .type "tuple", data := .seq #[u1, u2] } := (sb.2 _ (Nat.ne_of_gt hzl)).trans hT
    have new : ObjOk X.prog X.w (upd H s.heap.objs.size (.tup [x, y])) h'' s.heap.objs.size (.tup [x, y]) :=
      ⟨by show 2 ≤ sizeLine; decide, [u1, u2], .cons rx (.cons ry .nil), ⟨_, hT2, rfl, _, rfl⟩⟩
    have I1 := I.turnedNew (t' := tk) (ch := [z, TI, TO, i1, i2]) (h' := h'') (fun d o hb q => (sb.2 d (fun q' => hb (by simp [q']))).trans
      (hk d o (fun q' => hb (by simp [q'])) (fun q' => hb (by simp [q'])) (fun q' => hb (by simp [q'])) (fun q' => hb (by simp [q'])) q)) hf (Nat.le_refl _) new
    have ti1 : i1 ≠ z := D.zi1.symm
    have ti2 : i2 ≠ z := D.zi2.symm
    refine ⟨.ref s.heap.objs.size, _, I1, rfl, ⟨_, x, y, rfl, I.hok.fresh (Nat.le_refl _), rfl, fun l hl => by rw [I.list_inj hl hqx]; exact hx, fun l hl => by rw [I.tuple_inj hl hqy]; exact hy⟩, ⟨z'', ?_, ⟨u1, u2, ?_⟩, ?_, ?_⟩, fun d hdm => ?_⟩
    · exact (sb.2 _ D.TIz).trans (hk _ _ D.TIz D.TITO D.TIi1 D.TIi2 hTI)
    · exact (sb.2 _ D.TOz).trans TO'
    · exact d1.1.at fun o q => (sb.2 _ ti1).trans q
    · exact d2.1.at fun o q => (sb.2 _ ti2).trans q
    · have hlt : d < s.heap.objs.size := by
        have e' : d = z ∨ d = TI ∨ d = TO ∨ d = i1 ∨ d = i2 := by simpa using hdm
        rcases e' with q | q | q | q | q
        · rw [q]; exact hzl
        · rw [q]; exact Heap.lt_size hTI
        · rw [q]; exact Heap.lt_size hTO
        · rw [q]; obtain ⟨_, e1, _⟩ := h1; exact Heap.lt_size e1
        · rw [q]; obtain ⟨_, e2, _⟩ := h2; exact Heap.lt_size e2
      rw [upd_ne (Nat.ne_of_lt hlt)]
      exact (hf d hdm).1
  done := by
    intro X hP hw hK hc i pins s σ H E I hf st hg
    subst hP hw hK
    obtain ⟨hz, hTI, ⟨x0, y0, hTO⟩, h1, h2⟩ := st
    obtain ⟨xs, ys, hqx, hqy, lx, ly⟩ := hg
    obtain ⟨t1, rv1, p1, _⟩ := I.list hqx
    obtain ⟨t2, rv2, p2, _⟩ := I.tuple hqy
    have l1 := rv1.length
    have l2 := rv2.length
    have hh : X.A.in1.handled = none := I.ok.hd hc
    refine wpAny_pyNext_zipD2_end D (Draws.list hh i1 a n1 t1.toArray) (Draws.tuple hh i2 b n2 t2.toArray) hz hTI hTO ⟨h1, p1.isList⟩ ⟨h2, p2⟩
      (by simp; omega) (by simp; omega) (.inl (by simp; omega)) ?_
    intro h' tk hk
    exact ⟨rfl, I.turnedL (t' := tk) (ch := [z, TI, TO, i1, i2]) (fun d o hb q =>
      hk d o (fun q' => hb (by simp [q'])) (fun q' => hb (by simp [q'])) (fun q' => hb (by simp [q'])) (fun q' => hb (by simp [q'])) q) hf⟩
  self := fun A i s Q E st h => wpAny_pyIter_zip st.1 h
def iZipm (K : PySem.W.Frag) (ta : TA) : TI := fun σ H R => ta σ H fun vs H1 => ∃ a b xs ys, vs = [.ref a, .ref b] ∧ SqL K H1 a xs ∧ SqT K H1 b ys ∧ R (Itzm K a b) H1
theorem pi_zipm {X : Cx} {e e2 : Expr} {ta : TA} {p pos tpos : Pos} {elts : List Expr} {kk : Nat} (hg : Gl X "zip") (hm : X.mg "zip" = none) (ha : PA X [e, e2] ta)
    (hs : starEach [e, e2] X.env = (false, eval e X.env) :: starEach [e2] X.env := by rfl) (hpl : (backTo pos (starEach [e2] X.env)).any (·.1) = false := by rfl) :
    PI X (.Tuple elts kk tpos) (.Call (.Name "zip" p) [e, e2] [] pos) (iZipm X.K ta) := by
  constructor
  intro pins s σ H R I h
  refine Call_ (ld_blt I hg hm PyProof.Rows.boot_zip (PyProof.Rows.callWith_type1 (thn (ha.run pos pins s σ H _ I h) ?_) hs hpl))
  rintro us s1 ⟨vs, H1, I1, r1, a, b, xs, ys, rfl, hqx, hqy, q⟩
  cases r1 with
  | cons ra rr =>
    cases rr with
    | cons rb rr =>
      cases rr
      cases ra
      cases rb
      obtain ⟨t1, rv1, p1, _⟩ := I1.list hqx
      obtain ⟨t2, rv2, p2, _⟩ := I1.tuple hqy
      have la : a < s1.heap.objs.size := p1.lt
      have lb : b < s1.heap.objs.size := by
        obtain ⟨o, ho, _⟩ := p2
        exact Heap.lt_size ho
      refine zip_begins2 (begins_list a t1.toArray) (begins_tuple b t2.toArray) p1.isList p2 fun h' hz hTI hTO g1 g2 hsz hk => wpAny_pyIter_zip hz ?_
      have I2 : Inv X pins σ H1 { s1 with heap := h' } := I1.kept (t' := s1.toks) hk
      refine ⟨s1.heap.objs.size + 4, [s1.heap.objs.size + 4, s1.heap.objs.size + 2, s1.heap.objs.size + 3, s1.heap.objs.size, s1.heap.objs.size + 1], _, _, H1, rfl, I2,
        turn_zipm (sep2 s1.heap.objs.size a b la lb) (Nat.ne_of_lt la) (Nat.ne_of_lt (Nat.lt_of_lt_of_le lb (Nat.le_add_right _ 1))), ⟨hz, hTI, ⟨_, _, hTO⟩, ⟨_, g1, rfl, rfl⟩, ⟨_, g2, rfl, rfl⟩⟩, fun d hdm => ?_, q⟩
      have hle : s1.heap.objs.size ≤ d := by
        simp only [List.mem_cons, List.not_mem_nil, or_false] at hdm
        rcases hdm with z | z | z | z | z
        · rw [z]; exact Nat.le_add_right _ _
        · rw [z]; exact Nat.le_add_right _ _
        · rw [z]; exact Nat.le_add_right _ _
        · rw [z]; exact Nat.le_refl _
        · rw [z]; exact Nat.le_add_right _ _
      exact I1.fpOk hle (I1.hok.fresh hle)
theorem lc_zipm {K : PySem.W.Frag} {a b : Addr} {xs ys : List V} {g : TG} {tt : TT} {te : TE} {vs : List Nat} {σ : L2.St} {H1 : Hp} {D : Addr} {Qd : Hp → Prop} (hl : xs.length = ys.length) (Pv : Nat → Hp → Prop) (h0 : Pv 0 (upd H1 D (.lst [])))
    (hq : ∀ i H, Pv i H → SqL K H a xs ∧ SqT K H b ys)
    (hs : ∀ (i : Nat) (x y : V) (T : Addr) (H : Hp), xs[i]? = some x → ys[i]? = some y → Pv i H → H T = none → g (.ref T) (wipe σ vs) (upd H T (.tup [x, y])) fun σ2 H2 => wipe σ2 vs = wipe σ vs ∧ tt σ2 H2 fun b H3 =>
      if b = true then te σ2 H3 fun y H4 => ∃ acc, H4 D = some (.lst acc) ∧ acc.length < sizeLine ∧ Pv (i + 1) (upd H4 D (.lst (acc ++ [y]))) else Pv (i + 1) H3) (hd : ∀ H, Pv xs.length H → Qd H) :
    ∃ W : Nat → Nat → Hp → Prop, (∃ m, W 0 m (upd H1 D (.lst []))) ∧ ∀ i m H, W i m H →
      ((Itzm K a b).stop i H ∧ Qd H) ∨ ((Itzm K a b).go i H ∧ ∃ Nx : Hp → Prop, (∀ H', Nx H' → ∃ m', m' < m ∧ W (i + 1) m' H') ∧ ∀ x H', (Itzm K a b).yld i H x H' → g x (wipe σ vs) H' fun σ2 H2 => wipe σ2 vs = wipe σ vs ∧ tt σ2 H2 fun b H3 =>
        if b = true then te σ2 H3 fun y H4 => ∃ acc, H4 D = some (.lst acc) ∧ acc.length < sizeLine ∧ Nx (upd H4 D (.lst (acc ++ [y]))) else Nx H3) := by
  refine ⟨fun i m H => m = xs.length - i ∧ i ≤ xs.length ∧ Pv i H, ⟨xs.length, rfl, Nat.zero_le _, h0⟩, ?_⟩
  rintro i m H ⟨rfl, hi, p⟩
  obtain ⟨qx, qy⟩ := hq i H p
  by_cases hlt : i < xs.length
  · refine .inr ⟨⟨xs, ys, qx, qy, hlt, by omega⟩, Pv (i + 1), fun H' p' => ⟨xs.length - (i + 1), by omega, rfl, hlt, p'⟩, ?_⟩
    rintro v H' ⟨T, x, y, rfl, hT, rfl, f1, f2⟩
    exact hs i x y T H (f1 _ qx) (f2 _ qy) p hT
  · have e : i = xs.length := by omega
    subst e
    exact .inl ⟨⟨xs, ys, qx, qy, rfl, hl.symm⟩, hd H p⟩
theorem lc_zip3 {K : PySem.W.Frag} {a b c : Addr} {xs ys zs : List V} {g : TG} {tt : TT} {te : TE} {vs : List Nat} {σ : L2.St} {H1 : Hp} {D : Addr} {Qd : Hp → Prop} {n : Nat} (hx : xs.length = n) (hy : ys.length = n) (hz : zs.length = n) (Pv : Nat → Hp → Prop) (h0 : Pv 0 (upd H1 D (.lst [])))
    (hq : ∀ i H, Pv i H → SqL K H a xs ∧ SqL K H b ys ∧ SqL K H c zs)
    (hs : ∀ (i : Nat) (x y z : V) (T : Addr) (H : Hp), xs[i]? = some x → ys[i]? = some y → zs[i]? = some z → Pv i H → H T = none → g (.ref T) (wipe σ vs) (upd H T (.tup [x, y, z])) fun σ2 H2 => wipe σ2 vs = wipe σ vs ∧ tt σ2 H2 fun b H3 =>
      if b = true then te σ2 H3 fun y H4 => ∃ acc, H4 D = some (.lst acc) ∧ acc.length < sizeLine ∧ Pv (i + 1) (upd H4 D (.lst (acc ++ [y]))) else Pv (i + 1) H3) (hd : ∀ H, Pv n H → Qd H) :
    ∃ W : Nat → Nat → Hp → Prop, (∃ m, W 0 m (upd H1 D (.lst []))) ∧ ∀ i m H, W i m H →
      ((Itz3 K a b c).stop i H ∧ Qd H) ∨ ((Itz3 K a b c).go i H ∧ ∃ Nx : Hp → Prop, (∀ H', Nx H' → ∃ m', m' < m ∧ W (i + 1) m' H') ∧ ∀ x H', (Itz3 K a b c).yld i H x H' → g x (wipe σ vs) H' fun σ2 H2 => wipe σ2 vs = wipe σ vs ∧ tt σ2 H2 fun b H3 =>
        if b = true then te σ2 H3 fun y H4 => ∃ acc, H4 D = some (.lst acc) ∧ acc.length < sizeLine ∧ Nx (upd H4 D (.lst (acc ++ [y]))) else Nx H3) := by
  refine ⟨fun i m H => m = n - i ∧ i ≤ n ∧ Pv i H, ⟨n, rfl, Nat.zero_le _, h0⟩, ?_⟩
  rintro i m H ⟨rfl, hi, p⟩
  obtain ⟨qx, qy, qz⟩ := hq i H p
  by_cases hlt : i < n
  · refine .inr ⟨⟨xs, ys, zs, qx, qy, qz, by omega, by omega, by omega⟩, Pv (i + 1), fun H' p' => ⟨n - (i + 1), by omega, rfl, hlt, p'⟩, ?_⟩
    rintro v H' ⟨T, x, y, z, rfl, hT, rfl, f1, f2, f3⟩
    exact hs i x y z T H (f1 _ qx) (f2 _ qy) (f3 _ qz) p hT
  · have e : i = n := by omega
    subst e
    exact .inl ⟨⟨xs, ys, zs, qx, qy, qz, hx, hy, hz⟩, hd H p⟩
end Hl

set_option Elab.async false
set_option linter.all false
set_option maxRecDepth 100000
set_option maxHeartbeats 4000000
namespace Hl
open PySem PySem.Spec PyProof.Rows L2
/-- where letters lead, what they send -/
def Told (H : Hp) (t : Addr) (e : Nat) (s : List Int) : Prop := ∃ q, H t = some (.tup [.int e, .ref q]) ∧ H q = some (.lst (s.map V.int))
theorem Told.same {H H' : Hp} {t : Addr} {e : Nat} {s : List Int} (k : Same H H') (h : Told H t e s) : Told H' t e s := by
  obtain ⟨q, h1, h2⟩ := h
  exact ⟨q, k _ _ h1, k _ _ h2⟩
abbrev sWk : Stmt := topS 67
def ones (ps : List Nat) : List (Nat × Nat) := ps.map fun a => (a, 1)
theorem ones_rep {T : Tab} {a : Nat} : ∀ (r s : Nat), wE T (ones (List.replicate r a)) s = endN T a r s ∧ ∀ j, wS T (ones (List.replicate r a)) s j = sntN T a r s j
  | 0, s => ⟨rfl, fun j => rfl⟩
  | r + 1, s => by
    obtain ⟨e, f⟩ := ones_rep (T := T) (a := a) r (endN T a 1 s)
    have e1 := endN_add T a 1 s r
    rw [Nat.add_comm] at e1
    refine ⟨?_, fun j => ?_⟩
    · show wE T (ones (List.replicate r a)) (endN T a 1 s) = _
      rw [e, e1]
    · have s1 := sntN_add T a 1 r s j
      rw [Nat.add_comm 1 r] at s1
      show sntN T a 1 s j + wS T (ones (List.replicate r a)) (endN T a 1 s) j = _
      rw [f, s1]
theorem vec_take {n j : Nat} {f : Nat → Int} (h : j < n) : (vec n f).take (j + 1) = (vec n f).take j ++ [f j] := by
  rw [List.take_add_one, vec_get h]
  rfl
theorem rep_nat (r a : Nat) : (List.replicate r [V.int (a : Nat)]).flatten = natV (List.replicate r a) := by
  unfold natV
  rw [List.map_replicate]
  induction r with
  | zero => rfl
  | succ r ih => rw [List.replicate_succ, List.flatten_cons, ih, List.replicate_succ]; rfl
section
variable {P : Program} {w : World} {K : PySem.W.Frag} {mg : Str → Option Value} {base : Heap}
/-! _law_made -/
/-! _law_walked -/
def spWk : Sp := fun vs H Q _ => ∃ (m i o q qp : Addr) (ins outs : List Str) (T : Tab) (ps : List Nat) (s : Nat), vs = [.ref m, .int s, .ref qp] ∧ Dev H m i o q ins outs T ∧ Lawful T ins.length outs.length ∧ outs.length ≤ 3 ∧ H qp = some (.lst (natV ps)) ∧ (∀ a ∈ ps, a < ins.length) ∧ s < T.length ∧
  ∀ (H' : Hp) (r : Addr), Same H H' → Told H' r (wE T (ones ps) s) (vec outs.length (wS T (ones ps) s)) → Q (.ref r) H'
abbrev nmWk : List Str := ["_law_m", "_law_start", "_law_places", "_law_sent", "_law_place", "_law_sends", "_law_a", "_law_b"]
theorem scWk : FnScope nmWk ["_law_m", "_law_start", "_law_places"] (defScope sWk) := ⟨rfl, rfl, rfl, by decide +kernel, rfl, by decide +kernel, by decide +kernel⟩
theorem ok_wk {f : Addr} {fd : FuncData} {k : Nat} (F : Fun K "_law_walked" "_law_walked" sWk f fd) (B : Bi mg) (J : Bj mg) : FnOk P w K mg base CX0 (k + 1) f fd ["_law_m", "_law_start", "_law_places"] spWk := by
  refine F.ok scWk (fun vs H Q E h => ?_) (fun cdv A outer s H vs Q E hr h => ?_)
  · obtain ⟨m, i, o, q, qp, ins, outs, T, ps, s, rfl, _⟩ := h
    rfl
  · obtain ⟨m, i, o, q, qp, ins, outs, T, ps, s0, rfl, dv, law, o3, hq, pk, sl, Qk⟩ := h
    refine ⟨_, pss_cons (ps_set (i := 3) scWk.nd rfl (.inl rfl) (pe_op op_rep (pe_lst (pa_cons pe_int pa_nil)) (pe_callB call_len_seq (by rfl) B.len PySem.boot_len (pa_cons (pe_dget (hu_of hr) (pv 0) pe_str (fun _ _ => rfl)) pa_nil))))
      (pss_cons (ps_for PassesOwn.never rfl (pi_list (pv 2)) (pg_name (i := 4) scWk.nd rfl (.inl rfl))
        (pss_cons (ps_asg (pe_ix (r := rIx K) ix_seq (pe_ix (r := rIx K) ix_seq (pe_dget (hu_of hr) (pv 0) pe_str (fun _ _ => rfl)) (pv 1) (fun _ _ => rfl)) (pv 4) (fun _ _ => rfl)) (pg_tup rfl (pgs_cons (pg_name (i := 1) scWk.nd rfl (.inl rfl)) (pgs_cons (pg_name (i := 5) scWk.nd rfl (.inl rfl)) pgs_nil))))
        (pss_one (ps_setLc (i := 3) (own := [("_law_a", 6), ("_law_b", 7)]) (g := gTup K 2 (gCons (gName 6) (gCons (gName 7) gNil))) (tt := tYes) rfl scWk.nd rfl rfl (sw_true rfl rfl rfl (by decide +kernel)) (pi_zipm (by rfl) J.zip (pa_cons (pv 3) (pa_cons (pv 5) pa_nil)))
          (blkOk_by (own := [("_law_a", 6), ("_law_b", 7)]) (N := nmWk) (sc := defScope sWk) (by decide +kernel)) (fun _ _ _ _ _ => pg_tup rfl (pgs_cons (pg_name (i := 6) scWk.nd rfl (Or.inl rfl)) (pgs_cons (pg_name (i := 7) scWk.nd rfl (Or.inl rfl)) pgs_nil))) (fun _ _ _ _ _ => pts_nil)
          (fun _ _ _ _ _ => pe_op op_add (pv 6) (pv 7))))))
      (pss_one (ps_ret (pe_tup (pa_cons (pv 1) (pa_cons (pv 3) pa_nil)))))), ?_⟩
    refine ⟨(by show 1 ≤ sizeLine; decide), fun z nz => ?_⟩
    have s1 := same_upd (o := .lst [.int 0]) nz
    have dv1 := dv.same s1
    have lo : (outs.map V.str).length = outs.length := List.length_map _
    refine ⟨_, rfl, m, _, rfl, dv1.go, o, _, rfl, .inl (SqL.of dv1.ho), z, ((outs.map V.str).length : Int), _, rfl, rfl, upd_same, by omega, by omega, ?_, fun D0 n0 => ?_⟩
    · rw [Int.toNat_natCast, lo]
      show 1 * outs.length ≤ sizeLine
      exact Nat.le_of_lt (small1000 (by omega))
    rw [Int.toNat_natCast, rep_one, lo]
    have s2 := s1.trans (same_upd (o := .lst ((List.replicate outs.length (0 : Int)).map V.int)) n0)
    have hD0 : (upd (upd H z (.lst [.int 0])) D0 (.lst ((List.replicate outs.length (0 : Int)).map V.int))) D0 = some (.lst ((List.replicate outs.length (0 : Int)).map V.int)) := upd_same
    have e0 : List.replicate outs.length (0 : Int) = vec outs.length (wS T ((ones ps).take 0) s0) := by
      refine vec_of (List.length_replicate) fun i hi => ?_
      rw [List.getElem?_replicate, if_pos hi]
      rfl
    rw [e0] at hD0 s2 ⊢
    generalize (upd (upd H z (.lst [.int 0])) D0 (.lst ((vec outs.length (wS T ((ones ps).take 0) s0)).map V.int))) = H2 at *
    have lones : (ones ps).length = ps.length := List.length_map _
    refine ⟨_, rfl, qp, rfl, ⟨_, SqL.of (s2 _ _ hq)⟩, ?_⟩
    refine for_list (K := K) (a := qp) (xs := natV ps) (fun i σ H' => ∃ (S : Addr) (v4 v5 : Option V), σ = [some (.ref m), some (.int (wE T ((ones ps).take i) s0 : Nat)), some (.ref qp), some (.ref S), v4, v5, none, none] ∧ Same H H' ∧ H' S = some (.lst ((vec outs.length (wS T ((ones ps).take i) s0)).map V.int)))
      ⟨D0, none, none, rfl, s2, hD0⟩ (fun i σ H' _ ⟨_, _, _, _, sm, _⟩ => SqL.of (sm _ _ hq)) ?_ ?_
    · rintro i' x σ H3 hx ⟨S, v4, v5, rfl, sm3, hS3⟩
      obtain ⟨a, ha, rfl⟩ := natV_get hx
      have ak := pk a (List.mem_of_getElem? ha)
      have dv3 := dv.same sm3
      have el : wE T ((ones ps).take i') s0 < T.length := wE_lt law _ sl fun r hr => by
        obtain ⟨x, hx, rfl⟩ := List.mem_map.mp (List.mem_of_mem_take hr)
        exact pk x hx
      obtain ⟨e, ge, e1, _, ev⟩ := law_at law el ak
      obtain ⟨row, hr1, hr2⟩ := getE_row ge
      obtain ⟨v1, rv1, x1⟩ := rt_row (K := K) dv3.ht.any hr1
      obtain ⟨c1, t1, hc1, ht1, y1⟩ := rr_ent (K := K) rv1 hr2
      rw [ev] at ht1
      rw [e1] at hc1
      refine ⟨_, rfl, m, _, rfl, dv3.gr, _, rfl, x1 _ ⟨_, rfl, y1 _ ⟨c1, _, rfl, SqT.of hc1, rfl, _, _, rfl, _, _, rfl, rfl, ?_⟩⟩⟩
      refine ⟨_, rfl, _, rfl, S, t1, _, _, rfl, SqL.of hS3, SqT.of ht1, fun D nD => ?_⟩
      have ew : (ones ps).take (i' + 1) = (ones ps).take i' ++ [(a, 1)] := by
        rw [List.take_add_one]
        congr 1
        unfold ones
        rw [List.getElem?_map, ha]
        rfl
      refine lc_zipm (K := K) (a := S) (b := t1) (xs := (vec outs.length (wS T ((ones ps).take i') s0)).map V.int) (ys := (vec outs.length (sdN T a (wE T ((ones ps).take i') s0))).map V.int) (by simp only [List.length_map, vec_len])
        (fun j H' => Same H3 H' ∧ H' D = some (.lst (((vec outs.length (wS T ((ones ps).take (i' + 1)) s0)).take j).map V.int))) ⟨same_upd nD, upd_same⟩ (fun j H' ⟨sm, _⟩ => ⟨SqL.of (sm _ _ hS3), SqT.of (sm _ _ ht1)⟩) ?_ ?_
      · rintro j x y T' H4 hx hy ⟨sm4, hD⟩ nT
        obtain ⟨x', hx', rfl⟩ := map_int_get hx
        obtain ⟨y', hy', rfl⟩ := map_int_get hy
        have jl := (List.getElem?_eq_some_iff.mp hx').1
        rw [vec_len] at jl
        rw [vec_get jl] at hx' hy'
        cases Option.some.inj hx'
        cases Option.some.inj hy'
        have sT := same_upd (o := .tup [.int (wS T ((ones ps).take i') s0 j), .int (sdN T a (wE T ((ones ps).take i') s0) j)]) nT
        refine ⟨T', _, rfl, SqT.of upd_same, rfl, _, _, rfl, _, _, rfl, rfl, ?_⟩
        refine ⟨rfl, ?_⟩
        refine ⟨_, rfl, _, rfl, _, _, rfl, rfl, _, sT _ _ hD, ?_, (sm4.trans sT).put nD, ?_⟩
        · rw [List.length_map, List.length_take, vec_len]
          exact small1000 (by omega)
        · rw [upd_same, vec_take jl, List.map_append, ew, wS_snoc]
          have e3 : sntN T a 1 (wE T ((ones ps).take i') s0) j = sdN T a (wE T ((ones ps).take i') s0) j := Int.zero_add _
          rw [e3]
          rfl
      · rintro H4 ⟨sm4, hD⟩
        rw [List.length_map, vec_len, List.take_of_length_le (by rw [vec_len]; exact Nat.le_refl _)] at hD
        refine ⟨D, some (.int (a : Nat)), some (.ref t1), ?_, sm3.trans sm4, hD⟩
        rw [ew, wE_snoc]
        rfl
    · rintro σ H3 ⟨S, v4, v5, rfl, sm3, hS3⟩
      rw [natV_len, List.take_of_length_le (by rw [lones]; exact Nat.le_refl _)] at hS3 ⊢
      refine ⟨_, rfl, _, rfl, (by show 2 ≤ sizeLine; decide), fun r nr => ?_⟩
      have sr := same_upd (o := .tup [.int (wE T (ones ps) s0 : Nat), .ref S]) nr
      exact Qk _ r (sm3.trans sr) ⟨S, upd_same, sr _ _ hS3⟩
end
end Hl

set_option Elab.async false
set_option linter.all false
set_option maxRecDepth 100000
set_option maxHeartbeats 4000000
namespace Hl
open PySem PySem.Spec PyProof.Rows L2
abbrev sLrc : Stmt := topS 69
abbrev sLag : Stmt := topS 71
section
variable {P : Program} {w : World} {K : PySem.W.Frag} {mg : Str → Option Value} {base : Heap}
/-! _law_reached -/
def spLrc : Sp := fun vs H Q _ => ∃ (a : Addr) (T : Tab) (s : Nat), vs = [.ref a, .int s] ∧ TabAt H a T ∧ Nxt T ∧ s < T.length ∧
  ∀ (H' : Hp) (q : Addr) (found : List Nat), Same H H' → H q = none → H' q = some (.lst (natV found)) → (∀ j, j ∈ found ↔ Rch T s j) → found.length ≤ T.length → (∀ x ∈ found, x < T.length) → Q (.ref q) H'
abbrev nmLr : List Str := ["_law_rows", "_law_start", "_law_found", "_law_k", "_law_there", "_law_sends"]
theorem scLr : FnScope nmLr ["_law_rows", "_law_start"] (defScope sLrc) := ⟨rfl, rfl, rfl, by decide +kernel, rfl, by decide +kernel, by decide +kernel⟩
theorem ok_lrc {f : Addr} {fd : FuncData} {k : Nat} (F : Fun K "_law_reached" "_law_reached" sLrc f fd) (B : Bi mg) : FnOk P w K mg base CX0 (k + 1) f fd ["_law_rows", "_law_start"] spLrc := by
  refine F.ok scLr (fun vs H Q E h => ?_) (fun cdv A outer s H vs Q E hr h => ?_)
  · obtain ⟨a, T, s, rfl, _⟩ := h
    rfl
  · obtain ⟨a, T, st0, rfl, ⟨vs, hv, pr⟩, nx, sl, q⟩ := h
    refine ⟨_, pss_cons (ps_set (i := 2) scLr.nd rfl (.inl rfl) (pe_lst (pa_cons (pv 1) pa_nil)))
      (pss_cons (ps_for PassesOwn.never rfl (pi_range1 (by rfl) B.rng (pa_cons (pe_callB call_len_seq (by rfl) B.len PySem.boot_len (pa_cons (pv 0) pa_nil)) pa_nil)) (pg_name (i := 3) scLr.nd rfl (.inl rfl))
        (pss_one (ps_if (pt_cmpR op_lt (pv 3) (pe_callB call_len_seq (by rfl) B.len PySem.boot_len (pa_cons (pv 2) pa_nil)) (nomark _))
          (pss_one (ps_for PassesOwn.never rfl (pi_list (pe_ix (r := rIxL K) ix_list (pv 0) (pe_ix (r := rIxL K) ix_list (pv 2) (pv 3) (fun _ _ => rfl)) (fun _ _ => rfl)))
            (pg_tup rfl (pgs_cons (pg_name (i := 4) scLr.nd rfl (.inl rfl)) (pgs_cons (pg_name (i := 5) scLr.nd rfl (.inl rfl)) pgs_nil)))
            (pss_one (ps_if (pt_cmpR op_notIn_seq (pv 4) (pv 2) (by rfl)) (pss_one (ps_expr (pe_bm PySem.F.plainAttrs_list PySem.F.slot_list_append PySem.F.type_list_append mt_append (pv 2) (pa_cons (pv 4) pa_nil)))) pss_nil)))) pss_nil)))
      (pss_one (ps_ret (pv 2)))), ?_⟩
    have lvs := pr.length
    have n60 := nx.n60
    refine ⟨_, rfl, (by show 1 ≤ sizeLine; decide), fun Fd nF => ?_⟩
    have sF := same_upd (o := .lst (natV [st0])) nF
    refine ⟨_, rfl, a, vs, rfl, .inl (SqL.of (sF _ _ hv)), (vs.length : Int), rfl, by omega, by omega, ?_⟩
    refine for_range (lo := 0) (n := vs.length) (fun i σ H' => ∃ (found : List Nat) (at' : Nat) (v3 v4 v5 : Option V), σ = [some (.ref a), some (.int st0), some (.ref Fd), v3, v4, v5] ∧ Same H H' ∧ H' Fd = some (.lst (natV found)) ∧ FInv T st0 at' found ∧ (at' = i ∨ (at' = found.length ∧ at' < i)))
      ⟨[st0], 0, none, none, none, rfl, sF, upd_same, FInv.start sl, .inl rfl⟩ ?_ ?_
    · rintro i σ H2 hi ⟨found, at', v3, v4, v5, rfl, sm2, hF2, fi, hat⟩
      have lf := fi.len
      refine ⟨_, rfl, _, rfl, Fd, natV found, rfl, .inl (SqL.of hF2), _, _, rfl, rfl, _, rfl, ite2 (fun e => ?_) (fun e => ?_)⟩
      · have il : i < found.length := by
          have := of_decide_eq_true e
          rw [natV_len] at this
          omega
        have ea : at' = i := by omega
        subst ea
        have ho : found[at']? = some found[at'] := List.getElem?_eq_getElem il
        have oin : found[at'] ∈ found := List.getElem_mem il
        generalize found[at'] = o at ho oin
        have ol := fi.lt o oin
        have hrow : T[o]? = some T[o] := List.getElem?_eq_getElem ol
        have rowin : T[o] ∈ T := List.getElem_mem ol
        generalize T[o] = row at hrow rowin
        obtain ⟨v, hvo, b, us, rfl, hb, pe⟩ := paired_get2 pr o row hrow
        have lus := pe.length
        have hnf : (natV found)[at']? = some (.int (o : Nat)) := by
          unfold natV
          rw [List.getElem?_map, ho]
          rfl
        have gE : ∀ j, getE T o j = row[j]? := fun j => by
          unfold getE
          rw [hrow]
          rfl
        refine ⟨_, rfl, _, rfl, _, rfl, Fd, natV found, _, _, rfl, rfl, SqL.of hF2, at_of (j := at') (by omega) hnf, a, vs, _, _, rfl, rfl, SqL.of (sm2 _ _ hv), atI_nat (j := o) hvo, b, rfl, ⟨_, SqL.of (sm2 _ _ hb)⟩, ?_⟩
        refine for_list (K := K) (a := b) (xs := us) (fun j σ H' => ∃ (f' : List Nat) (v3 v4 v5 : Option V), σ = [some (.ref a), some (.int st0), some (.ref Fd), v3, v4, v5] ∧ Same H H' ∧ H' Fd = some (.lst (natV f')) ∧ FInv T st0 at' f' ∧ f'[at']? = some o ∧ ∀ i e, i < j → row[i]? = some e → e.1.toNat ∈ f')
          ⟨found, _, _, _, rfl, sm2, hF2, fi, ho, fun i e hi => absurd hi (Nat.not_lt_zero _)⟩ (fun j σ H' _ ⟨_, _, _, _, _, sm', _⟩ => SqL.of (sm' _ _ hb)) ?_ ?_
        · rintro j x σ H3 hx ⟨f', w3, w4, w5, rfl, sm3, hF3, fi3, ho3, cl3⟩
          obtain ⟨e, hej, c, t, rfl, hc, ht⟩ := paired_get pe j _ hx
          obtain ⟨tn, htn, tlt⟩ := nx.nx row rowin e (List.mem_of_getElem? hej)
          have ett : e.1.toNat = tn := by omega
          have cl' : ∀ f'' : List Nat, (∀ x ∈ f', x ∈ f'') → tn ∈ f'' → ∀ i e', i < j + 1 → row[i]? = some e' → e'.1.toNat ∈ f'' := fun f'' sub hin i e' hi he' => by
            by_cases hij : i < j
            · exact sub _ (cl3 i e' hij he')
            · have : i = j := by omega
              subst this
              have : e' = e := Option.some.inj (he'.symm.trans hej)
              subst this
              rw [ett]
              exact hin
          refine ⟨c, _, rfl, SqT.of (sm3 _ _ hc), rfl, _, _, rfl, _, _, rfl, rfl, ?_⟩
          rw [htn]
          refine ⟨_, rfl, _, rfl, Fd, natV f', rfl, .inl (SqL.of hF3), rfl, natV_flat _, _, rfl, ?_⟩
          rw [if_pos rfl, inV_nat]
          by_cases hin : tn ∈ f'
          · rw [decide_eq_true hin]
            exact iF rfl ⟨f', _, _, _, rfl, sm3, hF3, fi3, ho3, cl' f' (fun _ h => h) hin⟩
          · rw [decide_eq_false hin]
            refine iT rfl ?_
            have lf3 := fi3.len
            have rcn : Rch T st0 tn := by
              rw [← ett]
              exact .step (fi3.rc o (List.mem_of_getElem? ho3)) ((gE j).trans hej)
            refine ⟨_, rfl, .inl ⟨rfl, _, SqL.of hF3⟩, _, rfl, Fd, _, _, rfl, rfl, hF3, ?_, ?_⟩
            · rw [natV_len]
              exact small1000 (by omega)
            refine ⟨f' ++ [tn], _, _, _, rfl, sm3.put nF, ?_, fi3.add hin tlt rcn, ?_, cl' _ (fun _ h => List.mem_append_left _ h) (List.mem_append_right _ (List.mem_singleton.mpr rfl))⟩
            · rw [upd_same]
              unfold natV
              rw [List.map_append]
              rfl
            · rw [List.getElem?_append_left (List.getElem?_eq_some_iff.mp ho3).1]
              exact ho3
        · rintro σ H3 ⟨f', w3, w4, w5, rfl, sm3, hF3, fi3, ho3, cl3⟩
          refine ⟨f', at' + 1, w3, w4, w5, rfl, sm3, hF3, fi3.next ho3 fun i e he => ?_, .inl rfl⟩
          rw [gE] at he
          exact cl3 i e (by rw [lus]; exact (List.getElem?_eq_some_iff.mp he).1) he
      · have il : found.length ≤ i := by
          have : ¬ ((0 + (i : Nat) : Int) < ((natV found).length : Nat)) := fun h => e (decide_eq_true h)
          rw [natV_len] at this
          omega
        have := fi.le
        exact ⟨found, found.length, _, _, _, rfl, sm2, hF2, ⟨fi.nd, fi.lt, fi.rc, fi.fs, fun i' o a' e' hi' => fi.cl i' o a' e' (by omega), Nat.le_refl _⟩, .inr ⟨rfl, by omega⟩⟩
    · rintro σ H2 ⟨found, at', v3, v4, v5, rfl, sm2, hF2, fi, hat⟩
      have lf := fi.len
      exact ⟨_, rfl, q H2 Fd found sm2 nF hF2 (fi.fin (by omega)) lf fi.lt⟩
end
end Hl

set_option Elab.async false
set_option linter.all false
set_option maxRecDepth 100000
set_option maxHeartbeats 4000000
namespace Hl
open PySem PySem.Spec PyProof.Rows L2
/-! where every letter has come as often as there are stands -/
section
variable {T : Tab} {k n : Nat}
def allp (k m : Nat) : List Nat := (List.replicate m (List.range k)).flatten
theorem ones_gd {ps : List Nat} (h : ∀ a ∈ ps, a < k) : Gd k (ones ps) := fun p hp => by
  obtain ⟨x, hx, rfl⟩ := List.mem_map.mp hp
  exact h x hx
theorem ones_app (ps qs : List Nat) : ones (ps ++ qs) = ones ps ++ ones qs := List.map_append
theorem allp_lt {m a : Nat} (h : a ∈ allp k m) : a < k := by
  obtain ⟨l, hl, ha⟩ := List.mem_flatten.mp h
  rw [List.eq_of_mem_replicate hl] at ha
  exact List.mem_range.mp ha
theorem all_one (l : Lawful T k n) {a x : Nat} (ha : a < k) (hx : x < T.length) : ∃ y, y < T.length ∧ wE T (ones (List.range k)) x = endN T a 1 y := by
  have mem : (a, 1) ∈ ones (List.range k) := List.mem_map.mpr ⟨a, List.mem_range.mpr ha, rfl⟩
  have gd : Gd k (ones (List.range k)) := ones_gd fun b hb => List.mem_range.mp hb
  have gr : Gd k ((ones (List.range k)).erase (a, 1)) := fun p hp => gd p (List.mem_of_mem_erase hp)
  have e := (w_perm l (List.perm_cons_erase mem) gd hx).1
  refine ⟨wE T ((ones (List.range k)).erase (a, 1)) x, wE_lt l _ hx gr, ?_⟩
  rw [e]
  exact (w_comm l (Gd.one (m := 1) ha) gr hx).1
theorem all_many (l : Lawful T k n) {a : Nat} (ha : a < k) : ∀ (m : Nat) {x : Nat}, x < T.length → ∃ y, y < T.length ∧ wE T (ones (allp k m)) x = endN T a m y
  | 0, x, hx => ⟨x, hx, rfl⟩
  | m + 1, x, hx => by
    obtain ⟨y1, h1, e1⟩ := all_one l ha hx
    obtain ⟨y, h2, e2⟩ := all_many l ha m h1
    refine ⟨y, h2, ?_⟩
    have gm : Gd k (ones (allp k m)) := ones_gd fun b hb => allp_lt hb
    show wE T (ones (List.range k ++ allp k m)) x = _
    rw [ones_app, wE_app, e1]
    have c := (w_comm l (Gd.one (m := 1) ha) gm h1).1
    show wE T (ones (allp k m)) (wE T [(a, 1)] y1) = _
    rw [c, e2]
    show endN T a 1 (endN T a m y) = _
    rw [← endN_add]
/-- the stand that _law_again_from comes to -/
def bg (T : Tab) (k s : Nat) : Nat := wE T (ones (allp k T.length)) s
theorem bg_lt (l : Lawful T k n) {s : Nat} (hs : s < T.length) : bg T k s < T.length := wE_lt l _ hs (ones_gd fun _ h => allp_lt h)
theorem bg_per (l : Lawful T k n) {a s : Nat} (ha : a < k) (hs : s < T.length) : ∃ t, 0 < t ∧ t ≤ T.length ∧ endN T a t (bg T k s) = bg T k s := by
  obtain ⟨y, hy, e⟩ := all_many l ha T.length hs
  obtain ⟨t, t0, tl, h⟩ := ring_of l hy ha
  refine ⟨t, t0, tl, ?_⟩
  unfold bg
  rw [e, ← endN_add, h]
/-- the round there, and what it tells -/
theorem path_nd {a b t : Nat} (h : endN T a t b = b) (no : ∀ i, 0 < i → i < t → endN T a i b ≠ b) : ∀ m, m ≤ t → (pathN T a b m).Nodup
  | 0, _ => List.nodup_nil
  | m + 1, hm => by
    refine nd_snoc (path_nd h no m (by omega)) fun i hi e => ?_
    have e2 : endN T a (i + (t - m)) b = b := by
      rw [endN_add, e, ← endN_add, show m + (t - m) = t by omega, h]
    exact no (i + (t - m)) (by omega) (by omega) e2
theorem per_rnd {a b t : Nat} (t0 : 0 < t) (h : endN T a t b = b) : ∃ L, L ≤ t ∧ Rnd T a b L := by
  induction t using Nat.strongRecOn with
  | ind t ih =>
    by_cases f : ∃ i, 0 < i ∧ i < t ∧ endN T a i b = b
    · obtain ⟨i, i0, il, hi⟩ := f
      obtain ⟨L, hL, r⟩ := ih i il i0 hi
      exact ⟨L, by omega, r⟩
    · exact ⟨t, Nat.le_refl _, t0, h, path_nd h (fun i i0 il e => f ⟨i, i0, il, e⟩) t (Nat.le_refl _)⟩
theorem round_rate (l : Lawful T k n) {a b L j : Nat} (ha : a < k) (hb : b < T.length) (hj : j < n) (h : endN T a L b = b) : (N0 T k : Int) * sntN T a L b j = rt0 T k a j * (L : Int) := by
  have e := phi_walk l (Gd.one (m := L) ha) hb hj
  have w : wE T [(a, L)] b = b := h
  rw [w, Int.sub_self] at e
  unfold fQ at e
  have s : wS T [(a, L)] b j = sntN T a L b j := by
    show sntN T a L b j + 0 = _
    rw [Int.add_zero]
  have r : rq T k (r0 T) j [(a, L)] = rt0 T k a j * (L : Int) := by
    show rtN T k (r0 T) a j * (L : Int) + 0 = _
    rw [Int.add_zero]
    rfl
  rw [s, r] at e
  show (NN T k (r0 T) : Int) * _ = _
  omega
theorem round_low (l : Lawful T k n) {a b L j : Nat} (ha : a < k) (hb : b < T.length) (hj : j < n) (L0 : 0 < L) (h : endN T a L b = b) : lowF (sntN T a L b j) (L : Nat) = lowF (rt0 T k a j) (N0 T k : Nat) := by
  have p := N0_pos l
  exact low_cross (by omega) (by omega) (by rw [Int.mul_comm, round_rate l ha hb hj h])
end
end Hl

set_option Elab.async false
set_option linter.all false
set_option maxRecDepth 100000
set_option maxHeartbeats 4000000
namespace Hl
open PySem PySem.Spec PyProof.Rows L2
abbrev sLaf : Stmt := topS 70
theorem rgV_nat (k : Nat) : rgV 0 (k : Int) = natV (List.range k) := by
  unfold rgV natV
  rw [Int.sub_zero, Int.toNat_natCast]
  refine List.map_congr_left fun i _ => ?_
  rw [Int.zero_add]
theorem rep_all (k : Nat) : ∀ m, (List.replicate m (natV (List.range k))).flatten = natV (allp k m)
  | 0 => rfl
  | m + 1 => by
    show natV (List.range k) ++ (List.replicate m (natV (List.range k))).flatten = natV (List.range k ++ allp k m)
    rw [rep_all k m]
    unfold natV
    rw [List.map_append]
section
variable {P : Program} {w : World} {K : PySem.W.Frag} {mg : Str → Option Value} {base : Heap}
/-! _law_again_from -/
def spLaf : Sp := fun vs H Q _ => ∃ (m i o q : Addr) (ins outs : List Str) (T : Tab) (s : Nat), vs = [.ref m, .int s] ∧ Dev H m i o q ins outs T ∧ Lawful T ins.length outs.length ∧ ins.length ≤ 3 ∧ outs.length ≤ 3 ∧ s < T.length ∧ ∀ H', Same H H' → Q (.int (bg T ins.length s : Nat)) H'
abbrev nmLaf : List Str := ["_law_m", "_law_start", "_law_rows", "_law_places"]
theorem scLaf : FnScope nmLaf ["_law_m", "_law_start"] (defScope sLaf) := ⟨rfl, rfl, rfl, by decide +kernel, rfl, by decide +kernel, by decide +kernel⟩
theorem ok_laf {f fW : Addr} {fd fdW : FuncData} {k : Nat} (F : Fun K "_law_again_from" "_law_again_from" sLaf f fd) (B : Bi mg) (Wk : Has P w K mg base k "_law_walked" ["_law_m", "_law_start", "_law_places"] spWk fW fdW) : FnOk P w K mg base CX0 (k + 1) f fd ["_law_m", "_law_start"] spLaf := by
  refine F.ok scLaf (fun vs H Q E h => ?_) (fun cdv A outer s H vs Q E hr h => ?_)
  · obtain ⟨m, i, o, q, ins, outs, T, s, rfl, _⟩ := h
    rfl
  · obtain ⟨m, i, o, q, ins, outs, T, s0, rfl, dv, law, i3, o3, sl, Qk⟩ := h
    have n60 := law.n60
    have li : (ins.map V.str).length = ins.length := List.length_map _
    obtain ⟨vt, hvt, pvt⟩ := id dv.ht
    have lvt := pvt.length
    refine ⟨_, (pss_cons (ps_set (i := 2) scLaf.nd rfl (.inl rfl) (pe_dget (hu_of hr) (pv 0) pe_str (fun _ _ => rfl)))
      (pss_cons (ps_set (i := 3) scLaf.nd rfl (.inl rfl) (pe_op op_rep (pe_listRg rfl (by rfl) B.lst (prg_1 (by rfl) B.rng (pe_callB call_len_seq (by rfl) B.len PySem.boot_len (pa_cons (pe_dget (hu_of hr) (pv 0) pe_str (fun _ _ => rfl)) pa_nil)))) (pe_callB call_len_seq (by rfl) B.len PySem.boot_len (pa_cons (pv 2) pa_nil))))
      (pss_one (ps_ret (pe_ix (r := rIxT K) ix_tup (pe_call Wk.G hr (by rfl) Wk.g Wk.kp Wk.b .nil pass0 (pa_cons (pv 0) (pa_cons (pv 1) (pa_cons (pv 3) pa_nil)))) pe_int (fun _ _ => rfl)))))), ?_⟩
    refine ⟨_, rfl, m, _, rfl, dv.gr, ?_⟩
    refine ⟨_, rfl, m, _, rfl, dv.gi, i, _, rfl, .inl (SqL.of dv.hi), ((ins.map V.str).length : Int), rfl, RgOk.of_le (by omega) (by omega) (by omega) (by omega), fun z nz => ?_⟩
    rw [li, rgV_nat]
    have s1 := same_upd (o := .lst (natV (List.range ins.length))) nz
    refine ⟨_, rfl, q, _, rfl, .inl (SqL.of (s1 _ _ hvt)), z, (vt.length : Int), _, rfl, rfl, upd_same, by omega, by omega, ?_, fun D nD => ?_⟩
    · rw [natV_len, List.length_range, Int.toNat_natCast, lvt, sizeLine_eq]
      have : ins.length * T.length ≤ 3 * 60 := Nat.mul_le_mul i3 n60
      omega
    rw [Int.toNat_natCast, lvt, rep_all]
    have s2 := s1.trans (same_upd (o := .lst (natV (allp ins.length T.length))) nD)
    refine ⟨_, rfl, _, rfl, _, rfl, m, i, o, q, D, ins, outs, T, allp ins.length T.length, s0, rfl, dv.same s2, law, o3, upd_same, fun a ha => allp_lt ha, sl, fun H' r sm ⟨q', h1, h2⟩ => ?_⟩
    exact ⟨r, _, 0, _, rfl, rfl, SqT.of h1, atI_nat (j := 0) rfl, Qk H' (s2.trans sm)⟩
end
end Hl

set_option Elab.async false
set_option linter.all false
set_option maxRecDepth 100000
set_option maxHeartbeats 4000000
namespace Hl
open PySem PySem.Spec PyProof.Rows L2
abbrev sLrd : Stmt := topS 72
theorem bg_rnd {T : Tab} {k n a s : Nat} (l : Lawful T k n) (ha : a < k) (hs : s < T.length) : Rnd T a (bg T k s) (lapL T (bg T k s) a) ∧ lapL T (bg T k s) a ≤ 60 := by
  obtain ⟨t, t0, tl, e⟩ := bg_per l ha hs
  obtain ⟨L, hL, r⟩ := per_rnd t0 e
  have := l.n60
  rw [lapL_of r]
  exact ⟨r, by omega⟩
theorem rnd_ne {T : Tab} {a b L m : Nat} (r : Rnd T a b L) (h0 : 0 < m) (hm : m < L) : endN T a m b ≠ b := fun e => by
  have p1 : (pathN T a b L)[m]? = some b := by rw [pathN_get hm, e]
  have p2 : (pathN T a b L)[0]? = some b := pathN_get (i := 0) r.pos
  have := nd_ix r.nd p1 p2
  omega
section
variable {P : Program} {w : World} {K : PySem.W.Frag} {mg : Str → Option Value} {base : Heap}
/-! _law_round -/
def spLrd : Sp := fun vs H Q _ => ∃ (m i o q : Addr) (ins outs : List Str) (T : Tab) (pl : Nat), vs = [.ref m, .int pl] ∧ Dev H m i o q ins outs T ∧ Lawful T ins.length outs.length ∧ ins.length ≤ 3 ∧ outs.length ≤ 3 ∧ pl < ins.length ∧
  ∀ (H' : Hp) (r : Addr), Same H H' → Told H' r (lapL T (bg T ins.length 0) pl) (vec outs.length (sntN T pl (lapL T (bg T ins.length 0) pl) (bg T ins.length 0))) → Q (.ref r) H'
abbrev nmLrd : List Str := ["_law_m", "_law_place", "_law_begin", "_law_stand", "_law_sent", "_law_many", "_law_sends", "_law_a", "_law_b"]
theorem scLrd : FnScope nmLrd ["_law_m", "_law_place"] (defScope sLrd) := ⟨rfl, rfl, rfl, by decide +kernel, rfl, by decide +kernel, by decide +kernel⟩
theorem ok_lrd {f fW fA : Addr} {fd fdW fdA : FuncData} {k : Nat} (F : Fun K "_law_round" "_law_round" sLrd f fd) (B : Bi mg) (J : Bj mg) (Wk : Has P w K mg base k "_law_walked" ["_law_m", "_law_start", "_law_places"] spWk fW fdW)
    (Af : Has P w K mg base k "_law_again_from" ["_law_m", "_law_start"] spLaf fA fdA) : FnOk P w K mg base CX0 (k + 1) f fd ["_law_m", "_law_place"] spLrd := by
  refine F.ok scLrd (fun vs H Q E h => ?_) (fun cdv A outer s H vs Q E hr h => ?_)
  · obtain ⟨m, i, o, q, ins, outs, T, pl, rfl, _⟩ := h
    rfl
  · obtain ⟨m, i, o, q, ins, outs, T, pl, rfl, dv, law, i3, o3, plk, Qk⟩ := h
    have n1 := law.n1
    obtain ⟨b, hb⟩ : ∃ b, b = bg T ins.length 0 := ⟨_, rfl⟩
    obtain ⟨rn, L60⟩ := bg_rnd (s := 0) law plk (by omega)
    have bl : bg T ins.length 0 < T.length := bg_lt law (by omega)
    rw [← hb] at rn L60 bl Qk
    obtain ⟨L, hL⟩ : ∃ L, L = lapL T b pl := ⟨_, rfl⟩
    rw [← hL] at rn L60 Qk
    have L0 := rn.pos
    refine ⟨_, (pss_cons (ps_set (i := 2) scLrd.nd rfl (.inl rfl) (pe_call Af.G hr (by rfl) Af.g Af.kp Af.b .nil pass0 (pa_cons (pv 0) (pa_cons pe_int pa_nil))))
        (pss_cons (ps_asg (pe_call Wk.G hr (by rfl) Wk.g Wk.kp Wk.b .nil pass0 (pa_cons (pv 0) (pa_cons (pv 2) (pa_cons (pe_lst (pa_cons (pv 1) pa_nil)) pa_nil)))) (pg_tup rfl (pgs_cons (pg_name (i := 3) scLrd.nd rfl (.inl rfl)) (pgs_cons (pg_name (i := 4) scLrd.nd rfl (.inl rfl)) pgs_nil))))
        (pss_cons (ps_set (i := 5) scLrd.nd rfl (.inl rfl) pe_int)
        (pss_cons (ps_while PassesOwn.never (PW.pt (pw_and (pt_cmpR op_ne (pv 3) (pv 2) (nomark _)) (pw_and1 (pt_cmpR op_lt (pv 5) pe_int (nomark _)))))
        (pss_cons (ps_asg (pe_ix (r := rIx K) ix_seq (pe_ix (r := rIx K) ix_seq (pe_dget (hu_of hr) (pv 0) pe_str (fun _ _ => rfl)) (pv 3) (fun _ _ => rfl)) (pv 1) (fun _ _ => rfl)) (pg_tup rfl (pgs_cons (pg_name (i := 3) scLrd.nd rfl (.inl rfl)) (pgs_cons (pg_name (i := 6) scLrd.nd rfl (.inl rfl)) pgs_nil))))
        (pss_cons (ps_setLc (i := 4) (own := [("_law_a", 7), ("_law_b", 8)]) (g := gTup K 2 (gCons (gName 7) (gCons (gName 8) gNil))) (tt := tYes) rfl scLrd.nd rfl rfl (sw_true rfl rfl rfl (by decide +kernel)) (pi_zipm (by rfl) J.zip (pa_cons (pv 4) (pa_cons (pv 6) pa_nil))) (blkOk_by (own := [("_law_a", 7), ("_law_b", 8)]) (N := nmLrd) (sc := defScope sLrd) (by decide +kernel)) (fun _ _ _ _ _ => pg_tup rfl (pgs_cons (pg_name (i := 7) scLrd.nd rfl (Or.inl rfl)) (pgs_cons (pg_name (i := 8) scLrd.nd rfl (Or.inl rfl)) pgs_nil))) (fun _ _ _ _ _ => pts_nil) (fun _ _ _ _ _ => pe_op op_add (pv 7) (pv 8)))
        (pss_one (ps_set (i := 5) scLrd.nd rfl (.inl rfl) (pe_op op_add (pv 5) pe_int))))))
        (pss_one (ps_ret (pe_tup (pa_cons (pv 5) (pa_cons (pv 4) pa_nil))))))))), ?_⟩
    refine ⟨_, rfl, m, i, o, q, ins, outs, T, 0, rfl, dv, law, i3, o3, by omega, fun H1 sm1 => ?_⟩
    rw [← hb]
    refine ⟨_, rfl, _, rfl, _, rfl, (by show 1 ≤ sizeLine; decide), fun z nz => ?_⟩
    have s2 := sm1.trans (same_upd (o := .lst (natV [pl])) nz)
    refine ⟨m, i, o, q, z, ins, outs, T, [pl], b, rfl, dv.same s2, law, o3, upd_same, fun a ha => by rw [List.mem_singleton.mp ha]; exact plk, bl, fun H3 r sm3 ⟨q3, h3, hq3⟩ => ?_⟩
    refine ⟨r, _, rfl, SqT.of h3, rfl, _, _, rfl, _, _, rfl, rfl, ?_⟩
    have s3 := s2.trans sm3
    have e1 : wS T (ones [pl]) b = sntN T pl 1 b := by
      funext j
      show sntN T pl 1 b j + 0 = _
      rw [Int.add_zero]
    rw [e1] at hq3
    refine ⟨fun mm σ H' => ∃ (S : Addr) (mn : Nat) (w6 : Option V), σ = [some (.ref m), some (.int (pl : Nat)), some (.int (b : Nat)), some (.int (endN T pl mn b : Nat)), some (.ref S), some (.int (mn : Nat)), w6, none, none] ∧ 1 ≤ mn ∧ mn ≤ L ∧ mm = L - mn ∧ Same H H' ∧ H' S = some (.lst ((vec outs.length (sntN T pl mn b)).map V.int)),
      ⟨_, q3, 1, none, rfl, Nat.le_refl _, by omega, rfl, s3, hq3⟩, ?_⟩
    rintro mm σ H4 ⟨S, mn, w6, rfl, m1, mL, rfl, sm4, hS⟩
    have dv4 := dv.same sm4
    by_cases fin : mn = L
    · subst fin
      refine ⟨_, rfl, _, rfl, rfl, _, rfl, iF (by rw [rn.eq]; simp) ?_⟩
      refine iF rfl ?_
      refine ⟨_, rfl, _, rfl, (by show 2 ≤ sizeLine; decide), fun r' nr => ?_⟩
      have sr := same_upd (o := .tup [.int (mn : Nat), .ref S]) nr
      exact Qk _ r' (sm4.trans sr) ⟨S, upd_same, sr _ _ hS⟩
    · have ml : mn < L := by omega
      have ne : ¬ (endN T pl mn b : Int) = (b : Int) := fun e => rnd_ne rn m1 ml (by omega)
      refine ⟨_, rfl, _, rfl, rfl, _, rfl, iT (by simp [ne]) ?_⟩
      refine ⟨_, rfl, _, _, rfl, rfl, _, rfl, iT (by simp; omega) ?_⟩
      have el : endN T pl mn b < T.length := endN_lt law bl plk mn
      obtain ⟨e, ge, e1', nl, ev⟩ := law_at law el plk
      obtain ⟨row, hr1, hr2⟩ := getE_row ge
      obtain ⟨v1, rv1, x1⟩ := rt_row (K := K) dv4.ht.any hr1
      obtain ⟨c1, t1, hc1, ht1, y1⟩ := rr_ent (K := K) rv1 hr2
      rw [ev] at ht1
      rw [e1'] at hc1
      refine ⟨fun σ' H' => ∃ (S : Addr) (w6 : Option V), σ' = [some (.ref m), some (.int (pl : Nat)), some (.int (b : Nat)), some (.int (endN T pl (mn + 1) b : Nat)), some (.ref S), some (.int ((mn + 1 : Nat) : Nat)), w6, none, none] ∧ Same H H' ∧ H' S = some (.lst ((vec outs.length (sntN T pl (mn + 1) b)).map V.int)),
        fun σ' H' ⟨S', w', h1, h2, h3⟩ => ⟨L - (mn + 1), by omega, S', mn + 1, w', h1, by omega, by omega, rfl, h2, h3⟩, ?_⟩
      refine ⟨_, rfl, m, _, rfl, dv4.gr, _, rfl, x1 _ ⟨_, rfl, y1 _ ⟨c1, _, rfl, SqT.of hc1, rfl, _, _, rfl, _, _, rfl, rfl, ?_⟩⟩⟩
      refine ⟨_, rfl, _, rfl, S, t1, _, _, rfl, SqL.of hS, SqT.of ht1, fun D nD => ?_⟩
      refine lc_zipm (K := K) (a := S) (b := t1) (xs := (vec outs.length (sntN T pl mn b)).map V.int) (ys := (vec outs.length (sdN T pl (endN T pl mn b))).map V.int) (by simp only [List.length_map, vec_len])
        (fun j H' => Same H4 H' ∧ H' D = some (.lst (((vec outs.length (sntN T pl (mn + 1) b)).take j).map V.int))) ⟨same_upd nD, upd_same⟩ (fun j H' ⟨sm, _⟩ => ⟨SqL.of (sm _ _ hS), SqT.of (sm _ _ ht1)⟩) ?_ ?_
      · rintro j x y T' H5 hx hy ⟨sm5, hD⟩ nT
        obtain ⟨x', hx', rfl⟩ := map_int_get hx
        obtain ⟨y', hy', rfl⟩ := map_int_get hy
        have jl := (List.getElem?_eq_some_iff.mp hx').1
        rw [vec_len] at jl
        rw [vec_get jl] at hx' hy'
        cases Option.some.inj hx'
        cases Option.some.inj hy'
        have sT := same_upd (o := .tup [.int (sntN T pl mn b j), .int (sdN T pl (endN T pl mn b) j)]) nT
        refine ⟨T', _, rfl, SqT.of upd_same, rfl, _, _, rfl, _, _, rfl, rfl, ?_⟩
        refine ⟨rfl, ?_⟩
        refine ⟨_, rfl, _, rfl, _, _, rfl, rfl, _, sT _ _ hD, ?_, (sm5.trans sT).put nD, ?_⟩
        · rw [List.length_map, List.length_take, vec_len]
          exact small1000 (by omega)
        · rw [upd_same, vec_take jl, List.map_append]
          rfl
      · rintro H5 ⟨sm5, hD⟩
        rw [List.length_map, vec_len, List.take_of_length_le (by rw [vec_len]; exact Nat.le_refl _)] at hD
        refine ⟨_, rfl, _, _, rfl, rfl, ?_⟩
        exact ⟨D, _, rfl, sm4.trans sm5, hD⟩
end
end Hl

set_option Elab.async false
set_option linter.all false
set_option maxRecDepth 100000
set_option maxHeartbeats 4000000
namespace Hl
open PySem PySem.Spec PyProof.Rows L2
abbrev sLrt : Stmt := topS 73
section
variable {P : Program} {w : World} {K : PySem.W.Frag} {mg : Str → Option Value} {base : Heap}
/-! _law_rates -/
def spLrt : Sp := fun vs H Q _ => ∃ (m i o q : Addr) (ins outs : List Str) (T : Tab), vs = [.ref m] ∧ Dev H m i o q ins outs T ∧ Lawful T ins.length outs.length ∧ ins.length ≤ 3 ∧ outs.length ≤ 3 ∧ ∀ (H' : Hp) (q : Addr), Same H H' → H q = none → RatesAt H' q T ins.length outs.length → Q (.ref q) H'
abbrev nmLrt : List Str := ["_law_m", "_law_found", "_law_place", "_law_many", "_law_sent", "_law_one"]
theorem scLrt : FnScope nmLrt ["_law_m"] (defScope sLrt) := ⟨rfl, rfl, rfl, by decide +kernel, rfl, by decide +kernel, by decide +kernel⟩
theorem ok_lrt {f fR fL : Addr} {fd fdR fdL : FuncData} {k : Nat} (F : Fun K "_law_rates" "_law_rates" sLrt f fd) (B : Bi mg) (Lr : Has P w K mg base k "_law_round" ["_law_m", "_law_place"] spLrd fR fdR) (Lw : Has P w K mg base k "_law_low" ["_law_over", "_law_under"] spLow fL fdL) :
    FnOk P w K mg base CX0 (k + 1) f fd ["_law_m"] spLrt := by
  refine F.ok scLrt (fun vs H Q E h => ?_) (fun cdv A outer s H vs Q E hr h => ?_)
  · obtain ⟨m, i, o, q, ins, outs, T, rfl, _⟩ := h
    rfl
  · obtain ⟨m, i, o, q, ins, outs, T, rfl, dv, law, i3, o3, Qk⟩ := h
    have n1 := law.n1
    have li : (ins.map V.str).length = ins.length := List.length_map _
    refine ⟨_, (pss_cons (ps_set (i := 1) scLrt.nd rfl (by first | exact .inl rfl | exact .inr rfl) (pe_lst pa_nil))
        (pss_cons (ps_for PassesOwn.never rfl (pi_range1 (by rfl) B.rng (pa_cons (pe_callB call_len_seq (by rfl) B.len PySem.boot_len (pa_cons (pe_dget (hu_of hr) (pv 0) pe_str (fun _ _ => rfl)) pa_nil)) pa_nil)) (pg_name (i := 2) scLrt.nd rfl (by first | exact .inl rfl | exact .inr rfl))
          (pss_cons (ps_asg (pe_call Lr.G hr (by rfl) Lr.g Lr.kp Lr.b .nil pass0 (pa_cons (pv 0) (pa_cons (pv 2) pa_nil))) (pg_tup rfl (pgs_cons (pg_name (i := 3) scLrt.nd rfl (by first | exact .inl rfl | exact .inr rfl)) (pgs_cons (pg_name (i := 4) scLrt.nd rfl (by first | exact .inl rfl | exact .inr rfl)) pgs_nil))))
        (pss_one (ps_expr (pe_bm PySem.F.plainAttrs_list PySem.F.slot_list_append PySem.F.type_list_append mt_append (pv 1) (pa_cons (pe_lc (own := [("_law_one", 5)]) (g := gName 5) (tt := tYes) rfl scLrt.nd (pi_list (pv 4)) (blkOk_by (own := [("_law_one", 5)]) (N := nmLrt) (sc := defScope sLrt) (by decide +kernel)) (fun _ _ _ _ _ => pg_name (i := 5) scLrt.nd rfl (Or.inl rfl)) (fun _ _ _ _ _ => pts_nil) (fun _ _ _ _ _ => (pe_call Lw.G hr (by rfl) Lw.g Lw.kp Lw.b .nil pass0 (pa_cons (pv 5) (pa_cons (pv 3) pa_nil))))) pa_nil))))))
        (pss_one (ps_ret (pv 1))))), ?_⟩
    refine ⟨(by show 0 ≤ sizeLine; decide), fun D nD => ?_⟩
    have s1 := same_upd (o := .lst []) nD
    have dv1 := dv.same s1
    refine ⟨_, rfl, m, _, rfl, dv1.gi, i, _, rfl, .inl (SqL.of dv1.hi), ((ins.map V.str).length : Int), rfl, by omega, by omega, ?_⟩
    refine for_range (lo := 0) (n := (ins.map V.str).length) (fun pl σ H' => ∃ w2 w3 w4 : Option V, σ = [some (.ref m), some (.ref D), w2, w3, w4, none] ∧ ∃ vs : List V, Same H H' ∧ H' D = some (.lst vs) ∧ Paired (fun v a => PtsAt (st [D] H') (N0 T ins.length) v (ratesL T ins.length outs.length a)) vs (List.range pl))
      ⟨none, none, none, rfl, [], s1, upd_same, .nil⟩ ?_ ?_
    · rintro pl σ H2 hpl ⟨w2, w3, w4, rfl, vs, sm2, hD, pp⟩
      have plk : pl < ins.length := by omega
      have lvs := pp.length
      rw [List.length_range] at lvs
      rw [show (0 + (pl : Int)) = ((pl : Nat) : Int) by omega]
      have dv2 := dv.same sm2
      obtain ⟨rn, L60⟩ := bg_rnd (s := 0) law plk (by omega)
      have bl : bg T ins.length 0 < T.length := bg_lt law (by omega)
      refine ⟨_, rfl, _, rfl, m, i, o, q, ins, outs, T, pl, rfl, dv2, law, i3, o3, plk, fun H3 r sm3 ⟨q3, h3, hq3⟩ => ?_⟩
      obtain ⟨b, hb⟩ : ∃ b, b = bg T ins.length 0 := ⟨_, rfl⟩
      rw [← hb] at rn L60 bl h3 hq3
      obtain ⟨L, hL⟩ : ∃ L, L = lapL T b pl := ⟨_, rfl⟩
      rw [← hL] at rn L60 h3 hq3
      have L0 := rn.pos
      refine ⟨r, _, rfl, SqT.of h3, rfl, _, _, rfl, _, _, rfl, rfl, ?_⟩
      have hD3 := sm3 _ _ hD
      refine ⟨_, rfl, .inl ⟨rfl, _, SqL.of hD3⟩, _, rfl, q3, rfl, ⟨_, SqL.of hq3⟩, fun D2 nD2 => ?_⟩
      refine lc_list (K := K) (a := q3) (xs := (vec outs.length (sntN T pl L b)).map V.int) (fun j H' => ∃ us : List V, Same H3 H' ∧ H' D2 = some (.lst us) ∧ Paired (PtAt (st [D2] H') (N0 T ins.length)) us ((ratesL T ins.length outs.length pl).take j)) ⟨[], same_upd nD2, upd_same, .nil⟩ (fun j H' _ ⟨_, sm, _⟩ => SqL.of (sm _ _ hq3)) ?_ ?_
      · rintro j x H4 hx ⟨us, sm4, hD2, pu⟩
        obtain ⟨x', hx', rfl⟩ := map_int_get hx
        have jl := (List.getElem?_eq_some_iff.mp hx').1
        rw [vec_len] at jl
        rw [vec_get jl] at hx'
        cases Option.some.inj hx'
        have lus := pu.length
        rw [List.length_take] at lus
        refine ⟨rfl, ?_⟩
        refine ⟨_, rfl, _, rfl, _, _, rfl, by omega, ?_, fun c nc => ?_⟩
        · exact Nat.lt_of_lt_of_le (show ((L : Nat) : Int).natAbs < 2 ^ 6 by omega) (Nat.pow_le_pow_right (by decide) (by decide))
        have sc := same_upd (o := .tup (lowF (sntN T pl L b j) (L : Nat))) nc
        have ncD : c ≠ D2 := ne_of_fresh hD2 nc
        refine ⟨_, sc _ _ hD2, small1000 (by omega), us ++ [.ref c], (sm4.trans sc).put nD2, upd_same, ?_⟩
        rw [st_upd (by simp)]
        have tk : (ratesL T ins.length outs.length pl).take (j + 1) = (ratesL T ins.length outs.length pl).take j ++ [rt0 T ins.length pl j] := vec_take jl
        rw [tk]
        refine paired_snoc (paired_mono (fun _ _ ⟨a, e, h⟩ => ⟨a, e, st_mono sc _ _ h⟩) pu) ⟨c, rfl, ?_⟩
        rw [st_get (by simp [ncD]), upd_same, round_low law plk bl jl L0 rn.eq]
      · rintro H4 ⟨us, sm4, hD2, pu⟩
        rw [List.length_map, vec_len, List.take_of_length_le (by unfold ratesL; rw [vec_len]; exact Nat.le_refl _)] at pu
        have hD4 := sm4 _ _ hD3
        have nbD : D2 ≠ D := ne_of_fresh hD3 nD2
        refine ⟨D, _, _, rfl, rfl, hD4, small1000 (by omega), ?_⟩
        refine ⟨_, _, _, rfl, vs ++ [.ref D2], ((sm2.trans sm3).trans sm4).put nD, upd_same, ?_⟩
        rw [st_upd (by simp), List.range_succ]
        have hv : PtsAt H4 (N0 T ins.length) (.ref D2) (ratesL T ins.length outs.length pl) := ⟨D2, us, rfl, hD2, paired_mono (fun _ _ ⟨a, e, h⟩ => ⟨a, e, st_same _ _ h⟩) pu⟩
        exact paired_snoc (paired_mono (fun _ _ => PtsAt.same (st_mono (sm3.trans sm4))) pp) (hv.st hD4 nbD)
    · rintro σ H2 ⟨w2, w3, w4, rfl, vs, sm2, hD, pp⟩
      rw [li] at pp
      exact ⟨_, rfl, Qk H2 D sm2 nD ⟨vs, hD, paired_mono (fun _ _ => PtsAt.same st_same) pp⟩⟩
end
end Hl

set_option Elab.async false
set_option linter.all false
set_option maxRecDepth 100000
set_option maxHeartbeats 4000000
namespace Hl
open PySem PySem.Spec PyProof.Rows L2
/-! a call by names alone -/
section
variable {X : Cx} {CX : CXT} {k : Nat} {f : Addr} {fd : FuncData} {ps ks : List Str} {sp : Sp} {E : XK} {x : Str} {p pos : Pos} {kws : List Keyword} {tk : TA}
  {g : List Value → List Value → List Value} {gV : List V → List V → List V}
theorem pe_callN0 (F : FnOk X.prog X.w X.K X.mg X.base CX k f fd ps sp) (hr : Room k X.A) (hg : Gl X x) (hm : X.mg x = some (.ref f))
    (hk : PySem.W.keepIn X.K (.ref f) = true) (hb : KBn X.K fd ps 0 ks g gV) (hx : Passes CX X E) (hkw : PK X kws tk)
    (hall : (backToKw pos (keywordEach kws X.env)).all (·.1.isSome) = true := by rfl)
    (hks : (backToKw pos (keywordEach kws X.env)).filterMap (·.1) = ks := by rfl)
    (hdb : (x == ("__debug__" : Str)) = false := by decide)
    (hpl : ((backTo pos (starEach [] X.env)).any (·.1) || (backToKw pos (keywordEach kws X.env)).any (·.1.isNone)) = false := by rfl) :
    PE X (.Call (.Name x p) [] kws pos) (tCallN 0 ks.length sp gV E tNil tk) := by
  constructor
  intro pins s σ H Q I h
  refine wpAny_Call_Name_kw (ld_glob I hg hm ?_ hdb)
  refine PySem.W.callWith_KW0 (h₀ := X.base) I.ok.mod.kin hk hall (thn (hkw.run pos pins s σ H _ I h) ?_) hpl
  rintro ws s2 ⟨zs, H2, I2, rz, l1, l2, q2⟩
  refine ⟨I2.kIn, ?_⟩
  rw [hks]
  exact run_fnN (us := []) (vs := []) F hr hb hx I2 .nil rz l1 l2 q2
end
def second {α : Type} (_ b : List α) : List α := b
theorem second_rel {vs zs : List V} {us ws : List Value} (_ : Vals vs us) (h : Vals zs ws) : Vals (second vs zs) (second us ws) := h
theorem lk_nats {K : PySem.W.Frag} {H : Hp} {n : Nat} : ∀ ns : List Nat, Paired (Lk K H n) (natV ns) (natV ns)
  | [] => .nil
  | i :: r => .cons (.int i) (lk_nats r)
section
variable {P : Program} {w : World} {K : PySem.W.Frag} {mg : Str → Option Value} {base : Heap}
/-! _law_again -/
def spLag : Sp := fun vs H Q _ => ∃ (m i o q : Addr) (ins outs : List Str) (T : Tab), vs = [.ref m] ∧ Dev H m i o q ins outs T ∧ Nxt T ∧
  ∀ (H' : Hp) (d : Addr), Same H H' → H d = none → H' d = some (.lst (natV (againL T T.length))) → Q (.ref d) H'
abbrev nmLg : List Str := ["_law_m", "_law_found", "_law_stand", "_law_other"]
theorem scLg : FnScope nmLg ["_law_m"] (defScope sLag) := ⟨rfl, rfl, rfl, by decide +kernel, rfl, by decide +kernel, by decide +kernel⟩
theorem ok_lag {f fR : Addr} {fd fdR : FuncData} {k : Nat} (F : Fun K "_law_again" "_law_again" sLag f fd) (B : Bi mg) (R : Has P w K mg base k "_law_reached" ["_law_rows", "_law_start"] spLrc fR fdR) : FnOk P w K mg base CX0 (k + 1) f fd ["_law_m"] spLag := by
  refine F.ok scLg (fun vs H Q E h => ?_) (fun cdv A outer s H vs Q E hr h => ?_)
  · obtain ⟨m, i, o, q, ins, outs, T, rfl, _⟩ := h
    rfl
  · obtain ⟨m, i, o, q, ins, outs, T, rfl, dv, nx, Qk⟩ := h
    refine ⟨_, pss_cons (ps_set (i := 1) scLg.nd rfl (.inl rfl) (pe_lst pa_nil))
      (pss_cons (ps_for PassesOwn.never rfl (pi_range1 (by rfl) B.rng (pa_cons (pe_callB call_len_seq (by rfl) B.len PySem.boot_len (pa_cons (pe_dget (hu_of hr) (pv 0) pe_str (fun _ _ => rfl)) pa_nil)) pa_nil)) (pg_name (i := 2) scLg.nd rfl (.inr rfl))
        (pss_one (ps_if (pt_val (pe_callB (cr_all rfl) (by rfl) B.all (by decide +kernel) (pa_cons
          (pe_lc (own := [("_law_other", 3)]) (g := gName 3) rfl scLg.nd (pi_list (pe_call R.G hr (by rfl) R.g R.kp R.b .nil pass0 (pa_cons (pe_dget (hu_of hr) (pv 0) pe_str (fun _ _ => rfl)) (pa_cons (pv 2) pa_nil)))) (blkOk_by (own := [("_law_other", 3)]) (N := nmLg) (sc := defScope sLag) (by decide +kernel))
            (fun _ _ _ _ _ => pg_name (i := 3) scLg.nd rfl (Or.inl rfl)) (fun _ _ _ _ _ => pts_nil)
            (fun _ _ _ _ _ => pe_cmpR (r := rIn K false) op_in_seq (pv 2) (pe_call R.G hr (by rfl) R.g R.kp R.b .nil pass0 (pa_cons (pe_dget (hu_of hr) (pv 0) pe_str (fun _ _ => rfl)) (pa_cons (pv 3) pa_nil))) (by rfl))) pa_nil)))
          (pss_one (ps_expr (pe_bm PySem.F.plainAttrs_list PySem.F.slot_list_append PySem.F.type_list_append mt_append (pv 1) (pa_cons (pv 2) pa_nil)))) pss_nil)))
      (pss_one (ps_ret (pv 1)))), ?_⟩
    have n60 := nx.n60
    refine ⟨Nat.zero_le _, fun Fd nF => ?_⟩
    have sF := same_upd (o := .lst []) nF
    obtain ⟨vs, hv, pr⟩ := (dv.same sF).ht
    have lvs := pr.length
    refine ⟨_, rfl, m, _, rfl, (dv.same sF).gr, q, vs, rfl, .inl (SqL.of hv), (vs.length : Int), rfl, by omega, by omega, ?_⟩
    refine for_range (lo := 0) (n := vs.length) (fun j σ H' => ∃ (v2 v3 : Option V), σ = [some (.ref m), some (.ref Fd), v2, v3] ∧ Same H H' ∧ H' Fd = some (.lst (natV (againL T j)))) ⟨none, none, rfl, sF, upd_same⟩ ?_ ?_
    · rintro j σ H1 hj ⟨v2, v3, rfl, sm1, hF1⟩
      have jl : j < T.length := by omega
      have dv1 := dv.same sm1
      have e0 : (0 + (j : Int)) = (j : Nat) := by omega
      rw [e0]
      refine ⟨_, rfl, m, _, rfl, dv1.gr, _, rfl, q, T, j, rfl, dv1.ht, nx, jl, fun H2 r found sm2 nr hr2 fnd lf flt => ?_⟩
      have sm12 := sm1.trans sm2
      have hF2 := sm2 _ _ hF1
      refine ⟨r, rfl, ⟨_, SqL.of hr2⟩, fun D nD => ?_⟩
      refine lc_list (K := K) (a := r) (xs := natV found) (fun i H' => ∃ bs : List Bool, Same H2 H' ∧ H' D = some (.lst (bs.map V.bl)) ∧ bs.length ≤ i ∧ (bs.all id = true ↔ ∀ x ∈ found.take i, Rch T x j)) ⟨[], same_upd nD, upd_same, Nat.le_refl _, ⟨fun _ x hx => (by rw [List.take_zero] at hx; cases hx), fun _ => rfl⟩⟩ (fun i H' _ ⟨_, sm, _⟩ => SqL.of (sm _ _ hr2)) ?_ ?_
      · rintro i x H3 hx ⟨bs, sm3, hD3, lb, al⟩
        obtain ⟨o1, ho1, rfl⟩ := natV_get hx
        have ol := flt o1 (List.mem_of_getElem? ho1)
        have il := (List.getElem?_eq_some_iff.mp ho1).1
        have sm13 := sm12.trans sm3
        have dv3 := dv.same sm13
        refine ⟨rfl, ?_⟩
        refine ⟨_, rfl, _, rfl, m, _, rfl, dv3.gr, _, rfl, q, T, o1, rfl, dv3.ht, nx, ol, fun H4 r4 f4 sm4 nr4 hr4 fnd4 lf4 flt4 => ?_⟩
        refine ⟨r4, _, rfl, .inl (SqL.of hr4), rfl, natV_flat _, _, sm4 _ _ hD3, ?_, bs ++ [decide (j ∈ f4)], (sm3.trans sm4).put nD, ?_, ?_, ?_⟩
        · rw [List.length_map]
          exact small1000 (by omega)
        · rw [upd_same, List.map_append]
          show some (HO.lst (_ ++ [V.bl (if false = true then _ else inV (.int (j : Nat)) (natV f4))])) = _
          rw [if_neg Bool.false_ne_true, inV_nat]
          rfl
        · rw [List.length_append]
          exact Nat.succ_le_succ lb
        · rw [List.all_append, Bool.and_eq_true, al, List.take_add_one, ho1]
          constructor
          · rintro ⟨h1, h2⟩ x hx
            rcases List.mem_append.mp hx with h | h
            · exact h1 x h
            · have : x = o1 := by simpa using h
              subst this
              exact (fnd4 j).mp (of_decide_eq_true (by simpa using h2))
          · intro h
            refine ⟨fun x hx => h x (List.mem_append_left _ hx), ?_⟩
            have := (fnd4 j).mpr (h o1 (List.mem_append_right _ (by simp)))
            simp [this]
      · rintro H3 ⟨bs, sm3, hD3, lb, al⟩
        rw [natV_len, List.take_length] at al
        have eb : bs.all id = bkB T j := bkB_of (al.trans ⟨fun h x _ rx => h x ((fnd x).mpr rx), fun h x hx => h x (flt x hx) ((fnd x).mp hx)⟩)
        refine ⟨D, bs, rfl, SqL.of hD3, _, rfl, ?_⟩
        rw [eb]
        have hF3 := sm3 _ _ hF2
        have la := againL_len T j
        refine ite2 (fun e => ?_) (fun e => ?_)
        · refine ⟨_, rfl, .inl ⟨rfl, _, SqL.of hF3⟩, _, rfl, Fd, _, _, rfl, rfl, hF3, ?_, ?_⟩
          · rw [natV_len]
            exact small1000 (by omega)
          refine ⟨_, _, rfl, (sm12.trans sm3).put nF, ?_⟩
          rw [upd_same, againL_succ, if_pos e]
          unfold natV
          rw [List.map_append]
          rfl
        · refine ⟨_, _, rfl, sm12.trans sm3, ?_⟩
          rw [hF3, againL_succ, if_neg e, List.append_nil]
    · rintro σ H1 ⟨v2, v3, rfl, sm1, hF1⟩
      rw [lvs] at hF1
      exact ⟨_, rfl, Qk H1 Fd sm1 nF hF1⟩
/-! law -/
end
end Hl

set_option Elab.async false
set_option linter.all false
set_option maxRecDepth 100000
set_option maxHeartbeats 4000000
namespace Hw
open PySem PySem.Spec PyProof.Rows L2 Hl LamX
abbrev sWhy : Stmt := topS 68
theorem scWhy : FnScope ["_law_ask", "e"] ["_law_ask"] (defScope sWhy) := ⟨rfl, rfl, rfl, by decide +kernel, rfl, by decide +kernel, by decide +kernel⟩
theorem Takes.len {X : Cx} {W : WX} (t : Takes X W) : Takes X (fun cls d σ H => σ.length = X.N.length → W cls d σ H) := fun u s' ⟨a, B, sI, pins, σ, H, cls, d, e, I, nb, up, sky, na, os, ag, w⟩ => t u s' ⟨a, B, sI, pins, σ, H, cls, d, e, I, nb, up, sky, na, os, ag, w I.len⟩
/-- the classes by their names, as the clauses name them -/
abbrev cls1 : List Str := ["BadName", "Taken", "NoLetter", "NoOutlet", "NoMachine", "NoWeb", "NoRun"]
abbrev cls2 : List Str := ["BadRow", "BadText", "BadDeed"]
abbrev cls3 : List Str := ["Unreached", "Gone", "NoStand"]
structure ErrA where
  l1 : List Addr
  l2 : List Addr
  l3 : List Addr
  e4 : Addr
  e5 : Addr
  e6 : Addr
  e7 : Addr
structure Errs (mg : Str → Option Value) (E : ErrA) : Prop where
  h1 : Paired (fun x a => mg x = some (.ref a)) cls1 E.l1
  h2 : Paired (fun x a => mg x = some (.ref a)) cls2 E.l2
  h3 : Paired (fun x a => mg x = some (.ref a)) cls3 E.l3
  h4 : mg "Heeds" = some (.ref E.e4)
  h5 : mg "NoneWaits" = some (.ref E.e5)
  h6 : mg "HeedError" = some (.ref E.e6)
  h7 : mg "Lacking" = some (.ref E.e7)
/-- the clauses of _law_why -/
def whyL (K : PySem.W.Frag) (E : ErrA) : List (List Value × Suit) :=
  [(E.l1.map Value.ref, tFs K ["word", "name"]), (E.l2.map Value.ref, tFs K ["word", "at"]), (E.l3.map Value.ref, tFs K ["word", "stand"]), ([.ref E.e4], tFs K ["word", "stand", "one", "other"]), ([.ref E.e5], tFs K ["word", "name", "letter"]), ([.ref E.e6], tFs K ["word"]), ([.ref E.e7], tFs K ["word"])]
/-- what was told, in its tuple -/
def toldK (Q : VK) : VK := fun v H1 => [V.str "told", v].length ≤ sizeLine ∧ ∀ p, H1 p = none → Q (.ref p) (upd H1 p (.tup [.str "told", v]))
/-- what becomes of an error -/
def whyE (K : PySem.W.Frag) (E : ErrA) (Q : VK) : XK := fun cls d H' => ∀ σ : L2.St, σ.length = 2 → wWhy K 1 (fun _ _ _ _ => False) { nx := fun _ H' => Q .non H', rt := Q } (whyL K E) cls d σ H'
def TWhy (K : PySem.W.Frag) (E : ErrA) : (XK → Hp → VK → Prop) → Hp → VK → Prop := fun tl H Q => tl (whyE K E Q) H (toldK Q)
theorem why_gives {X : Cx} {g : Addr} {cdg : Value} {q : Str} {E : ErrA} (er : Errs X.mg E) : GivesTo X ["_law_ask", "e"] "_law_why" (defScope sWhy) g cdg (defBody sWhy) "_law_ask" q (TWhy X.K E) := by
  intro f c' s H Q tl act hc h
  refine ⟨_, pss_one (ps_try_why (X := (cxOf C8.CX0 X.prog X.w X.K X.mg X.base ["_law_ask", "e"] "_law_why" (defScope sWhy) g cdg X.A X.stack s H C8.E0).nox) (i := 1) (n := "e") (l := whyL X.K E)
      (tb := fun (W : WX) (D : Ends) (σ : L2.St) (H : Hp) => ∃ Ech : XK, (∀ (cls : Value) (d : Option Addr) (σ' : L2.St) (H' : Hp), Ech cls d H' → σ'.length = 2 → W cls d σ' H') ∧ σ[0]? = some (some (V.ref f)) ∧ H c' = some (CodeO c' q) ∧ tl Ech H (toldK D.rt))
      rfl rfl scWhy.nd rfl rfl LamX.takes0 (fun W pn xe tk _ => ?_) ?_), ?_⟩
  · refine ⟨fun pins s' σ H' D I h' => ?_⟩
    obtain ⟨Ech, hW, h1, h2, h3⟩ := h'
    refine PSs.run (pss_one (ps_ret (pe_tup (pa_cons pe_str (pa_cons (act (fun cls d σ H => σ.length = 2 → W cls d σ H) pn xe Ech _ _ (Takes.len tk) (fun cls d σ' H' e hl => hW cls d σ' H' e hl)) pa_nil))))) pins s' σ H' D I ?_
    exact ⟨h1, h2, h3⟩
  · obtain ⟨m1, m2, m3, e4, e5, e6, e7⟩ := E
    obtain ⟨h1, h2, h3, h4, h5, h6, h7⟩ := er
    match m1, m2, m3, h1, h2, h3 with
    | _, _, _, .cons a1 (.cons a2 (.cons a3 (.cons a4 (.cons a5 (.cons a6 (.cons a7 .nil)))))), .cons b1 (.cons b2 (.cons b3 .nil)), .cons c1 (.cons c2 (.cons c3 .nil)) =>
    exact HdsW.cons (.many (.cons ⟨rfl, by decide, .inl (a1)⟩ (.cons ⟨rfl, by decide, .inl (a2)⟩ (.cons ⟨rfl, by decide, .inl (a3)⟩ (.cons ⟨rfl, by decide, .inl (a4)⟩ (.cons ⟨rfl, by decide, .inl (a5)⟩ (.cons ⟨rfl, by decide, .inl (a6)⟩ (.cons ⟨rfl, by decide, .inl (a7)⟩ .nil))))))) (by show 7 ≤ 1000; decide)) (fun a oe cls d pn hz hf => pss_one (ps_ret (pe_tup (pa_cons (pe_xa (i := 1) hz hf rfl (Or.inl rfl)) (pa_cons (pe_xa (i := 1) hz hf rfl (Or.inl rfl)) pa_nil)))))
      (HdsW.cons (.many (.cons ⟨rfl, by decide, .inl (b1)⟩ (.cons ⟨rfl, by decide, .inl (b2)⟩ (.cons ⟨rfl, by decide, .inl (b3)⟩ .nil))) (by show 3 ≤ 1000; decide)) (fun a oe cls d pn hz hf => pss_one (ps_ret (pe_tup (pa_cons (pe_xa (i := 1) hz hf rfl (Or.inl rfl)) (pa_cons (pe_xa (i := 1) hz hf rfl (Or.inl rfl)) pa_nil)))))
      (HdsW.cons (.many (.cons ⟨rfl, by decide, .inl (c1)⟩ (.cons ⟨rfl, by decide, .inl (c2)⟩ (.cons ⟨rfl, by decide, .inl (c3)⟩ .nil))) (by show 3 ≤ 1000; decide)) (fun a oe cls d pn hz hf => pss_one (ps_ret (pe_tup (pa_cons (pe_xa (i := 1) hz hf rfl (Or.inl rfl)) (pa_cons (pe_xa (i := 1) hz hf rfl (Or.inl rfl)) pa_nil)))))
      (HdsW.cons (.one ⟨rfl, by decide, .inl (h4)⟩) (fun a oe cls d pn hz hf => pss_one (ps_ret (pe_tup (pa_cons (pe_xa (i := 1) hz hf rfl (Or.inl rfl)) (pa_cons (pe_xa (i := 1) hz hf rfl (Or.inl rfl)) (pa_cons (pe_xa (i := 1) hz hf rfl (Or.inl rfl)) (pa_cons (pe_xa (i := 1) hz hf rfl (Or.inl rfl)) pa_nil)))))))
      (HdsW.cons (.one ⟨rfl, by decide, .inl (h5)⟩) (fun a oe cls d pn hz hf => pss_one (ps_ret (pe_tup (pa_cons (pe_xa (i := 1) hz hf rfl (Or.inl rfl)) (pa_cons (pe_xa (i := 1) hz hf rfl (Or.inl rfl)) (pa_cons (pe_xa (i := 1) hz hf rfl (Or.inl rfl)) pa_nil))))))
      (HdsW.cons (.one ⟨rfl, by decide, .inl (h6)⟩) (fun a oe cls d pn hz hf => pss_one (ps_ret (pe_tup (pa_cons (pe_xa (i := 1) hz hf rfl (Or.inl rfl)) pa_nil))))
      (HdsW.cons (.one ⟨rfl, by decide, .inl (h7)⟩) (fun a oe cls d pn hz hf => pss_one (ps_ret (pe_tup (pa_cons (pe_xa (i := 1) hz hf rfl (Or.inl rfl)) pa_nil))))
      HdsW.nil))))))
  · exact ⟨_, fun cls d σ' H' e hl => e σ' hl, rfl, hc, h⟩
/-- _law_why(lambda: body) -/
theorem pe_why {X : Cx} {E : ErrA} {g c P : Addr} {fd : FuncData} {k : Nat} {params : Arguments} {body : Expr} {scope : Scope} {t : XK → TE} {p lpos pos : Pos} (F : Fun X.K "_law_why" "_law_why" sWhy g fd) (gW : X.mg "_law_why" = some (.ref g)) (er : Errs X.mg E) (hg : Gl X "_law_why")
    (TB : TabB X.base X.mg c P) (hcode : X.env.code = .ref c) (hr : Room (k + 2) X.A) (L : LamS X.env.scope scope) (hdef : defaultsOf params X.env = ([], []))
    (hbind : ∀ (q : Str) (cl : List (Str × Addr)) (pm cv ctv : Value), bindArgs (PySem.W.kla_fn "<lambda>" q params body scope cl pm cv ctv) ⟨[], []⟩ = pure [])
    (hbody : ∀ (A : Around) (outer : List Env) (s : Shared) (H : Hp) (E : XK) (f c' : Addr), Room k (A.deeper (lamEnv X scope s.heap.objs.size f c')) → PE (lamCx X A outer s H E scope f c') body (t E)) :
    PE X (.Call (.Name "_law_why" p) [.Lambda params body scope lpos] [] pos) (tLam [(P, X.env.qual ++ "<lambda>")] (TWhy X.K E) t) := by
  have b := F.binds (ps := ["_law_ask"]) fun _ _ _ _ _ _ us hl => match us, hl with | [_], _ => rfl
  obtain ⟨oc, od, kV, doc, pm, an, cdv, ct, osl, rfl, lk, hcd⟩ := F.ex
  exact pe_lamcall (a := "_law_ask") hg gW F.kp lk hcd b scWhy rfl (.inl rfl) (why_gives er) TB hcode (List.mem_singleton.mpr rfl) (fun p hp _ => by cases List.mem_singleton.mp hp; rfl) hr L hdef hbind hbody
section
variable {P : Program} {w : World} {K : PySem.W.Frag} {mg : Str → Option Value} {base : Heap}
/-! Lacking.__init__ -/
abbrev sUpL : Stmt := inClass (topS 13) 0
theorem scUpL : FnScope ["self", "word", "about"] ["self", "word", "about"] (defScope sUpL) := ⟨rfl, rfl, rfl, by decide +kernel, rfl, by decide +kernel, by decide +kernel⟩
theorem ok_upL {f : Addr} {fd : FuncData} {dvs : List V} {kws : List (Str × V)} {k : Nat} (F : FunD K "__init__" "Lacking.__init__" (defArgs sUpL) (defBody sUpL) (defScope sUpL) dvs kws f fd) (mV : mg "LookupError" = none)
    (vV : PySem.W.findCls K (.type "LookupError") (.type "type") "__init__" = some (.val (.builtin "LookupError.__init__"))) : FnOk P w K mg base CX0 (k + 1) f fd ["self", "word", "about"] (spBase K "LookupError.__new__" tlL) := by
  refine F.ok scUpL (fun vs H Q E h => ?_) (fun cdv A outer s H vs Q E hr h => ?_)
  · obtain ⟨a, C, wd, ab, rfl, _⟩ := h
    rfl
  · obtain ⟨a, C, wd, ab, rfl, hl, T, nw, ha, q⟩ := h
    refine ⟨_, PSs.nox (pss_cons (ps_expr (pe_binit bseL PyProof.Rows.Boot.«LookupError» (by rfl) mV vV (pa_cons (pv 0) (pa_cons (pe_op op_add_str (pv 1) (pv 2)) pa_nil)))) (pss_one (ps_st bseL (pv 0) (pv 1)))), ?_⟩
    refine ⟨_, rfl, _, rfl, _, rfl, wd, ab, rfl, rfl, Nat.le_of_lt (small1000 hl), a, C, _, rfl, (by show 1 ≤ 1000; decide), T, ha, ?_⟩
    exact ⟨_, rfl, _, rfl, a, C, rfl, T, nw, .inl ⟨ha, fun dx n1 n2 => q dx n1 n2⟩⟩
/-! NoLetter -/
abbrev sENoLetter : Stmt := inClass (topS 15) 0
theorem scENoLetter : FnScope ["self", "name"] ["self", "name"] (defScope sENoLetter) := ⟨rfl, rfl, rfl, by decide +kernel, rfl, by decide +kernel, by decide +kernel⟩
theorem ok_eNoLetter {f fB cB : Addr} {fd fdB : FuncData} {mc : Value} {ds : List Value} {k : Nat} (F : Fun K "__init__" "NoLetter.__init__" sENoLetter f fd) (GB : FnOk P w K mg base CX0 (k + 1) fB fdB ["self", "word", "about"] (spBase K "LookupError.__new__" tlL))
    (kB : PySem.W.keepIn K (.ref fB) = true) (bB : Binds K fdB ["self", "word", "about"] ds) (vB : Vals [] ds) (r : ClX.CRead K cB mc) (c : ClX.CVal K cB mc "__init__" (.ref fB) (.ref fB)) (gB : mg "Lacking" = some (.ref cB)) :
    FnOk P w K mg base CX0 (k + 2) f fd ["self", "name"] (spErr K "LookupError.__new__" tlL 1 (errF "NoLetter" ["name"])) := by
  refine F.ok scENoLetter (fun vs H Q E h => ?_) (fun cdv A outer s H vs Q E hr h => ?_)
  · obtain ⟨a, C, ws, rfl, hl, _⟩ := h
    show ws.length + 1 = _
    rw [hl]
    rfl
  · obtain ⟨a, C, ws, rfl, hl, ar, T, nf, ha, q⟩ := h
    match ws, hl with
    | [v1], _ =>
    cases vB
    obtain ⟨y1, t1⟩ := ar v1 (by simp)
    have z1 := t1.len
    refine ⟨_, (pss_cons (ps_expr (pe_callC r c GB hr (by rfl) gB kB bB .nil pass0 (pa_cons (pv 0) (pa_cons pe_str (pa_cons (pe_joined (PJ.cons pe_str (PJ.cons (pe_fmtR (pv 1)) PJ.nil))) pa_nil)))))
      (pss_one (ps_st bseL (pv 0) (pv 1)))), ?_⟩
    have sz : ∀ m : Nat, m ≤ 999 → m ≤ sizeLine := fun m h => Nat.le_of_lt (small1000 (by omega))
    have e1 : (": " : Str).length = 2 := by decide +kernel
    have e0 : Str.empty.length = 0 := rfl
    have ew : ("NoLetter" : Str).length = 8 := by decide +kernel
    refine ⟨_, rfl, ?_⟩
    refine ⟨_, rfl, sz _ (by simp only [PySem.Str.length_append]; omega), ?_⟩
    refine fmtR_var t1 rfl ?_
    refine ⟨_, rfl, sz _ (by simp only [PySem.Str.length_append]; omega), ?_⟩
    refine ⟨a, C, _, _, rfl, by simp only [PySem.Str.length_append]; omega, T, (nf (("word" : Str), V.str "NoLetter") (by simp [errF])), ha, fun dx n1 n2 => ?_⟩
    refine ⟨_, rfl, _, rfl, a, C, rfl, T, nf (("name" : Str), v1) (by simp [errF]), .inr ⟨dx, _, upd_same, by rw [upd_ne n2, upd_same], by simp, ?_⟩⟩
    rw [upd_back n2]
    exact q dx n1 n2
end
end Hw

set_option Elab.async false
set_option linter.all false
set_option maxRecDepth 100000
set_option maxHeartbeats 4000000
namespace Hl
open PySem PySem.Spec PyProof.Rows L2
/-! the round is the same at all stands that come again -/
section
variable {T : Tab} {k n : Nat}
theorem per_to (l : Lawful T k n) {a m s t : Nat} (ha : a < k) (hs : s < T.length) (h : endN T a m s = s) (r : Rch T s t) : endN T a m t = t := by
  obtain ⟨q, gq, e⟩ := rch_word l hs r
  have c := (w_comm l (Gd.one (m := m) ha) gq hs).1
  have e1 : wE T [(a, m)] s = s := h
  rw [e1, e] at c
  exact c.symm
theorem rch_lt (l : Lawful T k n) {s t : Nat} (hs : s < T.length) (h : Rch T s t) : t < T.length := by
  obtain ⟨q, gq, e⟩ := rch_word l hs h
  rw [← e]
  exact wE_lt l q hs gq
theorem word_rch (l : Lawful T k n) : ∀ (q : List (Nat × Nat)) {s : Nat}, s < T.length → Gd k q → Rch T s (wE T q s)
  | [], s, _, _ => .refl
  | (a, m) :: q, s, hs, g => by
    have ha : a < k := g (a, m) List.mem_cons_self
    have one : ∀ m, Rch T s (endN T a m s) := fun m => by
      induction m with
      | zero => exact .refl
      | succ m ih =>
        rw [endN_add T a m s 1]
        exact rch_trans ih (rch_nx l (endN_lt l hs ha m) ha)
    exact rch_trans (one m) (word_rch l q (endN_lt l hs ha m) fun p hp => g p (List.mem_cons_of_mem _ hp))
theorem again_to (l : Lawful T k n) {s t : Nat} (hs : s < T.length) (ht : t < T.length) (bs : Bk T s) : Rch T t s := by
  obtain ⟨q, gq, e⟩ := rch_word l (by have := l.n1; omega) (l.re s hs)
  obtain ⟨q', gq', e'⟩ := rch_word l (by have := l.n1; omega) (l.re t ht)
  have c := (w_comm l gq gq' (show 0 < T.length by have := l.n1; omega)).1
  rw [e, e'] at c
  have r1 : Rch T s (wE T q' s) := word_rch l q' hs gq'
  have r2 : Rch T t (wE T q t) := word_rch l q ht gq
  rw [← c] at r2
  exact rch_trans r2 (bs _ (rch_lt l hs r1) r1)
theorem rnd_to (l : Lawful T k n) {a s t L : Nat} (ha : a < k) (hs : s < T.length) (ht : t < T.length) (bs : Bk T s) (bt : Bk T t) (r : Rnd T a s L) : Rnd T a t L := by
  have st := again_to l ht hs bt
  have ts := again_to l hs ht bs
  have e := per_to l ha hs r.eq st
  exact ⟨r.pos, e, path_nd e (fun i i0 il h => rnd_ne r i0 il (per_to l ha ht h ts)) L (Nat.le_refl _)⟩
theorem per_bk (l : Lawful T k n) {b : Nat} (hb : b < T.length) (h : ∀ a, a < k → ∃ t, 0 < t ∧ endN T a t b = b) : Bk T b := by
  intro j jl r
  obtain ⟨q, gq, e⟩ := rch_word l hb r
  -- back by as many more of each letter as its round wants
  have back : ∀ (q : List (Nat × Nat)), Gd k q → ∃ q', Gd k q' ∧ wE T q' (wE T q b) = b := by
    intro q
    induction q with
    | nil => exact fun _ => ⟨[], (fun p hp => by cases hp), rfl⟩
    | cons p q ih =>
      intro g
      obtain ⟨a, m⟩ := p
      have ha : a < k := g (a, m) List.mem_cons_self
      have gq : Gd k q := fun p hp => g p (List.mem_cons_of_mem _ hp)
      obtain ⟨q', gq', e'⟩ := ih gq
      obtain ⟨t, t0, et⟩ := h a ha
      have mul : ∀ r, endN T a (t * r) b = b := fun r => by
        induction r with
        | zero => rfl
        | succ r ih => rw [Nat.mul_succ, endN_add, ih, et]
      refine ⟨q' ++ [(a, t * m - m)], gq'.app (Gd.one ha), ?_⟩
      have bl := endN_lt l hb ha m
      show wE T (q' ++ [(a, t * m - m)]) (wE T q (endN T a m b)) = b
      have c1 := (w_comm l (Gd.one (m := m) ha) gq hb).1
      have c1' : wE T q (endN T a m b) = endN T a m (wE T q b) := c1
      have xl := wE_lt l q hb gq
      have c2 := (w_comm l (Gd.one (m := m) ha) gq' xl).1
      have c2' : wE T q' (endN T a m (wE T q b)) = endN T a m (wE T q' (wE T q b)) := c2
      rw [wE_app, c1', c2', e']
      show endN T a (t * m - m) (endN T a m b) = b
      have le : m ≤ t * m := Nat.le_mul_of_pos_left m t0
      rw [← endN_add, show m + (t * m - m) = t * m by omega, mul]
  obtain ⟨q', gq', e'⟩ := back q gq
  rw [e] at e'
  have := word_rch l q' jl gq'
  rw [e'] at this
  exact this
theorem bg_bk (l : Lawful T k n) {s : Nat} (hs : s < T.length) : Bk T (bg T k s) := per_bk l (bg_lt l hs) fun a ha => by
  obtain ⟨t, t0, _, e⟩ := bg_per l ha hs
  exact ⟨t, t0, e⟩
/-- the round at any stand that comes again -/
theorem lap_all (l : Lawful T k n) {a s t : Nat} (ha : a < k) (hs : s < T.length) (ht : t < T.length) (bs : Bk T s) (bt : Bk T t) : lapL T s a = lapL T t a :=
  (lapL_of (rnd_to l ha ht hs bt bs ((rds_of l ht bt).all a ha)))
end
theorem againL_mem {T : Tab} {m s : Nat} (h : s ∈ againL T m) : s < m ∧ Bk T s := by
  unfold againL at h
  obtain ⟨h1, h2⟩ := List.mem_filter.mp h
  refine ⟨List.mem_range.mp h1, ?_⟩
  unfold bkB at h2
  classical
  simpa using h2
abbrev sRd : Stmt := topS 46
section
variable {P : Program} {w : World} {K : PySem.W.Frag} {mg : Str → Option Value} {base : Heap}
/-! round_of -/
def spRd (C NL : Addr) : Sp := fun vs H Q E => ∃ (p dx a b t : Addr) (ins outs : List Str) (T : Tab) (x : Str), vs = [.ref p, .str x] ∧ MachAt C H p dx a b t ins outs T ∧ Lawful T ins.length outs.length ∧ Nms ins ∧
  ((∃ pl, ins[pl]? = some x ∧ ∀ H', Same H H' → Q (.int (lapL T (r0 T) pl : Nat)) H') ∨
    (x ∉ ins ∧ (reprText x).length ≤ 200 ∧ ∀ (H' : Hp) (d : Addr), Same H H' → H' d = some (.xd (Hw.errF "NoLetter" ["name"] [.str x])) → E (.ref NL) (some d) H'))
abbrev nmRd : List Str := ["machine", "letter", "letters"]
theorem scRd : FnScope nmRd ["machine", "letter"] (defScope sRd) := ⟨rfl, rfl, rfl, by decide +kernel, rfl, by decide +kernel, by decide +kernel⟩
theorem str_flat (ns : List Str) : (ns.map V.str).all flatV = true := List.all_eq_true.mpr fun v hv => by
  obtain ⟨s, _, rfl⟩ := List.mem_map.mp hv
  rfl
theorem inV_str {x : Str} : ∀ {ns : List Str}, inV (.str x) (ns.map V.str) = decide (x ∈ ns)
  | [] => rfl
  | n :: ns => by
    show (eqV (.str n) (.str x) || inV (.str x) (ns.map V.str)) = _
    rw [inV_str]
    by_cases h : n = x
    · subst h
      simp [eqV]
    · have h' : ¬ x = n := fun e => h e.symm
      simp [eqV, h, h']
theorem ok_rd {f C NL fI fT fR fA fL : Addr} {fd fdI fdT fdR fdA fdL : FuncData} {k : Nat} (F : Fun K "round_of" "round_of" sRd f fd) (M : Mc K mg C) (B : Bi mg)
    (GT : FnOk P w K mg base CX0 k fT fdT ["self"] (spLt C)) (mT : Meth K C "letters" fT) (bT : Binds K fdT ["self"] [])
    (GR : FnOk P w K mg base CX0 k fR fdR ["self"] (spMr C)) (mR : Meth K C "rows" fR) (bR : Binds K fdR ["self"] [])
    (A' : Has P w K mg base k "coming_again" ["machine"] (spCa C) fA fdA) (L : Has P w K mg base k "lap_at" ["rows", "place", "again"] spLat fL fdL)
    (Er : Hw.Er P w K mg base (k - 1) "LookupError.__new__" Hw.tlL "NoLetter" ["name"] NL fI fdI) (k1 : 1 ≤ k) :
    FnOk P w K mg base (L2.CX P w) (k + 1) f fd ["machine", "letter"] (spRd C NL) := by
  refine F.okX scRd (fun vs H Q E h => ?_) (fun cdv A outer s H vs Q E hr h => ?_)
  · obtain ⟨p, dx, a, b, t, ins, outs, T, x, rfl, _⟩ := h
    rfl
  · obtain ⟨p, dx, a, b, t, ins, outs, T, x, rfl, mc, law, ni, out⟩ := h
    have hrE : Room (k - 1 + 1) (A.deeper (envOfC "round_of" (defScope sRd) s.heap.objs.size f cdv)) := by
      rw [Nat.sub_add_cancel k1]
      exact hr
    refine ⟨_, pss_cons (ps_set (i := 2) scRd.nd rfl (.inl rfl) (pe_meth0 (pv 0) M.cl mT GT hr bT .nil pass0))
      (pss_cons (ps_if (pt_cmpR op_notIn_seq (pv 1) (pv 2) (by rfl)) (pss_one (ps_raise rfl (takes_of rfl rfl rfl rfl) (Hw.pmk_er Hw.bseL Er hrE (by rfl) (pa_cons (pv 1) pa_nil)))) pss_nil)
      (pss_one (ps_ret (pe_callB call_len_seq (by rfl) B.len PySem.boot_len (pa_cons (pe_call L.G hr (by rfl) L.g L.kp L.b .nil pass0 (pa_cons (pe_meth0 (pv 0) M.cl mR GR hr bR .nil pass0) (pa_cons (pe_bm PySem.F.plainAttrs_list PySem.F.slot_list_index PySem.F.type_list_index mt_index (pv 2) (pa_cons (pv 1) pa_nil))
        (pa_cons (pe_ix ix_list (pe_call A'.G hr (by rfl) A'.g A'.kp A'.b .nil pass0 (pa_cons (pv 0) pa_nil)) pe_int (fun _ _ => rfl)) pa_nil)))) pa_nil))))), ?_⟩
    have li : (ins.map V.str).length = ins.length := List.length_map _
    have i3 := ni.l3
    refine ⟨_, rfl, p, dx, _, rfl, mc.hp, mf_no _ _ _ (by decide +kernel) (by decide +kernel) (by decide +kernel), p, dx, a, b, t, ins, outs, T, rfl, mc, fun l nl => ?_⟩
    have s1 := same_upd (o := .lst (ins.map V.str)) nl
    have hl : (upd H l (.lst (ins.map V.str))) l = some (.lst (ins.map V.str)) := upd_same
    generalize upd H l (.lst (ins.map V.str)) = H1 at s1 hl ⊢
    refine ⟨_, rfl, _, rfl, l, _, rfl, .inl (SqL.of hl), rfl, str_flat _, _, rfl, ?_⟩
    rw [if_pos rfl, inV_str]
    rcases out with ⟨pl, hpl, Qk⟩ | ⟨hno, hrep, Ek⟩
    · have plk := (List.getElem?_eq_some_iff.mp hpl).1
      refine iF (by simp [List.mem_of_getElem? hpl]) ?_
      have mc1 := mc.same s1
      refine ⟨_, rfl, p, dx, _, rfl, mc1.hp, mf_no _ _ _ (by decide +kernel) (by decide +kernel) (by decide +kernel), p, dx, a, b, t, ins, outs, T, rfl, mc1, law.n60, fun H2 q sm2 nq tb => ?_⟩
      have hl2 := sm2 _ _ hl
      refine ⟨_, rfl, .inl ⟨rfl, _, SqL.of hl2⟩, _, rfl, l, ins.map V.str, .str x, pl, .str x, rfl, rfl, SqL.of hl2, rfl, str_flat _, ?_, ?_, ?_, ?_⟩
      · rw [List.getElem?_map, hpl]
        rfl
      · simp [eqV]
      · intro m z hm hz
        rw [List.getElem?_map] at hz
        cases e : ins[m]? with
        | none =>
          rw [e] at hz
          cases hz
        | some y =>
          rw [e] at hz
          cases Option.some.inj hz
          have : y ≠ x := fun e' => by
            subst e'
            have := nd_ix ni.nd e hpl
            omega
          simp [eqV, this]
      have mc2 := mc1.same sm2
      refine ⟨_, rfl, p, dx, a, b, t, ins, outs, T, rfl, mc2, law.nxt i3, fun H3 q3 sm3 nq3 hq3 => ?_⟩
      obtain ⟨r1, r2, r3⟩ := r0_of law.n1
      refine ⟨q3, _, _, _, rfl, rfl, SqL.of hq3, atI_nat (j := 0) (by unfold natV; rw [List.getElem?_map, r1]; rfl), ?_⟩
      refine ⟨q, T, ins.length, outs.length, pl, rfl, (tb.same sm3).any, law, plk, fun H4 q4 sm4 hq4 => ?_⟩
      refine ⟨q4, _, rfl, .inl (SqL.of hq4), ?_⟩
      rw [natV_len, pathN_len]
      exact Qk _ (((s1.trans sm2).trans sm3).trans sm4)
    · refine iT (by simp [hno]) ?_
      refine ⟨_, rfl, Er.fin rfl (by decide) (fun v hv => ?_) fun d nd => ?_⟩
      · cases List.mem_singleton.mp hv
        exact ⟨_, .str x hrep⟩
      · exact Ek _ d (s1.trans (same_upd nd)) upd_same
end
end Hl

set_option Elab.async false
set_option linter.all false
set_option maxRecDepth 100000
set_option maxHeartbeats 4000000
namespace Hl
open PySem PySem.Spec PyProof.Rows L2
/-- rates, their lists new -/
def RatesN (H0 H : Hp) (q : Addr) (T : Tab) (k n : Nat) : Prop := ∃ vs, H q = some (.lst vs) ∧ Paired (fun v a => ∃ b, v = .ref b ∧ H0 b = none ∧ b ≠ q ∧ PtsAt H (N0 T k) (.ref b) (ratesL T k n a)) vs (List.range k)
theorem RatesN.all {H0 H : Hp} {q : Addr} {T : Tab} {k n : Nat} (h : RatesN H0 H q T k n) : RatesAt H q T k n := let ⟨vs, h, p⟩ := h; ⟨vs, h, paired_mono (fun _ _ ⟨b, e, _, _, h⟩ => by rw [e]; exact h) p⟩
theorem RatesN.same {H0 H H' : Hp} {q : Addr} {T : Tab} {k n : Nat} (s : Same H H') (h : RatesN H0 H q T k n) : RatesN H0 H' q T k n := let ⟨vs, h, p⟩ := h; ⟨vs, s _ _ h, paired_mono (fun _ _ ⟨b, e, n1, n2, h⟩ => ⟨b, e, n1, n2, h.same s⟩) p⟩
theorem paired_two {α β γ : Type} {R : α → γ → Prop} {S : β → γ → Prop} : ∀ {xs : List α} {ys : List β} {zs : List γ}, Paired R xs zs → Paired S ys zs → Paired (fun x y => ∃ z, R x z ∧ S y z) xs ys
  | _, _, _, .nil, .nil => .nil
  | _, _, _, .cons a p, .cons b q => .cons ⟨_, a, b⟩ (paired_two p q)
theorem lk_pts {K : PySem.W.Frag} {H : Hp} {m : Nat} {N : Int} {v v' : V} {Xs : List Int} (h : PtsAt H N v Xs) (h' : PtsAt H N v' Xs) (l : Xs.length ≤ 1000) : Lk K H (m + 2) v v' := by
  obtain ⟨b, vs, rfl, hb, p⟩ := h
  obtain ⟨b', vs', rfl, hb', p'⟩ := h'
  refine lk_list (SqL.of hb) (SqL.of hb') (paired_mono ?_ (paired_two p p')) (by rw [p'.length]; exact l)
  rintro x y ⟨X, ⟨c, rfl, hc⟩, ⟨c', rfl, hc'⟩⟩
  exact lk_tup (SqT.of hc) (SqT.of hc') (.cons (.int _) (.cons (.int _) .nil)) (by show 2 ≤ 1000; decide)
theorem lk_rates {K : PySem.W.Frag} {H : Hp} {m : Nat} {q q' : Addr} {T : Tab} {k n : Nat} (h : RatesAt H q T k n) (h' : RatesAt H q' T k n) (k3 : k ≤ 3) (n3 : n ≤ 3) : Lk K H (m + 3) (.ref q) (.ref q') := by
  obtain ⟨vs, hb, p⟩ := h
  obtain ⟨vs', hb', p'⟩ := h'
  have e := p'.length
  rw [List.length_range] at e
  refine lk_list (SqL.of hb) (SqL.of hb') (paired_mono ?_ (paired_two p p')) (by omega)
  rintro x y ⟨a, h1, h2⟩
  exact lk_pts h1 h2 (by unfold ratesL; rw [vec_len]; omega)
/-! parts as data -/
def dPt (N X : Int) : PyData := .tuple [.int (X.fdiv (sgn X N)), .int (N.fdiv (sgn X N))]
def dPts (N : Int) (Xs : List Int) : PyData := .list (Xs.map (dPt N))
theorem dp_all {K : PySem.W.Frag} {H : Hp} {N : Int} : ∀ {vs : List V} {Xs : List Int}, Paired (PtAt H N) vs Xs → DpAll K H vs (Xs.map (dPt N))
  | _, _, .nil => .nil
  | _, _, .cons ⟨a, e, h⟩ r => by
    subst e
    exact .cons (.tup (SqT.of h) (.cons (.int _) (.cons (.int _) .nil))) (dp_all r)
theorem dp_pts {K : PySem.W.Frag} {H : Hp} {N : Int} {v : V} {Xs : List Int} (h : PtsAt H N v Xs) : Dp K H v (dPts N Xs) := by
  obtain ⟨b, vs, rfl, hb, p⟩ := h
  exact .lst (SqL.of hb) (dp_all p)
theorem pts_lay (N : Int) : ∀ Xs : List Int, PyData.canLayAll0 (Xs.map (dPt N)) = true
  | [] => by simp [PyData.canLayAll0]
  | x :: s => by
    have h := pts_lay N s
    simp [PyData.canLayAll0, PyData.canLay0, dPt, h]
theorem pts_dep (N : Int) : ∀ Xs : List Int, PyData.depthAll (Xs.map (dPt N)) ≤ 3
  | [] => by simp [PyData.depthAll]
  | x :: s => by
    have h := pts_dep N s
    simp only [List.map_cons, PyData.depthAll, PyData.depth, dPt]
    omega
theorem pts_shaped (N : Int) (Xs : List Int) : SeqAt.shaped (dPts N Xs) = true := by
  have h1 := pts_dep N Xs
  have h2 : PyData.depth (dPts N Xs) ≤ 64 := by
    simp only [PyData.depth, dPts]
    omega
  show (PyData.canLay0 (dPts N Xs) && decide (PyData.depth (dPts N Xs) ≤ 64)) = true
  rw [Bool.and_eq_true]
  exact ⟨by simp only [PyData.canLay0, dPts]; exact pts_lay N Xs, decide_eq_true h2⟩
section
variable {P : Program} {w : World} {K : PySem.W.Frag} {mg : Str → Option Value} {base : Heap}
def spRoN (C : Addr) : Sp := fun vs H Q _ => ∃ (p dx a b t : Addr) (ins outs : List Str) (T : Tab), vs = [.ref p] ∧ MachAt C H p dx a b t ins outs T ∧ Lawful T ins.length outs.length ∧ ins.length ≤ 3 ∧ outs.length ≤ 3 ∧ ∀ (H' : Hp) (q : Addr), Same H H' → H q = none → RatesN H H' q T ins.length outs.length → Q (.ref q) H'
theorem ok_roN {f C fR fA fO fT fL : Addr} {fd fdR fdA fdO fdT fdL : FuncData} {k : Nat} (F : Fun K "rates_of" "rates_of" sRo f fd) (M : Mc K mg C) (B : Bi mg)
    (GR : FnOk P w K mg base CX0 k fR fdR ["self"] (spMr C)) (mR : Meth K C "rows" fR) (bR : Binds K fdR ["self"] [])
    (Ca : Has P w K mg base k "coming_again" ["machine"] (spCa C) fA fdA)
    (GO : FnOk P w K mg base CX0 k fO fdO ["self"] (spOt C)) (mO : Meth K C "outlets" fO) (bO : Binds K fdO ["self"] [])
    (GT : FnOk P w K mg base CX0 k fT fdT ["self"] (spLt C)) (mT : Meth K C "letters" fT) (bT : Binds K fdT ["self"] [])
    (Lr : Has P w K mg base k "letter_rates" ["rows", "place", "again", "outlets"] spLr fL fdL) :
    FnOk P w K mg base CX0 (k + 1) f fd ["machine"] (spRoN C) := by
  refine F.ok scRo (fun vs H Q E h => ?_) (fun cdv A outer s H vs Q E hr h => ?_)
  · obtain ⟨p, dx, a, b, t, ins, outs, T, rfl, _⟩ := h
    rfl
  · obtain ⟨p, dx, a, b, t, ins, outs, T, rfl, mc, law, i3, o3, q⟩ := h
    refine ⟨_, pss_cons (ps_set (i := 1) scRo.nd rfl (.inr rfl) (pe_meth0 (pv 0) M.cl mR GR hr bR .nil pass0))
      (pss_cons (ps_set (i := 2) scRo.nd rfl (.inr rfl) (pe_ix ix_list (pe_call Ca.G hr (by rfl) Ca.g Ca.kp Ca.b .nil pass0 (pa_cons (pv 0) pa_nil)) pe_int (fun _ _ => rfl)))
      (pss_cons (ps_set (i := 3) scRo.nd rfl (.inr rfl) (pe_callB call_len_seq (by rfl) B.len PySem.boot_len (pa_cons (pe_meth0 (pv 0) M.cl mO GO hr bO .nil pass0) pa_nil)))
      (pss_one (ps_ret (pe_lc (own := [("place", 4)]) (g := gName 4) (tt := tYes) rfl scRo.nd (pi_range1 (by rfl) B.rng (pa_cons (pe_callB call_len_seq (by rfl) B.len PySem.boot_len (pa_cons (pe_meth0 (pv 0) M.cl mT GT hr bT .nil pass0) pa_nil)) pa_nil)) (blkOk_by (own := [("place", 4)]) (N := nmRo) (sc := defScope sRo) (by decide +kernel))
        (fun _ _ _ _ _ => pg_name (i := 4) scRo.nd rfl (Or.inl rfl)) (fun _ _ _ _ _ => pts_nil)
        (fun _ _ _ _ _ => pe_call Lr.G hr (by rfl) Lr.g Lr.kp Lr.b .nil pass0 (pa_cons (pv 1) (pa_cons (pv 4) (pa_cons (pv 2) (pa_cons (pv 3) pa_nil)))))))))), ?_⟩
    have li : (ins.map V.str).length = ins.length := List.length_map _
    have lo : (outs.map V.str).length = outs.length := List.length_map _
    have noa : ∀ {m : Str}, ¬ m = "table" → ¬ m = "outlet_names" → ¬ m = "letter_names" → (mf a b t).lookup m = none := fun h1 h2 h3 => mf_no _ _ _ h1 h2 h3
    refine ⟨_, rfl, p, dx, _, rfl, mc.hp, noa (by decide +kernel) (by decide +kernel) (by decide +kernel), p, dx, a, b, t, ins, outs, T, rfl, mc, law.n60, fun H1 qr sm1 nr hr1 => ?_⟩
    have mc1 := mc.same sm1
    refine ⟨_, rfl, p, dx, a, b, t, ins, outs, T, rfl, mc1, law.nxt i3, fun H2 qa sm2 na ha2 => ?_⟩
    obtain ⟨ra, rl, rb⟩ := r0_of law.n1
    have ga : (natV (againL T T.length))[0]? = some (.int (r0 T : Nat)) := by
      unfold natV
      rw [List.getElem?_map, ra]
      rfl
    refine ⟨qa, _, 0, _, rfl, rfl, SqL.of ha2, atI_nat (j := 0) ga, ?_⟩
    have mc2 := mc1.same sm2
    refine ⟨_, rfl, p, dx, _, rfl, mc2.hp, noa (by decide +kernel) (by decide +kernel) (by decide +kernel), p, dx, a, b, t, ins, outs, T, rfl, mc2, fun l1 n1 => ?_⟩
    have s1 := same_upd (o := .lst (outs.map V.str)) n1
    refine ⟨l1, _, rfl, .inl (SqL.of upd_same), ?_⟩
    have mc3 := mc2.same s1
    refine ⟨_, rfl, p, dx, _, rfl, mc3.hp, noa (by decide +kernel) (by decide +kernel) (by decide +kernel), p, dx, a, b, t, ins, outs, T, rfl, mc3, fun l2 n2 => ?_⟩
    have s2 := same_upd (o := .lst (ins.map V.str)) n2
    refine ⟨l2, _, rfl, .inl (SqL.of upd_same), ((ins.map V.str).length : Int), rfl, by omega, by omega, fun D nD => ?_⟩
    have s03 := ((sm1.trans sm2).trans s1).trans s2
    have s13 := (sm2.trans s1).trans s2
    rw [lo, li]
    generalize (upd (upd H2 l1 (.lst (outs.map V.str))) l2 (.lst (ins.map V.str))) = H3 at *
    refine lc_range (lo := 0) (n := ins.length) (fun j H' => ∃ vs : List V, Same H3 H' ∧ H' D = some (.lst vs) ∧ Paired (fun v a => ∃ b, v = .ref b ∧ H b = none ∧ b ≠ D ∧ PtsAt (st [D] H') (N0 T ins.length) (.ref b) (ratesL T ins.length outs.length a)) vs (List.range j)) ⟨[], same_upd nD, upd_same, .nil⟩ ?_ ?_
    · rintro j H4 hj ⟨vs, sm4, hD, pp⟩
      have lvs := pp.length
      rw [List.length_range] at lvs
      refine ⟨rfl, ?_⟩
      refine ⟨_, rfl, _, rfl, _, rfl, _, rfl, qr, T, ins.length, outs.length, j, by rw [Int.zero_add]; rfl, (hr1.same (s13.trans sm4)).any, law, hj, i3, o3, fun H5 b5 sm5 n5 hv => ?_⟩
      have nbD : b5 ≠ D := ne_of_fresh hD n5
      refine ⟨_, sm5 _ _ hD, small1000 (by omega), vs ++ [.ref b5], (sm4.trans sm5).put nD, upd_same, ?_⟩
      rw [st_upd (by simp), List.range_succ]
      exact paired_snoc (paired_mono (fun _ _ ⟨b, e, n1, n2, h⟩ => ⟨b, e, n1, n2, h.same (st_mono sm5)⟩) pp) ⟨b5, rfl, (s03.trans sm4).free n5, nbD, hv.st (sm5 _ _ hD) nbD⟩
    · rintro H4 ⟨vs, sm4, hD, pp⟩
      exact q H4 D (s03.trans sm4) (s03.free nD) ⟨vs, hD, paired_mono (fun _ _ ⟨b, e, n1, n2, h⟩ => ⟨b, e, n1, n2, h.same st_same⟩) pp⟩
end
end Hl

set_option Elab.async false
set_option linter.all false
set_option maxRecDepth 100000
set_option maxHeartbeats 4000000
namespace Hl
open PySem PySem.Spec PyProof.Rows L2 LamX
abbrev sLaw : Stmt := topS 74
def spLaw (K : PySem.W.Frag) (P : Addr) : Sp := fun vs H Q _ => ∃ (a : Addr) (ns : List Int), vs = [.ref a] ∧ SqL K H a (ns.map V.int) ∧ ns.length ≤ 63 ∧ H P = some (.tbl #[]) ∧ ∀ H', Q (.bl true) H'
abbrev nmLaw : List Str := ["_law_script", "_law_deal_here", "_law_turn", "_law_m", "_law_steady", "_law_place", "_law_many", "_law_stand", "_law_end", "_law_sent", "_law_early", "_law_made_here", "_law_k", "_law_one"]
theorem scZ : FnScope nmLaw ["_law_script"] (defScope sLaw) := ⟨rfl, rfl, rfl, by decide +kernel, rfl, by decide +kernel, by decide +kernel⟩
def both {α : Type} (a b : List α) : List α := a ++ b
theorem both_rel {vs zs : List V} {us ws : List Value} (h : Vals vs us) (h' : Vals zs ws) : Vals (both vs zs) (both us ws) := h.append h'
theorem nd_tbl {ps : Array Value} : Nd (.tbl ps) := fun _ _ _ _ _ h => by cases h
theorem nd_code {c : Addr} {q : Str} : Nd (CodeO c q) := fun _ _ _ _ _ h => by
  unfold CodeO at h
  cases h
theorem tabs_kp {T : List (Addr × Str)} {H H' : Hp} (k : Kp H H') (t : Tabs T H) : Tabs T H' := fun p hp => by
  obtain ⟨ps, h1, h2, h3⟩ := t p hp
  refine ⟨ps, k.keep _ _ nd_tbl h1, h2, fun pos cv hc => ?_⟩
  obtain ⟨c, e1, e2⟩ := h3 pos cv hc
  exact ⟨c, e1, k.keep _ _ nd_code e2⟩
theorem deal_ext {H H' : Hp} {p l : Addr} (e : ExtN H H') (d : Deal H p l) : Deal H' p l := by
  obtain ⟨ns, a, z, m, c, hp, hl, r⟩ := d
  exact ⟨ns, a, z, m, c, e _ _ hp (fun ps h => by cases h), e _ _ hl (fun ps h => by cases h), r⟩
theorem mach_ext {C : Addr} {H H' : Hp} {p dx a b t : Addr} {ins outs : List Str} {T : Tab} (e : ExtN H H') (h : MachAt C H p dx a b t ins outs T) : MachAt C H' p dx a b t ins outs T := by
  have tp : ∀ b xs, H b = some (.tup xs) → H' b = some (.tup xs) := fun b xs z => e _ _ z (fun ps h => by cases h)
  obtain ⟨vs, h1, h2⟩ := h.ht
  exact ⟨e _ _ h.hp (fun ps h => by cases h), tp _ _ h.ha, tp _ _ h.hb, vs, tp _ _ h1, paired_mono (fun _ _ => TRow.tp tp) h2⟩
theorem rep_end {T : Tab} {a : Nat} (r s : Nat) : wE T (ones (List.replicate r a)) s = endN T a r s := (ones_rep r s).1
section
variable {P : Program} {w : World} {K : PySem.W.Frag} {mg : Str → Option Value} {base : Heap}
theorem ok_law {f f1 f2 f3 f4 f5 f6 f7 f8 f9 fA fW fD C NL c Pt : Addr} {d1 d2 d3 d4 d5' d6 d7 d8 d9 dA dW dD : FuncData} {oc kV doc pm ct : Value} {od an : Option Addr} {osl : Array (Option Value)} {Ec : Hw.ErrA} {k n : Nat}
    (lk : K.lookup f = some ⟨oc, od, .func (PySem.W.fnOf "law" "law" (defArgs sLaw) (defBody sLaw) (defScope sLaw) .none kV doc pm an (.ref c) ct), osl⟩) (hcd : PySem.W.codeIn K (.ref c) "law" = true) (TB : TabB base mg c Pt) (B : Bi mg) (J : Bj mg)
    (D : Has P w K mg base (k + 2) "_law_deal" ["_law_script"] (spDeal K) f1 d1)
    (A' : Has P w K mg base (k + 2) "_law_any_device" ["_law_deal_here", "_law_most"] spAny f2 d2)
    (L : Has P w K mg base (k + 2) "_law_like" ["_law_found", "_law_due"] (spLike K (n + 4)) f3 d3)
    (M' : Has P w K mg base (k + 2) "_law_made" ["_law_m"] (spMade C) f4 d4)
    (Ro : Has P w K mg base (k + 2) "rates_of" ["machine"] (spRoN C) f5 d5') (nRo : KBn K d5' ["machine"] 0 ["machine"] second second)
    (Lrt : Has P w K mg base (k + 2) "_law_rates" ["_law_m"] spLrt f6 d6)
    (Lrd : Has P w K mg base (k + 2) "_law_round" ["_law_m", "_law_place"] spLrd f7 d7)
    (Lag : Has P w K mg base (k + 2) "_law_again" ["_law_m"] spLag f8 d8)
    (Wk : Has P w K mg base (k + 2) "_law_walked" ["_law_m", "_law_start", "_law_places"] spWk f9 d9)
    (Lw : Has P w K mg base (k + 2) "_law_low" ["_law_over", "_law_under"] spLow fA dA)
    (FW : Fun K "_law_why" "_law_why" Hw.sWhy fW dW) (gW : mg "_law_why" = some (.ref fW)) (er : Hw.Errs mg Ec)
    (GD : FnOk P w K mg base (L2.CX P w) (k + 2) fD dD ["machine", "letter"] (spRd C NL)) (GD' : FnOk P w K mg base (L2.CX P w) k fD dD ["machine", "letter"] (spRd C NL)) (gD : mg "round_of" = some (.ref fD)) (kD : PySem.W.keepIn K (.ref fD) = true) (bD : Binds K dD ["machine", "letter"] []) (nD : KBn K dD ["machine", "letter"] 1 ["letter"] both both)
    (xf : XfC K NL) (x1 : PySem.W.exmAny K (.ref NL) (Ec.l1.map Value.ref) = some true) (nw : PySem.W.findIn K (.ref NL) "word" = some none) (nn : PySem.W.findIn K (.ref NL) "name" = some none) :
    FnOk P w K mg base CX0 (k + 3) f (PySem.W.fnOf "law" "law" (defArgs sLaw) (defBody sLaw) (defScope sLaw) .none kV doc pm an (.ref c) ct) ["_law_script"] (spLaw K Pt) := by
  refine Hw.ok_at lk hcd scZ (fun vs H Q E h => ?_) (fun A outer s H vs Q E hr h => ?_)
  · obtain ⟨a, ns, rfl, _⟩ := h
    rfl
  obtain ⟨a, ns, rfl, hS, hlen, tb0, q⟩ := h
  refine ⟨_, (pss_cons (ps_set (i := 1) scZ.nd rfl (.inl rfl) (pe_call D.G hr (by rfl) D.g D.kp D.b .nil pass0 (pa_cons (pv 0) pa_nil)))
        (pss_cons (ps_for PassesOwn.never rfl (pi_range1 (by rfl) B.rng (pa_cons pe_int pa_nil)) (pg_name (i := 2) scZ.nd rfl (.inl rfl))
          (pss_cons (ps_set (i := 3) scZ.nd rfl (.inr rfl) (pe_call A'.G hr (by rfl) A'.g A'.kp A'.b .nil pass0 (pa_cons (pv 1) (pa_cons pe_int pa_nil))))
        (pss_cons (ps_set (i := 11) scZ.nd rfl (.inr rfl) (pe_call M'.G hr (by rfl) M'.g M'.kp M'.b .nil pass0 (pa_cons (pv 3) pa_nil)))
        (pss_cons (ps_set (i := 4) scZ.nd rfl (.inl rfl) (pe_call Ro.G hr (by rfl) Ro.g Ro.kp Ro.b .nil pass0 (pa_cons (pv 11) pa_nil)))
        (pss_cons (ps_if (pt_not (pt_val (pe_call L.G hr (by rfl) L.g L.kp L.b .nil pass0 (pa_cons (pv 4) (pa_cons (pe_call Lrt.G hr (by rfl) Lrt.g Lrt.kp Lrt.b .nil pass0 (pa_cons (pv 3) pa_nil)) pa_nil))))) (pss_one (ps_ret pe_bl)) pss_nil)
        (pss_cons (ps_for PassesOwn.never rfl (pi_range1 (by rfl) B.rng (pa_cons (pe_callB call_len_seq (by rfl) B.len PySem.boot_len (pa_cons (pe_dget (hu_of hr) (pv 3) pe_str (fun _ _ => rfl)) pa_nil)) pa_nil)) (pg_name (i := 5) scZ.nd rfl (.inr rfl))
          (pss_cons (ps_set (i := 6) scZ.nd rfl (.inr rfl) (pe_callN GD hr (by rfl) gD kD nD passL (pa_cons (pv 11) pa_nil) (pk_cons (pe_ix (r := rIxL K) ix_list (pe_dget (hu_of hr) (pv 3) pe_str (fun _ _ => rfl)) (pv 5) (fun _ _ => rfl)) pk_nil)))
        (pss_cons (ps_if (pt_not (pt_val (pe_call L.G hr (by rfl) L.g L.kp L.b .nil pass0 (pa_cons (pv 6) (pa_cons (pe_ix (r := rIxT K) ix_tup (pe_call Lrd.G hr (by rfl) Lrd.g Lrd.kp Lrd.b .nil pass0 (pa_cons (pv 3) (pa_cons (pv 5) pa_nil))) pe_int (fun _ _ => rfl)) pa_nil))))) (pss_one (ps_ret pe_bl)) pss_nil)
        (pss_one (ps_for PassesOwn.never rfl (pi_list (pe_call Lag.G hr (by rfl) Lag.g Lag.kp Lag.b .nil pass0 (pa_cons (pv 3) pa_nil))) (pg_name (i := 7) scZ.nd rfl (.inr rfl))
          (pss_cons (ps_asg (pe_call Wk.G hr (by rfl) Wk.g Wk.kp Wk.b .nil pass0 (pa_cons (pv 3) (pa_cons (pv 7) (pa_cons (pe_op op_rep (pe_lst (pa_cons (pv 5) pa_nil)) (pv 6)) pa_nil)))) (pg_tup rfl (pgs_cons (pg_name (i := 8) scZ.nd rfl (.inl rfl)) (pgs_cons (pg_name (i := 9) scZ.nd rfl (.inl rfl)) pgs_nil))))
        (pss_cons (ps_setLc (i := 10) (own := [("_law_k", 12)]) (g := gName 12) (tt := tYes) rfl scZ.nd rfl rfl (sw_true rfl rfl rfl (by decide +kernel)) (pi_range2 (by rfl) B.rng (pa_cons pe_int (pa_cons (pv 6) pa_nil))) (blkOk_by (own := [("_law_k", 12)]) (N := nmLaw) (sc := defScope sLaw) (by decide +kernel)) (fun _ _ _ _ _ => (pg_name (i := 12) scZ.nd rfl (Or.inl rfl))) (fun _ _ _ _ _ => pts_nil) (fun _ _ _ _ _ => (pe_cmpR op_eq (pe_ix (r := rIxT K) ix_tup (pe_call Wk.G hr (by rfl) Wk.g Wk.kp Wk.b .nil pass0 (pa_cons (pv 3) (pa_cons (pv 7) (pa_cons (pe_op op_rep (pe_lst (pa_cons (pv 5) pa_nil)) (pv 12)) pa_nil)))) pe_int (fun _ _ => rfl)) (pv 7) (nomark _))))
        (pss_one (ps_if (PW.pt (pw_or (pt_cmpR op_ne (pv 8) (pv 7) (nomark _)) (pw_or (pt_cmpR op_in_seq pe_bl (pv 10) (by rfl)) (pw_or1 (pt_cmpR (op_neD hr.units) (pe_lc (own := [("_law_one", 13)]) (g := gName 13) (tt := tYes) rfl scZ.nd (pi_list (pv 9)) (blkOk_by (own := [("_law_one", 13)]) (N := nmLaw) (sc := defScope sLaw) (by decide +kernel)) (fun _ _ _ _ _ => (pg_name (i := 13) scZ.nd rfl (Or.inl rfl))) (fun _ _ _ _ _ => pts_nil) (fun _ _ _ _ _ => (pe_call Lw.G hr (by rfl) Lw.g Lw.kp Lw.b .nil pass0 (pa_cons (pv 13) (pa_cons (pv 6) pa_nil))))) (pe_ix (r := rIxL K) ix_list (pv 4) (pv 5) (fun _ _ => rfl)) (nomark _)))))) (pss_one (ps_ret pe_bl)) pss_nil)))))))))
        (pss_cons (ps_expr (pe_bm PySem.F.plainAttrs_list PySem.F.slot_list_append PySem.F.type_list_append mt_append (pe_ix (r := rIxL K) ix_list (pv 4) pe_int (fun _ _ => rfl)) (pa_cons pe_int pa_nil)))
        (pss_cons (ps_expr (pe_bm0 PySem.F.plainAttrs_list PySem.F.slot_list_reverse PySem.F.type_list_reverse mt_reverse (pv 4)))
        (pss_cons (ps_if (pt_not (pt_val (pe_call L.G hr (by rfl) L.g L.kp L.b .nil pass0 (pa_cons (pe_callN0 Ro.G hr (by rfl) Ro.g Ro.kp nRo pass0 (pk_cons (pv 11) pk_nil)) (pa_cons (pe_call Lrt.G hr (by rfl) Lrt.g Lrt.kp Lrt.b .nil pass0 (pa_cons (pv 3) pa_nil)) pa_nil))))) (pss_one (ps_ret pe_bl)) pss_nil)
        (pss_one (ps_if (pt_not (pt_val (pe_call L.G hr (by rfl) L.g L.kp L.b .nil pass0 (pa_cons (Hw.pe_why FW gW er (by rfl) TB rfl hr (lamS_by (sc := defScope sLaw) (by decide +kernel)) rfl (fun _ _ _ _ _ => rfl) (fun A outer s H E f c' hrL => pe_call GD' hrL (by rfl) gD kD bD .nil (passes_call (takes_of rfl rfl rfl rfl) (fun _ _ _ _ h => h)) (pa_cons (pv 11) (pa_cons pe_str pa_nil)))) (pa_cons (pe_tup (pa_cons pe_str (pa_cons pe_str pa_nil))) pa_nil))))) (pss_one (ps_ret pe_bl)) pss_nil)))))))))))
        (pss_one (ps_ret pe_bl)))), ?_⟩
  have tabs0 : Tabs [(Pt, "law.<locals>.<lambda>")] H := fun p hp => by
    cases List.mem_singleton.mp hp
    exact TabS.nil tb0
  refine ⟨_, rfl, a, ns, rfl, hS, hlen, fun H1 p l sm1 np dl1 => ?_⟩
  refine ⟨4, rfl, by decide, by decide, for_range (lo := 0) (n := 4) (fun i σ H' => ∃ v2 v3 v4 v5 v6 v7 v8 v9 v10 v11 : Option V, σ = [some (.ref a), some (.ref p), v2, v3, v4, v5, v6, v7, v8, v9, v10, v11, none, none] ∧ Deal H' p l ∧ Tabs [(Pt, "law.<locals>.<lambda>")] H')
    ⟨_, _, _, _, _, _, _, _, _, _, rfl, dl1, tabs0.ext sm1⟩ ?_ (fun σ H' _ => q H')⟩
  rintro i σ H2 hi ⟨v2, v3, v4, v5, v6, v7, v8, v9, v10, v11, rfl, dl2, tb2⟩
  refine ⟨_, rfl, p, l, 20, rfl, dl2, by decide, by decide, fun H3 m i' o' q' ins outs T k3 dl3 nm dv i1 ni no law lT => ?_⟩
  have tb3 := tabs_kp k3 tb2
  have i3 := ni.l3
  have o3 := no.l3
  have n60 := law.n60
  have n1 := law.n1
  have li : (ins.map V.str).length = ins.length := List.length_map _
  refine ⟨_, rfl, m, i', o', q', ins, outs, T, rfl, dv, i1, ni, no, law, fun H4 x dx a4 b4 t4 sm4 nx4 mc4 => ?_⟩
  refine ⟨_, rfl, x, dx, a4, b4, t4, ins, outs, T, rfl, mc4, law, i3, o3, fun H5 qa sm5 nqa rat => ?_⟩
  have mc5 := mc4.same sm5
  have dv5 := (dv.same sm4).same sm5
  refine ⟨_, rfl, _, rfl, m, i', o', q', ins, outs, T, rfl, dv5, law, i3, o3, fun H6 qb sm6 nqb rat6 => ?_⟩
  refine ⟨_, _, rfl, lk_rates (rat.same sm6).all rat6 i3 o3, fun H7 sm7 => ⟨_, rfl, iF rfl ?_⟩⟩
  have s57 := sm6.trans sm7
  have dv7 := dv5.same s57
  have mc7 := mc5.same s57
  have rat7 := rat.same s57
  clear rat6 nqb
  obtain ⟨r1, r2, r3⟩ := r0_of law.n1
  refine ⟨_, rfl, m, _, rfl, dv7.gi, i', _, rfl, .inl (SqL.of dv7.hi), ((ins.map V.str).length : Int), rfl, by omega, by omega, ?_⟩
  refine for_range (lo := 0) (n := (ins.map V.str).length) (fun pl σ H' => ∃ w5 w6 w7 w8 w9 w10 : Option V, σ = [some (.ref a), some (.ref p), some (.int (0 + i)), some (.ref m), some (.ref qa), w5, w6, w7, w8, w9, w10, some (.ref x), none, none] ∧ Same H7 H') ⟨_, _, _, _, _, _, rfl, fun _ _ h => h⟩ ?_ ?_
  · rintro pl σ H8 hpl ⟨w5, w6, w7, w8, w9, w10, rfl, sm8⟩
    have plk : pl < ins.length := by omega
    rw [show (0 + (pl : Int)) = ((pl : Nat) : Int) by omega]
    have dv8 := dv7.same sm8
    have mc8 := mc7.same sm8
    have hpl' : ins[pl]? = some ins[pl] := List.getElem?_eq_getElem plk
    have hplv : (ins.map V.str)[pl]? = some (.str ins[pl]) := by rw [List.getElem?_map, hpl']; rfl
    generalize ins[pl] = nmx at hpl' hplv
    refine ⟨_, rfl, _, rfl, m, _, rfl, dv8.gi, _, rfl, i', _, _, _, rfl, rfl, SqL.of dv8.hi, atI_nat (j := pl) hplv, rfl, rfl, ?_⟩
    refine ⟨x, dx, a4, b4, t4, ins, outs, T, nmx, rfl, mc8, law, ni, .inl ⟨pl, hpl', fun H9 sm9 => ?_⟩⟩
    obtain ⟨Lp, hLp⟩ : ∃ L, L = lapL T (r0 T) pl := ⟨_, rfl⟩
    rw [← hLp]
    have R := rds_of law r2 r3
    have L60 := R.le pl plk
    have L0 := (R.all pl plk).pos
    rw [← hLp] at L60 L0
    have sm79 := sm8.trans sm9
    have dv9 := dv7.same sm79
    have bgl : bg T ins.length 0 < T.length := bg_lt law (by omega)
    have ebg : lapL T (bg T ins.length 0) pl = Lp := by rw [hLp]; exact lap_all law plk bgl r2 (bg_bk law (by omega)) r3
    refine ⟨_, rfl, _, rfl, _, rfl, m, i', o', q', ins, outs, T, pl, rfl, dv9, law, i3, o3, plk, fun H10 r sm10 ⟨qs, h10, hqs⟩ => ?_⟩
    rw [ebg] at h10
    refine ⟨r, _, 0, _, rfl, rfl, SqT.of h10, atI_nat (j := 0) rfl, ?_⟩
    refine ⟨_, _, rfl, .int _, fun H11 sm11 => ⟨_, rfl, iF rfl ?_⟩⟩
    have sm711 := (sm79.trans sm10).trans sm11
    have dv11 := dv7.same sm711
    refine ⟨_, rfl, m, i', o', q', ins, outs, T, rfl, dv11, law.nxt i3, fun H12 ag sm12 nag hag => ?_⟩
    refine ⟨ag, rfl, ⟨_, SqL.of hag⟩, ?_⟩
    have sm712 := sm711.trans sm12
    refine for_list (K := K) (a := ag) (xs := natV (againL T T.length)) (fun j σ H' => ∃ w7 w8 w9 w10 : Option V, σ = [some (.ref a), some (.ref p), some (.int (0 + i)), some (.ref m), some (.ref qa), some (.int (pl : Nat)), some (.int (Lp : Nat)), w7, w8, w9, w10, some (.ref x), none, none] ∧ Same H12 H') ⟨_, _, _, _, rfl, fun _ _ h => h⟩ (fun j σ H' _ ⟨_, _, _, _, _, sm⟩ => SqL.of (sm _ _ hag)) ?_ ?_
    · rintro j y σ H13 hy ⟨w7, w8, w9, w10, rfl, sm13⟩
      obtain ⟨st', hst, rfl⟩ := natV_get hy
      obtain ⟨sl, sb⟩ := againL_mem (List.mem_of_getElem? hst)
      have eL : lapL T st' pl = Lp := by rw [hLp]; exact lap_all law plk sl r2 sb r3
      have Rs := (rds_of law sl sb).all pl plk
      rw [eL] at Rs
      have sm713 := sm712.trans sm13
      have dv13 := dv7.same sm713
      -- the walk round
      refine ⟨_, rfl, _, rfl, _, rfl, (by show 1 ≤ sizeLine; decide), fun z nz => ?_⟩
      have sz := same_upd (o := .lst [.int (pl : Nat)]) nz
      refine ⟨_, rfl, z, ((Lp : Nat) : Int), _, rfl, rfl, upd_same, by omega, by omega, ?_, fun D0 n0 => ?_⟩
      · rw [Int.toNat_natCast]
        show 1 * Lp ≤ sizeLine
        exact Nat.le_of_lt (small1000 (by omega))
      rw [Int.toNat_natCast, rep_nat]
      have s0 := sz.trans (same_upd (o := .lst (natV (List.replicate Lp pl))) n0)
      have hD0 : (upd (upd H13 z (.lst [.int (pl : Nat)])) D0 (.lst (natV (List.replicate Lp pl)))) D0 = some (.lst (natV (List.replicate Lp pl))) := upd_same
      generalize upd (upd H13 z (.lst [.int (pl : Nat)])) D0 (.lst (natV (List.replicate Lp pl))) = H14 at s0 hD0 ⊢
      refine ⟨m, i', o', q', D0, ins, outs, T, List.replicate Lp pl, st', rfl, dv13.same s0, law, o3, hD0, (fun a ha => by rw [List.eq_of_mem_replicate ha]; exact plk), sl, fun H15 r15 sm15 ⟨q15, h15, hq15⟩ => ?_⟩
      rw [rep_end, Rs.eq] at h15
      refine ⟨r15, _, rfl, SqT.of h15, rfl, _, _, rfl, _, _, rfl, rfl, ?_⟩
      have sm715 := (sm713.trans s0).trans sm15
      -- none less
      refine ⟨_, rfl, 1, ((Lp : Nat) : Int), rfl, ⟨by decide, by decide, by omega, by omega⟩, fun D nD => ?_⟩
      refine lc_range (lo := 1) (n := (((Lp : Nat) : Int) - 1).toNat) (fun e H' => Same H15 H' ∧ H' D = some (.lst ((List.replicate e false).map V.bl))) ⟨same_upd nD, upd_same⟩ ?_ ?_
      · rintro e H16 he ⟨sm16, hD16⟩
        have e1 : e + 1 < Lp := by omega
        rw [show (1 + (e : Int)) = ((e + 1 : Nat) : Int) by omega]
        have dv16 := (dv7.same sm715).same sm16
        refine ⟨rfl, ?_⟩
        refine ⟨_, rfl, _, rfl, _, rfl, (by show 1 ≤ sizeLine; decide), fun z2 nz2 => ?_⟩
        have sz2 := same_upd (o := .lst [.int (pl : Nat)]) nz2
        refine ⟨_, rfl, z2, ((e + 1 : Nat) : Int), _, rfl, rfl, upd_same, by omega, by omega, ?_, fun D2 n2 => ?_⟩
        · rw [Int.toNat_natCast]
          show 1 * (e + 1) ≤ sizeLine
          exact Nat.le_of_lt (small1000 (by omega))
        rw [Int.toNat_natCast, rep_nat]
        have s2 := sz2.trans (same_upd (o := .lst (natV (List.replicate (e + 1) pl))) n2)
        have hD2 : (upd (upd H16 z2 (.lst [.int (pl : Nat)])) D2 (.lst (natV (List.replicate (e + 1) pl)))) D2 = some (.lst (natV (List.replicate (e + 1) pl))) := upd_same
        generalize upd (upd H16 z2 (.lst [.int (pl : Nat)])) D2 (.lst (natV (List.replicate (e + 1) pl))) = H17 at s2 hD2 ⊢
        refine ⟨m, i', o', q', D2, ins, outs, T, List.replicate (e + 1) pl, st', rfl, dv16.same s2, law, o3, hD2, (fun a ha => by rw [List.eq_of_mem_replicate ha]; exact plk), sl, fun H18 r18 sm18 ⟨q18, h18, hq18⟩ => ?_⟩
        rw [rep_end] at h18
        refine ⟨r18, _, 0, _, rfl, rfl, SqT.of h18, atI_nat (j := 0) rfl, _, rfl, rfl, ?_⟩
        have sm1618 := s2.trans sm18
        refine ⟨_, sm1618 _ _ hD16, ?_, (sm16.trans sm1618).put nD, ?_⟩
        · rw [List.length_map, List.length_replicate]
          exact small1000 (by omega)
        · rw [upd_same, List.replicate_succ', List.map_append]
          show some (HO.lst (_ ++ [V.bl (decide (V.int (endN T pl (e + 1) st' : Nat) = V.int (st' : Nat)))])) = _
          rw [decide_eq_false (fun h => rnd_ne Rs (by omega) e1 (by have := V.int.inj h; omega))]
          rfl
      rintro H16 ⟨sm16, hD16⟩
      have sm716 := sm715.trans sm16
      refine ⟨_, rfl, _, rfl, rfl, _, rfl, iF (by simp) ?_⟩
      refine ⟨_, rfl, D, _, rfl, .inl (SqL.of hD16), rfl, (List.all_eq_true.mpr fun v hv => by obtain ⟨b, _, rfl⟩ := List.mem_map.mp hv; rfl), _, rfl, ?_⟩
      rw [if_neg Bool.false_ne_true]
      refine iF ?_ ?_
      · have : ∀ e : Nat, inV (.bl true) ((List.replicate e false).map V.bl) = false := fun e => by
          induction e with
          | zero => rfl
          | succ e ih =>
            rw [List.replicate_succ]
            show (eqV (.bl false) (.bl true) || inV (.bl true) ((List.replicate e false).map V.bl)) = false
            rw [ih]
            rfl
        exact this _
      have hq16 := sm16 _ _ hq15
      have rat16 := rat7.same sm716
      refine ⟨_, rfl, q15, rfl, ⟨_, SqL.of hq16⟩, fun D3 nD3 => ?_⟩
      refine lc_list (K := K) (a := q15) (xs := (vec outs.length (wS T (ones (List.replicate Lp pl)) st')).map V.int) (fun e H' => ∃ us : List V, Same H16 H' ∧ H' D3 = some (.lst us) ∧ Paired (PtAt (st [D3] H') (N0 T ins.length)) us ((ratesL T ins.length outs.length pl).take e)) ⟨[], same_upd nD3, upd_same, .nil⟩ (fun e H' _ ⟨_, sm, _⟩ => SqL.of (sm _ _ hq16)) ?_ ?_
      · rintro e y H17 hy ⟨us, sm17, hD17, pu⟩
        obtain ⟨y', hy', rfl⟩ := map_int_get hy
        have el := (List.getElem?_eq_some_iff.mp hy').1
        rw [vec_len] at el
        rw [vec_get el, (ones_rep Lp st').2] at hy'
        cases Option.some.inj hy'
        have lus := pu.length
        rw [List.length_take] at lus
        refine ⟨rfl, ?_⟩
        refine ⟨_, rfl, _, rfl, _, _, rfl, by omega, ?_, fun c3 nc => ?_⟩
        · exact Nat.lt_of_lt_of_le (show ((Lp : Nat) : Int).natAbs < 2 ^ 6 by omega) (Nat.pow_le_pow_right (by decide) (by decide))
        have sc := same_upd (o := .tup (lowF (sntN T pl Lp st' e) (Lp : Nat))) nc
        have ncD : c3 ≠ D3 := ne_of_fresh hD17 nc
        refine ⟨_, sc _ _ hD17, small1000 (by omega), us ++ [.ref c3], (sm17.trans sc).put nD3, upd_same, ?_⟩
        rw [st_upd (by simp)]
        have tk : (ratesL T ins.length outs.length pl).take (e + 1) = (ratesL T ins.length outs.length pl).take e ++ [rt0 T ins.length pl e] := vec_take el
        rw [tk]
        refine paired_snoc (paired_mono (fun _ _ ⟨a, e, h⟩ => ⟨a, e, st_mono sc _ _ h⟩) pu) ⟨c3, rfl, ?_⟩
        rw [st_get (by simp [ncD]), upd_same, round_low law plk sl el L0 Rs.eq]
      rintro H17 ⟨us, sm17, hD17, pu⟩
      rw [List.length_map, vec_len, List.take_of_length_le (by unfold ratesL; rw [vec_len]; exact Nat.le_refl _)] at pu
      have hv : PtsAt H17 (N0 T ins.length) (.ref D3) (ratesL T ins.length outs.length pl) := ⟨D3, us, rfl, hD17, paired_mono (fun _ _ ⟨a, e, h⟩ => ⟨a, e, st_same _ _ h⟩) pu⟩
      obtain ⟨vs7, hq7, p7⟩ := rat16.same sm17
      obtain ⟨v7, hv7, b7, rfl, nb7, nbq, pt7⟩ := range_get2 p7 plk
      refine ⟨_, rfl, _, rfl, qa, _, _, _, rfl, rfl, SqL.of hq7, atI_nat (j := pl) hv7, ?_⟩
      refine ⟨_, _, dp_pts hv, dp_pts pt7, pts_shaped _ _, pts_shaped _ _, _, rfl, iF (by rw [SeqAt.eqv_refl _ (SeqAt.canLay_of_shaped (pts_shaped _ _))]; rfl) ?_⟩
      exact ⟨_, _, _, _, rfl, (((sm13.trans s0).trans sm15).trans sm16).trans sm17⟩
    · rintro σ H13 ⟨w7, w8, w9, w10, rfl, sm13⟩
      exact ⟨_, _, _, _, _, _, rfl, sm712.trans sm13⟩
  rintro σ H8 ⟨w5, w6, w7, w8, w9, w10, rfl, sm8⟩
  -- what was told is spoilt
  have rat8 := rat7.same sm8
  obtain ⟨vs8, hq8, p8⟩ := id rat8
  obtain ⟨v8, hv8, b8, rfl, nb8, nbq8, pt8⟩ := range_get2 p8 (show 0 < ins.length by omega)
  obtain ⟨b8', us8, eb8, hb8, pp8⟩ := pt8
  cases eb8
  have lu8 := pp8.length
  have lr8 : (ratesL T ins.length outs.length 0).length = outs.length := vec_len _ _
  refine ⟨_, rfl, qa, _, 0, _, rfl, rfl, SqL.of hq8, atI_nat (j := 0) hv8, .inl ⟨rfl, _, SqL.of hb8⟩, b8, _, _, rfl, rfl, hb8, small1000 (by omega), ?_⟩
  have hq9 : (upd H8 b8 (.lst (us8 ++ [.int 0]))) qa = some (.lst vs8) := by rw [upd_ne (Ne.symm nbq8)]; exact hq8
  refine ⟨_, rfl, .inl ⟨rfl, _, SqL.of hq9⟩, qa, _, rfl, rfl, hq9, ?_⟩
  have s48 := (sm5.trans s57).trans sm8
  have s49 : Same H4 (upd (upd H8 b8 (.lst (us8 ++ [.int 0]))) qa (.lst vs8.reverse)) := (s48.put nb8).put nqa
  generalize upd (upd H8 b8 (.lst (us8 ++ [.int 0]))) qa (.lst vs8.reverse) = H9 at s49 ⊢
  have mc9 := mc4.same s49
  have dv9 := (dv.same sm4).same s49
  refine ⟨_, rfl, rfl, rfl, x, dx, a4, b4, t4, ins, outs, T, rfl, mc9, law, i3, o3, fun H10 qc sm10 nqc rat10 => ?_⟩
  refine ⟨_, rfl, m, i', o', q', ins, outs, T, rfl, dv9.same sm10, law, i3, o3, fun H11 qd sm11 nqd rat11 => ?_⟩
  refine ⟨_, _, rfl, lk_rates (rat10.same sm11).all rat11 i3 o3, fun H12 sm12 => ⟨_, rfl, iF rfl ?_⟩⟩
  have s412 := ((s49.trans sm10).trans sm11).trans sm12
  -- a letter that there is not
  refine ⟨(tb3.ext sm4).ext s412, fun H13 ex13 tb13 => ?_⟩
  have mc13 := mach_ext ex13 (mc4.same s412)
  have dl13 := deal_ext ex13 ((dl3.same sm4).same s412)
  refine ⟨_, rfl, x, dx, a4, b4, t4, ins, outs, T, "nobody", rfl, mc13, law, ni, .inr ⟨?_, by decide +kernel, fun H14 d sm14 hd => ?_⟩⟩
  · exact fun h => (ni.gd _ h).nb rfl
  intro σ' hσ
  refine Hw.why_at (l1 := []) x1 (fun e ne => ?_) (fun p hp => by cases hp)
  refine Hw.fs_fin (vs := [.str "NoLetter", .str "nobody"]) xf hd (by match σ', hσ with | [_, _], _ => rfl) (.cons ⟨nw, rfl⟩ (.cons ⟨nn, rfl⟩ .nil)) (by decide) fun pr npr => ?_
  have s15 := same_upd (o := .tup [.str "NoLetter", .str "nobody"]) npr
  refine ⟨(by show 2 ≤ sizeLine; decide), fun pq npq => ?_⟩
  have s16 := same_upd (o := .tup [.str "NoLetter", .str "nobody"]) npq
  refine ⟨_, _, rfl, lk_tup (SqT.of (s16 _ _ upd_same)) (SqT.of upd_same) (.cons (.str _) (.cons (.str _) .nil)) (by decide), fun H17 sm17 => ⟨_, rfl, iF rfl ?_⟩⟩
  have s1317 := ((sm14.trans s15).trans s16).trans sm17
  exact ⟨_, _, _, _, _, _, _, _, _, _, rfl, dl13.same s1317, tb13.ext s1317⟩
end
end Hl

set_option Elab.async false
set_option linter.all false
set_option maxRecDepth 100000
set_option maxHeartbeats 4000000
namespace Hl
open PySem PySem.Spec PyProof.Rows L2 LamX
theorem all_mk {l : PySem.W.OpenLaw} {w : World} {K : PySem.W.Frag} {h : Heap} {mg : Str → Option Value} {fa cL PL : Addr} (X : K.In h) (G : h.Ns mainGlobals mg) (hfa : mg "law" = some (.ref fa)) (tabs : PySem.W.CodeHd h cL PL ∧ h.get? PL = some { cls := .none, data := .fields #[] }) (noP : K.lookup PL = none)
    {f1 : Addr} {od1 an1 : Option Addr} {sl1 : Array (Option Value)} {oc1 kV1 dc1 pm1 cd1 ct1 : Value}
    {f2 : Addr} {od2 an2 : Option Addr} {sl2 : Array (Option Value)} {oc2 kV2 dc2 pm2 cd2 ct2 : Value}
    {f3 : Addr} {od3 an3 : Option Addr} {sl3 : Array (Option Value)} {oc3 kV3 dc3 pm3 cd3 ct3 : Value}
    {f4 : Addr} {od4 an4 : Option Addr} {sl4 : Array (Option Value)} {oc4 kV4 dc4 pm4 cd4 ct4 : Value}
    {f5 : Addr} {od5 an5 : Option Addr} {sl5 : Array (Option Value)} {oc5 kV5 dc5 pm5 cd5 ct5 : Value}
    {f6 : Addr} {od6 an6 : Option Addr} {sl6 : Array (Option Value)} {oc6 kV6 dc6 pm6 cd6 ct6 : Value}
    {f7 : Addr} {od7 an7 : Option Addr} {sl7 : Array (Option Value)} {oc7 kV7 dc7 pm7 cd7 ct7 : Value}
    {f8 : Addr} {od8 an8 : Option Addr} {sl8 : Array (Option Value)} {oc8 kV8 dc8 pm8 cd8 ct8 : Value}
    {f9 : Addr} {od9 an9 : Option Addr} {sl9 : Array (Option Value)} {oc9 kV9 dc9 pm9 cd9 ct9 : Value}
    {f10 : Addr} {od10 an10 : Option Addr} {sl10 : Array (Option Value)} {oc10 kV10 dc10 pm10 cd10 ct10 : Value}
    {f11 : Addr} {od11 an11 : Option Addr} {sl11 : Array (Option Value)} {oc11 kV11 dc11 pm11 cd11 ct11 : Value}
    {f12 : Addr} {od12 an12 : Option Addr} {sl12 : Array (Option Value)} {oc12 kV12 dc12 pm12 cd12 ct12 : Value}
    {f13 : Addr} {od13 an13 : Option Addr} {sl13 : Array (Option Value)} {oc13 kV13 dc13 pm13 cd13 ct13 : Value}
    {f14 : Addr} {od14 an14 : Option Addr} {sl14 : Array (Option Value)} {oc14 kV14 dc14 pm14 cd14 ct14 : Value}
    {f15 : Addr} {od15 an15 : Option Addr} {sl15 : Array (Option Value)} {oc15 kV15 dc15 pm15 cd15 ct15 : Value}
    {f16 : Addr} {od16 an16 : Option Addr} {sl16 : Array (Option Value)} {oc16 kV16 dc16 pm16 cd16 ct16 : Value}
    {f17 : Addr} {od17 an17 : Option Addr} {sl17 : Array (Option Value)} {oc17 kV17 dc17 pm17 cd17 ct17 : Value}
    {f18 : Addr} {od18 an18 : Option Addr} {sl18 : Array (Option Value)} {oc18 kV18 dc18 pm18 cd18 ct18 : Value}
    {f19 : Addr} {od19 an19 : Option Addr} {sl19 : Array (Option Value)} {oc19 kV19 dc19 pm19 cd19 ct19 : Value}
    {f20 : Addr} {od20 an20 : Option Addr} {sl20 : Array (Option Value)} {oc20 kV20 dc20 pm20 cd20 ct20 : Value}
    {f21 : Addr} {od21 an21 : Option Addr} {sl21 : Array (Option Value)} {oc21 kV21 dc21 pm21 cd21 ct21 : Value}
    {f22 : Addr} {od22 an22 : Option Addr} {sl22 : Array (Option Value)} {oc22 kV22 dc22 pm22 cd22 ct22 : Value}
    {f23 : Addr} {od23 an23 : Option Addr} {sl23 : Array (Option Value)} {oc23 kV23 dc23 pm23 cd23 ct23 : Value}
    {f24 : Addr} {od24 an24 : Option Addr} {sl24 : Array (Option Value)} {oc24 kV24 dc24 pm24 cd24 ct24 : Value}
    {f25 : Addr} {od25 an25 : Option Addr} {sl25 : Array (Option Value)} {oc25 kV25 dc25 pm25 cd25 ct25 : Value}
    {f26 : Addr} {od26 an26 : Option Addr} {sl26 : Array (Option Value)} {oc26 kV26 dc26 pm26 cd26 ct26 : Value}
    {f27 : Addr} {od27 an27 : Option Addr} {sl27 : Array (Option Value)} {oc27 kV27 dc27 pm27 cd27 ct27 : Value}
    {f28 : Addr} {od28 an28 : Option Addr} {sl28 : Array (Option Value)} {oc28 kV28 dc28 pm28 cd28 ct28 : Value}
    {f29 : Addr} {od29 an29 : Option Addr} {sl29 : Array (Option Value)} {oc29 kV29 dc29 pm29 cd29 ct29 : Value}
    {f30 : Addr} {od30 an30 : Option Addr} {sl30 : Array (Option Value)} {oc30 kV30 dc30 pm30 cd30 ct30 : Value}
    {f31 : Addr} {od31 an31 : Option Addr} {sl31 : Array (Option Value)} {oc31 kV31 dc31 pm31 cd31 ct31 : Value}
    {f32 : Addr} {od32 an32 : Option Addr} {sl32 : Array (Option Value)} {oc32 kV32 dc32 pm32 cd32 ct32 : Value}
    {f33 : Addr} {od33 an33 : Option Addr} {sl33 : Array (Option Value)} {oc33 kV33 dc33 pm33 cd33 ct33 : Value}
    {f34 : Addr} {od34 an34 : Option Addr} {sl34 : Array (Option Value)} {oc34 kV34 dc34 pm34 cd34 ct34 : Value}
    {f35 : Addr} {od35 an35 : Option Addr} {sl35 : Array (Option Value)} {oc35 kV35 dc35 pm35 cd35 ct35 : Value}
    {f36 : Addr} {od36 an36 : Option Addr} {sl36 : Array (Option Value)} {oc36 kV36 dc36 pm36 cd36 ct36 : Value}
    {f37 : Addr} {od37 an37 : Option Addr} {sl37 : Array (Option Value)} {oc37 kV37 dc37 pm37 cd37 ct37 : Value}
    {f38 : Addr} {od38 an38 : Option Addr} {sl38 : Array (Option Value)} {oc38 kV38 dc38 pm38 cd38 ct38 : Value}
    {f39 : Addr} {od39 an39 : Option Addr} {sl39 : Array (Option Value)} {oc39 kV39 dc39 pm39 cd39 ct39 : Value}
    {f40 : Addr} {od40 an40 : Option Addr} {sl40 : Array (Option Value)} {oc40 kV40 dc40 pm40 cd40 ct40 : Value}
    {f41 : Addr} {od41 an41 : Option Addr} {sl41 : Array (Option Value)} {oc41 kV41 dc41 pm41 cd41 ct41 : Value}
    {f42 : Addr} {od42 an42 : Option Addr} {sl42 : Array (Option Value)} {oc42 kV42 dc42 pm42 cd42 ct42 : Value}
    {f43 : Addr} {od43 an43 : Option Addr} {sl43 : Array (Option Value)} {oc43 kV43 dc43 pm43 cd43 ct43 : Value}
    {f44 : Addr} {od44 an44 : Option Addr} {sl44 : Array (Option Value)} {oc44 kV44 dc44 pm44 ct44 : Value}
    {C : Addr}
    {fI : Addr} {odI anI : Option Addr} {slI : Array (Option Value)} {ocI kVI dcI pmI cdI ctI : Value}
    {fR : Addr} {odR anR : Option Addr} {slR : Array (Option Value)} {ocR kVR dcR pmR cdR ctR : Value}
    {fT : Addr} {odT anT : Option Addr} {slT : Array (Option Value)} {ocT kVT dcT pmT cdT ctT : Value}
    {fO : Addr} {odO anO : Option Addr} {slO : Array (Option Value)} {ocO kVO dcO pmO cdO ctO : Value}
    {tL tS tM tN : Tok}
    {fP : Addr} {odP anP : Option Addr} {slP : Array (Option Value)} {ocP kVP dcP pmP cdP ctP : Value} {TP : Addr} {ocTP : Value} {odTP : Option Addr} {nTP : Nat} {slTP : Array (Option Value)} {tkP : Tok}
    {c_BadName : Addr}
    {c_Taken : Addr}
    {c_NoLetter : Addr}
    {c_NoOutlet : Addr}
    {c_NoMachine : Addr}
    {c_NoWeb : Addr}
    {c_NoRun : Addr}
    {c_BadRow : Addr}
    {c_BadText : Addr}
    {c_BadDeed : Addr}
    {c_Unreached : Addr}
    {c_Gone : Addr}
    {c_NoStand : Addr}
    {c_Heeds : Addr}
    {c_NoneWaits : Addr}
    {c_HeedError : Addr}
    {c_Lacking : Addr}
    {fUL TUL : Addr} {odUL anUL : Option Addr} {slUL : Array (Option Value)} {ocUL kVUL dcUL pmUL cdUL ctUL ocTUL : Value} {odTUL : Option Addr} {nTUL : Nat} {slTUL : Array (Option Value)} {tk1UL tk2UL : Tok}
    {nm_NoLetter q_NoLetter : Str} {N_NoLetter fi_NoLetter : Addr} {bs_NoLetter : List Value} {sn_NoLetter : List Str} {sub_NoLetter : List Value} {ab_NoLetter : Bool} {col_NoLetter : Option Bool} {dd_NoLetter od_NoLetter an_NoLetter : Option Addr} {m0_NoLetter m1_NoLetter m2_NoLetter m3_NoLetter m5_NoLetter : Option Value} {sl_NoLetter : Array (Option Value)} {oc_NoLetter kV_NoLetter dc_NoLetter pm_NoLetter cd_NoLetter ct_NoLetter : Value}
    (a1 : PySem.W.nsIn K mainGlobals "is_name" = some (some (.ref f1)))
    (l1 : K.lookup f1 = some ⟨oc1, od1, .func (PySem.W.fnOf "is_name" "is_name" (defArgs sIsn) (defBody sIsn) (defScope sIsn) (.none) kV1 dc1 pm1 an1 cd1 ct1), sl1⟩)
    (c1 : PySem.W.codeIn K cd1 "is_name" = true)
    (k1 : PySem.W.keepIn K (.ref f1) = true)
    (a2 : PySem.W.nsIn K mainGlobals "refuse_sizes" = some (some (.ref f2)))
    (l2 : K.lookup f2 = some ⟨oc2, od2, .func (PySem.W.fnOf "refuse_sizes" "refuse_sizes" (defArgs sRsz) (defBody sRsz) (defScope sRsz) (.none) kV2 dc2 pm2 an2 cd2 ct2), sl2⟩)
    (c2 : PySem.W.codeIn K cd2 "refuse_sizes" = true)
    (k2 : PySem.W.keepIn K (.ref f2) = true)
    (a3 : PySem.W.nsIn K mainGlobals "refuse_names" = some (some (.ref f3)))
    (l3 : K.lookup f3 = some ⟨oc3, od3, .func (PySem.W.fnOf "refuse_names" "refuse_names" (defArgs sRnm) (defBody sRnm) (defScope sRnm) (.none) kV3 dc3 pm3 an3 cd3 ct3), sl3⟩)
    (c3 : PySem.W.codeIn K cd3 "refuse_names" = true)
    (k3 : PySem.W.keepIn K (.ref f3) = true)
    (a4 : PySem.W.nsIn K mainGlobals "pair_fits" = some (some (.ref f4)))
    (l4 : K.lookup f4 = some ⟨oc4, od4, .func (PySem.W.fnOf "pair_fits" "pair_fits" (defArgs sPf) (defBody sPf) (defScope sPf) (.none) kV4 dc4 pm4 an4 cd4 ct4), sl4⟩)
    (c4 : PySem.W.codeIn K cd4 "pair_fits" = true)
    (k4 : PySem.W.keepIn K (.ref f4) = true)
    (a5 : PySem.W.nsIn K mainGlobals "refuse_rows" = some (some (.ref f5)))
    (l5 : K.lookup f5 = some ⟨oc5, od5, .func (PySem.W.fnOf "refuse_rows" "refuse_rows" (defArgs sRrw) (defBody sRrw) (defScope sRrw) (.none) kV5 dc5 pm5 an5 cd5 ct5), sl5⟩)
    (c5 : PySem.W.codeIn K cd5 "refuse_rows" = true)
    (k5 : PySem.W.keepIn K (.ref f5) = true)
    (a6 : PySem.W.nsIn K mainGlobals "reached" = some (some (.ref f6)))
    (l6 : K.lookup f6 = some ⟨oc6, od6, .func (PySem.W.fnOf "reached" "reached" (defArgs sRea) (defBody sRea) (defScope sRea) (.none) kV6 dc6 pm6 an6 cd6 ct6), sl6⟩)
    (c6 : PySem.W.codeIn K cd6 "reached" = true)
    (k6 : PySem.W.keepIn K (.ref f6) = true)
    (a7 : PySem.W.nsIn K mainGlobals "refuse_unreached" = some (some (.ref f7)))
    (l7 : K.lookup f7 = some ⟨oc7, od7, .func (PySem.W.fnOf "refuse_unreached" "refuse_unreached" (defArgs sRun) (defBody sRun) (defScope sRun) (.none) kV7 dc7 pm7 an7 cd7 ct7), sl7⟩)
    (c7 : PySem.W.codeIn K cd7 "refuse_unreached" = true)
    (k7 : PySem.W.keepIn K (.ref f7) = true)
    (a8 : PySem.W.nsIn K mainGlobals "added" = some (some (.ref f8)))
    (l8 : K.lookup f8 = some ⟨oc8, od8, .func (PySem.W.fnOf "added" "added" (defArgs sAdd) (defBody sAdd) (defScope sAdd) (.none) kV8 dc8 pm8 an8 cd8 ct8), sl8⟩)
    (c8 : PySem.W.codeIn K cd8 "added" = true)
    (k8 : PySem.W.keepIn K (.ref f8) = true)
    (a9 : PySem.W.nsIn K mainGlobals "letter_pairs" = some (some (.ref f9)))
    (l9 : K.lookup f9 = some ⟨oc9, od9, .func (PySem.W.fnOf "letter_pairs" "letter_pairs" (defArgs sLp) (defBody sLp) (defScope sLp) (.none) kV9 dc9 pm9 an9 cd9 ct9), sl9⟩)
    (c9 : PySem.W.codeIn K cd9 "letter_pairs" = true)
    (k9 : PySem.W.keepIn K (.ref f9) = true)
    (a10 : PySem.W.nsIn K mainGlobals "two_steps" = some (some (.ref f10)))
    (l10 : K.lookup f10 = some ⟨oc10, od10, .func (PySem.W.fnOf "two_steps" "two_steps" (defArgs sTwo) (defBody sTwo) (defScope sTwo) (.none) kV10 dc10 pm10 an10 cd10 ct10), sl10⟩)
    (c10 : PySem.W.codeIn K cd10 "two_steps" = true)
    (k10 : PySem.W.keepIn K (.ref f10) = true)
    (a11 : PySem.W.nsIn K mainGlobals "refuse_heeding" = some (some (.ref f11)))
    (l11 : K.lookup f11 = some ⟨oc11, od11, .func (PySem.W.fnOf "refuse_heeding" "refuse_heeding" (defArgs sRh) (defBody sRh) (defScope sRh) (.none) kV11 dc11 pm11 an11 cd11 ct11), sl11⟩)
    (c11 : PySem.W.codeIn K cd11 "refuse_heeding" = true)
    (k11 : PySem.W.keepIn K (.ref f11) = true)
    (a12 : PySem.W.nsIn K mainGlobals "comes_back" = some (some (.ref f12)))
    (l12 : K.lookup f12 = some ⟨oc12, od12, .func (PySem.W.fnOf "comes_back" "comes_back" (defArgs sCb) (defBody sCb) (defScope sCb) (.none) kV12 dc12 pm12 an12 cd12 ct12), sl12⟩)
    (c12 : PySem.W.codeIn K cd12 "comes_back" = true)
    (k12 : PySem.W.keepIn K (.ref f12) = true)
    (a13 : PySem.W.nsIn K mainGlobals "coming_again" = some (some (.ref f13)))
    (l13 : K.lookup f13 = some ⟨oc13, od13, .func (PySem.W.fnOf "coming_again" "coming_again" (defArgs sCa) (defBody sCa) (defScope sCa) (.none) kV13 dc13 pm13 an13 cd13 ct13), sl13⟩)
    (c13 : PySem.W.codeIn K cd13 "coming_again" = true)
    (k13 : PySem.W.keepIn K (.ref f13) = true)
    (a14 : PySem.W.nsIn K mainGlobals "_law_deal" = some (some (.ref f14)))
    (l14 : K.lookup f14 = some ⟨oc14, od14, .func (PySem.W.fnOf "_law_deal" "_law_deal" (defArgs sDeal) (defBody sDeal) (defScope sDeal) (.none) kV14 dc14 pm14 an14 cd14 ct14), sl14⟩)
    (c14 : PySem.W.codeIn K cd14 "_law_deal" = true)
    (k14 : PySem.W.keepIn K (.ref f14) = true)
    (a15 : PySem.W.nsIn K mainGlobals "_law_pick" = some (some (.ref f15)))
    (l15 : K.lookup f15 = some ⟨oc15, od15, .func (PySem.W.fnOf "_law_pick" "_law_pick" (defArgs sPick) (defBody sPick) (defScope sPick) (.none) kV15 dc15 pm15 an15 cd15 ct15), sl15⟩)
    (c15 : PySem.W.codeIn K cd15 "_law_pick" = true)
    (k15 : PySem.W.keepIn K (.ref f15) = true)
    (a16 : PySem.W.nsIn K mainGlobals "_law_of" = some (some (.ref f16)))
    (l16 : K.lookup f16 = some ⟨oc16, od16, .func (PySem.W.fnOf "_law_of" "_law_of" (defArgs sOf) (defBody sOf) (defScope sOf) (.none) kV16 dc16 pm16 an16 cd16 ct16), sl16⟩)
    (c16 : PySem.W.codeIn K cd16 "_law_of" = true)
    (k16 : PySem.W.keepIn K (.ref f16) = true)
    (a17 : PySem.W.nsIn K mainGlobals "_law_like" = some (some (.ref f17)))
    (l17 : K.lookup f17 = some ⟨oc17, od17, .func (PySem.W.fnOf "_law_like" "_law_like" (defArgs sLike) (defBody sLike) (defScope sLike) (.none) kV17 dc17 pm17 an17 cd17 ct17), sl17⟩)
    (c17 : PySem.W.codeIn K cd17 "_law_like" = true)
    (k17 : PySem.W.keepIn K (.ref f17) = true)
    (a18 : PySem.W.nsIn K mainGlobals "_law_names" = some (some (.ref f18)))
    (l18 : K.lookup f18 = some ⟨oc18, od18, .func (PySem.W.fnOf "_law_names" "_law_names" (defArgs sNames) (defBody sNames) (defScope sNames) (.none) kV18 dc18 pm18 an18 cd18 ct18), sl18⟩)
    (c18 : PySem.W.codeIn K cd18 "_law_names" = true)
    (k18 : PySem.W.keepIn K (.ref f18) = true)
    (a19 : PySem.W.nsIn K mainGlobals "_law_shuffled" = some (some (.ref f19)))
    (l19 : K.lookup f19 = some ⟨oc19, od19, .func (PySem.W.fnOf "_law_shuffled" "_law_shuffled" (defArgs sShuf) (defBody sShuf) (defScope sShuf) (.none) kV19 dc19 pm19 an19 cd19 ct19), sl19⟩)
    (c19 : PySem.W.codeIn K cd19 "_law_shuffled" = true)
    (k19 : PySem.W.keepIn K (.ref f19) = true)
    (a20 : PySem.W.nsIn K mainGlobals "_law_rule" = some (some (.ref f20)))
    (l20 : K.lookup f20 = some ⟨oc20, od20, .func (PySem.W.fnOf "_law_rule" "_law_rule" (defArgs sRule) (defBody sRule) (defScope sRule) (.none) kV20 dc20 pm20 an20 cd20 ct20), sl20⟩)
    (c20 : PySem.W.codeIn K cd20 "_law_rule" = true)
    (k20 : PySem.W.keepIn K (.ref f20) = true)
    (a21 : PySem.W.nsIn K mainGlobals "_law_down" = some (some (.ref f21)))
    (l21 : K.lookup f21 = some ⟨oc21, od21, .func (PySem.W.fnOf "_law_down" "_law_down" (defArgs sDown) (defBody sDown) (defScope sDown) (.none) kV21 dc21 pm21 an21 cd21 ct21), sl21⟩)
    (c21 : PySem.W.codeIn K cd21 "_law_down" = true)
    (k21 : PySem.W.keepIn K (.ref f21) = true)
    (a22 : PySem.W.nsIn K mainGlobals "_law_times_of" = some (some (.ref f22)))
    (l22 : K.lookup f22 = some ⟨oc22, od22, .func (PySem.W.fnOf "_law_times_of" "_law_times_of" (defArgs sTimes) (defBody sTimes) (defScope sTimes) (.none) kV22 dc22 pm22 an22 cd22 ct22), sl22⟩)
    (c22 : PySem.W.codeIn K cd22 "_law_times_of" = true)
    (k22 : PySem.W.keepIn K (.ref f22) = true)
    (a23 : PySem.W.nsIn K mainGlobals "_law_weight" = some (some (.ref f23)))
    (l23 : K.lookup f23 = some ⟨oc23, od23, .func (PySem.W.fnOf "_law_weight" "_law_weight" (defArgs sWeight) (defBody sWeight) (defScope sWeight) (.none) kV23 dc23 pm23 an23 cd23 ct23), sl23⟩)
    (c23 : PySem.W.codeIn K cd23 "_law_weight" = true)
    (k23 : PySem.W.keepIn K (.ref f23) = true)
    (a24 : PySem.W.nsIn K mainGlobals "_law_gain" = some (some (.ref f24)))
    (l24 : K.lookup f24 = some ⟨oc24, od24, .func (PySem.W.fnOf "_law_gain" "_law_gain" (defArgs sGain) (defBody sGain) (defScope sGain) (.none) kV24 dc24 pm24 an24 cd24 ct24), sl24⟩)
    (c24 : PySem.W.codeIn K cd24 "_law_gain" = true)
    (k24 : PySem.W.keepIn K (.ref f24) = true)
    (a25 : PySem.W.nsIn K mainGlobals "_law_raw" = some (some (.ref f25)))
    (l25 : K.lookup f25 = some ⟨oc25, od25, .func (PySem.W.fnOf "_law_raw" "_law_raw" (defArgs sRaw) (defBody sRaw) (defScope sRaw) (.none) kV25 dc25 pm25 an25 cd25 ct25), sl25⟩)
    (c25 : PySem.W.codeIn K cd25 "_law_raw" = true)
    (k25 : PySem.W.keepIn K (.ref f25) = true)
    (a26 : PySem.W.nsIn K mainGlobals "_law_renumbered" = some (some (.ref f26)))
    (l26 : K.lookup f26 = some ⟨oc26, od26, .func (PySem.W.fnOf "_law_renumbered" "_law_renumbered" (defArgs sRen) (defBody sRen) (defScope sRen) (.none) kV26 dc26 pm26 an26 cd26 ct26), sl26⟩)
    (c26 : PySem.W.codeIn K cd26 "_law_renumbered" = true)
    (k26 : PySem.W.keepIn K (.ref f26) = true)
    (a27 : PySem.W.nsIn K mainGlobals "_law_device" = some (some (.ref f27)))
    (l27 : K.lookup f27 = some ⟨oc27, od27, .func (PySem.W.fnOf "_law_device" "_law_device" (defArgs sDev) (defBody sDev) (defScope sDev) (.none) kV27 dc27 pm27 an27 cd27 ct27), sl27⟩)
    (c27 : PySem.W.codeIn K cd27 "_law_device" = true)
    (k27 : PySem.W.keepIn K (.ref f27) = true)
    (a28 : PySem.W.nsIn K mainGlobals "_law_any_device" = some (some (.ref f28)))
    (l28 : K.lookup f28 = some ⟨oc28, od28, .func (PySem.W.fnOf "_law_any_device" "_law_any_device" (defArgs sAny) (defBody sAny) (defScope sAny) (.none) kV28 dc28 pm28 an28 cd28 ct28), sl28⟩)
    (c28 : PySem.W.codeIn K cd28 "_law_any_device" = true)
    (k28 : PySem.W.keepIn K (.ref f28) = true)
    (a29 : PySem.W.nsIn K mainGlobals "_law_made" = some (some (.ref f29)))
    (l29 : K.lookup f29 = some ⟨oc29, od29, .func (PySem.W.fnOf "_law_made" "_law_made" (defArgs sMade) (defBody sMade) (defScope sMade) (.none) kV29 dc29 pm29 an29 cd29 ct29), sl29⟩)
    (c29 : PySem.W.codeIn K cd29 "_law_made" = true)
    (k29 : PySem.W.keepIn K (.ref f29) = true)
    (a30 : PySem.W.nsIn K mainGlobals "_law_reached" = some (some (.ref f30)))
    (l30 : K.lookup f30 = some ⟨oc30, od30, .func (PySem.W.fnOf "_law_reached" "_law_reached" (defArgs sLrc) (defBody sLrc) (defScope sLrc) (.none) kV30 dc30 pm30 an30 cd30 ct30), sl30⟩)
    (c30 : PySem.W.codeIn K cd30 "_law_reached" = true)
    (k30 : PySem.W.keepIn K (.ref f30) = true)
    (a31 : PySem.W.nsIn K mainGlobals "_law_again" = some (some (.ref f31)))
    (l31 : K.lookup f31 = some ⟨oc31, od31, .func (PySem.W.fnOf "_law_again" "_law_again" (defArgs sLag) (defBody sLag) (defScope sLag) (.none) kV31 dc31 pm31 an31 cd31 ct31), sl31⟩)
    (c31 : PySem.W.codeIn K cd31 "_law_again" = true)
    (k31 : PySem.W.keepIn K (.ref f31) = true)
    (a32 : PySem.W.nsIn K mainGlobals "lap_from" = some (some (.ref f32)))
    (l32 : K.lookup f32 = some ⟨oc32, od32, .func (PySem.W.fnOf "lap_from" "lap_from" (defArgs sLap) (defBody sLap) (defScope sLap) (.none) kV32 dc32 pm32 an32 cd32 ct32), sl32⟩)
    (c32 : PySem.W.codeIn K cd32 "lap_from" = true)
    (k32 : PySem.W.keepIn K (.ref f32) = true)
    (a33 : PySem.W.nsIn K mainGlobals "greatest_common" = some (some (.ref f33)))
    (l33 : K.lookup f33 = some ⟨oc33, od33, .func (PySem.W.fnOf "greatest_common" "greatest_common" (defArgs sGcd) (defBody sGcd) (defScope sGcd) (.none) kV33 dc33 pm33 an33 cd33 ct33), sl33⟩)
    (c33 : PySem.W.codeIn K cd33 "greatest_common" = true)
    (k33 : PySem.W.keepIn K (.ref f33) = true)
    (a34 : PySem.W.nsIn K mainGlobals "lap_at" = some (some (.ref f34)))
    (l34 : K.lookup f34 = some ⟨oc34, od34, .func (PySem.W.fnOf "lap_at" "lap_at" (defArgs sLat) (defBody sLat) (defScope sLat) (.none) kV34 dc34 pm34 an34 cd34 ct34), sl34⟩)
    (c34 : PySem.W.codeIn K cd34 "lap_at" = true)
    (k34 : PySem.W.keepIn K (.ref f34) = true)
    (a35 : PySem.W.nsIn K mainGlobals "letter_rates" = some (some (.ref f35)))
    (l35 : K.lookup f35 = some ⟨oc35, od35, .func (PySem.W.fnOf "letter_rates" "letter_rates" (defArgs sLr) (defBody sLr) (defScope sLr) (.none) kV35 dc35 pm35 an35 cd35 ct35), sl35⟩)
    (c35 : PySem.W.codeIn K cd35 "letter_rates" = true)
    (k35 : PySem.W.keepIn K (.ref f35) = true)
    (a36 : PySem.W.nsIn K mainGlobals "rates_of" = some (some (.ref f36)))
    (l36 : K.lookup f36 = some ⟨oc36, od36, .func (PySem.W.fnOf "rates_of" "rates_of" (defArgs sRo) (defBody sRo) (defScope sRo) (.none) kV36 dc36 pm36 an36 cd36 ct36), sl36⟩)
    (c36 : PySem.W.codeIn K cd36 "rates_of" = true)
    (k36 : PySem.W.keepIn K (.ref f36) = true)
    (a37 : PySem.W.nsIn K mainGlobals "round_of" = some (some (.ref f37)))
    (l37 : K.lookup f37 = some ⟨oc37, od37, .func (PySem.W.fnOf "round_of" "round_of" (defArgs sRd) (defBody sRd) (defScope sRd) (.none) kV37 dc37 pm37 an37 cd37 ct37), sl37⟩)
    (c37 : PySem.W.codeIn K cd37 "round_of" = true)
    (k37 : PySem.W.keepIn K (.ref f37) = true)
    (a38 : PySem.W.nsIn K mainGlobals "_law_low" = some (some (.ref f38)))
    (l38 : K.lookup f38 = some ⟨oc38, od38, .func (PySem.W.fnOf "_law_low" "_law_low" (defArgs sLow) (defBody sLow) (defScope sLow) (.none) kV38 dc38 pm38 an38 cd38 ct38), sl38⟩)
    (c38 : PySem.W.codeIn K cd38 "_law_low" = true)
    (k38 : PySem.W.keepIn K (.ref f38) = true)
    (a39 : PySem.W.nsIn K mainGlobals "_law_walked" = some (some (.ref f39)))
    (l39 : K.lookup f39 = some ⟨oc39, od39, .func (PySem.W.fnOf "_law_walked" "_law_walked" (defArgs sWk) (defBody sWk) (defScope sWk) (.none) kV39 dc39 pm39 an39 cd39 ct39), sl39⟩)
    (c39 : PySem.W.codeIn K cd39 "_law_walked" = true)
    (k39 : PySem.W.keepIn K (.ref f39) = true)
    (a40 : PySem.W.nsIn K mainGlobals "_law_again_from" = some (some (.ref f40)))
    (l40 : K.lookup f40 = some ⟨oc40, od40, .func (PySem.W.fnOf "_law_again_from" "_law_again_from" (defArgs sLaf) (defBody sLaf) (defScope sLaf) (.none) kV40 dc40 pm40 an40 cd40 ct40), sl40⟩)
    (c40 : PySem.W.codeIn K cd40 "_law_again_from" = true)
    (k40 : PySem.W.keepIn K (.ref f40) = true)
    (a41 : PySem.W.nsIn K mainGlobals "_law_round" = some (some (.ref f41)))
    (l41 : K.lookup f41 = some ⟨oc41, od41, .func (PySem.W.fnOf "_law_round" "_law_round" (defArgs sLrd) (defBody sLrd) (defScope sLrd) (.none) kV41 dc41 pm41 an41 cd41 ct41), sl41⟩)
    (c41 : PySem.W.codeIn K cd41 "_law_round" = true)
    (k41 : PySem.W.keepIn K (.ref f41) = true)
    (a42 : PySem.W.nsIn K mainGlobals "_law_rates" = some (some (.ref f42)))
    (l42 : K.lookup f42 = some ⟨oc42, od42, .func (PySem.W.fnOf "_law_rates" "_law_rates" (defArgs sLrt) (defBody sLrt) (defScope sLrt) (.none) kV42 dc42 pm42 an42 cd42 ct42), sl42⟩)
    (c42 : PySem.W.codeIn K cd42 "_law_rates" = true)
    (k42 : PySem.W.keepIn K (.ref f42) = true)
    (a43 : PySem.W.nsIn K mainGlobals "_law_why" = some (some (.ref f43)))
    (l43 : K.lookup f43 = some ⟨oc43, od43, .func (PySem.W.fnOf "_law_why" "_law_why" (defArgs Hw.sWhy) (defBody Hw.sWhy) (defScope Hw.sWhy) (.none) kV43 dc43 pm43 an43 cd43 ct43), sl43⟩)
    (c43 : PySem.W.codeIn K cd43 "_law_why" = true)
    (k43 : PySem.W.keepIn K (.ref f43) = true)
    (a44 : PySem.W.nsIn K mainGlobals "law" = some (some (.ref f44)))
    (l44 : K.lookup f44 = some ⟨oc44, od44, .func (PySem.W.fnOf "law" "law" (defArgs sLaw) (defBody sLaw) (defScope sLaw) (.none) kV44 dc44 pm44 an44 (.ref cL) ct44), sl44⟩)
    (c44 : PySem.W.codeIn K (.ref cL) "law" = true)
    (k44 : PySem.W.keepIn K (.ref f44) = true)
    (z1 : PySem.W.nsIn K mainGlobals "isinstance" = some none)
    (z2 : PySem.W.nsIn K mainGlobals "list" = some none)
    (z3 : PySem.W.nsIn K mainGlobals "tuple" = some none)
    (z4 : PySem.W.nsIn K mainGlobals "len" = some none)
    (z5 : PySem.W.nsIn K mainGlobals "all" = some none)
    (z6 : PySem.W.nsIn K mainGlobals "range" = some none)
    (z7 : PySem.W.nsIn K mainGlobals "bool" = some none)
    (z8 : PySem.W.nsIn K mainGlobals "int" = some none)
    (z9 : PySem.W.nsIn K mainGlobals "str" = some none)
    (z10 : PySem.W.nsIn K mainGlobals "abs" = some none)
    (z11 : PySem.W.nsIn K mainGlobals "min" = some none)
    (z12 : PySem.W.nsIn K mainGlobals "max" = some none)
    (z13 : PySem.W.nsIn K mainGlobals "sum" = some none)
    (z14 : PySem.W.nsIn K mainGlobals "zip" = some none)
    (z15 : PySem.W.nsIn K mainGlobals "sorted" = some none)
    (z16 : PySem.W.nsIn K mainGlobals "enumerate" = some none)
    (aC : PySem.W.nsIn K mainGlobals "Machine" = some (some (.ref C)))
    (pgC : PySem.W.plainGet K C Str.empty = true)
    (hdC : PySem.W.hasDictIn K C = true)
    (poC : PySem.W.plainOver K C = true)
    (saC : PySem.W.findIn K (.ref C) "__setattr__" = some (some (.builtin "object.__setattr__")))
    (mkC : PySem.W.makesIn K C = true)
    (kcC : PySem.W.keepIn K (.ref C) = true)
    (aI : PySem.W.findIn K (.ref C) "__init__" = some (some (.ref fI)))
    (iI : PySem.W.isFn K (.ref fI) = true)
    (lI : K.lookup fI = some ⟨ocI, odI, .func (PySem.W.fnOf "__init__" "Machine.__init__" (defArgs sMi) (defBody sMi) (defScope sMi) (.none) kVI dcI pmI anI cdI ctI), slI⟩)
    (cI : PySem.W.codeIn K cdI "Machine.__init__" = true)
    (kI : PySem.W.keepIn K (.ref fI) = true)
    (aR : PySem.W.findIn K (.ref C) "rows" = some (some (.ref fR)))
    (iR : PySem.W.isFn K (.ref fR) = true)
    (lR : K.lookup fR = some ⟨ocR, odR, .func (PySem.W.fnOf "rows" "Machine.rows" (defArgs sMr) (defBody sMr) (defScope sMr) (.none) kVR dcR pmR anR cdR ctR), slR⟩)
    (cR : PySem.W.codeIn K cdR "Machine.rows" = true)
    (kR : PySem.W.keepIn K (.ref fR) = true)
    (aT : PySem.W.findIn K (.ref C) "letters" = some (some (.ref fT)))
    (iT : PySem.W.isFn K (.ref fT) = true)
    (lT : K.lookup fT = some ⟨ocT, odT, .func (PySem.W.fnOf "letters" "Machine.letters" (defArgs sLt) (defBody sLt) (defScope sLt) (.none) kVT dcT pmT anT cdT ctT), slT⟩)
    (cT : PySem.W.codeIn K cdT "Machine.letters" = true)
    (kT : PySem.W.keepIn K (.ref fT) = true)
    (aO : PySem.W.findIn K (.ref C) "outlets" = some (some (.ref fO)))
    (iO : PySem.W.isFn K (.ref fO) = true)
    (lO : K.lookup fO = some ⟨ocO, odO, .func (PySem.W.fnOf "outlets" "Machine.outlets" (defArgs sOt) (defBody sOt) (defScope sOt) (.none) kVO dcO pmO anO cdO ctO), slO⟩)
    (cO : PySem.W.codeIn K cdO "Machine.outlets" = true)
    (kO : PySem.W.keepIn K (.ref fO) = true)
    (nL : PySem.W.findIn K (.ref C) "letter_names" = some none)
    (nO : PySem.W.findIn K (.ref C) "outlet_names" = some none)
    (nT : PySem.W.findIn K (.ref C) "table" = some none)
    (vL : PySem.W.nsIn K mainGlobals "LETTERS" = some (some (.int 3 tL)))
    (vS : PySem.W.nsIn K mainGlobals "STANDS" = some (some (.int 60 tS)))
    (vM : PySem.W.nsIn K mainGlobals "MOST" = some (some (.int 999999 tM)))
    (vN : PySem.W.nsIn K mainGlobals "NAME_SIGNS" = some (some (.int 6 tN)))
    (aP : PySem.W.nsIn K mainGlobals "part" = some (some (.ref fP)))
    (lP : K.lookup fP = some ⟨ocP, odP, .func (PySem.W.fnOf "part" "part" (defArgs sPart) (defBody sPart) (defScope sPart) (.ref TP) kVP dcP pmP anP cdP ctP), slP⟩)
    (cP : PySem.W.codeIn K cdP "part" = true)
    (kP : PySem.W.keepIn K (.ref fP) = true)
    (tP : K.lookup TP = some ⟨ocTP, odTP, .seq #[.int 1 tkP] nTP, slTP⟩)
    (aE_BadName : PySem.W.nsIn K mainGlobals "BadName" = some (some (.ref c_BadName)))
    (aE_Taken : PySem.W.nsIn K mainGlobals "Taken" = some (some (.ref c_Taken)))
    (aE_NoLetter : PySem.W.nsIn K mainGlobals "NoLetter" = some (some (.ref c_NoLetter)))
    (aE_NoOutlet : PySem.W.nsIn K mainGlobals "NoOutlet" = some (some (.ref c_NoOutlet)))
    (aE_NoMachine : PySem.W.nsIn K mainGlobals "NoMachine" = some (some (.ref c_NoMachine)))
    (aE_NoWeb : PySem.W.nsIn K mainGlobals "NoWeb" = some (some (.ref c_NoWeb)))
    (aE_NoRun : PySem.W.nsIn K mainGlobals "NoRun" = some (some (.ref c_NoRun)))
    (aE_BadRow : PySem.W.nsIn K mainGlobals "BadRow" = some (some (.ref c_BadRow)))
    (aE_BadText : PySem.W.nsIn K mainGlobals "BadText" = some (some (.ref c_BadText)))
    (aE_BadDeed : PySem.W.nsIn K mainGlobals "BadDeed" = some (some (.ref c_BadDeed)))
    (aE_Unreached : PySem.W.nsIn K mainGlobals "Unreached" = some (some (.ref c_Unreached)))
    (aE_Gone : PySem.W.nsIn K mainGlobals "Gone" = some (some (.ref c_Gone)))
    (aE_NoStand : PySem.W.nsIn K mainGlobals "NoStand" = some (some (.ref c_NoStand)))
    (aE_Heeds : PySem.W.nsIn K mainGlobals "Heeds" = some (some (.ref c_Heeds)))
    (aE_NoneWaits : PySem.W.nsIn K mainGlobals "NoneWaits" = some (some (.ref c_NoneWaits)))
    (aE_HeedError : PySem.W.nsIn K mainGlobals "HeedError" = some (some (.ref c_HeedError)))
    (aE_Lacking : PySem.W.nsIn K mainGlobals "Lacking" = some (some (.ref c_Lacking)))
    (rUL : PySem.W.readsIn K c_Lacking (.type "type") = true)
    (gUL : PySem.W.specialIn K (.ref c_Lacking) "__getattribute__" = some (some (.builtin "type.__getattribute__")))
    (vUL : PySem.W.findCls K (.ref c_Lacking) (.type "type") "__init__" = some (.val (.ref fUL)))
    (lUL : K.lookup fUL = some ⟨ocUL, odUL, .func (PySem.W.fnOf "__init__" "Lacking.__init__" (defArgs Hw.sUpL) (defBody Hw.sUpL) (defScope Hw.sUpL) (.ref TUL) kVUL dcUL pmUL anUL cdUL ctUL), slUL⟩)
    (cUL : PySem.W.codeIn K cdUL "Lacking.__init__" = true)
    (kUL : PySem.W.keepIn K (.ref fUL) = true)
    (tUL : K.lookup TUL = some ⟨ocTUL, odTUL, .seq #[.str "Lacking" tk1UL, .str "" tk2UL] nTUL, slTUL⟩)
    (bUL : PySem.W.findCls K (.type "LookupError") (.type "type") "__init__" = some (.val (.builtin "LookupError.__init__")))
    (z17 : PySem.W.nsIn K mainGlobals "LookupError" = some none)
    (xl_NoLetter : K.lookup c_NoLetter = some (excClassObj nm_NoLetter q_NoLetter c_NoLetter N_NoLetter bs_NoLetter [.ref c_Lacking, .type "LookupError", .type "Exception", .type "BaseException", .type "object"] true sn_NoLetter sub_NoLetter ab_NoLetter col_NoLetter dd_NoLetter m0_NoLetter m1_NoLetter m2_NoLetter m3_NoLetter m5_NoLetter "LookupError.__new__"))
    (xa_NoLetter : PySem.W.findIn K (.ref c_NoLetter) "__setattr__" = some (some (.builtin "object.__setattr__")))
    (xe_NoLetter : PySem.W.subIn K (.ref c_NoLetter) (.type "BaseException") = some true)
    (xt_NoLetter : PySem.W.typeIn K (.ref c_NoLetter) = some (.type "type"))
    (xk_NoLetter : PySem.W.keepIn K (.ref c_NoLetter) = true)
    (xi_NoLetter : PySem.W.findIn K (.ref c_NoLetter) "__init__" = some (some (.ref fi_NoLetter)))
    (xf_NoLetter : PySem.W.typeIn K (.ref fi_NoLetter) = some (.type "function"))
    (yl_NoLetter : K.lookup fi_NoLetter = some ⟨oc_NoLetter, od_NoLetter, .func (PySem.W.fnOf "__init__" "NoLetter.__init__" (defArgs Hw.sENoLetter) (defBody Hw.sENoLetter) (defScope Hw.sENoLetter) .none kV_NoLetter dc_NoLetter pm_NoLetter an_NoLetter cd_NoLetter ct_NoLetter), sl_NoLetter⟩)
    (yc_NoLetter : PySem.W.codeIn K cd_NoLetter "NoLetter.__init__" = true)
    (yk_NoLetter : PySem.W.keepIn K (.ref fi_NoLetter) = true)
    (xg_NoLetter : PySem.W.findIn K (.ref c_NoLetter) "__getattribute__" = some (some (.builtin "BaseException.__getattribute__")))
    (xh_NoLetter : PySem.W.findIn K (.ref c_NoLetter) "__getattr__" = some none)
    (xd_NoLetter : PySem.W.hasDictIn K c_NoLetter = true)
    (n_word_NoLetter : PySem.W.findIn K (.ref c_NoLetter) "word" = some none)
    (n_name_NoLetter : PySem.W.findIn K (.ref c_NoLetter) "name" = some none)
    (w1_NoLetter : PySem.W.exmAny K (.ref c_NoLetter) [.ref c_BadName, .ref c_Taken, .ref c_NoLetter, .ref c_NoOutlet, .ref c_NoMachine, .ref c_NoWeb, .ref c_NoRun] = some true) :
    LawAtS l w K CX0 11 63 "_law_script" mg fa h := by
  have e := hfa.symm.trans (PySem.W.mg_of X G a44)
  cases e
  have F1 := fun_mk (st := sIsn) l1 c1 k1
  have b1 := F1.binds (ps := ["text"]) fun _ _ _ _ _ _ us hl => match us, hl with | [_], _ => rfl
  have g1 := PySem.W.mg_of X G a1
  have F2 := fun_mk (st := sRsz) l2 c2 k2
  have b2 := F2.binds (ps := ["letters", "outlets", "rows"]) fun _ _ _ _ _ _ us hl => match us, hl with | [_, _, _], _ => rfl
  have g2 := PySem.W.mg_of X G a2
  have F3 := fun_mk (st := sRnm) l3 c3 k3
  have b3 := F3.binds (ps := ["names"]) fun _ _ _ _ _ _ us hl => match us, hl with | [_], _ => rfl
  have g3 := PySem.W.mg_of X G a3
  have F4 := fun_mk (st := sPf) l4 c4 k4
  have b4 := F4.binds (ps := ["pair", "outlets", "stands"]) fun _ _ _ _ _ _ us hl => match us, hl with | [_, _, _], _ => rfl
  have g4 := PySem.W.mg_of X G a4
  have F5 := fun_mk (st := sRrw) l5 c5 k5
  have b5 := F5.binds (ps := ["rows", "letters", "outlets"]) fun _ _ _ _ _ _ us hl => match us, hl with | [_, _, _], _ => rfl
  have g5 := PySem.W.mg_of X G a5
  have F6 := fun_mk (st := sRea) l6 c6 k6
  have b6 := F6.binds (ps := ["rows", "first"]) fun _ _ _ _ _ _ us hl => match us, hl with | [_, _], _ => rfl
  have g6 := PySem.W.mg_of X G a6
  have F7 := fun_mk (st := sRun) l7 c7 k7
  have b7 := F7.binds (ps := ["rows"]) fun _ _ _ _ _ _ us hl => match us, hl with | [_], _ => rfl
  have g7 := PySem.W.mg_of X G a7
  have F8 := fun_mk (st := sAdd) l8 c8 k8
  have b8 := F8.binds (ps := ["one", "other"]) fun _ _ _ _ _ _ us hl => match us, hl with | [_, _], _ => rfl
  have g8 := PySem.W.mg_of X G a8
  have F9 := fun_mk (st := sLp) l9 c9 k9
  have b9 := F9.binds (ps := ["letters"]) fun _ _ _ _ _ _ us hl => match us, hl with | [_], _ => rfl
  have g9 := PySem.W.mg_of X G a9
  have F10 := fun_mk (st := sTwo) l10 c10 k10
  have b10 := F10.binds (ps := ["rows", "stand", "one", "other"]) fun _ _ _ _ _ _ us hl => match us, hl with | [_, _, _, _], _ => rfl
  have g10 := PySem.W.mg_of X G a10
  have F11 := fun_mk (st := sRh) l11 c11 k11
  have b11 := F11.binds (ps := ["rows", "letters"]) fun _ _ _ _ _ _ us hl => match us, hl with | [_, _], _ => rfl
  have g11 := PySem.W.mg_of X G a11
  have F12 := fun_mk (st := sCb) l12 c12 k12
  have b12 := F12.binds (ps := ["reach", "stand"]) fun _ _ _ _ _ _ us hl => match us, hl with | [_, _], _ => rfl
  have g12 := PySem.W.mg_of X G a12
  have F13 := fun_mk (st := sCa) l13 c13 k13
  have b13 := F13.binds (ps := ["machine"]) fun _ _ _ _ _ _ us hl => match us, hl with | [_], _ => rfl
  have g13 := PySem.W.mg_of X G a13
  have F14 := fun_mk (st := sDeal) l14 c14 k14
  have b14 := F14.binds (ps := ["_law_script"]) fun _ _ _ _ _ _ us hl => match us, hl with | [_], _ => rfl
  have g14 := PySem.W.mg_of X G a14
  have F15 := fun_mk (st := sPick) l15 c15 k15
  have b15 := F15.binds (ps := ["_law_deal_here", "_law_many"]) fun _ _ _ _ _ _ us hl => match us, hl with | [_, _], _ => rfl
  have g15 := PySem.W.mg_of X G a15
  have F16 := fun_mk (st := sOf) l16 c16 k16
  have b16 := F16.binds (ps := ["_law_deal_here", "_law_some"]) fun _ _ _ _ _ _ us hl => match us, hl with | [_, _], _ => rfl
  have g16 := PySem.W.mg_of X G a16
  have F17 := fun_mk (st := sLike) l17 c17 k17
  have b17 := F17.binds (ps := ["_law_found", "_law_due"]) fun _ _ _ _ _ _ us hl => match us, hl with | [_, _], _ => rfl
  have g17 := PySem.W.mg_of X G a17
  have F18 := fun_mk (st := sNames) l18 c18 k18
  have b18 := F18.binds (ps := ["_law_deal_here", "_law_many"]) fun _ _ _ _ _ _ us hl => match us, hl with | [_, _], _ => rfl
  have g18 := PySem.W.mg_of X G a18
  have F19 := fun_mk (st := sShuf) l19 c19 k19
  have b19 := F19.binds (ps := ["_law_deal_here", "_law_some"]) fun _ _ _ _ _ _ us hl => match us, hl with | [_, _], _ => rfl
  have g19 := PySem.W.mg_of X G a19
  have F20 := fun_mk (st := sRule) l20 c20 k20
  have b20 := F20.binds (ps := ["_law_deal_here", "_law_ins", "_law_outs"]) fun _ _ _ _ _ _ us hl => match us, hl with | [_, _, _], _ => rfl
  have g20 := PySem.W.mg_of X G a20
  have F21 := fun_mk (st := sDown) l21 c21 k21
  have b21 := F21.binds (ps := ["_law_rule_here", "_law_come"]) fun _ _ _ _ _ _ us hl => match us, hl with | [_, _], _ => rfl
  have g21 := PySem.W.mg_of X G a21
  have F22 := fun_mk (st := sTimes) l22 c22 k22
  have b22 := F22.binds (ps := ["_law_rule_here", "_law_come"]) fun _ _ _ _ _ _ us hl => match us, hl with | [_, _], _ => rfl
  have g22 := PySem.W.mg_of X G a22
  have F23 := fun_mk (st := sWeight) l23 c23 k23
  have b23 := F23.binds (ps := ["_law_rule_here", "_law_name"]) fun _ _ _ _ _ _ us hl => match us, hl with | [_, _], _ => rfl
  have g23 := PySem.W.mg_of X G a23
  have F24 := fun_mk (st := sGain) l24 c24 k24
  have b24 := F24.binds (ps := ["_law_rules", "_law_outs", "_law_early", "_law_late"]) fun _ _ _ _ _ _ us hl => match us, hl with | [_, _, _, _], _ => rfl
  have g24 := PySem.W.mg_of X G a24
  have F25 := fun_mk (st := sRaw) l25 c25 k25
  have b25 := F25.binds (ps := ["_law_rules", "_law_ins", "_law_outs", "_law_most"]) fun _ _ _ _ _ _ us hl => match us, hl with | [_, _, _, _], _ => rfl
  have g25 := PySem.W.mg_of X G a25
  have F26 := fun_mk (st := sRen) l26 c26 k26
  have b26 := F26.binds (ps := ["_law_deal_here", "_law_rows"]) fun _ _ _ _ _ _ us hl => match us, hl with | [_, _], _ => rfl
  have g26 := PySem.W.mg_of X G a26
  have F27 := fun_mk (st := sDev) l27 c27 k27
  have b27 := F27.binds (ps := ["_law_deal_here", "_law_ins", "_law_outs", "_law_most"]) fun _ _ _ _ _ _ us hl => match us, hl with | [_, _, _, _], _ => rfl
  have g27 := PySem.W.mg_of X G a27
  have F28 := fun_mk (st := sAny) l28 c28 k28
  have b28 := F28.binds (ps := ["_law_deal_here", "_law_most"]) fun _ _ _ _ _ _ us hl => match us, hl with | [_, _], _ => rfl
  have g28 := PySem.W.mg_of X G a28
  have F29 := fun_mk (st := sMade) l29 c29 k29
  have b29 := F29.binds (ps := ["_law_m"]) fun _ _ _ _ _ _ us hl => match us, hl with | [_], _ => rfl
  have g29 := PySem.W.mg_of X G a29
  have F30 := fun_mk (st := sLrc) l30 c30 k30
  have b30 := F30.binds (ps := ["_law_rows", "_law_start"]) fun _ _ _ _ _ _ us hl => match us, hl with | [_, _], _ => rfl
  have g30 := PySem.W.mg_of X G a30
  have F31 := fun_mk (st := sLag) l31 c31 k31
  have b31 := F31.binds (ps := ["_law_m"]) fun _ _ _ _ _ _ us hl => match us, hl with | [_], _ => rfl
  have g31 := PySem.W.mg_of X G a31
  have F32 := fun_mk (st := sLap) l32 c32 k32
  have b32 := F32.binds (ps := ["rows", "place", "stand"]) fun _ _ _ _ _ _ us hl => match us, hl with | [_, _, _], _ => rfl
  have g32 := PySem.W.mg_of X G a32
  have F33 := fun_mk (st := sGcd) l33 c33 k33
  have b33 := F33.binds (ps := ["one", "other"]) fun _ _ _ _ _ _ us hl => match us, hl with | [_, _], _ => rfl
  have g33 := PySem.W.mg_of X G a33
  have F34 := fun_mk (st := sLat) l34 c34 k34
  have b34 := F34.binds (ps := ["rows", "place", "again"]) fun _ _ _ _ _ _ us hl => match us, hl with | [_, _, _], _ => rfl
  have g34 := PySem.W.mg_of X G a34
  have F35 := fun_mk (st := sLr) l35 c35 k35
  have b35 := F35.binds (ps := ["rows", "place", "again", "outlets"]) fun _ _ _ _ _ _ us hl => match us, hl with | [_, _, _, _], _ => rfl
  have g35 := PySem.W.mg_of X G a35
  have F36 := fun_mk (st := sRo) l36 c36 k36
  have b36 := F36.binds (ps := ["machine"]) fun _ _ _ _ _ _ us hl => match us, hl with | [_], _ => rfl
  have g36 := PySem.W.mg_of X G a36
  have F37 := fun_mk (st := sRd) l37 c37 k37
  have b37 := F37.binds (ps := ["machine", "letter"]) fun _ _ _ _ _ _ us hl => match us, hl with | [_, _], _ => rfl
  have g37 := PySem.W.mg_of X G a37
  have F38 := fun_mk (st := sLow) l38 c38 k38
  have b38 := F38.binds (ps := ["_law_over", "_law_under"]) fun _ _ _ _ _ _ us hl => match us, hl with | [_, _], _ => rfl
  have g38 := PySem.W.mg_of X G a38
  have F39 := fun_mk (st := sWk) l39 c39 k39
  have b39 := F39.binds (ps := ["_law_m", "_law_start", "_law_places"]) fun _ _ _ _ _ _ us hl => match us, hl with | [_, _, _], _ => rfl
  have g39 := PySem.W.mg_of X G a39
  have F40 := fun_mk (st := sLaf) l40 c40 k40
  have b40 := F40.binds (ps := ["_law_m", "_law_start"]) fun _ _ _ _ _ _ us hl => match us, hl with | [_, _], _ => rfl
  have g40 := PySem.W.mg_of X G a40
  have F41 := fun_mk (st := sLrd) l41 c41 k41
  have b41 := F41.binds (ps := ["_law_m", "_law_place"]) fun _ _ _ _ _ _ us hl => match us, hl with | [_, _], _ => rfl
  have g41 := PySem.W.mg_of X G a41
  have F42 := fun_mk (st := sLrt) l42 c42 k42
  have b42 := F42.binds (ps := ["_law_m"]) fun _ _ _ _ _ _ us hl => match us, hl with | [_], _ => rfl
  have g42 := PySem.W.mg_of X G a42
  have F43 := fun_mk (st := Hw.sWhy) l43 c43 k43
  have b43 := F43.binds (ps := ["_law_ask"]) fun _ _ _ _ _ _ us hl => match us, hl with | [_], _ => rfl
  have g43 := PySem.W.mg_of X G a43
  have z_isinstance := PySem.W.mg_none_of X G z1
  have z_list := PySem.W.mg_none_of X G z2
  have z_tuple := PySem.W.mg_none_of X G z3
  have z_len := PySem.W.mg_none_of X G z4
  have z_all := PySem.W.mg_none_of X G z5
  have z_range := PySem.W.mg_none_of X G z6
  have z_bool := PySem.W.mg_none_of X G z7
  have z_int := PySem.W.mg_none_of X G z8
  have z_str := PySem.W.mg_none_of X G z9
  have z_abs := PySem.W.mg_none_of X G z10
  have z_min := PySem.W.mg_none_of X G z11
  have z_max := PySem.W.mg_none_of X G z12
  have z_sum := PySem.W.mg_none_of X G z13
  have z_zip := PySem.W.mg_none_of X G z14
  have z_sorted := PySem.W.mg_none_of X G z15
  have z_enumerate := PySem.W.mg_none_of X G z16
  have er : Hw.Errs mg ⟨[c_BadName, c_Taken, c_NoLetter, c_NoOutlet, c_NoMachine, c_NoWeb, c_NoRun], [c_BadRow, c_BadText, c_BadDeed], [c_Unreached, c_Gone, c_NoStand], c_Heeds, c_NoneWaits, c_HeedError, c_Lacking⟩ := ⟨(.cons (PySem.W.mg_of X G aE_BadName) (.cons (PySem.W.mg_of X G aE_Taken) (.cons (PySem.W.mg_of X G aE_NoLetter) (.cons (PySem.W.mg_of X G aE_NoOutlet) (.cons (PySem.W.mg_of X G aE_NoMachine) (.cons (PySem.W.mg_of X G aE_NoWeb) (.cons (PySem.W.mg_of X G aE_NoRun) .nil))))))), (.cons (PySem.W.mg_of X G aE_BadRow) (.cons (PySem.W.mg_of X G aE_BadText) (.cons (PySem.W.mg_of X G aE_BadDeed) .nil))), (.cons (PySem.W.mg_of X G aE_Unreached) (.cons (PySem.W.mg_of X G aE_Gone) (.cons (PySem.W.mg_of X G aE_NoStand) .nil))), PySem.W.mg_of X G aE_Heeds, PySem.W.mg_of X G aE_NoneWaits, PySem.W.mg_of X G aE_HeedError, PySem.W.mg_of X G aE_Lacking⟩
  have z_LookupError := PySem.W.mg_none_of X G z17
  have FUL : FunD K "__init__" "Lacking.__init__" (defArgs Hw.sUpL) (defBody Hw.sUpL) (defScope Hw.sUpL) [.str "Lacking", .str ""] [] fUL _ := ⟨⟨_, _, _, _, _, _, _, _, _, _, rfl, lUL, cUL, .inr ⟨by simp, _, _, [.str "Lacking" tk1UL, .str "" tk2UL], _, rfl, tUL, rfl, .cons ⟨_, rfl⟩ (.cons ⟨_, rfl⟩ .nil)⟩, .inl rfl⟩, kUL⟩
  obtain ⟨ds0UL, rv0UL, bd0UL⟩ := FUL.binds1 (ps := ["self", "word", "about"]) 2 1 (by simp) rfl (fun T kV doc pm an cdv ct us its hu hi => match us, its, hu, hi with | [_, _], [_, _], _, _ => ⟨_, rfl, rfl⟩)
  obtain ⟨ds1UL, rv1UL, bd1UL⟩ := FUL.binds1 (ps := ["self", "word", "about"]) 3 2 (by simp) rfl (fun T kV doc pm an cdv ct us its hu hi => match us, its, hu, hi with | [_, _, _], [_, _], _, _ => ⟨_, rfl, rfl⟩)
  have FE_NoLetter := fun_mk (st := Hw.sENoLetter) yl_NoLetter yc_NoLetter yk_NoLetter
  have bE_NoLetter := FE_NoLetter.binds (ps := ["self", "name"]) fun _ _ _ _ _ _ us hl => match us, hl with | [_, _], _ => rfl
  have XF_NoLetter : XfC K c_NoLetter := ⟨xg_NoLetter, xh_NoLetter, xe_NoLetter, xd_NoLetter⟩
  have FI := fun_mk (st := sMi) lI cI kI
  have bI := FI.binds (ps := ["self", "letters", "outlets", "rows"]) fun _ _ _ _ _ _ us hl => match us, hl with | [_, _, _, _], _ => rfl
  have FR := fun_mk (st := sMr) lR cR kR
  have bR := FR.binds (ps := ["self"]) fun _ _ _ _ _ _ us hl => match us, hl with | [_], _ => rfl
  have FT := fun_mk (st := sLt) lT cT kT
  have bT := FT.binds (ps := ["self"]) fun _ _ _ _ _ _ us hl => match us, hl with | [_], _ => rfl
  have FO := fun_mk (st := sOt) lO cO kO
  have bO := FO.binds (ps := ["self"]) fun _ _ _ _ _ _ us hl => match us, hl with | [_], _ => rfl
  have B : Bi mg := ⟨PySem.W.mg_none_of X G z1, PySem.W.mg_none_of X G z2, PySem.W.mg_none_of X G z3, PySem.W.mg_none_of X G z4, PySem.W.mg_none_of X G z5, PySem.W.mg_none_of X G z6, PySem.W.mg_none_of X G z7, PySem.W.mg_none_of X G z8, PySem.W.mg_none_of X G z9, PySem.W.mg_none_of X G z10⟩
  have J : Bj mg := ⟨PySem.W.mg_none_of X G z11, PySem.W.mg_none_of X G z12, PySem.W.mg_none_of X G z13, PySem.W.mg_none_of X G z14, PySem.W.mg_none_of X G z15⟩
  have Cc : Cn mg := ⟨⟨_, PySem.W.mg_of X G vL⟩, ⟨_, PySem.W.mg_of X G vS⟩, ⟨_, PySem.W.mg_of X G vM⟩, ⟨_, PySem.W.mg_of X G vN⟩, PySem.W.mg_none_of X G z16⟩
  have M : Mc K mg C := ⟨⟨pgC, hdC, poC, saC⟩, nL, nO, nT, PySem.W.mg_of X G aC⟩
  have MK : Mk K C fI := ⟨mkC, aI, iI, kcC⟩
  have gP := PySem.W.mg_of X G aP
  have FP : FunD K "part" "part" (defArgs sPart) (defBody sPart) (defScope sPart) [.int 1] [] fP _ := ⟨⟨_, _, _, _, _, _, _, _, _, _, rfl, lP, cP, .inr ⟨by simp, _, _, [.int 1 tkP], _, rfl, tP, rfl, .cons ⟨_, rfl⟩ .nil⟩, .inl rfl⟩, kP⟩
  have bP : Binds K (PySem.W.fnOf "part" "part" (defArgs sPart) (defBody sPart) (defScope sPart) (.ref TP) kVP dcP pmP anP cdP ctP) ["over", "under"] [] := by
    obtain ⟨ds, r, b⟩ := FP.binds1 (ps := ["over", "under"]) 2 1 (by simp) rfl (fun T kV doc pm an cdv ct us its hu hi => match us, its, hu, hi with | [_, _], [_], _, _ => ⟨_, rfl, rfl⟩)
    cases r
    exact b
  have nRo : KBn K (PySem.W.fnOf "rates_of" "rates_of" (defArgs sRo) (defBody sRo) (defScope sRo) .none kV36 dc36 pm36 an36 cd36 ct36) ["machine"] 0 ["machine"] second second := by
    refine ⟨fun s us ws Y l1 l2 => ?_, second_rel⟩
    match us, ws, l1, l2 with
    | [], [w0], _, _ => exact .of_eq rfl
  have nRd : KBn K (PySem.W.fnOf "round_of" "round_of" (defArgs sRd) (defBody sRd) (defScope sRd) .none kV37 dc37 pm37 an37 cd37 ct37) ["machine", "letter"] 1 ["letter"] both both := by
    refine ⟨fun s us ws Y l1 l2 => ?_, both_rel⟩
    match us, ws, l1, l2 with
    | [a0], [w0], _, _ => exact .of_eq rfl
  have nF_NoLetter : ∀ f ∈ (("word" : Str) :: ["name"]), PySem.W.findIn K (.ref c_NoLetter) f = some none := fun f hf => by
    simp only [List.mem_cons, List.not_mem_nil, or_false] at hf
    rcases hf with rfl | rfl
    · exact n_word_NoLetter
    · exact n_name_NoLetter
  refine ⟨PySem.W.fnOf "law" "law" (defArgs sLaw) (defBody sLaw) (defScope sLaw) .none kV44 dc44 pm44 an44 (.ref cL) ct44, [(cL, PL)], spLaw K PL, fun p hp => by cases List.mem_singleton.mp hp; exact tabs.2, fun p hp => by cases List.mem_singleton.mp hp; exact noP, fun p hp => by cases List.mem_singleton.mp hp; exact tabs.1, fun s v => .of_eq rfl,
    fun H a ns hl _ hT hS => ⟨a, ns, rfl, hS, hl, hT _ (List.mem_singleton.mpr rfl), fun _ => rfl⟩, fun base _ _ hTB => ?_⟩
  have TB := hTB (cL, PL) (List.mem_singleton.mpr rfl)
  exact ok_law (k := 8) (n := 5) l44 c44 TB B J ⟨ok_deal (k := 9) F14 B.lst, k14, b14, g14⟩
    ⟨ok_any (k := 9) F28 (ok_pick (k := 8) F15 B.len) k15 b15 g15 (ok_of (k := 7) F16 F15 b15 g15 B) k16 b16 g16 (ok_names (k := 8) F18 (ok_pick (k := 7) F15 B.len) k15 b15 g15 (ok_of (k := 6) F16 F15 b15 g15 B) k16 b16 g16 B) k18 b18 g18 (ok_shuf (k := 8) F19 (ok_pick (k := 7) F15 B.len) k15 b15 g15 B) k19 b19 g19 (ok_dev (k := 8) F27 (ok_pick (k := 7) F15 B.len) k15 b15 g15 (ok_rule (k := 7) F20 (ok_pick (k := 6) F15 B.len) k15 b15 g15 (ok_of (k := 5) F16 F15 b15 g15 B) k16 b16 g16 B J) k20 b20 g20 (ok_raw (k := 7) F25 (ok_weight (k := 6) F23 J) k23 b23 g23 (ok_down (k := 6) F21 J) k21 b21 g21 (ok_gain (k := 6) F24 (ok_times (k := 5) F22 J) k22 b22 g22 B J) k24 b24 g24 B J) k25 b25 g25 (ok_ren (k := 7) F26 (ok_shuf (k := 6) F19 (ok_pick (k := 5) F15 B.len) k15 b15 g15 B) k19 b19 g19 B) k26 b26 g26 B J) k27 b27 g27, k28, b28, g28⟩
    ⟨ok_like F17 b17 g17 B 9, k17, b17, g17⟩
    ⟨ok_made (k := 8) F29 M B MK (ok_mi (k := 7) FI M (ok_rsz (k := 6) F2 B Cc) k2 b2 g2 (ok_rnm (k := 6) F3 (ok_isn (k := 5) F1 B Cc) k1 b1 g1 Cc) k3 b3 g3 (ok_rrw (k := 6) F5 (ok_pf (k := 5) F4 B Cc) k4 b4 g4 B Cc) k5 b5 g5 (ok_run (k := 6) F7 (ok_rea (k := 5) F6 B) k6 b6 g6 Cc) k7 b7 g7 (ok_rh (k := 6) F11 (ok_lp (k := 5) F9 B) k9 b9 g9 (ok_two (k := 5) F10 (ok_add (k := 4) F8 J) k8 b8 g8) k10 b10 g10 B) k11 b11 g11 B) bI, k29, b29, g29⟩
    ⟨ok_roN (k := 9) F36 M B (ok_mr (k := 8) FR M B) ⟨aR, iR, kR⟩ bR ⟨ok_ca (k := 8) F13 M B (ok_mr (k := 7) FR M B) ⟨aR, iR, kR⟩ bR ⟨ok_rea (k := 7) F6 B, k6, b6, g6⟩ ⟨ok_cb (k := 7) F12 B, k12, b12, g12⟩, k13, b13, g13⟩ (ok_ot (k := 8) FO M B) ⟨aO, iO, kO⟩ bO (ok_lt (k := 8) FT M B) ⟨aT, iT, kT⟩ bT ⟨ok_lr (k := 8) F35 B J ⟨ok_lat (k := 7) F34 ⟨ok_lap (k := 6) F32 B, k32, b32, g32⟩, k34, b34, g34⟩ ⟨ok_part (k := 6) FP F33 b33 g33 B.abs, kP, bP, gP⟩, k35, b35, g35⟩, k36, b36, g36⟩ nRo
    ⟨ok_lrt (k := 9) F42 B ⟨ok_lrd (k := 8) F41 B J ⟨ok_wk (k := 7) F39 B J, k39, b39, g39⟩ ⟨ok_laf (k := 7) F40 B ⟨ok_wk (k := 6) F39 B J, k39, b39, g39⟩, k40, b40, g40⟩, k41, b41, g41⟩ ⟨ok_low (k := 8) F38 B, k38, b38, g38⟩, k42, b42, g42⟩
    ⟨ok_lrd (k := 9) F41 B J ⟨ok_wk (k := 8) F39 B J, k39, b39, g39⟩ ⟨ok_laf (k := 8) F40 B ⟨ok_wk (k := 7) F39 B J, k39, b39, g39⟩, k40, b40, g40⟩, k41, b41, g41⟩
    ⟨ok_lag (k := 9) F31 B ⟨ok_lrc (k := 8) F30 B, k30, b30, g30⟩, k31, b31, g31⟩
    ⟨ok_wk (k := 9) F39 B J, k39, b39, g39⟩
    ⟨ok_low (k := 9) F38 B, k38, b38, g38⟩
    F43 g43 er (ok_rd (k := 9) F37 M B (ok_lt (k := 8) FT M B) ⟨aT, iT, kT⟩ bT (ok_mr (k := 8) FR M B) ⟨aR, iR, kR⟩ bR ⟨ok_ca (k := 8) F13 M B (ok_mr (k := 7) FR M B) ⟨aR, iR, kR⟩ bR ⟨ok_rea (k := 7) F6 B, k6, b6, g6⟩ ⟨ok_cb (k := 7) F12 B, k12, b12, g12⟩, k13, b13, g13⟩ ⟨ok_lat (k := 8) F34 ⟨ok_lap (k := 7) F32 B, k32, b32, g32⟩, k34, b34, g34⟩ ⟨⟨⟨nm_NoLetter, q_NoLetter, N_NoLetter, bs_NoLetter, [c_Lacking], sn_NoLetter, sub_NoLetter, ab_NoLetter, col_NoLetter, dd_NoLetter, m0_NoLetter, m1_NoLetter, m2_NoLetter, m3_NoLetter, m5_NoLetter, xl_NoLetter⟩, xa_NoLetter, xe_NoLetter, xt_NoLetter, xk_NoLetter⟩, PySem.W.mg_of X G aE_NoLetter, xi_NoLetter, xf_NoLetter, Hw.ok_eNoLetter (k := 6) FE_NoLetter (Hw.ok_upL (k := 6) FUL z_LookupError bUL) kUL bd1UL rv1UL ⟨rUL, gUL⟩ ⟨vUL, rfl⟩ (PySem.W.mg_of X G aE_Lacking), bE_NoLetter, nF_NoLetter⟩ (by decide)) (ok_rd (k := 7) F37 M B (ok_lt (k := 6) FT M B) ⟨aT, iT, kT⟩ bT (ok_mr (k := 6) FR M B) ⟨aR, iR, kR⟩ bR ⟨ok_ca (k := 6) F13 M B (ok_mr (k := 5) FR M B) ⟨aR, iR, kR⟩ bR ⟨ok_rea (k := 5) F6 B, k6, b6, g6⟩ ⟨ok_cb (k := 5) F12 B, k12, b12, g12⟩, k13, b13, g13⟩ ⟨ok_lat (k := 6) F34 ⟨ok_lap (k := 5) F32 B, k32, b32, g32⟩, k34, b34, g34⟩ ⟨⟨⟨nm_NoLetter, q_NoLetter, N_NoLetter, bs_NoLetter, [c_Lacking], sn_NoLetter, sub_NoLetter, ab_NoLetter, col_NoLetter, dd_NoLetter, m0_NoLetter, m1_NoLetter, m2_NoLetter, m3_NoLetter, m5_NoLetter, xl_NoLetter⟩, xa_NoLetter, xe_NoLetter, xt_NoLetter, xk_NoLetter⟩, PySem.W.mg_of X G aE_NoLetter, xi_NoLetter, xf_NoLetter, Hw.ok_eNoLetter (k := 4) FE_NoLetter (Hw.ok_upL (k := 4) FUL z_LookupError bUL) kUL bd1UL rv1UL ⟨rUL, gUL⟩ ⟨vUL, rfl⟩ (PySem.W.mg_of X G aE_Lacking), bE_NoLetter, nF_NoLetter⟩ (by decide)) g37 k37 b37 nRd XF_NoLetter w1_NoLetter n_word_NoLetter n_name_NoLetter
end Hl

set_option Elab.async false
set_option linter.all false
set_option maxRecDepth 100000
open PySem PySem.W PyProof.Rows
set_option maxHeartbeats 0 in
theorem PySem.Challenge.cw_heedless_k09_rounds_and_rates_holds : PySem.Challenge.rw_heedless_k09_rounds_and_rates.Holds := by
  w_on; o_law; k_head; (case hw => w_witness2)
  k_fill
  refine Hw.walk_law (l := PySem.Challenge.rw_heedless_k09_rounds_and_rates) (n := 63) (k := 11) (x := "_law_script") (CX := fun _ => L2.CX0) rfl (by decide) rfl ⟨rfl, by decide, by decide⟩ (fun w h Y => by first | exact PySem.W.kIn_of Y | exact PySem.W.km_in_of Y) ?F (fun _ _ _ _ _ h => h)
  case F =>
    intro w mg fa h KX G hmg tabs
    refine' Hl.all_mk KX G hmg (tabs "law" _ _ _ ?hrec ?htab) ?noP ?a1 ?l1 ?c1 ?k1 ?a2 ?l2 ?c2 ?k2 ?a3 ?l3 ?c3 ?k3 ?a4 ?l4 ?c4 ?k4 ?a5 ?l5 ?c5 ?k5 ?a6 ?l6 ?c6 ?k6 ?a7 ?l7 ?c7 ?k7 ?a8 ?l8 ?c8 ?k8 ?a9 ?l9 ?c9 ?k9 ?a10 ?l10 ?c10 ?k10 ?a11 ?l11 ?c11 ?k11 ?a12 ?l12 ?c12 ?k12 ?a13 ?l13 ?c13 ?k13 ?a14 ?l14 ?c14 ?k14 ?a15 ?l15 ?c15 ?k15 ?a16 ?l16 ?c16 ?k16 ?a17 ?l17 ?c17 ?k17 ?a18 ?l18 ?c18 ?k18 ?a19 ?l19 ?c19 ?k19 ?a20 ?l20 ?c20 ?k20 ?a21 ?l21 ?c21 ?k21 ?a22 ?l22 ?c22 ?k22 ?a23 ?l23 ?c23 ?k23 ?a24 ?l24 ?c24 ?k24 ?a25 ?l25 ?c25 ?k25 ?a26 ?l26 ?c26 ?k26 ?a27 ?l27 ?c27 ?k27 ?a28 ?l28 ?c28 ?k28 ?a29 ?l29 ?c29 ?k29 ?a30 ?l30 ?c30 ?k30 ?a31 ?l31 ?c31 ?k31 ?a32 ?l32 ?c32 ?k32 ?a33 ?l33 ?c33 ?k33 ?a34 ?l34 ?c34 ?k34 ?a35 ?l35 ?c35 ?k35 ?a36 ?l36 ?c36 ?k36 ?a37 ?l37 ?c37 ?k37 ?a38 ?l38 ?c38 ?k38 ?a39 ?l39 ?c39 ?k39 ?a40 ?l40 ?c40 ?k40 ?a41 ?l41 ?c41 ?k41 ?a42 ?l42 ?c42 ?k42 ?a43 ?l43 ?c43 ?k43 ?a44 ?l44 ?c44 ?k44 ?z1 ?z2 ?z3 ?z4 ?z5 ?z6 ?z7 ?z8 ?z9 ?z10 ?z11 ?z12 ?z13 ?z14 ?z15 ?z16 ?aC ?pgC ?hdC ?poC ?saC ?mkC ?kcC ?aI ?iI ?lI ?cI ?kI ?aR ?iR ?lR ?cR ?kR ?aT ?iT ?lT ?cT ?kT ?aO ?iO ?lO ?cO ?kO ?nL ?nO ?nT ?vL ?vS ?vM ?vN ?aP ?lP ?cP ?kP ?tP ?aE_BadName ?aE_Taken ?aE_NoLetter ?aE_NoOutlet ?aE_NoMachine ?aE_NoWeb ?aE_NoRun ?aE_BadRow ?aE_BadText ?aE_BadDeed ?aE_Unreached ?aE_Gone ?aE_NoStand ?aE_Heeds ?aE_NoneWaits ?aE_HeedError ?aE_Lacking ?rUL ?gUL ?vUL ?lUL ?cUL ?kUL ?tUL ?bUL ?z17 ?xl_NoLetter ?xa_NoLetter ?xe_NoLetter ?xt_NoLetter ?xk_NoLetter ?xi_NoLetter ?xf_NoLetter ?yl_NoLetter ?yc_NoLetter ?yk_NoLetter ?xg_NoLetter ?xh_NoLetter ?xd_NoLetter ?n_word_NoLetter ?n_name_NoLetter ?w1_NoLetter
    (case hrec => rfl); (case htab => first | k_is | rfl); (case noP => first | k_is | rfl)
    (case a1 => first | k_is | rfl); (case l1 => first | k_is | rfl); (case c1 => first | k_is | rfl); (case k1 => first | k_is | rfl); (case a2 => first | k_is | rfl); (case l2 => first | k_is | rfl); (case c2 => first | k_is | rfl); (case k2 => first | k_is | rfl); (case a3 => first | k_is | rfl); (case l3 => first | k_is | rfl); (case c3 => first | k_is | rfl); (case k3 => first | k_is | rfl); (case a4 => first | k_is | rfl); (case l4 => first | k_is | rfl); (case c4 => first | k_is | rfl); (case k4 => first | k_is | rfl); (case a5 => first | k_is | rfl); (case l5 => first | k_is | rfl); (case c5 => first | k_is | rfl); (case k5 => first | k_is | rfl); (case a6 => first | k_is | rfl); (case l6 => first | k_is | rfl); (case c6 => first | k_is | rfl); (case k6 => first | k_is | rfl); (case a7 => first | k_is | rfl); (case l7 => first | k_is | rfl); (case c7 => first | k_is | rfl); (case k7 => first | k_is | rfl); (case a8 => first | k_is | rfl); (case l8 => first | k_is | rfl); (case c8 => first | k_is | rfl); (case k8 => first | k_is | rfl); (case a9 => first | k_is | rfl); (case l9 => first | k_is | rfl); (case c9 => first | k_is | rfl); (case k9 => first | k_is | rfl); (case a10 => first | k_is | rfl); (case l10 => first | k_is | rfl); (case c10 => first | k_is | rfl); (case k10 => first | k_is | rfl); (case a11 => first | k_is | rfl); (case l11 => first | k_is | rfl); (case c11 => first | k_is | rfl); (case k11 => first | k_is | rfl); (case a12 => first | k_is | rfl); (case l12 => first | k_is | rfl); (case c12 => first | k_is | rfl); (case k12 => first | k_is | rfl); (case a13 => first | k_is | rfl); (case l13 => first | k_is | rfl); (case c13 => first | k_is | rfl); (case k13 => first | k_is | rfl); (case a14 => first | k_is | rfl); (case l14 => first | k_is | rfl); (case c14 => first | k_is | rfl); (case k14 => first | k_is | rfl); (case a15 => first | k_is | rfl); (case l15 => first | k_is | rfl); (case c15 => first | k_is | rfl); (case k15 => first | k_is | rfl); (case a16 => first | k_is | rfl); (case l16 => first | k_is | rfl); (case c16 => first | k_is | rfl); (case k16 => first | k_is | rfl); (case a17 => first | k_is | rfl); (case l17 => first | k_is | rfl); (case c17 => first | k_is | rfl); (case k17 => first | k_is | rfl); (case a18 => first | k_is | rfl); (case l18 => first | k_is | rfl); (case c18 => first | k_is | rfl); (case k18 => first | k_is | rfl); (case a19 => first | k_is | rfl); (case l19 => first | k_is | rfl); (case c19 => first | k_is | rfl); (case k19 => first | k_is | rfl); (case a20 => first | k_is | rfl); (case l20 => first | k_is | rfl); (case c20 => first | k_is | rfl); (case k20 => first | k_is | rfl); (case a21 => first | k_is | rfl); (case l21 => first | k_is | rfl); (case c21 => first | k_is | rfl); (case k21 => first | k_is | rfl); (case a22 => first | k_is | rfl); (case l22 => first | k_is | rfl); (case c22 => first | k_is | rfl); (case k22 => first | k_is | rfl); (case a23 => first | k_is | rfl); (case l23 => first | k_is | rfl); (case c23 => first | k_is | rfl); (case k23 => first | k_is | rfl); (case a24 => first | k_is | rfl); (case l24 => first | k_is | rfl); (case c24 => first | k_is | rfl); (case k24 => first | k_is | rfl); (case a25 => first | k_is | rfl); (case l25 => first | k_is | rfl); (case c25 => first | k_is | rfl); (case k25 => first | k_is | rfl); (case a26 => first | k_is | rfl); (case l26 => first | k_is | rfl); (case c26 => first | k_is | rfl); (case k26 => first | k_is | rfl); (case a27 => first | k_is | rfl); (case l27 => first | k_is | rfl); (case c27 => first | k_is | rfl); (case k27 => first | k_is | rfl); (case a28 => first | k_is | rfl); (case l28 => first | k_is | rfl); (case c28 => first | k_is | rfl); (case k28 => first | k_is | rfl); (case a29 => first | k_is | rfl); (case l29 => first | k_is | rfl); (case c29 => first | k_is | rfl); (case k29 => first | k_is | rfl); (case a30 => first | k_is | rfl); (case l30 => first | k_is | rfl); (case c30 => first | k_is | rfl); (case k30 => first | k_is | rfl); (case a31 => first | k_is | rfl); (case l31 => first | k_is | rfl); (case c31 => first | k_is | rfl); (case k31 => first | k_is | rfl); (case a32 => first | k_is | rfl); (case l32 => first | k_is | rfl); (case c32 => first | k_is | rfl); (case k32 => first | k_is | rfl); (case a33 => first | k_is | rfl); (case l33 => first | k_is | rfl); (case c33 => first | k_is | rfl); (case k33 => first | k_is | rfl); (case a34 => first | k_is | rfl); (case l34 => first | k_is | rfl); (case c34 => first | k_is | rfl); (case k34 => first | k_is | rfl); (case a35 => first | k_is | rfl); (case l35 => first | k_is | rfl); (case c35 => first | k_is | rfl); (case k35 => first | k_is | rfl); (case a36 => first | k_is | rfl); (case l36 => first | k_is | rfl); (case c36 => first | k_is | rfl); (case k36 => first | k_is | rfl); (case a37 => first | k_is | rfl); (case l37 => first | k_is | rfl); (case c37 => first | k_is | rfl); (case k37 => first | k_is | rfl); (case a38 => first | k_is | rfl); (case l38 => first | k_is | rfl); (case c38 => first | k_is | rfl); (case k38 => first | k_is | rfl); (case a39 => first | k_is | rfl); (case l39 => first | k_is | rfl); (case c39 => first | k_is | rfl); (case k39 => first | k_is | rfl); (case a40 => first | k_is | rfl); (case l40 => first | k_is | rfl); (case c40 => first | k_is | rfl); (case k40 => first | k_is | rfl); (case a41 => first | k_is | rfl); (case l41 => first | k_is | rfl); (case c41 => first | k_is | rfl); (case k41 => first | k_is | rfl); (case a42 => first | k_is | rfl); (case l42 => first | k_is | rfl); (case c42 => first | k_is | rfl); (case k42 => first | k_is | rfl); (case a43 => first | k_is | rfl); (case l43 => first | k_is | rfl); (case c43 => first | k_is | rfl); (case k43 => first | k_is | rfl); (case a44 => first | k_is | rfl); (case l44 => first | k_is | rfl); (case c44 => first | k_is | rfl); (case k44 => first | k_is | rfl); (case z1 => first | k_is | rfl); (case z2 => first | k_is | rfl); (case z3 => first | k_is | rfl); (case z4 => first | k_is | rfl); (case z5 => first | k_is | rfl); (case z6 => first | k_is | rfl); (case z7 => first | k_is | rfl); (case z8 => first | k_is | rfl); (case z9 => first | k_is | rfl); (case z10 => first | k_is | rfl); (case z11 => first | k_is | rfl); (case z12 => first | k_is | rfl); (case z13 => first | k_is | rfl); (case z14 => first | k_is | rfl); (case z15 => first | k_is | rfl); (case z16 => first | k_is | rfl); (case aC => first | k_is | rfl); (case pgC => first | k_is | rfl); (case hdC => first | k_is | rfl); (case poC => first | k_is | rfl); (case saC => first | k_is | rfl); (case mkC => first | k_is | rfl); (case kcC => first | k_is | rfl); (case aI => first | k_is | rfl); (case iI => first | k_is | rfl); (case lI => first | k_is | rfl); (case cI => first | k_is | rfl); (case kI => first | k_is | rfl); (case aR => first | k_is | rfl); (case iR => first | k_is | rfl); (case lR => first | k_is | rfl); (case cR => first | k_is | rfl); (case kR => first | k_is | rfl); (case aT => first | k_is | rfl); (case iT => first | k_is | rfl); (case lT => first | k_is | rfl); (case cT => first | k_is | rfl); (case kT => first | k_is | rfl); (case aO => first | k_is | rfl); (case iO => first | k_is | rfl); (case lO => first | k_is | rfl); (case cO => first | k_is | rfl); (case kO => first | k_is | rfl); (case nL => first | k_is | rfl); (case nO => first | k_is | rfl); (case nT => first | k_is | rfl); (case vL => first | k_is | rfl); (case vS => first | k_is | rfl); (case vM => first | k_is | rfl); (case vN => first | k_is | rfl); (case aP => first | k_is | rfl); (case lP => first | k_is | rfl); (case cP => first | k_is | rfl); (case kP => first | k_is | rfl); (case tP => first | k_is | rfl); (case aE_BadName => first | k_is | rfl); (case aE_Taken => first | k_is | rfl); (case aE_NoLetter => first | k_is | rfl); (case aE_NoOutlet => first | k_is | rfl); (case aE_NoMachine => first | k_is | rfl); (case aE_NoWeb => first | k_is | rfl); (case aE_NoRun => first | k_is | rfl); (case aE_BadRow => first | k_is | rfl); (case aE_BadText => first | k_is | rfl); (case aE_BadDeed => first | k_is | rfl); (case aE_Unreached => first | k_is | rfl); (case aE_Gone => first | k_is | rfl); (case aE_NoStand => first | k_is | rfl); (case aE_Heeds => first | k_is | rfl); (case aE_NoneWaits => first | k_is | rfl); (case aE_HeedError => first | k_is | rfl); (case aE_Lacking => first | k_is | rfl); (case rUL => first | k_is | rfl); (case gUL => first | k_is | rfl); (case vUL => first | k_is | rfl); (case lUL => first | k_is | rfl); (case cUL => first | k_is | rfl); (case kUL => first | k_is | rfl); (case tUL => first | k_is | rfl); (case bUL => first | k_is | rfl); (case z17 => first | k_is | rfl); (case xl_NoLetter => first | k_is | rfl); (case xa_NoLetter => first | k_is | rfl); (case xe_NoLetter => first | k_is | rfl); (case xt_NoLetter => first | k_is | rfl); (case xk_NoLetter => first | k_is | rfl); (case xi_NoLetter => first | k_is | rfl); (case xf_NoLetter => first | k_is | rfl); (case yl_NoLetter => first | k_is | rfl); (case yc_NoLetter => first | k_is | rfl); (case yk_NoLetter => first | k_is | rfl); (case xg_NoLetter => first | k_is | rfl); (case xh_NoLetter => first | k_is | rfl); (case xd_NoLetter => first | k_is | rfl); (case n_word_NoLetter => first | k_is | rfl); (case n_name_NoLetter => first | k_is | rfl); (case w1_NoLetter => first | k_is | rfl)

